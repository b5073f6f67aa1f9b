import PyProof.Rows.All
import Wide.All
import OpenK.AllK
import Wide.FinOn
import Lean
import PyProof.EqAt
import PyProof.EqKinds
import PyProof.TupleCall
import KE.KLam
import PyProof.ZipIter
import PyProof.WalksEnum
import PyProof.WalkInts
import PyProof.SeqI3
import PyProof.Rows.SeqMore
import PyProof.Rows.SortWalk
import PyProof.Draws
import PyProof.EnumMake
import PyProof.DictIter
import KE.KSortTup
import PyProof.Rows.SeqMore2
import PyProof.Rows.RuleIs
import PyProof.Rows.SetFrom
import PyProof.WalksMore
import PyProof.MinMaxWalk
import OpenK.KMore
import PyProof.Rows.SortRuns
import PyProof.Rows.SortRunsK
import PySem.Challenge.RW_tiefold_k11_whole_knots_of_joined_webs
-- CHANGE: your row's module here,as the last of these rows
open PySem.Heap renaming get?_push_of_some->qd,get?_push_size->qw,lt_size->qH,SameBut->zW,get?_update_self->yb,size_push->yf,get?_update_other->yz,ExtBut->qbg,get?_update_ne->qbW
open Array renaming getElem?_eq_getElem->qe,getElem?_toList->qz,length_toList->qE,getD_eq_getD_getElem?->qP,toList_append->zb,toList_push->zi,mem_toList_iff->zm,mem_of_getElem?->zr,getElem?_eq_some_iff->zO,toList_extract->qab,toList_reverse->qaB,getElem?_eq_none->qaS,perm_iff_toList_perm->qbf,getD->qbQ,getElem?_setIfInBounds->qbZ,toList->qcY
open List renaming length_map->qf,range->qm,mem_cons->qp,getElem?_eq_some_iff->qq,mem_map->qt,getElem?_map->qu,mem_filter->qA,replicate->qB,map_map->qC,size_toArray->qD,getElem?_eq_getElem->qI,length_append->qJ,append_assoc->qK,getD_eq_getElem?_getD->qL,mem_cons_of_mem->qM,pairwise_append->qN,mem_append->qO,mem_range->qQ,length_cons->qS,mem_singleton->qU,length_take->qV,length_range->qW,map_congr_left->qX,map_cons->qY,getElem?_set_ne->qZ,filter_sublist->za,map_append->zf,getElem?_eq_none->zj,take_append_drop->zo,not_mem_nil->zp,mem_of_getElem?->zq,getElem?_set_self->zu,getElem?_append_left->zw,mem_append_right->zx,lookup_cons->zy,append_nil->zB,pairwise_iff_getElem->zE,pairwise_map->zG,mem_iff_getElem?->zH,getElem?_range->zI,flatten_cons->zJ,mem_cons_self->zK,getElem?_append_right->zM,length_drop->zN,take_of_length_le->zS,drop_of_length_le->zT,nodup_cons->zV,getElem?_take_of_lt->zX,toArray->zY,replicate_succ->ya,ext_getElem?->yc,Pairwise->ye,perm_ext_iff_of_nodup->yg,getElem?_drop->yh,pairwise_cons->yi,range_succ_eq_map->yj,all_eq_true->yk,toList_toArray->ym,getElem?_replicate->yr,length_eq_zero_iff->yt,pairwise_singleton->yu,take_sublist->yB,getElem?_zip_eq_some->yF,extract_eq_take_drop->yG,perm_append_comm->yH,filterMap_cons->yP,mem_flatMap->yV,length_nil->y9,forall_mem_cons->qac,mem_map_of_mem->qaf,filter_cons->qaj,length->qak,of_mem_zip->qao,nil_append->qap,range_succ->qar,length_filter_le->qas,mem_append_left->qax,drop_eq_getElem_cons->qaA,mem_of_mem_take->qaC,tail_cons->qaG,filter_eq_self->qaL,any_cons->qaM,mem_filterMap->qaP,find?_cons->qaQ,eq_nil_of_length_eq_zero->qaT,count_append->qaX,getElem?_zipWith->qa1,Perm->qa2,cons_append->qa5,mem_reverse->qa8,take_length->qa9,mem_of_mem_drop->qbb,flatMap_append->qbh,foldl_cons->qbj,count_eq_zero->qbr,drop_zero->qbt,filter_cons_of_pos->qbw,filter_cons_of_neg->qbx,take_add_one->qbA,map_id->qbD,nodup_range->qbF,length_singleton->qbH,getD->qbI,count_cons_of_ne->qbK,foldl->qbL,forIn_cons->qbN,filter_map->qbO,count_cons->qbT,take_append_of_le_length->qbU,length_zipWith->qbV,map_inj_right->qb4,length_eraseIdx_of_lt->qb9,perm_append_singleton->qca,flatMap_cons->qcd,exists_mem_of_ne_nil->qch,map_nil->qck,getElem_mem->qcm,zipIdx_cons->qcn,Sublist->qcs,getElem?_cons_succ->qcw,eraseIdx_cons_succ->qcx,tail_eq_of_cons_eq->qcy,pairwise_lt_range->qcB,filter_eq_nil_iff->qcC,length_replicate->qcD,pairwise_reverse->qcE,pairwise_flatMap->qcH,drop_eq_nil_iff->qcN,length_take_le->qcV,getElem_of_mem->qcW,all_map->qcZ,map_id'->qc1,lookup->qc6
open PySem.W renaming Frag->qj,CodeHd->yp,envX->yy,fnX->yR,keepIn->yW,fnOf->y8,kla_fn->qah,kHook->qaO,tabObj->qa0,codeIn->qbs,methodObj->qcb,nsIn->qcr,cellsFrom_some->qcA,hideAll_size->qcI,hideAll_none->qcJ,WalkO->qcP,hideAll_get->qcT
open Nat renaming le_refl->qk,ne_of_lt->qT,lt_of_lt_of_le->zh,le_trans->zC,zero_le->zR,lt_succ_of_lt->yD,lt_irrefl->yL,zero_add->yS,add_sub_cancel_left->qae,mul_le_mul->qai,succ_mul->qal,lt_trans->qam,pow_le_pow_right->qaE,add_assoc->qaN,le_of_lt_succ->qaW,ne_of_gt->qaY,mul_comm->qaZ,lt_succ_self->qa7,le_add_right->qba,mod_lt->qbc,mul_le_mul_right->qbd,add_comm->qbm,lt_trichotomy->qby,add_zero->qbR,succ_pos->qbS,lt_or_eq_of_le->qb1,le_of_lt->qci,sub_zero->qco,div_eq_of_lt->qcq,sub_self->qc0
open PySem.Str renaming ofString->qy
open PySem.SetTable renaming below->qG,layClean->zP,turns->yX,sizeAbove->yY,grown->yZ,toList_insertAt->qaK,insertAt->qaV,laid->qbE,fits->qcS,has->qc3
open Bool renaming false_eq_true->qR,and_eq_true->zF,false_ne_true->yJ,eq_iff_iff->qat,not_true->qav,not_eq_true'->qaw,and_eq_true_iff->qaz,not_eq_false'->qb2,or_eq_true_iff->qcU
open PySem.Value renaming none->zd,ref->ze,bool->yn,type->y6,notImplemented->qcL,int->qcX,isInt->qc5
open PySem.Obj renaming mapSeq->zk,mapFields->yU,putSet->qcg
open Or renaming inl->zt,inr->qaa
open Option.some renaming inj->zv,injEq->qcc
open Ne renaming symm->zD
open PySem.PassesOwn renaming never->zL
open PySem.Builtin.SmallTypes renaming nextOf->zQ,ownedTupleIsFree->yN,ownedTupleHandOut->qbo
open PySem.SetTable.layClean renaming free->zU
open PySem renaming mem_of_lookup->zZ,call->qcM,Builtin->qcQ,Fin->qc2
open PyProof.Rows renaming slot_tuple_getitem->yd,callWith_type1->yq
open PySem.NameKind renaming free->yo,cell->qbe
open False renaming elim->yw
open Option renaming map_eq_some_iff->yA,map_some->yE,isSome_iff_exists->yI
open List.Pairwise renaming nil->yC,imp_of_mem->qbp
open PySem.F renaming called_set->yK,slot_tuple_iterator_next->qau,args_tuple_add_2->qbl,slot_list_getattribute->qbn,entry_tuple_add->qbu,plainAttrs_list->qbv,slot_tuple_add->qbB,slot_tuple_mul->qbC,slot_int_rmul->qbM,slot_zip_next->qbP,args_tuple_iterator_next_1->qbY,entry_tuple_iterator_next->qb0,slot_tuple_rmul->qcv,plain_set_new->qcF,slot_set_iter->qcG
open PySem.Around renaming under_plainId->yM,frames_deeper->qcK
open Int renaming toNat_natCast->yO,le_of_lt->yT,le_refl->y4,le_trans->qaJ,emod_lt_of_pos->qaR,emod_nonneg->qbk
open PySem.Heap.SameBut renaming update->yQ
open PySem.Paired renaming length->qad
open Sum renaming inr->qag,inl->qbG
open PyProof.Rows.F renaming plain_set_update_loop->qan,entry_set_update_loop->qbq
open ForInStep renaming yield->qaq
open PySem.Builtin.Slice renaming slicePlaces->qay,sliceAdjust->qbi,sliceApplied->qb6
open Classical renaming byContradiction->qaD
open Iff renaming rfl->qaF
open PySem.Builtin.Tuple renaming tupleExact->qaH,tupleItemsOf->qb7,tupleTooMany->qb8
open PySem.Builtin.List renaming listTooLong->qaI,listLengthHint->qa3,listExtendWith->qb3,listSameRef->qcp
open PySem.SetTable.below renaming go->qaU
open PySem.SeqAt renaming EqAt->qa4,RcNeAt->qcl,RcAt->qcO
open True renaming intro->qa6
open PySem.SetTable.probe renaming go->qbz
open List.Perm renaming append_left->qbJ
open PySem.Value.type renaming inj->qbX
open PySem.Calls renaming Name_function_global->qb5,call_function_entry->qcf
open PyProof.Rows.SortSt renaming mk'->qce
open PySem.AutoSeq1 renaming sub_tuple_tuple->qcj
open PySem.Builtin.Range renaming rangeSize->qct
open PySem.Builtin.Dict renaming updateFrom->qcu
open PyProof.Rows.IsTup renaming new->qcz
open PySem.Shared renaming TypeIs->qcR
open Nat.succ renaming inj->qc4
open Prod renaming ext->qc7
open PySem PySem.Spec PyProof.Rows
open PySem renaming wpAny_bind→xa,wpAny_pure→xb,wpAny_mono→xc,wpAny→xf,sizeLine→xg,starEach→xh,keywordEach→xi,bootBuiltins→xj,compareOp→xk,wpAny_newObj_type→xl,codeAny_builtin→xm,codeAny→xo,backToKw→xp,attributeBase→xq,swapsWith→xr,wpAny_seqItems→xt,wpAny_holding→xu,wpAny_letGo→xw,wpAny_newList→xy,wpAny_call→xz,model→xA,FuncData→xB,Program→xC,Around→xD
abbrev xE:=PySem.Value->PySem.Shared->Prop
set_option maxHeartbeats 8000000
abbrev Qa:=List (Nat×Nat)
abbrev Qb:=List (PySem.Addr×PySem.Obj)
set_option genSizeOfSpec false
set_option bootstrap.genMatcherCode false
local macro_rules|`(tactic|omega)=>`(tactic|first|lia|omega (config:={}))
set_option Elab.async false
set_option linter.all false
set_option maxRecDepth 100000
namespace L2
noncomputable abbrev Zt:=Sum Int Str
noncomputable def Jg:Zt->Value->Bool
 | .inl k,v=>qc5 k v
 | .inr x,v=>Value.isStrOf x v
noncomputable def keyH (w:World):Zt->Int
 | .inl k=>hashInt k
 | .inr x=>hashStr w x
theorem Vl:∀{k:Zt} {v:Value},Jg k v=true->(∃i t,k=qbG i/\v=qcX i t)∨(∃x t,k=qag x/\v=Value.str x t)
 | .inl i,v,h=>by
  obtain⟨t,e⟩:=Value.isInt_shape (k:=i) (v:=v) h;exact .inl ⟨i,t,rfl,e⟩
 | .inr x,v,h=>by
  obtain⟨t,e⟩:=Value.isStrOf_shape (x:=x) (v:=v) h;exact .inr ⟨x,t,rfl,e⟩
theorem ZhM (i:Int)(t:Tok):Jg (.inl i) (.int i t)=true:=by simp[Jg,qc5]
theorem ZhN (x:Str)(t:Tok):Jg (.inr x) (.str x t)=true:=by simp[Jg,Value.isStrOf]
theorem ZmH (a b:Int):decide ((qbG a:Zt)=qbG b)=(a==b):=by
 by_cases e:a=b
 ·subst e;simp
 ·have h:¬(qbG a:Zt)=qbG b:=λq=>e (qbG.inj q)
  rw[decide_eq_false h];exact(beq_eq_false_iff_ne.mpr e).symm
theorem ZmI (a b:Str):decide ((qag a:Zt)=qag b)=decide (a=b):=by
 by_cases e:a=b
 ·subst e;simp
 ·have h:¬(qag a:Zt)=qag b:=λq=>e (qag.inj q)
  rw[decide_eq_false h,decide_eq_false e]
theorem ZmJ (a:Int)(b:Str):decide ((qbG a:Zt)=qag b)=false:=decide_eq_false (λq=>nomatch q)
theorem ZmK (a:Str)(b:Int):decide ((qag a:Zt)=qbG b)=false:=decide_eq_false (λq=>nomatch q)
noncomputable def XG (prog:xC)(w:World):PySem.KeyKind prog w Zt where
 is:=Jg
 hash:=keyH w
 inj:=λv a b ha hb=>by
  rcases Vl ha with⟨i,t,rfl,rfl⟩ | ⟨x,t,rfl,rfl⟩
  ·rcases Vl hb with⟨j,u,rfl,e⟩ | ⟨y,u,rfl,e⟩
   ·injection e with e1 _;rw[e1]
   ·exact nomatch e
  ·rcases Vl hb with⟨j,u,rfl,e⟩ | ⟨y,u,rfl,e⟩
   ·exact nomatch e
   ·injection e with e1 _;rw[e1]
 byValue:=λk v h=>by
  rcases Vl h with⟨i,t,rfl,rfl⟩ | ⟨x,t,rfl,rfl⟩ <;> rfl
 pyHash:=λhv h=>by
  rcases Vl hv with⟨i,t,rfl,rfl⟩ | ⟨x,t,rfl,rfl⟩
  ·exact wpAny_pyHash_int h
  ·exact wpAny_pyHash_str h
 eqBool:=λhu hv h=>by
  rcases Vl hu with⟨i,t,rfl,rfl⟩ | ⟨x,t,rfl,rfl⟩
  ·rcases Vl hv with⟨j,u,rfl,rfl⟩ | ⟨y,u,rfl,rfl⟩
   ·rw[ZmH]at h;exact wpAny_eqBool_int h
   ·rw[ZmJ]at h;exact qa4.int_str i t y u _ _ _ _ h
  ·rcases Vl hv with⟨j,u,rfl,rfl⟩ | ⟨y,u,rfl,rfl⟩
   ·rw[ZmK]at h;exact qa4.str_int x t j u _ _ _ _ h
   ·rw[ZmI]at h;exact wpAny_eqBool_str h
 «strs»:=λk x t v h=>by
  rcases Vl h with⟨i,u,rfl,e⟩ | ⟨y,u,rfl,e⟩
  ·exact nomatch e
  ·injection e with e1 _
   subst e1
   cases v <;> rfl
theorem Zew (prog:xC)(w:World)(i:Int)(t:Tok):(XG prog w).is (.inl i) (.int i t)=true:=ZhM i t
theorem Zex (prog:xC)(w:World)(x:Str)(t:Tok):(XG prog w).is (.inr x) (.str x t)=true:=ZhN x t
inductive V where
 | non | bl (b:Bool) | int (i:Int) | str (x:Str) | byt (b:Array UInt8) | flt (b:UInt64) | ref (a:Addr) | ty (n:String)
 deriving DecidableEq
noncomputable def ZC:V->Value->Prop
 | .non,u=>u=zd
 | .bl b,u=>u=yn b
 | .int i,u=>∃t,u=qcX i t
 | .str x,u=>∃t,u=Value.str x t
 | .byt b,u=>∃t,u=Value.bytes b t
 | .flt b,u=>∃t,u=Value.float b t
 | .ref a,u=>u=ze a
 | .ty n,u=>u=y6 n
noncomputable abbrev Zu:List V->List Value->Prop:=Paired ZC
theorem Zu.length {xs:List V}{us:List Value}(r:Zu xs us):xs.length=us.length:=qad r
theorem Zu.get:∀{xs:List V} {us:List Value} {i:Nat} {x:V},Zu xs us->xs[i]?=some x->∃u,us[i]?=some u/\ZC x u
 | _,_,_,_,.nil,e=>by simp at e
 | _,_,0,_,.cons r _,e=>by simp at e;subst e;exact⟨_,rfl,r⟩
 | _,_,i+1,x,.cons _ t,e=>by
  obtain⟨u,h1,h2⟩:=Zu.get (i:=i) (x:=x) t (by simpa using e);exact⟨u,by simpa using h1,h2⟩
theorem Zu.set {x:V}{u:Value}(r:ZC x u):∀{xs:List V} {us:List Value} (i:Nat),Zu xs us->Zu (xs.set i x) (us.set i u)
 | _,_,_,.nil=>.nil
 | _,_,0,.cons _ t=>.cons r t
 | _,_,i+1,.cons q t=>.cons q (Zu.set r i t)
theorem Zu.append:∀{xs ys:List V} {us ws:List Value},Zu xs us->Zu ys ws->Zu (xs++ys) (us++ws)
 | _,_,_,_,.nil,s=>s
 | _,_,_,_,.cons r t,s=>.cons r (Zu.append t s)
theorem Zu.take:∀{xs:List V} {us:List Value} (n:Nat),Zu xs us->Zu (xs.take n) (us.take n)
 | _,_,0,_=>.nil
 | _,_,_+1,.nil=>.nil
 | _,_,n+1,.cons r t=>.cons r (Zu.take n t)
theorem Zu.drop:∀{xs:List V} {us:List Value} (n:Nat),Zu xs us->Zu (xs.drop n) (us.drop n)
 | _,_,0,r=>r
 | _,_,_+1,.nil=>.nil
 | _,_,n+1,.cons _ t=>Zu.drop n t
noncomputable def UF:Option V->Option Value->Prop
 | some v,some u=>ZC v u
 | none,none=>True
 | _,_=>False
noncomputable def KV {κ:Type}:List (κ×V)->List (κ×Value)->Prop:=Paired λ(p:κ×V) (q:κ×Value)=>p.1=q.1/\ZC p.2 q.2
noncomputable def kV:Zt->V
 | .inl i=>.int i
 | .inr x=>.str x
inductive HO where
 | lst (xs:List V)
 | tup (xs:List V)
 | dK (kvs:List (Zt×V)) | dT (kvs:List (List Zt×V))
 | set (S:Int->Bool) (n:Nat)
 | ins (C dx:Addr) (fs:List (Str×V))
 | own (x:Addr)
 | xd (fs:List (Str×V))
 | met (f x:Addr)
 | rng (lo hi:Int)
 | frz (o:Obj) (u:HO)
 | tbl (ps:Array Value)
 | ext (φ:Heap->Prop)
noncomputable abbrev Hp:=Addr->Option HO
noncomputable def Zj (H:Hp)(a:Addr)(o:HO):Hp:=λb=>if b=a then some o else H b
theorem ZM {H:Hp}{a:Addr}{o:HO}:Zj H a o a=some o:=by unfold Zj;rw[if_pos rfl]
theorem Zq {H:Hp}{a b:Addr}{o:HO}(h:b≠a):Zj H a o b=H b:=by unfold Zj;rw[if_neg h]
theorem ZgM {H:Hp}{a:Addr}{o u:HO}:Zj (Zj H a o) a u=Zj H a u:=by
 funext b;unfold Zj;split <;> rfl
theorem Zmb {H:Hp}{a b:Addr}{o u:HO}(h:H a=some o)(h':H b=some u)(d:o≠u):a≠b:=by
 intro e;subst e;rw[h]at h';exact d (zv h')
theorem ZW {H:Hp}{a b:Addr}{o:HO}(h:H a=some o)(h':H b=none):a≠b:=by
 intro e;subst e;rw[h]at h';cases h'
section
variable (P:xC)(w:World)
noncomputable def YI (H:Hp)(h:Heap)(a:Addr):HO->Prop
 | .lst xs=>xs.length<=xg/\∃(jJ:List Value) (n:Nat),Zu xs jJ/\h.get? a=some { cls:=.type "list",data:=.seq jJ.toArray n }
 | .tup xs=>xs.length<=xg/\∃jJ:List Value,Zu xs jJ/\IsTup h a jJ.toArray
 | .dK kvs=>kvs.length<=xg/\(a==sysModules)=false/\∃vs,KV kvs vs/\h.DictOf (XG P w) a vs
 | .dT kvs=>kvs.length<=xg/\(a==sysModules)=false/\∃xs:List (List Zt×Addr×Value),
   Paired (λ(p:List Zt×V) (q:List Zt×Addr×Value)=>p.1=q.1/\H q.2.1=some (.tup (p.1.map kV))/\ZC p.2 q.2.2) kvs xs/\
   ∃o es ep,h.get? a=some o/\o.ExactDict/\o.data=.dict es ep/\es.toList=xs.map (entryOfKey (tupleKind (XG P w)))/\(xs.map (·.1)).Nodup
 | .set S n=>h.SetOf (intKind P w) a S n
 | .ins C dx fs=>H dx=some (.own a)/\fs.length<=1000/\dx≠a/\h.get? a=some (PySem.W.instObj C dx)/\
   ∃mA,h.Ns1 dx mA/\(∀f,UF (fs.lookup f) (mA f))/\PySem.Within mA (fs.map (·.1))
 | .own _=>∃o,h.get? a=some o
 | .xd fs=>∃mA,h.Ns1 a mA/\∀f,UF (fs.lookup f) (mA f)
 | .rng lo hi=>∃t u v,h.get? a=some { cls:=.type "range",data:=.fields #[.int lo t,.int hi u,.int 1 v] }
 | .frz o u=>h.get? a=some o/\YI H h a u
 | .tbl ps=>h.get? a=some { cls:=.none,data:=.fields ps }
 | .met f x=>h.get? a=some (qcb (.ref f) (.ref x))
 | .ext φ=>φ h/\(∃o,h.get? a=some o)/\∀h1 h2:Heap,φ h1->(∀o,h1.get? a=some o->h2.get? a=some o)->φ h2
noncomputable def Yg (H:Hp)(h:Heap):Prop:=∀a o,H a=some o->YI P w H h a o
end
section
variable {P:xC}{w:World}{H H':Hp}{h h':Heap}{a:Addr}{o:HO}
theorem YI.lt (x:YI P w H h a o):a<h.objs.size:=by
 cases o with
 | lst xs=>obtain⟨_,_,_,_,e⟩:=x;exact qH e
 | tup xs=>obtain⟨_,_,_,p⟩:=x;exact p.lt
 | dK kvs=>obtain⟨_,_,_,_,o,_,_,e,_⟩:=x;exact qH e
 | dT kvs=>obtain⟨_,_,_,_,o,_,_,e,_⟩:=x;exact qH e
 | set S n=>obtain⟨o,_,_,_,e,_⟩:=x;exact qH e
 | ins C dx fs=>obtain⟨_,_,_,e,_⟩:=x;exact qH e
 | own y=>obtain⟨_,e⟩:=x;exact qH e
 | xd fs=>obtain⟨_,⟨_,_,_,e,_⟩,_⟩:=x;exact qH e
 | rng lo hi=>obtain⟨_,_,_,e⟩:=x;exact qH e
 | frz ob u=>obtain⟨e,_⟩:=x;exact qH e
 | tbl ps=>exact qH (show h.get? a=some _ from x)
 | met f y=>exact qH (show h.get? a=some _ from x)
 | ext φ=>obtain⟨_,⟨_,e⟩,_⟩:=x;exact qH e
theorem Paired.mapP {α β:Type}{F G:α->β->Prop}:∀{l₁:List α} {l₂:List β},Paired F l₁ l₂->(∀a b,F a b->G a b)->Paired G l₁ l₂
 | _,_,.nil,_=>.nil
 | _,_,.cons r t,f=>.cons (f _ _ r) (Paired.mapP t f)
theorem YI.stay (x:YI P w H h a o)(k:∀b u,(b=a∨H b=some (.own a))->h.get? b=some u->h'.get? b=some u)
  (ho:∀b,H b=some (.own a)->H' b=some (.own a)) (ht:∀b xs,H b=some (.tup xs)->H' b=some (.tup xs)):YI P w H' h' a o:=by
 induction o with
 | lst xs=>obtain⟨z,jJ,n,r,e⟩:=x;exact⟨z,jJ,n,r,k _ _ (.inl rfl) e⟩
 | tup xs=>obtain⟨z,jJ,r,ob,e,c⟩:=x;exact⟨z,jJ,r,ob,k _ _ (.inl rfl) e,c⟩
 | dK kvs=>obtain⟨z,y,vs,r,ob,es,ep,e,c⟩:=x;exact⟨z,y,vs,r,ob,es,ep,k _ _ (.inl rfl) e,c⟩
 | dT kvs=>
  obtain⟨z,y,xs,r,ob,es,ep,e,c⟩:=x;exact⟨z,y,xs,Paired.mapP r λp q z=>⟨z.1,ht _ _ z.2.1,z.2.2⟩,ob,es,ep,k _ _ (.inl rfl) e,c⟩
 | set S n=>obtain⟨ob,es,ep,t,e,c⟩:=x;exact⟨ob,es,ep,t,k _ _ (.inl rfl) e,c⟩
 | ins C dx fs=>
  obtain⟨d,z,ne,e,mA,⟨od,es,ep,e2,c⟩,r⟩:=x;exact⟨ho _ d,z,ne,k _ _ (.inl rfl) e,mA,⟨od,es,ep,k _ _ (.inr d) e2,c⟩,r⟩
 | own y=>obtain⟨ob,e⟩:=x;exact⟨ob,k _ _ (.inl rfl) e⟩
 | xd fs=>obtain⟨mA,⟨od,es,ep,e,c⟩,r⟩:=x;exact⟨mA,⟨od,es,ep,k _ _ (.inl rfl) e,c⟩,r⟩
 | rng lo hi=>obtain⟨t,u,v,e⟩:=x;exact⟨t,u,v,k _ _ (.inl rfl) e⟩
 | frz ob u ih=>obtain⟨e,q⟩:=x;exact⟨k _ _ (.inl rfl) e,ih q⟩
 | tbl ps=>
  have e:h.get? a=some { cls:=.none,data:=.fields ps }:=x;show h'.get? a=some { cls:=.none,data:=.fields ps };exact k a _ (.inl rfl) e
 | met f y=>
  have e:h.get? a=some (qcb (.ref f) (.ref y)):=x;show h'.get? a=some (qcb (.ref f) (.ref y));exact k a _ (.inl rfl) e
 | ext φ=>obtain⟨p,⟨o,e⟩,st⟩:=x;exact⟨st _ _ p λo q=>k _ _ (.inl rfl) q,⟨o,k _ _ (.inl rfl) e⟩,st⟩
theorem Yg.lt (x:Yg P w H h)(e:H a=some o):a<h.objs.size:=(x a o e).lt
theorem Yg.fresh (x:Yg P w H h)(e:h.objs.size<=a):H a=none:=by
 cases q:H a with
 | none=>rfl
 | some u=>exact absurd (zh (x.lt q) e) (yL _)
theorem Yg.kept (x:Yg P w H h)(k:∀b u,h.get? b=some u->h'.get? b=some u):Yg P w H h':=λa o e=>
 (x a o e).stay (λb u _ q=>k b u q) (λ_ q=>q) λ_ _ q=>q
theorem Yg.laid (x:Yg P w H h)(k:∀b u,h.get? b=some u->h'.get? b=some u)(hp:h.objs.size<=a)(new:YI P w (Zj H a o) h' a o):Yg P w (Zj H a o) h':=λb u e=>by
 have hn:=x.fresh hp;by_cases hb:b=a
 ·subst hb;rw[ZM]at e;cases e;exact new
 ·rw[Zq hb]at e
  exact(x b u e).stay (λc v _ q=>k c v q) (λc q=>by rw[Zq (ZW q hn)];exact q) λc xs q=>by rw[Zq (ZW q hn)];exact q
end
noncomputable def Rd (H:Hp)(a:Addr)(u:HO):Prop:=H a=some u∨∃o,H a=some (.frz o u)
theorem Rd.ok {P:xC}{w:World}{H:Hp}{h:Heap}{a:Addr}{u:HO}(r:Rd H a u)(x:Yg P w H h):YI P w H h a u:=by
 rcases r with r | ⟨o,r⟩
 ·exact x a u r
 ·obtain⟨_,q⟩:=x a _ r
  exact q
noncomputable def BI:Option HO->Prop
 | some (.lst _)=>True
 | some (.dK _)=>True
 | some (.dT _)=>True
 | some (.set _ _)=>True
 | some (.ins _ _ _)=>True
 | some (.ext _)=>True
 | _=>False
section
variable {P:xC}{w:World}{H:Hp}{h h':Heap}{x e:Addr}{o':HO}
theorem Yg.write (ok:Yg P w H h)(mu:BI (H x))(he:e=x∨H e=some (.own x))(k:∀b u,b≠e->h.get? b=some u->h'.get? b=some u)(heo:∃u,h'.get? e=some u)
  (new:YI P w (Zj H x o') h' x o'):Yg P w (Zj H x o') h':=λb u q=>by
 have nown:∀c y,H c=some (.own y)->c≠x:=λc y r z=>by subst z;rw[r]at mu;exact mu
 have ntup:∀c xs,H c=some (.tup xs)->c≠x:=λc xs r z=>by subst z;rw[r]at mu;exact mu
 by_cases hb:b=x
 ·subst hb;rw[ZM]at q;cases q;exact new
 ·rw[Zq hb]at q
  by_cases hbe:b=e
  ·have q':H b=some (.own x):=by
    rcases he with z | z
    ·exact absurd (hbe.trans z) hb
    ·rw[hbe];exact z
   rw[q]at q';cases q';obtain⟨v,hv⟩:=heo;exact⟨v,by rw[hbe];exact hv⟩
  ·refine(ok b u q).stay (λc v hc r=>k c v ?_ r) (λc r=>by rw[Zq (nown c b r)];exact r) λc xs r=>by rw[Zq (ntup c xs r)];exact r
   rcases hc with rfl | hc
   ·exact hbe
   ·rintro rfl
    rcases he with z | z
    ·exact nown c b hc z
    ·rw[hc]at z;cases z;exact hb rfl
end
structure Un (fs ex:List Addr)(H H':Hp)(h h':Heap):Prop where
 keep:∀b o,h.get? b=some o->H b=none->b∉fs->b∉ex->h'.get? b=some o
 slot:∀b o,h.get? b=some o->H b=none->b∈fs->b∉ex->∃sl,h'.get? b=some { o with slots:=sl }
 free:∀b o,h.get? b=some o->H b=none->b∉ex->H' b=none
 there:∀b o,h.get? b=some o->b∉ex->∃o',h'.get? b=some o'
 tups:∀b xs,H b=some (.tup xs)->H' b=some (.tup xs)
 frzs:∀b o u,H b=some (.frz o u)->H' b=some (.frz o u)
 tbls:∀b ps,H b=some (.tbl ps)->∃more,H' b=some (.tbl (ps++more))
section
variable {fs fs' ex ex':List Addr}{H H1 H2:Hp}{h h1 h2 h':Heap}{a x e:Addr}{o:HO}
theorem Un.any (u:Un fs ex H H1 h h1){b:Addr}{ob:Obj}(q:h.get? b=some ob)(n:H b=none)(hx:b∉ex):∃sl,h1.get? b=some { ob with slots:=sl }:=by
 by_cases hb:b∈fs
 ·exact u.slot b ob q n hb hx
 ·exact⟨ob.slots,u.keep b ob q n hb hx⟩
theorem Un.kept (k:∀b u,h.get? b=some u->h'.get? b=some u):Un fs ex H H h h':=
 ⟨λb ob q _ _ _=>k b ob q,λb ob q _ _ _=>⟨ob.slots,k b ob q⟩,λ_ _ _ n _=>n,λb ob q _=>⟨ob,k b ob q⟩,λ_ _ q=>q,λ_ _ _ q=>q,λ_ ps q=>⟨#[],by rw[q];simp⟩⟩
theorem Un.refl:Un fs ex H H h h:=Un.kept λ_ _ q=>q
theorem Un.laid (k:∀b u,h.get? b=some u->h'.get? b=some u)(hp:h.objs.size<=a)(hn:H a=none):Un fs ex H (Zj H a o) h h' where
 keep:=λb u q _ _ _=>k b u q
 slot:=λb u q _ _ _=>⟨u.slots,k b u q⟩
 free:=λb u q n _=>by rw[Zq (qT (zh (qH q) hp))];exact n
 there:=λb u q _=>⟨u,k b u q⟩
 tups:=λb xs q=>by rw[Zq (ZW q hn)];exact q
 frzs:=λb u xs q=>by rw[Zq (ZW q hn)];exact q
 tbls:=λb ps q=>⟨#[],by rw[Zq (ZW q hn),q];simp⟩
theorem Un.write (mu:BI (H x))(he:e=x∨H e=some (.own x))(k:∀b u,b≠e->h.get? b=some u->h'.get? b=some u)(heo:∃u,h'.get? e=some u):Un fs ex H (Zj H x o) h h':=by
 have hx:∀b,H b=none->b≠x:=λb n z=>by subst z;rw[n]at mu;exact mu
 have hb:∀b,H b=none->b≠e:=λb n z=>by
  subst z;rcases he with r | r
  ·exact hx b n r
  ·rw[n]at r;cases r
 have hm:∀b u,H b=some u->¬BI (some u)->b≠x:=λb u q nm z=>by subst z;rw[q]at mu;exact nm mu
 refine⟨λb u q n _ _=>k b u (hb b n) q,λb u q n _ _=>⟨u.slots,k b u (hb b n) q⟩,λb u q n _=>by rw[Zq (hx b n)];exact n,λb u q _=>?_,
  λb xs q=>by rw[Zq (hm b _ q λz=>z)];exact q,λb u xs q=>by rw[Zq (hm b _ q λz=>z)];exact q,λb ps q=>⟨#[],by rw[Zq (hm b _ q λz=>z),q];simp⟩⟩
 by_cases hbe:b=e
 ·subst hbe;exact heo
 ·exact⟨u,k b u hbe q⟩
end
noncomputable def trk (h:Heap)(H:Hp):List Addr:=(qm h.objs.size).filter λa=>(H a).isSome
noncomputable def W0 (h:Heap)(H:Hp):Heap:=PySem.W.hideAll h (trk h H)
theorem ZhO (h:Heap)(H:Hp):(W0 h H).objs.size=h.objs.size:=qcI _ _
theorem Zi9 {h:Heap}{H:Hp}{b:Addr}{o:Obj}(e:h.get? b=some o)(n:H b=none):(W0 h H).get? b=some o:=
 qcT _ e λhm=>by
  have q:(H b).isSome=true:=(qA.mp hm).2;rw[n]at q;simp at q
theorem ZkY {h:Heap}{H:Hp}{b:Addr}{o:Obj}(e:(W0 h H).get? b=some o):h.get? b=some o/\H b=none:=by
 have e':h.get? b=some o:=PySem.W.of_hideAll (trk h H) e;refine⟨e',?_⟩
 cases q:H b with
 | none=>rfl
 | some x=>
  have hm:b∈trk h H:=qA.mpr ⟨qQ.mpr (qH e'),by simp[q]⟩;have z:(W0 h H).get? b=none:=qcJ (trk h H) hm;rw[z]at e;cases e
structure Mod (K:qj)(mg:Str->Option Value)(base:Heap):Prop where
 kin:K.In base
 glob:base.Ns mainGlobals mg
 blt:∃mb,base.Ns builtinsNs mb/\∀x:Str,x≠"__name__"->mb x=xj x
 nolimit:base.NoLimit
structure Cx where
 prog:xC
 w:World
 K:qj
 mg:Str->Option Value
 base:Heap
 A:xD
 N:List Str
 s₀:Shared
 H₀:Hp
 env:Env
 outer:List Env
 stack:List Env
 ex:List Addr
 fn:Str->Bool
 calm:Bool
 pn:Qb
 xe:xE
noncomputable def Xy (l:List Env):List Addr:=l.filterMap (·.frame)
noncomputable abbrev Cx.fs (X:Cx):List Addr:=Xy X.outer
noncomputable def BJ (sc:Scope)(x:Str):Prop:=sc.names.lookup x=some .local∨sc.names.lookup x=some .cell∨sc.names.lookup x=some .free
noncomputable def W6 (sc:Scope)(x:Str):Prop:=sc.names.lookup x=some .local∨sc.names.lookup x=some .cell
noncomputable def Look (env:Env)(h:Heap)(m:Str->Option Value)(x:Str)(u:Value):Prop:=
 (env.kindOf x=some .local/\m x=some u)∨((env.kindOf x=some .cell∨env.kindOf x=some .free)/\∃c,env.cells.lookup x=some c/\h.IsCell c (some u))
structure Cx.Ok (X:Cx):Prop where
 mod:Mod X.K X.mg X.base
 kind:X.env.scope.kind=.function
 glob:X.env.globals=mainGlobals
 blt:X.env.builtins=builtinsNs
 above:X.s₀.heap.objs.size<=X.env.locals
 inj:∀x y c,X.env.cells.lookup x=some c->X.env.cells.lookup y=some c->x=y
 has:∀x,(X.env.kindOf x=some .cell∨X.env.kindOf x=some .free)->∃c,X.env.cells.lookup x=some c
 cab:∀x c,X.fn x=true->X.env.cells.lookup x=some c->X.s₀.heap.objs.size<=c
 hd:X.calm=true->X.A.handled=none
 frames:X.A.frames=some X.stack
 stk:X.stack=X.outer∨(X.stack=X.env::X.outer/\X.env.frame=some X.env.locals)
 exf:∀b∈X.ex,b≠X.env.locals/\∀x c,X.env.cells.lookup x=some c->c≠b
 bs:∀b o,X.base.get? b=some o->X.s₀.heap.get? b=some o/\X.H₀ b=none
 bsz:X.base.objs.size<=X.s₀.heap.objs.size
 noex:∀b o,X.base.get? b=some o->b∉X.ex
 exfs:∀b∈X.ex,b∉X.fs
 funs:X.s₀.heap.FunFrames X.base X.outer
 frf:∀b∈X.fs,X.H₀ b=none
structure Inv (X:Cx)(jH:Qb)(σ:List (Option V))(H:Hp)(s:Shared):Prop where
 ok:X.Ok
 os:s.os=X.s₀.os
 bare:AllBare s.gens
 base:Un X.fs X.ex X.H₀ H X.s₀.heap s.heap
 loc:∃m,s.heap.Ns X.env.locals m/\∀(i:Nat) (x:Str) (v:V),X.N[i]?=some x->σ[i]?=some (some v)->BJ X.env.scope x->∃u,ZC v u/\Look X.env s.heap m x u
 cell:∀x c,X.env.cells.lookup x=some c->∃v,s.heap.IsCell c v
 free:H X.env.locals=none
 freeC:∀x c,X.env.cells.lookup x=some c->H c=none
 pin:∀p∈X.pn++jH,s.heap.get? p.1=some p.2/\H p.1=none/\p.1≠X.env.locals/\p.1∉X.fs/\∀v,p.2.data≠.cell v
 hok:Yg X.prog X.w H s.heap
 len:σ.length=X.N.length
section
variable {X:Cx}{jH:Qb}{σ:List (Option V)}{H H':Hp}{s:Shared}{h':Heap}
theorem Cx.Ok.nofr (ok:X.Ok){b:Addr}{o:Obj}(e:X.base.get? b=some o):b∉X.fs:=λhb=>by
 have:=(ok.funs.mem hb).1;rw[e]at this;cases this
theorem Inv.bs (I:Inv X jH σ H s):∀b o,X.base.get? b=some o->s.heap.get? b=some o/\H b=none:=λb o e=>
 ⟨I.base.keep b o (I.ok.bs b o e).1 (I.ok.bs b o e).2 (I.ok.nofr e) (I.ok.noex b o e),I.base.free b o (I.ok.bs b o e).1 (I.ok.bs b o e).2 (I.ok.noex b o e)⟩
theorem Inv.bk (I:Inv X jH σ H s):∀b o,X.base.get? b=some o->s.heap.get? b=some o:=λb o e=>(I.bs b o e).1
theorem Inv.mod (I:Inv X jH σ H s):Mod X.K X.mg X.base:=I.ok.mod
theorem Inv.kIn (I:Inv X jH σ H s):X.K.In s.heap:=I.ok.mod.kin.keeps I.bk
theorem Inv.lt (I:Inv X jH σ H s):X.env.locals<s.heap.objs.size:=let ⟨_,hn,_⟩:=I.loc;hn.lt
theorem Inv.sz (I:Inv X jH σ H s):X.s₀.heap.objs.size<=s.heap.objs.size:=zC I.ok.above (qci I.lt)
theorem Inv.nofs (I:Inv X jH σ H s){a:Addr}(h:s.heap.objs.size<=a):a∉X.fs:=λhb=>by
 obtain⟨_,o,ho,_⟩:=I.ok.funs.mem hb;exact absurd (zh (qH ho) (zC I.sz h)) (yL _)
theorem Inv.cne (I:Inv X jH σ H s):∀x c,X.env.cells.lookup x=some c->c≠X.env.locals:=λx c e z=>by
 obtain⟨v,o,ho,hd⟩:=I.cell x c e;obtain⟨m,⟨o',es,ep,ho',hd',_⟩,_⟩:=I.loc;rw[z,ho']at ho;cases ho;rw[hd']at hd;cases hd
theorem Inv.funs (I:Inv X jH σ H s):s.heap.FunFrames X.base X.outer:=by
 have all:∀(l:List Env),(∀b∈Xy l,b∈X.fs)->X.s₀.heap.FunFrames X.base l->s.heap.FunFrames X.base l:=by
  intro l
  induction l with
  | nil=>intro _ _;trivial
  | cons env r ih=>
   intro hs hl;obtain⟨hk,⟨L,o,hf,hn,ho,hd⟩,hr⟩:=hl;have hL:L∈X.fs:=hs L (by unfold Xy;rw[yP,hf];exact zK);obtain⟨sl,e⟩:=I.base.slot L o ho (I.ok.frf L hL) hL λz=>I.ok.exfs L z hL;exact⟨hk,⟨L,_,hf,hn,e,hd⟩,ih (λb hb=>hs b (by unfold Xy;rw[yP,hf];exact qM _ hb)) hr⟩
 exact all X.outer (λ_ hb=>hb) I.ok.funs
theorem Inv.stack (I:Inv X jH σ H s):s.heap.FunFrames X.base X.stack:=by
 rcases I.ok.stk with e | ⟨e,hf⟩
 ·rw[e];exact I.funs
 ·rw[e]
  obtain⟨m,hn,_⟩:=I.loc;refine .cons (by rw[I.ok.kind];decide) hf hn ?_ I.funs;exact Heap.get?_none_of_le (zC I.ok.bsz I.ok.above)
theorem Inv.stkSub (I:Inv X jH σ H s):∀b∈Xy X.stack,b∈X.env.locals::X.fs:=λb hb=>by
 rcases I.ok.stk with e | ⟨e,hf⟩
 ·rw[e]at hb;exact qM _ hb
 ·rw[e]at hb
  unfold Xy at hb;rw[yP,hf]at hb;exact hb
theorem Inv.stkFree (I:Inv X jH σ H s):∀b∈Xy X.stack,H b=none:=λb hb=>by
 rcases qp.mp (I.stkSub b hb)with e | hb
 ·rw[e];exact I.free
 ·obtain⟨_,o,ho,_⟩:=I.ok.funs.mem hb
  exact I.base.free b o ho (I.ok.frf b hb) λz=>I.ok.exfs b z hb
theorem Inv.step {g':Array GenState}{t':Nat}{d':Drawn}{ch:List Addr}(I:Inv X jH σ H s)
  (hch:∀b∈ch,(b∈X.ex∨X.s₀.heap.objs.size<=b)/\b≠X.env.locals/\(∀x c,X.env.cells.lookup x=some c->c≠b)/\∀p∈X.pn++jH,p.1≠b)
  (keep:∀b o,b≠X.env.locals->b∉X.fs->b∉ch->s.heap.get? b=some o->H b=none->h'.get? b=some o)
  (slot:∀b o,b≠X.env.locals->b∈X.fs->b∉ch->s.heap.get? b=some o->H b=none->∃sl,h'.get? b=some { o with slots:=sl }) (free:∀b o,b∉ch->s.heap.get? b=some o->H b=none->H' b=none)
  (there:∀b o,b∉ch->s.heap.get? b=some o->∃o',h'.get? b=some o')
  (tups:∀b xs,H b=some (.tup xs)->H' b=some (.tup xs)) (frzs:∀b o u,H b=some (.frz o u)->H' b=some (.frz o u)) (tbls:∀b ps,H b=some (.tbl ps)->∃more,H' b=some (.tbl (ps++more)))
  (ns:∀m,s.heap.Ns X.env.locals m->h'.Ns X.env.locals m) (hok:Yg X.prog X.w H' h') (hg:AllBare g') :
  Inv X jH σ H' { s with heap:=h',gens:=g',drawn:=d',toks:=t' }:=by
 have neL:∀b o,X.s₀.heap.get? b=some o->b≠X.env.locals:=λb o e=>qT (zh (qH e) I.ok.above);have neC:∀b o,X.s₀.heap.get? b=some o->b∉X.ex->b∉ch:=λb o e hx hb=>by
  rcases (hch b hb).1 with z | z
  ·exact hx z
  ·exact absurd (zh (qH e) z) (yL _)
 have cellK:∀x c,X.env.cells.lookup x=some c->∀v,s.heap.IsCell c v->h'.IsCell c v:=λx c e v ⟨o,ho,hd⟩=>by
  have nch:c∉ch:=λz=>(hch c z).2.2.1 x c e rfl;by_cases hc:c∈X.fs
  ·obtain⟨sl,q⟩:=slot c o (I.cne x c e) hc nch ho (I.freeC x c e)
   exact⟨_,q,hd⟩
  ·exact⟨o,keep c o (I.cne x c e) hc nch ho (I.freeC x c e),hd⟩
 refine⟨I.ok,I.os,hg,⟨λb o e n hb hx=>?_,λb o e n hb hx=>?_,λb o e n hx=>?_,λb o e hx=>?_,λb xs e=>tups b xs (I.base.tups b xs e),λb o xs e=>frzs b o xs (I.base.frzs b o xs e),λb ps e=>?_⟩,?_,λx c e=>?_,?_,λx c e=>?_,λp hp=>?_,hok,I.len⟩
 ·exact keep b o (neL b o e) hb (neC b o e hx) (I.base.keep b o e n hb hx) (I.base.free b o e n hx)
 ·obtain⟨sl,e1⟩:=I.base.slot b o e n hb hx
  obtain⟨sl',e2⟩:=slot b _ (neL b o e) hb (neC b o e hx) e1 (I.base.free b o e n hx);exact⟨sl',e2⟩
 ·obtain⟨o',e1⟩:=I.base.there b o e hx
  exact free b o' (neC b o e hx) e1 (I.base.free b o e n hx)
 ·obtain⟨o',e1⟩:=I.base.there b o e hx
  exact there b o' (neC b o e hx) e1
 ·obtain⟨m1,e1⟩:=I.base.tbls b ps e
  obtain⟨m2,e2⟩:=tbls b _ e1;exact⟨m1++m2,by rw[e2,Array.append_assoc]⟩
 ·obtain⟨m,hn,hl⟩:=I.loc
  refine⟨m,ns m hn,λi x v e1 e2 e3=>?_⟩;obtain⟨u,r,l⟩:=hl i x v e1 e2 e3;refine⟨u,r,?_⟩;rcases l with l | ⟨k,c,e,z⟩
  ·exact .inl l
  ·exact .inr ⟨k,c,e,cellK x c e _ z⟩
 ·obtain⟨v,z⟩:=I.cell x c e
  exact⟨v,cellK x c e v z⟩
 ·obtain⟨m,⟨o,_,_,ho,_⟩,_⟩:=I.loc
  exact free _ o (λz=>(hch _ z).2.1 rfl) ho I.free
 ·obtain⟨v,o,ho,hd⟩:=I.cell x c e
  exact free c o (λz=>(hch c z).2.2.1 x c e rfl) ho (I.freeC x c e)
 ·obtain⟨e,n,ne,nf,d⟩:=I.pin p hp
  have nch:p.1∉ch:=λz=>(hch p.1 z).2.2.2 p hp rfl;exact⟨keep p.1 p.2 ne nf nch e n,free p.1 p.2 nch e n,ne,nf,d⟩
theorem Inv.un {t':Nat}(I:Inv X jH σ H s)(u:Un X.fs [] H H' s.heap h')(hok:Yg X.prog X.w H' h'):Inv X jH σ H' { s with heap:=h',toks:=t' }:=by
 obtain⟨m,⟨o,es,ep,ho,r⟩,_⟩:=id I.loc;obtain⟨sl,hL⟩:=u.any ho I.free (by simp);exact I.step (g':=s.gens) (d':=s.drawn) (ch:=[]) (λ_ z=>nomatch z) (λb o _ hb _ e n=>u.keep b o e n hb (by simp)) (λb o _ hb _ e n=>u.slot b o e n hb (by simp)) (λb o _ e n=>u.free b o e n (by simp)) (λb o _ e=>u.there b o e (by simp)) u.tups u.frzs u.tbls (λm' hm=>by
  obtain⟨o',es',ep',ho',r'⟩:=hm;rw[ho]at ho';cases ho';exact⟨_,es',ep',hL,r'⟩) hok I.bare
theorem Inv.call {g':Array GenState}{t':Nat}{d':Drawn}{ch:List Addr}(I:Inv X jH σ H s)(u:Un (Xy X.stack) ch H H' s.heap h')(hok:Yg X.prog X.w H' h')(hg:AllBare g')
  (hch:∀b∈ch,(b∈X.ex∨X.s₀.heap.objs.size<=b)/\b≠X.env.locals/\(∀x c,X.env.cells.lookup x=some c->c≠b)/\∀p∈X.pn++jH,p.1≠b) :
  Inv X jH σ H' { s with heap:=h',gens:=g',drawn:=d',toks:=t' }:=by
 obtain⟨m,⟨o,es,ep,ho,r⟩,_⟩:=id I.loc;obtain⟨sl,hL⟩:=u.any ho I.free λz=>(hch _ z).2.1 rfl;exact I.step (ch:=ch) hch (λb o hL hb hc e n=>u.keep b o e n (λz=>(qp.mp (I.stkSub b z)).elim hL hb) hc) (λb o _ _ hc e n=>u.any e n hc) (λb o hc e n=>u.free b o e n hc) (λb o hc e=>u.there b o e hc) u.tups u.frzs u.tbls (λm' hm=>by
  obtain⟨o',es',ep',ho',r'⟩:=hm;rw[ho]at ho';cases ho';exact⟨_,es',ep',hL,r'⟩) hok hg
theorem Inv.turned {t':Nat}{it:Addr}(I:Inv X jH σ H s)(k:∀b o,b≠it->s.heap.get? b=some o->h'.get? b=some o)(hn:H it=none)(hL:it≠X.env.locals)
  (h1:it∈X.ex∨X.s₀.heap.objs.size<=it) (h2:∀x c,X.env.cells.lookup x=some c->c≠it) (h3:∀p∈X.pn++jH,p.1≠it):Inv X jH σ H { s with heap:=h',toks:=t' }:=by
 have nit:∀b u,H b=some u->b≠it:=λb u e z=>by rw[z,hn]at e;cases e
 refine I.step (g':=s.gens) (d':=s.drawn) (ch:=[it]) (λb hb=>?_) (λb o _ _ hc e _=>k b o (λz=>hc (by simp[z])) e) (λb o _ _ hc e _=>⟨o.slots,k b o (λz=>hc (by simp[z])) e⟩) (λ_ _ _ _ n=>n)
  (λb o hc e=>⟨o,k b o (λz=>hc (by simp[z])) e⟩) (λ_ _ e=>e) (λ_ _ _ e=>e) (λb ps e=>⟨#[],by rw[e];simp⟩) (λm hm=>?_) (λb u e=>?_) I.bare
 ·have e:b=it:=by simpa using hb
  subst e;exact⟨h1,hL,h2,h3⟩
 ·obtain⟨o,es,ep,ho,r⟩:=hm
  exact⟨o,es,ep,k _ o (zD hL) ho,r⟩
 ·refine(I.hok b u e).stay (λc v hc q=>k c v ?_ q) (λ_ q=>q) λ_ _ q=>q
  rcases hc with z | z
  ·rw[z];exact nit b u e
  ·exact nit c _ z
theorem Inv.tok (I:Inv X jH σ H s)(t:Nat):Inv X jH σ H { s with toks:=t }:=I.un (h':=s.heap) (t':=t) Un.refl I.hok
theorem Inv.kept {t':Nat}(I:Inv X jH σ H s)(k:∀b u,s.heap.get? b=some u->h'.get? b=some u):Inv X jH σ H { s with heap:=h',toks:=t' }:=I.un (Un.kept k) (I.hok.kept k)
theorem Inv.laid {a:Addr}{o:HO}{t':Nat}(I:Inv X jH σ H s)(k:∀b u,s.heap.get? b=some u->h'.get? b=some u)(hp:s.heap.objs.size<=a)(new:YI X.prog X.w (Zj H a o) h' a o) :
  Inv X jH σ (Zj H a o) { s with heap:=h',toks:=t' }:=I.un (Un.laid k hp (I.hok.fresh hp)) (I.hok.laid k hp new)
theorem Inv.write {x e:Addr}{o:HO}{t':Nat}(I:Inv X jH σ H s)(mu:BI (H x))(he:e=x∨H e=some (.own x))(k:∀b u,b≠e->s.heap.get? b=some u->h'.get? b=some u)(heo:∃u,h'.get? e=some u)
  (new:YI X.prog X.w (Zj H x o) h' x o):Inv X jH σ (Zj H x o) { s with heap:=h',toks:=t' }:=I.un (Un.write mu he k heo) (I.hok.write mu he k heo new)
theorem Inv.pins_of {pins':Qb}(I:Inv X jH σ H s)(h:∀p∈pins',s.heap.get? p.1=some p.2/\H p.1=none/\p.1≠X.env.locals/\p.1∉X.fs/\∀v,p.2.data≠.cell v):Inv X pins' σ H s:=
 ⟨I.ok,I.os,I.bare,I.base,I.loc,I.cell,I.free,I.freeC,λp hp=>(qO.mp hp).elim (λz=>I.pin p (qax _ z)) (h p),I.hok,I.len⟩
theorem Zey {N:List Str}(hN:N.Nodup){i j:Nat}{x:Str}(a:N[i]?=some x)(b:N[j]?=some x):i=j:=by
 obtain⟨h1,e1⟩:=qq.mp a;obtain⟨h2,e2⟩:=qq.mp b;exact(List.getElem_inj hN).mp (e1.trans e2.symm)
theorem Zbi {M:Model}{A:xD}{E:xE}{i:Nat}{x:Str}{v:V}{u:Value}{Q:Unit->Shared->Prop}(I:Inv X jH σ H s)(hN:X.N.Nodup)(hi:X.N[i]?=some x)(hx:W6 X.env.scope x)(r:ZC v u)
  (h:∀s',Inv X jH (σ.set i (some v)) H s'->(∃a,zW a s.heap s'.heap/\(a=X.env.locals∨X.env.cells.lookup x=some a))->Q () s') (hf:X.fn x=true∨X.env.scope.names.lookup x=some .local:=by first | exact .inl rfl | exact .inr rfl | assumption):xf M A (storeName X.env x u) Q E s:=by
 obtain⟨m,hn,hl⟩:=id I.loc;have hcls:(X.env.scope.kind == .class||(X.env.scope.kind == .module&&X.env.locals != X.env.globals))=false:=by rw[I.ok.kind];rfl
 have hiσ:i < σ.length:=by rw[I.len];exact(qq.mp hi).1
 have cne:=I.cne;have tracked:∀{a:Addr} {h':Heap},(∃o,s.heap.get? a=some o/\H a=none)->zW a s.heap h'->Yg X.prog X.w H h':=λ{a h'} ha hs b ob e=>by
  obtain⟨_,_,hfree⟩:=ha;refine(I.hok b ob e).stay (λc w' hc q=>(hs.2 c ?_).trans q) (λ_ q=>q) λ_ _ q=>q;rintro rfl;rcases hc with rfl | hc
  ·rw[hfree]at e;cases e
  ·rw[hfree]at hc;cases hc
 rcases hx with hk | hk
 ·refine wpAny_storeName_local hk hn (λh' hn' hs=>?_) hcls
  obtain⟨oL,_,_,hoL,_⟩:=id hn;refine h _ ⟨I.ok,I.os,I.bare,⟨λb o e n hb hx=>?_,λb o e n hb hx=>?_,I.base.free,λb o e hx=>?_,I.base.tups,I.base.frzs,I.base.tbls⟩,⟨_,hn',λj y v' e1 e2 e3=>?_⟩,λy c e=>?_,I.free,I.freeC,λp hp=>?_,tracked ⟨oL,hoL,I.free⟩ hs,by simpa using I.len⟩ ⟨_,hs,.inl rfl⟩
  ·exact(hs.2 b (qT (zh (qH e) I.ok.above))).trans (I.base.keep b o e n hb hx)
  ·obtain⟨sl,e1⟩:=I.base.slot b o e n hb hx
   exact⟨sl,(hs.2 b (qT (zh (qH e) I.ok.above))).trans e1⟩
  ·obtain⟨o',e1⟩:=I.base.there b o e hx
   exact⟨o',(hs.2 b (qT (zh (qH e) I.ok.above))).trans e1⟩
  ·by_cases hj:j=i
   ·subst hj
    rw[hi]at e1;cases e1;rw[zu hiσ]at e2
    cases e2
    exact⟨u,r,.inl ⟨hk,by simp⟩⟩
   ·rw[qZ (zD hj)]at e2
    obtain⟨u',r',q⟩:=hl j y v' e1 e2 e3;refine⟨u',r',?_⟩;rcases q with⟨k,e⟩ | ⟨k,c,e,z⟩
    ·refine .inl ⟨k,?_⟩
     have:y≠x:=λe=>hj (Zey hN e1 (e▸hi));simp[this,e]
    ·exact .inr ⟨k,c,e,z.sameBut hs (cne y c e)⟩
  ·obtain⟨w',z⟩:=I.cell y c e
   exact⟨w',z.sameBut hs (cne y c e)⟩
  ·obtain⟨e,n,ne,nf,d⟩:=I.pin p hp
   exact⟨(hs.2 p.1 ne).trans e,n,ne,nf,d⟩
 ·have hfn:X.fn x=true:=by
   rcases hf with z | z
   ·exact z
   ·rw[z]at hk;cases hk
  obtain⟨c,hc⟩:=I.ok.has x (.inl hk);obtain⟨w',z⟩:=I.cell x c hc;refine wpAny_storeName_cell I.ok.kind hk hc z (λh' hc' hs=>?_);obtain⟨oc,hoc,hocd⟩:=id z;refine h { s with heap:=h' } ⟨I.ok,I.os,I.bare,⟨λb o e n hb hx=>?_,λb o e n hb hx=>?_,I.base.free,λb o e hx=>?_,I.base.tups,I.base.frzs,I.base.tbls⟩,⟨m,hn.sameBut hs (zD (cne x c hc)),λj y v' e1 e2 e3=>?_⟩,λy c' e=>?_,I.free,I.freeC,λp hp=>?_,tracked ⟨oc,hoc,I.freeC x c hc⟩ hs,by simpa using I.len⟩ ⟨c,hs,.inr hc⟩
  ·exact(hs.2 b (qT (zh (qH e) (I.ok.cab x c hfn hc)))).trans (I.base.keep b o e n hb hx)
  ·obtain⟨sl,e1⟩:=I.base.slot b o e n hb hx
   exact⟨sl,(hs.2 b (qT (zh (qH e) (I.ok.cab x c hfn hc)))).trans e1⟩
  ·obtain⟨o',e1⟩:=I.base.there b o e hx
   exact⟨o',(hs.2 b (qT (zh (qH e) (I.ok.cab x c hfn hc)))).trans e1⟩
  ·by_cases hj:j=i
   ·subst hj
    rw[hi]at e1;cases e1;rw[zu hiσ]at e2
    cases e2
    exact⟨u,r,.inr ⟨.inl hk,c,hc,hc'⟩⟩
   ·rw[qZ (zD hj)]at e2
    obtain⟨u',r',q⟩:=hl j y v' e1 e2 e3;refine⟨u',r',?_⟩;rcases q with q | ⟨k,c',e,z'⟩
    ·exact .inl q
    ·refine .inr ⟨k,c',e,z'.sameBut hs ?_⟩
     rintro rfl;exact hj (Zey hN e1 (I.ok.inj _ _ _ e hc▸hi))
  ·by_cases hcc:c'=c
   ·subst hcc;exact⟨_,hc'⟩
   ·obtain⟨w2,z2⟩:=I.cell y c' e
    exact⟨w2,z2.sameBut hs hcc⟩
  ·obtain⟨e,n,ne,nf,d⟩:=I.pin p hp
   refine⟨(hs.2 p.1 ?_).trans e,n,ne,nf,d⟩;intro q;rw[q,hoc]at e;have q':oc=p.2:=zv e;exact d w' (by rw[<-q'];exact hocd)
theorem ZaS {M:Model}{A:xD}{E:xE}{i:Nat}{x:Str}{v:V}{u:Value}{Q:Unit->Shared->Prop}(I:Inv X jH σ H s)(hN:X.N.Nodup)(hi:X.N[i]?=some x)(hx:W6 X.env.scope x)(r:ZC v u)
  (h:∀s',Inv X jH (σ.set i (some v)) H s'->Q () s') (hf:X.fn x=true∨X.env.scope.names.lookup x=some .local:=by first | exact .inl rfl | exact .inr rfl | assumption):xf M A (storeName X.env x u) Q E s:=
 Zbi I hN hi hx r (λs' I' _=>h s' I') hf
theorem Inv.call' {s':Shared}{ch:List Addr}(I:Inv X jH σ H s)(ho:s'.os=s.os)(u:Un (Xy X.stack) ch H H' s.heap s'.heap)(hok:Yg X.prog X.w H' s'.heap)(hg:AllBare s'.gens)
  (hch:∀b∈ch,(b∈X.ex∨X.s₀.heap.objs.size<=b)/\b≠X.env.locals/\(∀x c,X.env.cells.lookup x=some c->c≠b)/\∀p∈X.pn++jH,p.1≠b):Inv X jH σ H' s':=by
 obtain⟨h',g',d',t',o'⟩:=s';have e:o'=s.os:=ho;subst e;exact I.call (g':=g') (t':=t') (d':=d') u hok hg hch
end
noncomputable abbrev XK:=Value->Option Addr->Hp->Prop
noncomputable abbrev St:=List (Option V)
noncomputable abbrev VK:=V->Hp->Prop
noncomputable abbrev TE:=St->Hp->VK->Prop
noncomputable abbrev TT:=St->Hp->(Bool->Hp->Prop)->Prop
noncomputable abbrev TA:=St->Hp->(List V->Hp->Prop)->Prop
structure Ends where
 nx:St->Hp->Prop
 rt:VK
 bk:St->Hp->Prop:=λ_ _=>False
 ct:St->Hp->Prop:=λ_ _=>False
noncomputable abbrev TS:=Ends->St->Hp->Prop
noncomputable def EP (X:Cx)(jH:Qb)(σ:St)(Q:VK)(u:Value)(s':Shared):Prop:=∃v H',Inv X jH σ H' s'/\ZC v u/\Q v H'
noncomputable def TP (X:Cx)(jH:Qb)(σ:St)(Q:Bool->Hp->Prop)(b:Bool)(s':Shared):Prop:=∃H',Inv X jH σ H' s'/\Q b H'
noncomputable def AP (X:Cx)(jH:Qb)(σ:St)(Q:List V->Hp->Prop)(us:List Value)(s':Shared):Prop:=∃vs H',Inv X jH σ H' s'/\Zu vs us/\Q vs H'
noncomputable def SP (X:Cx)(jH:Qb)(D:Ends)(f:Flow)(s':Shared):Prop:=
 match f with
 | .next=>∃σ' H',Inv X jH σ' H' s'/\D.nx σ' H'
 | .brk=>∃σ' H',Inv X jH σ' H' s'/\D.bk σ' H'
 | .cont=>∃σ' H',Inv X jH σ' H' s'/\D.ct σ' H'
 | .ret u=>∃v σ' H',Inv X jH σ' H' s'/\ZC v u/\D.rt v H'
noncomputable def PE (X:Cx)(e:Expr)(t:TE):Prop:=
 ∀(jH:Qb) (s:Shared) (σ:St) (H:Hp) (Q:VK),Inv X jH σ H s->t σ H Q->xf (xA X.prog X.w) X.A (eval e X.env) (EP X jH σ Q) X.xe s
noncomputable def PT (X:Cx)(e:Expr)(t:TT):Prop:=
 ∀(jH:Qb) (s:Shared) (σ:St) (H:Hp) (Q:Bool->Hp->Prop),Inv X jH σ H s->t σ H Q->xf (xA X.prog X.w) X.A (isTrue e X.env (eval e X.env)) (TP X jH σ Q) X.xe s
noncomputable def PW (X:Cx)(e:Expr)(t:TT):Prop:=
 ∀(whole:Sem Value) (jH:Qb) (s:Shared) (σ:St) (H:Hp) (Q:Bool->Hp->Prop),Inv X jH σ H s->t σ H Q->xf (xA X.prog X.w) X.A (isTrue e X.env whole) (TP X jH σ Q) X.xe s
theorem PW.pt {X:Cx}{e:Expr}{t:TT}(h:PW X e t):PT X e t:=h _
noncomputable def PA (X:Cx)(es:List Expr)(t:TA):Prop:=
 ∀(pos:Pos) (jH:Qb) (s:Shared) (σ:St) (H:Hp) (Q:List V->Hp->Prop),Inv X jH σ H s->t σ H Q->xf (xA X.prog X.w) X.A (spliced (backTo pos (xh es X.env))) (AP X jH σ Q) X.xe s
noncomputable def PS (X:Cx)(st:Stmt)(t:TS):Prop:=
 ∀(jH:Qb) (s:Shared) (σ:St) (H:Hp) (D:Ends),Inv X jH σ H s->t D σ H->xf (xA X.prog X.w) X.A (exec st X.env) (SP X jH D) X.xe s
noncomputable def X2 (X:Cx)(st:List Stmt)(t:TS):Prop:=
 ∀(jH:Qb) (s:Shared) (σ:St) (H:Hp) (D:Ends),Inv X jH σ H s->t D σ H->xf (xA X.prog X.w) X.A (execs st X.env) (SP X jH D) X.xe s
theorem ZD {α:Type}{t:Sem α}{Q Q':α->Shared->Prop}{M:Model}{A:xD}{E:xE}{s:Shared}(h:xf M A t Q E s)(hQ:∀a s,Q a s->Q' a s):xf M A t Q' E s:=xc h hQ λ_ _ x=>x
section
variable {X:Cx}
noncomputable def Z3 (i:Nat):TE:=fun σ H Q=>∃v,σ[i]?=some (some v)/\Q v H
noncomputable def tC (v:V):TE:=λ_ H Q=>Q v H
theorem ZmL {i:Nat}{x:Str}{pos:Pos}(hN:X.N[i]?=some x)(hv:BJ X.env.scope x)(hd:(x==("__debug__" : Str))=false:=by decide)(hcd:(x==("__classdict__" : Str))=false:=by decide):PE X (.Name x pos) (Z3 i):=by
 intro jH s σ H Q I h;obtain⟨v,e,h⟩:=h;obtain⟨m,hn,hl⟩:=I.loc;obtain⟨u,r,l⟩:=hl i x v hN e hv;have fin:EP X jH σ Q u s:=⟨v,H,I,r,h⟩;rcases l with⟨hk,hm⟩ | ⟨hk,c,hc,hcell⟩
 ·exact wpAny_Name (wpAny_loadName_local I.ok.kind hk hn hm fin) hd
 ·rcases hk with hk | hk
  ·exact wpAny_Name (wpAny_loadName_cell I.ok.kind hk hc hcell fin) hd
  ·exact wpAny_Name (wpAny_loadName_free I.ok.kind hk hc hcell fin hcd) hd
theorem YS {i j pos}:PE X (.Constant (.int i) j pos) (tC (.int i)):=λ_ _ _ H _ I h=>wpAny_Constant_int ⟨.int i,H,I.tok _,⟨_,rfl⟩,h⟩
theorem ZnW {b j pos}:PE X (.Constant (.bool b) j pos) (tC (.bl b)):=λ_ _ _ H _ I h=>Constant_bool ⟨.bl b,H,I,rfl,h⟩
theorem XJ {x j pos}:PE X (.Constant (.str x) j pos) (tC (.str x)):=λ_ _ _ H _ I h=>Calls.Constant_str ⟨.str x,H,I.tok _,⟨_,rfl⟩,h⟩
noncomputable def Gl (X:Cx)(x:Str):Prop:=X.env.kindOf x=some .globalImplicit
theorem ZgN {E:xE}{jH:Qb}{s:Shared}{σ:St}{H:Hp}{x:Str}{u:Value}{pos:Pos}{Q:xE}(I:Inv X jH σ H s)(hg:Gl X x)(hm:X.mg x=some u)(h:Q u s)
  (hd:(x==("__debug__" : Str))=false:=by decide):xf (xA X.prog X.w) X.A (eval (.Name x pos) X.env) Q E s:=
 qb5 I.ok.kind hg (Calls.loadGlobal_global (by rw[I.ok.glob];exact I.mod.glob.keeps I.bk) hm h) hd
theorem Uv {E:xE}{jH:Qb}{s:Shared}{σ:St}{H:Hp}{x:Str}{u:Value}{pos:Pos}{Q:xE}(I:Inv X jH σ H s)(hg:Gl X x)(hm:X.mg x=none)(hv:xj x=some u)(h:Q u s)
  (hn:x≠"__name__":=by decide) (hd:(x==("__debug__" : Str))=false:=by decide):xf (xA X.prog X.w) X.A (eval (.Name x pos) X.env) Q E s:=by
 obtain⟨mb,h1,h2⟩:=I.mod.blt;exact qb5 I.ok.kind hg (Calls.loadGlobal_builtin (by rw[I.ok.glob];exact I.mod.glob.keeps I.bk) hm (by rw[I.ok.blt];exact h1.keeps I.bk) ((h2 x hn).trans hv) h) hd
variable {a b:Expr}{ta tb:TE}{pos:Pos}
noncomputable def tB (t:TE):TT:=fun σ H Q=>t σ H λx H1=>∃c,x=.bl c/\Q c H1
theorem ZmM {e:Expr}{t:TE}(h:PE X e t)(he:∀whole,isTrue e X.env whole=(do let v<-whole;standAt e.pos;holding [v] (truthy v)):=by intro _;rfl):PT X e (tB t):=by
 intro jH s σ H Q I hw;refine isTrue_plain (ZD (h jH s σ H _ I hw) λv s1 ⟨x,H1,I1,r1,q1⟩=>?_) (he _);obtain⟨d,rfl,q⟩:=q1
 cases r1
 exact wpAny_truthy_bool ⟨H1,I1,q⟩
variable {tA tB':TT}{rest:List Expr}
noncomputable def tAnd (t u:TT):TT:=fun σ H Q=>t σ H λc H1=>if c=true then u σ H1 Q else Q false H1
theorem ZgO (ha:PT X a tA):PW X (.BoolOp .And [a] pos) tA:=by
 intro wh jH s σ H Q I h;refine isTrue_and (ZD (ha jH s σ H Q I h) λc s1 e=>?_)
 cases c with
 | true=>exact isTrue_and_nil e
 | false=>exact e
theorem Zja (ha:PT X a tA)(hb:PW X (.BoolOp .And (b::rest) pos) tB'):PW X (.BoolOp .And (a::b::rest) pos) (tAnd tA tB'):=by
 intro wh jH s σ H Q I h;refine isTrue_and (ZD (ha jH s σ H _ I h) λc s1 ⟨H1,I1,q1⟩=>?_)
 cases c with
 | true=>exact hb wh jH s1 σ H1 Q I1 q1
 | false=>exact⟨H1,I1,q1⟩
noncomputable def ZnX (ta tb:TE):TE:=fun σ H Q=>ta σ H λx H1=>∃c,x=.bl c/\if c=true then tb σ H1 Q else Q (.bl false) H1
noncomputable def tOrV (ta tb:TE):TE:=fun σ H Q=>ta σ H λx H1=>∃c,x=.bl c/\if c=true then Q (.bl true) H1 else tb σ H1 Q
noncomputable def ZnY (ta:TE):TE:=fun σ H Q=>ta σ H λx H1=>∃c,x=.bl c/\Q (.bl (!c)) H1
theorem ZmN {op}{t:TE}(h:PE X a t):PE X (.BoolOp op [a] pos) t:=λjH s σ H Q I hw=>BoolOp_one (h jH s σ H Q I hw)
theorem ZmO (ha:PE X a ta)(hb:PE X (.BoolOp .And (b::rest) pos) tb):PE X (.BoolOp .And (a::b::rest) pos) (ZnX ta tb):=by
 intro jH s σ H Q I h;refine BoolOp_and (ZD (ha jH s σ H _ I h) λv s1 ⟨x,H1,I1,r1,q1⟩=>?_);obtain⟨c,rfl,q1⟩:=q1
 cases r1
 refine wpAny_truthy_bool ?_
 cases c with
 | true=>exact hb jH s1 σ H1 Q I1 q1
 | false=>exact⟨.bl false,H1,I1,rfl,q1⟩
theorem ZnZ (ha:PE X a ta)(hb:PE X (.BoolOp .Or (b::rest) pos) tb):PE X (.BoolOp .Or (a::b::rest) pos) (tOrV ta tb):=by
 intro jH s σ H Q I h;refine BoolOp_or (ZD (ha jH s σ H _ I h) λv s1 ⟨x,H1,I1,r1,q1⟩=>?_);obtain⟨c,rfl,q1⟩:=q1
 cases r1
 refine wpAny_truthy_bool ?_
 cases c with
 | false=>exact hb jH s1 σ H1 Q I1 q1
 | true=>exact⟨.bl true,H1,I1,rfl,q1⟩
theorem ZmP (ha:PE X a ta):PE X (.UnaryOp .Not a pos) (ZnY ta):=by
 intro jH s σ H Q I h;refine UnaryOp_ (ZD (ha jH s σ H _ I h) λv s1 ⟨x,H1,I1,r1,q1⟩=>?_);obtain⟨c,rfl,q1⟩:=q1
 cases r1
 exact not_of (wpAny_truthy_bool ⟨.bl (!c),H1,I1,rfl,q1⟩)
end
noncomputable def Zy (K:qj)(H:Hp)(a:Addr)(xs:List V):Prop:=
 Rd H a (.lst xs)∨
  ∃(o:Obj) (jJ:Array Value) (n:Nat),K.lookup a=some o/\o.cls=.type "list"/\o.dict=none/\o.data=.seq jJ n/\jJ.size<=xg/\Zu xs jJ.toList
noncomputable def ZK (K:qj)(H:Hp)(a:Addr)(xs:List V):Prop:=
 Rd H a (.tup xs)∨
  ∃(o:Obj) (jJ:Array Value) (n:Nat),K.lookup a=some o/\o.cls=.type "tuple"/\o.data=.seq jJ n/\jJ.size<=xg/\Zu xs jJ.toList
noncomputable def absV:Value->Option V
 | .none=>some .non
 | .bool b=>some (.bl b)
 | .int i _=>some (.int i)
 | .str x _=>some (.str x)
 | .bytes b _=>some (.byt b)
 | .float b _=>some (.flt b)
 | .ref a=>some (.ref a)
 | .type n=>some (.ty n)
 | _=>none
theorem ZC.abs {x:V}{u:Value}(r:ZC x u):absV u=some x:=by
 cases x with
 | non=>cases r;rfl
 | bl _=>cases r;rfl
 | int _=>obtain⟨t,rfl⟩:=r;rfl
 | str _=>obtain⟨t,rfl⟩:=r;rfl
 | byt _=>obtain⟨t,rfl⟩:=r;rfl
 | flt _=>obtain⟨t,rfl⟩:=r;rfl
 | ref _=>cases r;rfl
 | ty _=>cases r;rfl
theorem ZC.inj {x y:V}{u:Value}(r:ZC x u)(q:ZC y u):x=y:=zv (r.abs.symm.trans q.abs)
theorem Zu.inj:∀{xs ys:List V} {us:List Value},Zu xs us->Zu ys us->xs=ys
 | _,_,_,.nil,.nil=>rfl
 | _,_,_,.cons r t,.cons r' t'=>by rw[r.inj r',Zu.inj t t']
section
variable {X:Cx}{jH:Qb}{σ:St}{H:Hp}{s:Shared}{a:Addr}{xs ys:List V}
theorem Zy.of {K:qj}(h:H a=some (.lst xs)):Zy K H a xs:=.inl (.inl h)
theorem ZK.of {K:qj}(h:H a=some (.tup xs)):ZK K H a xs:=.inl (.inl h)
theorem Inv.list (I:Inv X jH σ H s)(h:Zy X.K H a xs):∃jJ:List Value,Zu xs jJ/\PlainL s.heap a jJ.toArray/\xs.length<=xg:=by
 rcases h with h | ⟨o,jJ,n,hk,hc,hd,hs,hz,r⟩
 ·obtain⟨z,jJ,n,r,e⟩:=h.ok I.hok
  exact⟨jJ,r,⟨_,n,e,rfl,rfl,rfl⟩,z⟩
 ·refine⟨jJ.toList,r,⟨o,n,I.kIn a o hk,hc,hd,by simpa using hs⟩,?_⟩
  have e:=r.length;simp only[qE]at e;omega
theorem Inv.tuple (I:Inv X jH σ H s)(h:ZK X.K H a xs):∃jJ:List Value,Zu xs jJ/\IsTup s.heap a jJ.toArray/\xs.length<=xg:=by
 rcases h with h | ⟨o,jJ,n,hk,hc,hs,hz,r⟩
 ·obtain⟨z,jJ,r,p⟩:=h.ok I.hok
  exact⟨jJ,r,p,z⟩
 ·refine⟨jJ.toList,r,⟨o,I.kIn a o hk,hc,n,by simpa using hs⟩,?_⟩
  have e:=r.length;simp only[qE]at e;omega
theorem Inv.list_inj (I:Inv X jH σ H s)(h:Zy X.K H a xs)(h':Zy X.K H a ys):xs=ys:=by
 obtain⟨jJ,r,⟨o,n,e,_,_,d⟩,_⟩:=I.list h;obtain⟨its',r',⟨o',n',e',_,_,d'⟩,_⟩:=I.list h';rw[e]at e';cases e';rw[d]at d';injection d' with d1 _;have:jJ=its':=by simpa using congrArg qcY d1
 subst this;exact r.inj r'
theorem Inv.tuple_inj (I:Inv X jH σ H s)(h:ZK X.K H a xs)(h':ZK X.K H a ys):xs=ys:=by
 obtain⟨jJ,r,⟨o,e,_,n,d⟩,_⟩:=I.tuple h;obtain⟨its',r',⟨o',e',_,n',d'⟩,_⟩:=I.tuple h';rw[e]at e';cases e';rw[d]at d';injection d' with d1 _;have:jJ=its':=by simpa using congrArg qcY d1
 subst this;exact r.inj r'
end
noncomputable abbrev Cx.wish (X:Cx)(E:xE):Cx:={ X with xe:=E }
noncomputable abbrev Cx.nox (X:Cx):Cx:=X.wish λ_ _=>False
theorem Cx.Ok.wish {X:Cx}(ok:X.Ok)(E:xE):(X.wish E).Ok:=
 ⟨ok.mod,ok.kind,ok.glob,ok.blt,ok.above,ok.inj,ok.has,ok.cab,ok.hd,ok.frames,ok.stk,ok.exf,ok.bs,ok.bsz,ok.noex,ok.exfs,ok.funs,ok.frf⟩
theorem Cx.Ok.unwish {X:Cx}{E:xE}(ok:(X.wish E).Ok):X.Ok:=
 ⟨ok.mod,ok.kind,ok.glob,ok.blt,ok.above,ok.inj,ok.has,ok.cab,ok.hd,ok.frames,ok.stk,ok.exf,ok.bs,ok.bsz,ok.noex,ok.exfs,ok.funs,ok.frf⟩
section
variable {X:Cx}{jH:Qb}{σ:St}{H:Hp}{s:Shared}{E:xE}
theorem Inv.wish (I:Inv X jH σ H s)(E:xE):Inv (X.wish E) jH σ H s:=⟨I.ok.wish E,I.os,I.bare,I.base,I.loc,I.cell,I.free,I.freeC,I.pin,I.hok,I.len⟩
theorem Inv.unwish (I:Inv (X.wish E) jH σ H s):Inv X jH σ H s:=⟨I.ok.unwish,I.os,I.bare,I.base,I.loc,I.cell,I.free,I.freeC,I.pin,I.hok,I.len⟩
theorem SP.unwish {D:Ends}{f:Flow}{s':Shared}(h:SP (X.wish E) jH D f s'):SP X jH D f s':=by
 cases f with
 | next=>obtain⟨σ',H',I,q⟩:=h;exact⟨σ',H',I.unwish,q⟩
 | brk=>obtain⟨σ',H',I,q⟩:=h;exact⟨σ',H',I.unwish,q⟩
 | cont=>obtain⟨σ',H',I,q⟩:=h;exact⟨σ',H',I.unwish,q⟩
 | ret u=>obtain⟨v,σ',H',I,r,q⟩:=h;exact⟨v,σ',H',I.unwish,r,q⟩
theorem PE.nox {e:Expr}{t:TE}(h:PE X.nox e t):PE X e t:=λjH s σ H Q I hw=>
 xc (h jH s σ H Q (I.wish _) hw) (λ_ _ ⟨v,H',I',r,q⟩=>⟨v,H',I'.unwish,r,q⟩) λ_ _ z=>yw z
theorem X2.nox {st:List Stmt}{t:TS}(h:X2 X.nox st t):X2 X st t:=λjH s σ H D I hw=>
 xc (h jH s σ H D (I.wish _) hw) (λ_ _ q=>q.unwish) λ_ _ z=>yw z
end
section
variable {X:Cx}{st:Stmt}{rest:List Stmt}{t u:TS}{e:Expr}{te:TE}{pos:Pos}
noncomputable def Zjb:TS:=λD σ H=>D.nx σ H
noncomputable def Vd (t u:TS):TS:=λD σ H=>t { D with nx:=u D } σ H
theorem ZdR:X2 X [] Zjb:=λ_ _ σ H _ I h=>wpAny_execs_nil ⟨σ,H,I,h⟩
theorem WD (h1:PS X st t)(h2:X2 X rest u):X2 X (st::rest) (Vd t u):=by
 intro jH s σ H D I h;refine wpAny_execs_cons (ZD (h1 jH s σ H { D with nx:=u D } I h) λf s1 q=>?_)
 cases f with
 | next=>
  obtain⟨σ',H',I',q⟩:=q;exact h2 jH s1 σ' H' D I' q
 | ret v=>exact q
 | brk=>exact q
 | cont=>exact q
theorem U2 (h1:PS X st t):X2 X [st] t:=by
 intro jH s σ H D I h;refine wpAny_execs_cons (ZD (h1 jH s σ H D I h) λf s1 q=>?_)
 cases f with
 | next=>exact wpAny_execs_nil q
 | ret v=>exact q
 | brk=>exact q
 | cont=>exact q
theorem Inv.quiet {jH:Qb}{σ:St}{H:Hp}{s:Shared}(I:Inv X jH σ H s):interactive X.env=false:=by simp[interactive,I.ok.kind]
noncomputable def VY (te:TE):TS:=λD σ H=>te σ H λ_ H1=>D.nx σ H1
theorem ZdS (he:PE X e te)(hs:xr e none pos.line X.env=pure false:=by rfl):PS X (.Expr e pos) (VY te):=by
 intro jH s σ H D I h;exact wpAny_Expr_any (ZD (he jH s σ H _ I h) λv s1 ⟨x,H1,I1,r1,q1⟩=>⟨σ,H1,I1,q1⟩) I.quiet hs
noncomputable def tRet (te:TE):TS:=λD σ H=>te σ H D.rt
theorem U9 (he:PE X e te):PS X (.Return (some e) pos) (tRet te):=by
 intro jH s σ H D I h;exact wpAny_Return_some (ZD (he jH s σ H _ I h) λv s1 ⟨x,H1,I1,r1,q1⟩=>⟨x,σ,H1,I1,r1,q1⟩)
noncomputable def tIfS (c:TT)(t u:TS):TS:=λD σ H=>c σ H λb H1=>if b=true then t D σ H1 else u D σ H1
theorem Zjc {c:Expr}{a b:List Stmt}{tc:TT}(hc:PT X c tc)(ha:X2 X a t)(hb:X2 X b u):PS X (.If c a b pos) (tIfS tc t u):=by
 intro jH s σ H D I h;refine wpAny_If (ZD (hc jH s σ H _ I h) λd s1 ⟨H1,I1,q1⟩=>?_)
 cases d with
 | true=>exact ha jH s1 σ H1 D I1 q1
 | false=>exact hb jH s1 σ H1 D I1 q1
end
noncomputable abbrev TG:=V->St->Hp->(St->Hp->Prop)->Prop
noncomputable abbrev UL:=List V->St->Hp->(St->Hp->Prop)->Prop
noncomputable def PG (X:Cx)(target:Expr)(t:TG):Prop:=
 ∀(jH:Qb) (s:Shared) (σ:St) (H:Hp) (v:V) (u:Value) (Q:St->Hp->Prop),Inv X jH σ H s->ZC v u->t v σ H Q->
  xf (xA X.prog X.w) X.A (assign target X.env u) (λ_ s'=>∃σ' H',Inv X jH σ' H' s'/\Q σ' H') X.xe s
noncomputable def BK (X:Cx)(ts:List Expr)(t:UL):Prop:=
 ∀(jH:Qb) (s:Shared) (σ:St) (H:Hp) (vs:List V) (us:List Value) (Q:St->Hp->Prop),Inv X jH σ H s->Zu vs us->t vs σ H Q->
  xf (xA X.prog X.w) X.A (assignInOrder ((assignEach ts X.env).map (·.2)) us) (λ_ s'=>∃σ' H',Inv X jH σ' H' s'/\Q σ' H') X.xe s
noncomputable abbrev BA:=V->V->V->Hp->(Hp->Prop)->Prop
noncomputable def PSet (X:Cx)(t:BA):Prop:=
 ∀(jH:Qb) (s:Shared) (σ:St) (H:Hp) (o i v:V) (ov iv u:Value) (Q:Hp->Prop),Inv X jH σ H s->ZC o ov->ZC i iv->ZC v u->t o i v H Q->
  xf (xA X.prog X.w) X.A (setItem ov iv u) (λ_ s'=>∃H',Inv X jH σ H' s'/\Q H') X.xe s
noncomputable abbrev TIp:=V->V->Hp->VK->Prop
noncomputable def PIp (X:Cx)(op:Operator)(t:TIp):Prop:=
 ∀(jH:Qb) (s:Shared) (σ:St) (H:Hp) (x y:V) (v u:Value) (Q:VK),Inv X jH σ H s->ZC x v->ZC y u->t x y H Q->
  xf (xA X.prog X.w) X.A (inplaceOp op v u) (EP X jH σ Q) X.xe s
section
variable {X:Cx}{pos:Pos}
noncomputable def WV (i:Nat):TG:=λv σ H Q=>Q (σ.set i (some v)) H
theorem Uq {i:Nat}{x:Str}(hN:X.N.Nodup)(hi:X.N[i]?=some x)(hx:W6 X.env.scope x)(hf:X.fn x=true∨X.env.scope.names.lookup x=some .local:=by first | exact .inl rfl | exact .inr rfl | assumption):PG X (.Name x pos) (WV i):=by
 intro jH s σ H v u Q I r h;exact wpAny_assign_Name (ZaS I hN hi hx r (λs' I'=>⟨_,H,I',h⟩) hf)
noncomputable def gNil:UL:=λvs σ H Q=>vs=[]/\Q σ H
noncomputable def Zjd (t:TG)(u:UL):UL:=λvs σ H Q=>∃v r,vs=v::r/\t v σ H fun σ' H'=>u r σ' H' Q
theorem ZgP:BK X [] gNil:=by
 intro jH s σ H vs us Q I r h;obtain⟨e,h⟩:=h;subst e
 cases r
 exact assignInOrder_nil ⟨σ,H,I,h⟩
theorem ZaT {e:Expr}{es:List Expr}{t:TG}{u:UL}(h1:PG X e t)(h2:BK X es u)
  (hs:(assignEach (e::es) X.env).map (·.2)=assign e X.env::(assignEach es X.env).map (·.2):=by rfl):BK X (e::es) (Zjd t u):=by
 intro jH s σ H vs us Q I r h;obtain⟨v,vr,e1,h⟩:=h;subst e1
 cases r with
 | cons r rr=>
  rw[hs];refine assignInOrder_cons (ZD (h1 jH s σ H _ _ _ I r h) λ_ s1 ⟨σ1,H1,I1,q1⟩=>?_);exact h2 jH s1 σ1 H1 _ _ Q I1 rr q1
noncomputable def gTup (K:qj)(n:Nat)(t:UL):TG:=λv σ H Q=>∃a xs,v=.ref a/\ZK K H a xs/\xs.length=n/\t xs σ H Q
theorem ZmQ {es:List Expr}{k:Nat}{t:UL}{n:Nat}(hc:X.calm=true)(h:BK X es t)
  (hn:(assignEach es X.env).length=n:=by rfl) (hst:(assignEach es X.env).findIdx? (·.1)=none:=by rfl):PG X (.Tuple es k pos) (gTup X.K n t):=by
 intro jH s σ H v u Q I r hw;obtain⟨a,xs,e1,hq,hl,hw⟩:=hw;subst e1
 cases r
 obtain⟨jJ,rv,ht,hz⟩:=I.tuple hq;refine assign_Tuple_tuple (I.ok.hd hc) ht (by simp[hn,<-hl,rv.length]) hst λh' hx=>?_;have I1:Inv X jH σ H { s with heap:=h' }:=I.kept (t':=s.toks) λb o e=>hx b o (qT (qH e)) e;exact h jH _ σ H xs _ Q I1 (by simpa using rv) hw
noncomputable def gSub (to ti:TE)(t:BA):TG:=λv σ H Q=>to σ H λo H1=>ti σ H1 λi H2=>t o i v H2 λH3=>Q σ H3
theorem Zje {o i:Expr}{to ti:TE}{t:BA}(ho:PE X o to)(hi:PE X i ti)(hs:PSet X t)
  (ha:∀v,assign (.Subscript o i pos) X.env v=(do
   let ov<-holding [v] (eval o X.env)
   let iv<-holding [v,ov] (eval i X.env)
   standAt pos
   holding [v,ov,iv] (setItem ov iv v)
   release [v,ov,iv] []):=by intro _;rfl):PG X (.Subscript o i pos) (gSub to ti t):=by
 intro jH s σ H v u Q I r h;rw[ha];refine xa (xu (ZD (ho jH s σ H _ I h) λov s1 ⟨x,H1,I1,r1,q1⟩=>?_));refine xa (xu (ZD (hi jH s1 σ H1 _ I1 q1) λiv s2 ⟨y,H2,I2,r2,q2⟩=>?_));refine xa (wpAny_standAt (xa (xu (ZD (hs jH s2 σ H2 x y v ov iv u _ I2 r1 r2 r q2) λ_ s3 ⟨H3,I3,q3⟩=>?_))));exact wpAny_release ⟨σ,H3,I3,q3⟩
noncomputable def V2 (te:TE)(g:TG):TS:=λD σ H=>te σ H λx H1=>g x σ H1 D.nx
theorem ZfO {tg e:Expr}{te:TE}{g:TG}(he:PE X e te)(hg:PG X tg g)(hs:swapsWithSole [tg] e pos.line X.env=pure false:=by rfl)(hw:swappedStores [tg] e X.env=pure none:=by rfl)
  (h1:(assignEach [tg] X.env).map (·.2)=[assign tg X.env]:=by rfl):PS X (.Assign [tg] e pos) (V2 te g):=by
 intro jH s σ H D I h;refine wpAny_Assign_stores (ZD (he jH s σ H _ I h) λv s1 ⟨x,H1,I1,r1,q1⟩=>?_) hs hw;rw[h1];exact ZD (hg jH s1 σ H1 x v _ I1 r1 q1) λ_ s2 q=>q
theorem Uw {i:Nat}{x:Str}{e:Expr}{te:TE}{pos':Pos}(hN:X.N.Nodup)(hi:X.N[i]?=some x)(hx:W6 X.env.scope x)(he:PE X e te)(hs:xr e (some (.Name x pos')) pos.line X.env=pure false:=by rfl)(hf:X.fn x=true∨X.env.scope.names.lookup x=some .local:=by first | exact .inl rfl | exact .inr rfl | assumption) :
  PS X (.Assign [.Name x pos'] e pos) (V2 te (WV i)):=by
 intro jH s σ H D I h;refine wpAny_Assign_Name (ZD (he jH s σ H _ I h) λv s1 ⟨y,H1,I1,r1,q1⟩=>?_) hs;exact ZaS I1 hN hi hx r1 (λs2 I2=>⟨_,H1,I2,q1⟩) hf
noncomputable def tPar (i j:Nat)(ta:TA):TS:=λD σ H=>ta σ H λvs H1=>∃v w,vs=[v,w]/\D.nx ((σ.set i (some v)).set j (some w)) H1
theorem ZmR {i j:Nat}{x y:Str}{a b:Expr}{ta:TA}{px py pt:Pos}{kt k2 pt2}(hc:X.calm=true)(hN:X.N.Nodup)(hi:X.N[i]?=some x)(hj:X.N[j]?=some y)(hij:i≠j)
  (hx:X.env.scope.names.lookup x=some .local) (hy:X.env.scope.names.lookup y=some .local) (ha:PA X [a,b] ta)
  (hw:swappedStores [.Tuple [.Name x px,.Name y py] kt pt] (.Tuple [a,b] k2 pt2) X.env=pure (some [x,y]))
  (hs:swapsWithSole [.Tuple [.Name x px,.Name y py] kt pt] (.Tuple [a,b] k2 pt2) pos.line X.env=pure false:=by rfl) :
  PS X (.Assign [.Tuple [.Name x px,.Name y py] kt pt] (.Tuple [a,b] k2 pt2) pos) (tPar i j ta):=by
 intro jH s σ H D I h;rw[exec_Assign_arm];refine xa (wpAny_standAt ?_);rw[hs];refine xa (xb ?_);rw[if_neg (by decide)];refine xa (Tuple_ (ZD (ha _ jH s σ H _ I h) λus s1 ⟨vs,H1,I1,r1,q1⟩=>?_));obtain⟨v,w,e1,q1⟩:=q1;subst e1;obtain⟨u1,u2,rfl,rv,rw'⟩:∃u1 u2,us=[u1,u2]/\ZC v u1/\ZC w u2:=by
  cases r1 with
  | cons p q=>
   cases q with
   | cons p' q'=>
    cases q'
    exact⟨_,_,rfl,p,p'⟩
 refine xl ?_ (by show 2<=xg;decide);have I2:Inv X jH σ H1 { s1 with heap:=s1.heap.push { cls:=.type "tuple",data:=.seq [u1,u2].toArray } }:=I1.kept (t':=s1.toks) λb o e=>qd _ e;rw[hw];refine xa (xb ?_);show xf (xA X.prog X.w) X.A (do rule "assign.swapped-stores";let items<-unpackItems (.ref s1.heap.objs.size) 2 none;assignInOrder [λv=>bindName X.env y v,λv=>bindName X.env x v] items.reverse;pure Flow.next) _ _ _;refine xa (wpAny_rule (xa (unpackItems_tuple (items:=#[u1,u2]) (I.ok.hd hc) (qcz s1.heap _) λh' hx'=>?_)));have I3:=I2.kept (h':=h') (t':=s1.toks) λb o e=>hx' b o (qT (qH e)) e;show xf _ _ (assignInOrder [λv=>bindName X.env y v,λv=>bindName X.env x v] [u2,u1] >>= λ_=>pure Flow.next) _ _ _;refine xa (assignInOrder_cons (wpAny_bindName (ZaS I3 hN hj (.inl hy) rw' (λs2 I4=>?_) (.inr hy))));refine assignInOrder_cons (wpAny_bindName (ZaS I4 hN hi (.inl hx) rv (λs3 I5=>assignInOrder_nil (xb ?_)) (.inr hx)));rw[List.set_comm _ _ (zD hij)]at I5;exact⟨_,H1,I5,q1⟩
noncomputable def Zn0 (to ti te:TE)(tget:V->V->Hp->VK->Prop)(tip:TIp)(tset:BA):TS:=λD σ H=>to σ H λo H1=>ti σ H1 λi H2=>tget o i H2 λx H3=>te σ H3 λy H4=>tip x y H4 λz H5=>tset o i z H5 λH6=>D.nx σ H6
noncomputable def PGet (X:Cx)(t:V->V->Hp->VK->Prop):Prop:=
 ∀(jH:Qb) (s:Shared) (σ:St) (H:Hp) (o i:V) (ov iv:Value) (Q:VK),Inv X jH σ H s->ZC o ov->ZC i iv->t o i H Q->
  xf (xA X.prog X.w) X.A (getItem ov iv) (EP X jH σ Q) X.xe s
theorem ZkZ {o i e:Expr}{to ti te:TE}{tget:V->V->Hp->VK->Prop}{tip:TIp}{tset:BA}{op:Operator}{tpos:Pos}(ho:PE X o to)(hi:PE X i ti)(hg:PGet X tget)(he:PE X e te)(hp:PIp X op tip)(hs:PSet X tset)
  (ha:∀ov iv new,augStore i ov iv new=(do holding [new,ov,iv] (setItem ov iv new);release [new,ov,iv] [];pure .next):=by intros;rfl):PS X (.AugAssign (.Subscript o i tpos) op e pos) (Zn0 to ti te tget tip tset):=by
 intro jH s σ H D I h;refine wpAny_AugAssign_SubscriptAny (ZD (ho jH s σ H _ I h) λov s1 ⟨x1,H1,I1,r1,q1⟩=>?_) ha;refine ZD (hi jH s1 σ H1 _ I1 q1) λiv s2 ⟨x2,H2,I2,r2,q2⟩=>?_;refine ZD (hg jH s2 σ H2 x1 x2 ov iv _ I2 r1 r2 q2) λold s3 ⟨x3,H3,I3,r3,q3⟩=>?_;refine ZD (he jH s3 σ H3 _ I3 q3) λv s4 ⟨x4,H4,I4,r4,q4⟩=>?_;refine ZD (hp jH s4 σ H4 x3 x4 old v _ I4 r3 r4 q4) λnew s5 ⟨x5,H5,I5,r5,q5⟩=>?_;exact ZD (hs jH s5 σ H5 x1 x2 x5 ov iv new _ I5 r1 r2 r5 q5) λ_ s6 ⟨H6,I6,q6⟩=>⟨σ,H6,I6,q6⟩
noncomputable def ipI (f:Int->Int->Int):TIp:=λx y H Q=>∃i j,x=.int i/\y=.int j/\Q (.int (f i j)) H
theorem ZmS:PIp X .Add (ipI λi j=>i+j):=by
 intro jH s σ H x y v u Q I r1 r2 h;obtain⟨i,j,e1,e2,q⟩:=h;subst e1;subst e2;obtain⟨t,rfl⟩:=r1;obtain⟨t',rfl⟩:=r2;exact iadd_int ⟨.int _,H,I.tok _,⟨_,rfl⟩,q⟩
end
section
variable {X:Cx}{pos:Pos}
end
structure It where
 go:Nat->Hp->Prop
 yld:Nat->Hp->V->Hp->Prop
 stop:Nat->Hp->Prop
noncomputable def Wg (X:Cx)(jH:Qb)(H:Hp)(b:Addr):Prop:=
 H b=none/\b≠X.env.locals/\b∉X.fs/\(b∈X.ex∨X.s₀.heap.objs.size<=b)/\(∀x c,X.env.cells.lookup x=some c->c≠b)/\∀p∈X.pn++jH,p.1≠b
theorem Inv.fpOk {X:Cx}{jH:Qb}{σ:St}{H H':Hp}{s:Shared}{b:Addr}(I:Inv X jH σ H s)(hb:s.heap.objs.size<=b)(hn:H' b=none):Wg X jH H' b:=by
 refine⟨hn,qaY (zh I.lt hb),I.nofs hb,.inr (zC I.sz hb),λx c e z=>?_,λp hp z=>?_⟩
 ·obtain⟨v,q⟩:=I.cell x c e
  exact absurd (zh q.lt (by rw[z];exact hb)) (yL _)
 ·exact absurd (zh (qH (I.pin p hp).1) (by rw[z];exact hb)) (yL _)
structure Turn (P:xC)(w:World)(K:qj)(tg:Expr)(J:It)(fp:List Addr)(it:Addr)(tn:Nat->Heap->Prop):Prop where
 mem:it∈fp
 obj:∀i h,tn i h->∀b∈fp,∃o,h.get? b=some o/\∀v,o.data≠.cell v
 keep:∀i h h',tn i h->(∀b∈fp,∀o,h.get? b=some o->h'.get? b=some o)->tn i h'
 item:∀(X:Cx),X.prog=P->X.w=w->X.K=K->X.calm=true->∀(i:Nat) (jH:Qb) (s:Shared) (σ:St) (H:Hp) (E:xE),Inv X jH σ H s->(∀b∈fp,Wg X jH H b)->tn i s.heap->J.go i H->
  xf (xA P w) X.A (pyNext (.ref it)) (λr s1=>∃u,r=some u/\
   xf (xA P w) X.A (letOwnedTupleGo tg (.ref it) u) (λ_ s2=>∃x H',Inv X jH σ H' s2/\ZC x u/\J.yld i H x H'/\tn (i+1) s2.heap/\∀b∈fp,H' b=none) E s1) E s
 done:∀(X:Cx),X.prog=P->X.w=w->X.K=K->X.calm=true->∀(i:Nat) (jH:Qb) (s:Shared) (σ:St) (H:Hp) (E:xE),Inv X jH σ H s->(∀b∈fp,Wg X jH H b)->tn i s.heap->J.stop i H->
  xf (xA P w) X.A (pyNext (.ref it)) (λr s1=>r=none/\Inv X jH σ H s1) E s
 self:∀(A:xD) (i:Nat) (s:Shared) (Q:xE) (E:xE),tn i s.heap->Q (.ref it) s->xf (xA P w) A (pyIter (.ref it)) Q E s
noncomputable abbrev TI:=St->Hp->(It->Hp->Prop)->Prop
noncomputable def PIE (X:Cx)(jH:Qb)(σ:St)(tg:Expr)(R:It->Hp->Prop)(itv:Value)(s2:Shared):Prop:=
 ∃(it:Addr) (fp:List Addr) (tn:Nat->Heap->Prop) (J:It) (H':Hp),itv=.ref it/\Inv X jH σ H' s2/\Turn X.prog X.w X.K tg J fp it tn/\tn 0 s2.heap/\(∀b∈fp,Wg X jH H' b)/\R J H'
noncomputable def PI (X:Cx)(tg iter:Expr)(wi:TI):Prop:=
 ∀(jH:Qb) (s:Shared) (σ:St) (H:Hp) (R:It->Hp->Prop),Inv X jH σ H s->wi σ H R->
  xf (xA X.prog X.w) X.A (eval iter X.env) (λv s1=>xf (xA X.prog X.w) X.A (pyIter v) (PIE X jH σ tg R) X.xe s1) X.xe s
theorem Zjf {M : Model}{A : xD}{E : Value -> Shared -> Prop}{s : Shared}{tg : Expr}{it : Addr}{u : Value}{o : Obj}{n : String}{vs : Array Value}{Q : Unit -> Shared -> Prop}(ho : s.heap.get? it = some o)(hc : o.cls = .type n)(hd : o.data = .fields vs)
    (hn : ["enumerate", "zip", "dict_itemiterator", "dict_reverseitemiterator", "odict_iterator", "itertools.zip_longest", "itertools.pairwise"].contains n = false) (hQ : Q () s) : xf M A (letOwnedTupleGo tg (.ref it) u) Q E s := by
  unfold letOwnedTupleGo
  cases tg <;> first
    | exact xb hQ
    | (cases u <;> first
        | exact xb hQ
        | (refine xa (wpAny_load ho ?_)
           rw[hc, hd];show xf M A (if (["enumerate", "zip", "dict_itemiterator", "dict_reverseitemiterator", "odict_iterator", "itertools.zip_longest", "itertools.pairwise"].contains n && vs[0]? == some (rawInt _)) = true then _ else _) Q E s;rw[if_neg (by intro h; rw[hn, Bool.false_and] at h; cases h)];exact xb hQ))
noncomputable def Itl (K:qj)(a:Addr):It:=
 ⟨λi H=>∃xs x,Zy K H a xs/\xs[i]?=some x,λi H x H'=>H'=H/\∀xs,Zy K H a xs->xs[i]?=some x,λi H=>∃xs,Zy K H a xs/\xs.length<=i⟩
noncomputable def Itt (K:qj)(a:Addr):It:=
 ⟨λi H=>∃xs x,ZK K H a xs/\xs[i]?=some x,λi H x H'=>H'=H/\∀xs,ZK K H a xs->xs[i]?=some x,λi H=>∃xs,ZK K H a xs/\xs.length<=i⟩
noncomputable def BL (lo:Int)(n:Nat):It:=⟨λi _=>i<n,λi H x H'=>H'=H/\x=.int (lo+i),λi _=>n<=i⟩
theorem ZhP {P:xC}{w:World}{K:qj}{tg:Expr}(a it:Addr):Turn P w K tg (Itl K a) [it] it (λi h=>h.IsListIter it a i) where
 mem:=by simp
 obj:=λi h st b hb=>by
  have e:b=it:=by simpa using hb
  subst e;obtain⟨o,e,c,d⟩:=st;exact⟨o,e,λv z=>by rw[d]at z;cases z⟩
 keep:=λi h h' st k=>st.at λo e=>k it (by simp) o e
 item:=by
  intro X hP hw hK hc i jH s σ H E I hf st hg;subst hP hw hK;obtain⟨xs,x,hq,hx⟩:=hg;obtain⟨jJ,rv,p,hz⟩:=I.list hq;obtain⟨u,hu,ru⟩:=rv.get hx;obtain⟨f0,f1,f2,f3,f4,f5⟩:=hf it (by simp);refine wpAny_pyNext_list_item st p.isList (x:=u) (by simpa using hu) λh' st' sb=>?_;have I1:Inv X jH σ H { s with heap:=h' }:=I.turned (t':=s.toks) (λb o hb e=>(sb.2 b hb).trans e) f0 f1 f3 f4 f5;obtain⟨o,e,c,d⟩:=id st';exact⟨u,rfl,Zjf (s:={ s with heap:=h' }) e c d (by decide) ⟨x,H,I1,ru,⟨rfl,λys hy=>by rw[I.list_inj hy hq];exact hx⟩,st',λb hb=>(hf b hb).1⟩⟩
 done:=by
  intro X hP hw hK hc i jH s σ H E I hf st hg;subst hP hw hK;obtain⟨xs,hq,hx⟩:=hg;obtain⟨jJ,rv,p,hz⟩:=I.list hq;obtain⟨f0,f1,f2,f3,f4,f5⟩:=hf it (by simp);have hl:=rv.length;exact wpAny_pyNext_list_end (I.ok.hd hc) st p.isList (by simp;omega) λh' eb=>⟨rfl,I.turned (t':=s.toks) (λb o hb e=>eb b o hb e) f0 f1 f3 f4 f5⟩
 self:=λ_ _ _ _ _ st h=>wpAny_pyIter_listiter st h
theorem ZfP {P:xC}{w:World}{K:qj}{tg:Expr}(a it:Addr):Turn P w K tg (Itt K a) [it] it (λi h=>h.IsTupleIter it a i) where
 mem:=by simp
 obj:=λi h st b hb=>by
  have e:b=it:=by simpa using hb
  subst e;obtain⟨o,e,c,d⟩:=st;exact⟨o,e,λv z=>by rw[d]at z;cases z⟩
 keep:=λi h h' st k=>st.at λo e=>k it (by simp) o e
 item:=by
  intro X hP hw hK hc i jH s σ H E I hf st hg;subst hP hw hK;obtain⟨xs,x,hq,hx⟩:=hg;obtain⟨jJ,rv,p,hz⟩:=I.tuple hq;obtain⟨u,hu,ru⟩:=rv.get hx;obtain⟨f0,f1,f2,f3,f4,f5⟩:=hf it (by simp);refine wpAny_pyNext_tuple_item st (show s.heap.IsTuple a jJ.toArray from p) (x:=u) (by simpa using hu) λh' st' sb=>?_;have I1:Inv X jH σ H { s with heap:=h' }:=I.turned (t':=s.toks) (λb o hb e=>(sb.2 b hb).trans e) f0 f1 f3 f4 f5;obtain⟨o,e,c,d⟩:=id st';exact⟨u,rfl,Zjf (s:={ s with heap:=h' }) e c d (by decide) ⟨x,H,I1,ru,⟨rfl,λys hy=>by rw[I.tuple_inj hy hq];exact hx⟩,st',λb hb=>(hf b hb).1⟩⟩
 done:=by
  intro X hP hw hK hc i jH s σ H E I hf st hg;subst hP hw hK;obtain⟨xs,hq,hx⟩:=hg;obtain⟨jJ,rv,p,hz⟩:=I.tuple hq;obtain⟨f0,f1,f2,f3,f4,f5⟩:=hf it (by simp);have hl:=rv.length;exact wpAny_pyNext_tuple_end (I.ok.hd hc) st (show s.heap.IsTuple a jJ.toArray from p) (by simp;omega) λh' eb=>⟨rfl,I.turned (t':=s.toks) (λb o hb e=>eb b o hb e) f0 f1 f3 f4 f5⟩
 self:=λ_ _ _ _ _ st h=>wpAny_pyIter_tupleiter st h
theorem ZfQ {P:xC}{w:World}{K:qj}{tg:Expr}(it:Addr)(lo:Int)(n:Nat):Turn P w K tg (BL lo n) [it] it (λi h=>IsRangeIter h it (lo+(i:Nat)*1) ((n:Int)-(i:Nat)) 1) where
 mem:=by simp
 obj:=λi h st b hb=>by
  have e:b=it:=by simpa using hb
  subst e;exact⟨_,st,λv z=>by
   have z':Data.fields _=Data.cell v:=z
   cases z'⟩
 keep:=λi h h' st k=>k it (by simp) _ st
 item:=by
  intro X hP hw hK hc i jH s σ H E I hf st hg;subst hP hw hK;obtain⟨f0,f1,f2,f3,f4,f5⟩:=hf it (by simp);have W:=Walks.range (prog:=X.prog) (w:=X.w) (I.ok.hd hc) it lo 1 n;refine W.item i s _ _ hg st λv h' tk hv st' kk=>?_;obtain⟨t,rfl⟩:=hv;have I1:Inv X jH σ H { s with heap:=h',toks:=tk }:=I.turned (λb o hb e=>kk b o (by simpa using hb) e) f0 f1 f3 f4 f5;refine⟨_,rfl,Zjf (s:={ s with heap:=h',toks:=tk }) (n:="range_iterator") st' rfl rfl (by decide) ⟨.int (lo+i),H,I1,⟨t,?_⟩,⟨rfl,rfl⟩,st',λb hb=>(hf b hb).1⟩⟩;rw[Int.mul_one]
 done:=by
  intro X hP hw hK hc i jH s σ H E I hf st hg;subst hP hw hK;obtain⟨f0,f1,f2,f3,f4,f5⟩:=hf it (by simp);exact wpAny_pyNext_range_end (I.ok.hd hc) st (by have:n<=i:=hg;omega) λh' eb=>⟨rfl,I.turned (t':=s.toks) (λb o hb e=>eb b o hb e) f0 f1 f3 f4 f5⟩
 self:=λ_ _ _ _ _ st h=>wpAny_pyIter_rangeiter st h
section
variable {X:Cx}{tg:Expr}
noncomputable def Zjg (K:qj)(tl:TE):TI:=fun σ H R=>tl σ H λx H1=>∃a,x=.ref a/\(∃xs,Zy K H1 a xs)/\R (Itl K a) H1
noncomputable def iTup (K:qj)(tl:TE):TI:=fun σ H R=>tl σ H λx H1=>∃a,x=.ref a/\(∃xs,ZK K H1 a xs)/\R (Itt K a) H1
theorem ZdT {l:Expr}{tl:TE}(hl:PE X l tl):PI X tg l (Zjg X.K tl):=by
 intro jH s σ H R I h;refine ZD (hl jH s σ H _ I h) λv s1 ⟨x,H1,I1,r1,q1⟩=>?_;obtain⟨a,e,⟨xs,hq⟩,q⟩:=q1;subst e
 cases r1
 obtain⟨jJ,rv,p,hz⟩:=I1.list hq;refine wpAny_pyIter_list p.isList ?_;refine⟨s1.heap.objs.size,[s1.heap.objs.size],_,_,H1,rfl,I1.kept (t':=s1.toks) λb o e=>qd _ e,ZhP a _,⟨_,qw _ rfl,rfl,rfl⟩,λb hb=>?_,q⟩;have e:b=s1.heap.objs.size:=by simpa using hb
 subst e;exact I1.fpOk (qk _) (I1.hok.fresh (qk _))
theorem ZmT {l:Expr}{tl:TE}(hl:PE X l tl):PI X tg l (iTup X.K tl):=by
 intro jH s σ H R I h;refine ZD (hl jH s σ H _ I h) λv s1 ⟨x,H1,I1,r1,q1⟩=>?_;obtain⟨a,e,⟨xs,hq⟩,q⟩:=q1;subst e
 cases r1
 obtain⟨jJ,rv,p,hz⟩:=I1.tuple hq;refine wpAny_pyIter_tuple (show s1.heap.IsTuple a jJ.toArray from p) ?_;refine⟨s1.heap.objs.size,[s1.heap.objs.size],_,_,H1,rfl,I1.kept (t':=s1.toks) λb o e=>qd _ e,ZfP a _,⟨_,qw _ rfl,rfl,rfl⟩,λb hb=>?_,q⟩;have e:b=s1.heap.objs.size:=by simpa using hb
 subst e;exact I1.fpOk (qk _) (I1.hok.fresh (qk _))
theorem Zez {jH:Qb}{σ:St}{H:Hp}{s:Shared}{R:It->Hp->Prop}{E:xE}{lo hi:Int}{t u v:Tok}{tk:Nat}(I:Inv X jH σ H s)(h1:-(2 ^ 62)<=lo)(h2:lo<2 ^ 62)(h3:-(2 ^ 62)<=hi)(h4:hi<2 ^ 62)
  (q:R (BL lo (hi-lo).toNat) H):xf (xA X.prog X.w) X.A (pyIter (.ref s.heap.objs.size)) (PIE X jH σ tg R) E { s with heap:=s.heap.push { cls:=.type "range",data:=.fields #[.int lo t,.int hi u,.int 1 v] },toks:=tk }:=by
 refine wpAny_pyIter_range (IsRange.new ..) (small_one h1 h2 h3 h4) ?_;have I1:Inv X jH σ H { s with heap:=s.heap.push { cls:=.type "range",data:=.fields #[.int lo t,.int hi u,.int 1 v] },toks:=tk }:=I.kept λb o e=>qd _ e;refine⟨(s.heap.push { cls:=.type "range",data:=.fields #[.int lo t,.int hi u,.int 1 v] }).objs.size,[(s.heap.push { cls:=.type "range",data:=.fields #[.int lo t,.int hi u,.int 1 v] }).objs.size],_,_,H,rfl,
  I1.kept (t':=tk) λb o e=>qd _ e,ZfQ _ lo (hi-lo).toNat,?_,λb hb=>?_,q⟩
 ·have e1:lo+((0:Nat):Int)*1=lo:=by simp
  have e2:(((hi-lo).toNat:Nat):Int)-((0:Nat):Int)=qct lo hi 1:=by rw[rangeSize_one];split <;> omega
  show IsRangeIter _ _ (lo+((0:Nat):Int)*1) ((((hi-lo).toNat:Nat):Int)-((0:Nat):Int)) 1;rw[e1,e2];exact qw _ rfl
 ·have e:b=(s.heap.push { cls:=.type "range",data:=.fields #[.int lo t,.int hi u,.int 1 v] }).objs.size:=by simpa using hb
  subst e;exact I1.fpOk (qk _) (I1.hok.fresh (qk _))
noncomputable def Zn1 (ta:TA):TI:=fun σ H R=>ta σ H λvs H1=>∃j:Int,vs=[.int j]/\-(2 ^ 62)<=j/\j<2 ^ 62/\R (BL 0 j.toNat) H1
noncomputable def Zn2 (ta:TA):TI:=fun σ H R=>ta σ H λvs H1=>∃i j:Int,vs=[.int i,.int j]/\(-(2 ^ 62)<=i/\i<2 ^ 62/\-(2 ^ 62)<=j/\j<2 ^ 62)/\R (BL i (j-i).toNat) H1
theorem Zdd {a:Expr}{ta:TA}{p pos:Pos}(hg:Gl X "range")(hm:X.mg "range" = none)(ha:PA X [a] ta)(hs:xh [a] X.env=[(false,eval a X.env)]:=by rfl):PI X tg (.Call (.Name "range" p) [a] [] pos) (Zn1 ta):=by
 intro jH s σ H R I h;refine Call_ (Uv I hg hm boot_range (yq (ZD (ha pos jH s σ H _ I h) λus s1 ⟨vs,H1,I1,r1,q1⟩=>?_) hs rfl));obtain⟨j,e,q1,q2,q⟩:=q1;subst e
 cases r1 with
 | cons r rr=>
  cases rr
  obtain⟨t,rfl⟩:=r;exact call_range_1 (Zez I1 (by omega) (by omega) q1 q2 (by simpa using q))
theorem ZhQ {a b:Expr}{ta:TA}{p pos:Pos}(hg:Gl X "range")(hm:X.mg "range" = none)(ha:PA X [a,b] ta)(hs:xh [a,b] X.env=[(false,eval a X.env),(false,eval b X.env)]:=by rfl)(hs2:xh [b] X.env=[(false,eval b X.env)]:=by rfl) :
  PI X tg (.Call (.Name "range" p) [a,b] [] pos) (Zn2 ta):=by
 intro jH s σ H R I h;refine Call_ (Uv I hg hm boot_range (yq (ZD (ha pos jH s σ H _ I h) λus s1 ⟨vs,H1,I1,r1,q1⟩=>?_) (by rw[hs,hs2]) (by rw[hs2];rfl)));obtain⟨i,j,e,⟨q1,q2,q3,q4⟩,q⟩:=q1;subst e
 cases r1 with
 | cons r rr=>
  cases rr with
  | cons r' rr=>
   cases rr
   obtain⟨t,rfl⟩:=r;obtain⟨t',rfl⟩:=r';exact call_range_2 (Zez I1 q1 q2 q3 q4 q)
noncomputable def tFor (wi:TI)(g:TG)(tb:TS):TS:=λD σ H=>wi σ H λJ H1=>∃W:Nat->Nat->St->Hp->Prop,(∃m,W 0 m σ H1)/\∀i m σ H,W i m σ H->
 (J.stop i H/\D.nx σ H)∨(J.go i H/\∃N:St->Hp->Prop,(∀σ' H',N σ' H'->∃m',m'<m/\W (i+1) m' σ' H')/\∀x H',J.yld i H x H'->g x σ H' fun σ2 H2=>tb { D with nx:=N,ct:=N,bk:=D.nx } σ2 H2)
noncomputable def Bg (fp:List Addr)(h:Heap):Qb:=fp.filterMap λb=>(h.get? b).map λo=>(b,o)
theorem JG {fp:List Addr}{h:Heap}{b:Addr}{o:Obj}(hb:b∈fp)(e:h.get? b=some o):(b,o)∈Bg fp h:=qaP.mpr ⟨b,hb,by rw[e];rfl⟩
theorem ZhR {fp:List Addr}{h:Heap}{p:Addr×Obj}(hp:p∈Bg fp h):p.1∈fp/\h.get? p.1=some p.2:=by
 obtain⟨b,hb,e⟩:=qaP.mp hp
 cases q:h.get? b with
 | none=>rw[q]at e;cases e
 | some o=>
  rw[q]at e;have e':(b,o)=p:=zv e;subst e';exact⟨hb,q⟩
theorem Inv.pinned {jH:Qb}{σ:St}{H:Hp}{s:Shared}{fp:List Addr}(I:Inv X jH σ H s)(hf:∀b∈fp,Wg X jH H b)(ho:∀b∈fp,∃o,s.heap.get? b=some o/\∀v,o.data≠.cell v):Inv X (jH++Bg fp s.heap) σ H s:=
 I.pins_of λp hp=>(qO.mp hp).elim (λz=>I.pin p (zx _ z)) λz=>by
  obtain⟨hb,e⟩:=ZhR z;obtain⟨f0,f1,f2,_⟩:=hf p.1 hb;obtain⟨o,e',d⟩:=ho p.1 hb;rw[e]at e';cases e';exact⟨e,f0,f1,f2,d⟩
theorem Inv.unpinned {jH pl:Qb}{σ:St}{H:Hp}{s:Shared}(I:Inv X (jH++pl) σ H s):Inv X jH σ H s:=I.pins_of λp hp=>I.pin p (zx _ (qax _ hp))
theorem Zjh {iter:Expr}{body:List Stmt}{wi:TI}{g:TG}{tb:TS}{pos:Pos}(hp:PassesOwn (xA X.prog X.w) X.A X.env X.xe)(hc:X.calm=true)(hi:PI X tg iter wi)(hg:PG X tg g)(hb:X2 X body tb)
  (hs:∀x,foldedSetIterable iter X.env x=pure x:=by intro _;rfl):PS X (.For tg iter body [] pos) (tFor wi g tb):=by
 intro jH s σ H D I h;refine wpAny_For (ZD (hi jH s σ H _ I h) λv s1 h1=>ZD h1 λitv s2 h2=>?_) hs;obtain⟨it,fp,tn,J,H2,e,I2,T,jV,f2,W,⟨m0,w0⟩,turn⟩:=h2;subst e
 -- what stays true of the iterator's objects through the loop
 have stat:∀{H':Hp},(∀b∈fp,H' b=none)->∀b∈fp,Wg X jH H' b:=λhn b hb=>⟨hn b hb,(f2 b hb).2⟩;refine codeAny_forLoop_any (λn s'=>∃i σ' H',Inv X jH σ' H' s'/\tn i s'.heap/\(∀b∈fp,H' b=none)/\W i n σ' H') ?_ m0 ⟨0,σ,H2,I2,jV,λb hb=>(f2 b hb).1,w0⟩;rintro n s3 ⟨i,σ3,H3,I3,st3,fr3,w3⟩;rcases turn i n σ3 H3 w3 with⟨stop,qn⟩ | ⟨go,N,hN,step⟩
 ·refine wpAny_passesOwn hp (ZD (T.done X rfl rfl rfl hc i jH s3 σ3 H3 X.xe I3 (stat fr3) st3 stop) λr s4 ⟨hr,I4⟩=>?_)
  subst hr;exact wpAny_execs_nil ⟨σ3,H3,I4,qn⟩
 ·refine wpAny_passesOwn hp (ZD (T.item X rfl rfl rfl hc i jH s3 σ3 H3 X.xe I3 (stat fr3) st3 go) λr s4 ⟨u,hr,h4⟩=>?_)
  subst hr;refine wpAny_passesOwn hp (ZD h4 λ_ s5 ⟨x,H5,I5,r5,y5,st5,fr5⟩=>?_);have I5':=I5.pinned (stat fr5) (T.obj _ _ st5);refine wpAny_passesOwn hp (ZD (hg _ s5 σ3 H5 x u _ I5' r5 (step x H5 y5)) λ_ s6 ⟨σ6,H6,I6,q6⟩=>?_);refine wpAny_passesOwn hp (ZD (hb _ s6 σ6 H6 _ I6 q6) λf s7 q7=>?_);have again:∀{σ7:St} {H7:Hp},Inv X (jH++Bg fp s5.heap) σ7 H7 s7->N σ7 H7->∃m,m<n/\∃i σ' H',Inv X jH σ' H' s7/\tn i s7.heap/\(∀b∈fp,H' b=none)/\W i m σ' H':=λ{σ7 H7} I7 n7=>by
   obtain⟨m',hm,w7⟩:=hN σ7 H7 n7;refine⟨m',hm,i+1,σ7,H7,I7.unpinned,T.keep _ _ _ st5 λb hb o e=>(I7.pin (b,o) (zx _ (zx _ (JG hb e)))).1,λb hb=>?_,w7⟩;obtain⟨o,e,d⟩:=T.obj _ _ st5 b hb;exact(I7.pin (b,o) (zx _ (zx _ (JG hb e)))).2.1
  cases f with
  | next=>obtain⟨σ7,H7,I7,n7⟩:=q7;exact again I7 n7
  | cont=>obtain⟨σ7,H7,I7,n7⟩:=q7;exact again I7 n7
  | brk=>obtain⟨σ7,H7,I7,q7⟩:=q7;exact⟨σ7,H7,I7.unpinned,q7⟩
  | ret v=>obtain⟨x7,σ7,H7,I7,r7,q7⟩:=q7;exact⟨x7,σ7,H7,I7.unpinned,r7,q7⟩
end
noncomputable abbrev R2:=V->V->Hp->VK->Prop
noncomputable def Yj (X:Cx)(f:Value->Value->Sem Value)(r:R2):Prop:=
 ∀(jH:Qb) (s:Shared) (σ:St) (H:Hp) (x y:V) (v u:Value) (Q:VK),Inv X jH σ H s->ZC x v->ZC y u->r x y H Q->
  xf (xA X.prog X.w) X.A (f v u) (EP X jH σ Q) X.xe s
noncomputable def XO (X:Cx)(f:Value)(r:List V->Hp->VK->Prop):Prop:=
 ∀(jH:Qb) (s:Shared) (σ:St) (H:Hp) (xs:List V) (us:List Value) (Q:VK),Inv X jH σ H s->Zu xs us->r xs H Q->
  xf (xA X.prog X.w) X.A (call f us) (EP X jH σ Q) X.xe s
noncomputable def Yn (r:R2)(ta tb:TE):TE:=fun σ H Q=>ta σ H λx H1=>tb σ H1 λy H2=>r x y H2 Q
noncomputable def rI (C:Int->Int->Prop)(g:Int->Int->V):R2:=λx y H Q=>∃i j,x=.int i/\y=.int j/\C i j/\Q (g i j) H
noncomputable def Y9 (g:Int->Int->V):R2:=λx y H Q=>∃i j,x=.int i/\y=.int j/\Q (g i j) H
section
variable {X:Cx}{a b c:Expr}{ta tb tc:TE}{pos:Pos}
theorem binT (ha:PE X a ta)(hb:PE X b tb){jH:Qb}{s:Shared}{σ:St}{H:Hp}{R:V->V->Hp->Prop}(I:Inv X jH σ H s)
  (h:ta σ H λx H1=>tb σ H1 λy H2=>R x y H2) {Q:xE} {f:Value->Value->Sem Value}
  (hf:∀v u s2 x y H2,Inv X jH σ H2 s2->ZC x v->ZC y u->R x y H2->xf (xA X.prog X.w) X.A (f v u) Q X.xe s2) :
  xf (xA X.prog X.w) X.A (eval a X.env) (λv s₁=>xf (xA X.prog X.w) X.A (eval b X.env) (λu s₂=>xf (xA X.prog X.w) X.A (f v u) Q X.xe s₂) X.xe s₁) X.xe s:=by
 refine ZD (ha jH s σ H _ I h) λv s1 ⟨x,H1,I1,r1,q1⟩=>?_;refine ZD (hb jH s1 σ H1 _ I1 q1) λu s2 ⟨y,H2,I2,r2,q2⟩=>?_;exact hf v u s2 x y H2 I2 r1 r2 q2
theorem YT {op:Operator}{r:R2}(ho:Yj X (binaryOp op) r)(ha:PE X a ta)(hb:PE X b tb):PE X (.BinOp a op b pos) (Yn r ta tb):=by
 intro jH s σ H Q I h;exact wpAny_BinOp (binT ha hb I h λv u s2 x y H2 I2 rx ry q=>ho jH s2 σ H2 x y v u Q I2 rx ry q)
theorem opI {f:Value->Value->Sem Value}{C:Int->Int->Prop}{g:Int->Int->Int}
  (rule:∀(i j:Int) (t u:Tok) (s:Shared) (Q:xE) (E:xE),C i j->Q (.int (g i j) s.toks) { s with toks:=s.toks+1 }->xf (xA X.prog X.w) X.A (f (.int i t) (.int j u)) Q E s) :
  Yj X f (rI C λi j=>.int (g i j)):=by
 intro jH s σ H x y v u Q I rx ry h;obtain⟨i,j,rfl,rfl,hc,q⟩:=h;obtain⟨t,rfl⟩:=rx;obtain⟨t',rfl⟩:=ry;exact rule i j t t' s _ _ hc ⟨.int (g i j),H,I.tok _,⟨_,rfl⟩,q⟩
theorem opI0 {f:Value->Value->Sem Value}{g:Int->Int->Int}
  (rule:∀(i j:Int) (t u:Tok) (s:Shared) (Q:xE) (E:xE),Q (.int (g i j) s.toks) { s with toks:=s.toks+1 }->xf (xA X.prog X.w) X.A (f (.int i t) (.int j u)) Q E s) :
  Yj X f (Y9 λi j=>.int (g i j)):=by
 intro jH s σ H x y v u Q I rx ry h;obtain⟨i,j,rfl,rfl,q⟩:=h;obtain⟨t,rfl⟩:=rx;obtain⟨t',rfl⟩:=ry;exact rule i j t t' s _ _ ⟨.int (g i j),H,I.tok _,⟨_,rfl⟩,q⟩
theorem opB0 {f:Value->Value->Sem Value}{g:Int->Int->Bool}
  (rule:∀(i j:Int) (t u:Tok) (s:Shared) (Q:xE) (E:xE),Q (.bool (g i j)) s->xf (xA X.prog X.w) X.A (f (.int i t) (.int j u)) Q E s) :
  Yj X f (Y9 λi j=>.bl (g i j)):=by
 intro jH s σ H x y v u Q I rx ry h;obtain⟨i,j,rfl,rfl,q⟩:=h;obtain⟨t,rfl⟩:=rx;obtain⟨t',rfl⟩:=ry;exact rule i j t t' s _ _ ⟨.bl (g i j),H,I,rfl,q⟩
noncomputable def CDiv (i j:Int):Prop:=0<j/\j<1073741824
noncomputable def CPow (i j:Int):Prop:=0<=j/\j<=1000000/\i.natAbs<2 ^ 64
noncomputable def VA (i j:Int):Prop:=(-(2 ^ 64)<i/\i<2 ^ 64)∨(-(2 ^ 64)<j/\j<2 ^ 64)
theorem VA.ok {i j:Int}(h:VA i j):IntMulOk i j:=by
 rcases h with⟨h1,h2⟩ | ⟨h1,h2⟩
 ·exact .of_left (intBits_le_64 h1 h2)
 ·exact .of_right (intBits_le_64 h1 h2)
theorem VT:Yj X (binaryOp .Add) (Y9 λi j=>.int (i+j)):=opI0 λ_ _ _ _ _ _ _ q=>add_int q
theorem ZmU:Yj X (binaryOp .Sub) (Y9 λi j=>.int (i-j)):=opI0 λ_ _ _ _ _ _ _ q=>sub_int q
theorem Ux:Yj X (binaryOp .Mult) (rI VA λi j=>.int (i*j)):=opI λ_ _ _ _ _ _ _ hc q=>mul_int q hc.ok
theorem ZgQ:Yj X (binaryOp .FloorDiv) (rI CDiv λi j=>.int (i / j)):=opI λi j _ _ _ _ _ hc q=>by
 have h1:(0:Int)<j:=hc.1;have h2:j<1073741824:=hc.2;exact floordiv_int (by omega) (by rw[Int.fdiv_eq_ediv_of_nonneg i (by omega)];exact q) (.inl (PyProof.noPylong_small (by omega)))
theorem VU:Yj X (binaryOp .Mod) (rI (λ_ j=>0<j) λi j=>.int (i % j)):=opI λi j _ _ _ _ _ hc q=>by
 have h1:(0:Int)<j:=hc;exact mod_int' (by omega) (by rw[Int.fmod_eq_emod_of_nonneg i (by omega)];exact q)
theorem ZmV:Yj X (binaryOp .Pow) (rI CPow λi j=>.int (i ^ j.toNat)):=opI λ_ _ _ _ _ _ _ hc q=>pow_int_small hc.1 hc.2.1 hc.2.2 q
end
section
variable {X:Cx}{a b c:Expr}{ta tb tc:TE}{pos:Pos}
theorem Zmc:Yj X (xk .Lt) (Y9 λi j=>.bl (decide (i<j))):=opB0 λ_ _ _ _ _ _ _ q=>lt_int q
theorem Zn3:Yj X (xk .LtE) (Y9 λi j=>.bl (decide (i<=j))):=opB0 λ_ _ _ _ _ _ _ q=>le_int q
theorem Zji:Yj X (xk .Gt) (Y9 λi j=>.bl (decide (j<i))):=opB0 λ_ _ _ _ _ _ _ q=>gt_int q
theorem Zn4:Yj X (xk .GtE) (Y9 λi j=>.bl (decide (j<=i))):=opB0 λ_ _ _ _ _ _ _ q=>ge_int q
theorem Yj.or {f:Value->Value->Sem Value}{r r':R2}(h:Yj X f r)(h':Yj X f r'):Yj X f (λx y H Q=>r x y H Q∨r' x y H Q):=by
 intro jH s σ H x y v u Q I rx ry q;rcases q with q | q
 ·exact h jH s σ H x y v u Q I rx ry q
 ·exact h' jH s σ H x y v u Q I rx ry q
theorem Ja (b:Expr){op:CmpOp}(h:op≠.In:=by decide)(h2:op≠.NotIn:=by decide):behindInMarks op b=false:=by
 have e1:(op==CmpOp.In)=false:=by cases op <;> first | rfl | exact absurd rfl h
 have e2:(op==CmpOp.NotIn)=false:=by cases op <;> first | rfl | exact absurd rfl h2
 cases b <;> simp[behindInMarks,e1,e2]
theorem Zk0 {op:CmpOp}{r:R2}(ho:Yj X (xk op) r)(ha:PE X a ta)(hb:PE X b tb)(hm:behindInMarks op b=false):PE X (.Compare a [op] [b] pos) (Yn r ta tb):=by
 intro jH s σ H Q I h;exact wpAny_Compare1 (binT ha hb I h λv u s2 x y H2 I2 rx ry q=>ho jH s2 σ H2 x y v u Q I2 rx ry q) hm
noncomputable def Bp (t:TE):TT:=fun σ H Q=>t σ H λx H'=>∃k,x=.bl k/\Q k H'
theorem JX {op:CmpOp}{r:R2}(ho:Yj X (xk op) r)(ha:PE X a ta)(hb:PE X b tb)(hm:behindInMarks op b=false):PT X (.Compare a [op] [b] pos) (Bp (Yn r ta tb)):=by
 intro jH s σ H Q I h;refine wpAny_isTrue_Compare1 (ZD (ha jH s σ H _ I h) λv s1 ⟨x,H1,I1,r1,q1⟩=>ZD (hb jH s1 σ H1 _ I1 q1) λu s2 ⟨y,H2,I2,r2,q2⟩=>
  ZD (ho jH s2 σ H2 x y v u _ I2 r1 r2 q2) λc s3 ⟨z,H3,I3,r3,k,e,q3⟩=>?_) hm
 subst e
 cases r3
 exact wpAny_truthy_bool ⟨H3,I3,q3⟩
theorem Bh:(xg:Nat)<2 ^ 63:=by rw[sizeLine_eq];decide
theorem Va {x:V}{us:List Value}(r:Zu [x] us):∃u,us=[u]/\ZC x u:=by
 cases r with
 | cons r1 r2=>cases r2;exact⟨_,rfl,r1⟩
theorem Zmd {x y:V}{us:List Value}(r:Zu [x,y] us):∃u w',us=[u,w']/\ZC x u/\ZC y w':=by
 cases r with
 | cons r1 r2=>
  cases r2 with
  | cons r3 r4=>cases r4;exact⟨_,_,rfl,r1,r3⟩
theorem ZhS (hc:X.calm=true):XO X (.builtin "max") (λxs H Q=>∃i j,xs=[.int i,.int j]/\Q (.int (if j > i then j else i)) H):=by
 intro jH s σ H xs us Q I r h;obtain⟨i,j,rfl,q⟩:=h;obtain⟨u,w',rfl,⟨t,rfl⟩,⟨t',rfl⟩⟩:=Zmd r;refine max_two_ints (I.ok.hd hc) λh' tk k=>⟨_,H,I.kept k,?_,q⟩;by_cases hj:j > i
 ·rw[if_pos hj,if_pos hj];exact⟨_,rfl⟩
 ·rw[if_neg hj,if_neg hj];exact⟨_,rfl⟩
theorem ZhT (hc:X.calm=true):XO X (.builtin "min") (λxs H Q=>∃i j,xs=[.int i,.int j]/\Q (.int (if j<i then j else i)) H):=by
 intro jH s σ H xs us Q I r h;obtain⟨i,j,rfl,q⟩:=h;obtain⟨u,w',rfl,⟨t,rfl⟩,⟨t',rfl⟩⟩:=Zmd r;refine min_two_ints (I.ok.hd hc) λh' tk k=>⟨_,H,I.kept k,?_,q⟩;by_cases hj:j<i
 ·rw[if_pos hj,if_pos hj];exact⟨_,rfl⟩
 ·rw[if_neg hj,if_neg hj];exact⟨_,rfl⟩
end
section
variable {prog:xC}{w:World}{A:xD}{E:xE}{s:Shared}{K:qj}{x dx C f:Addr}{mA:Str->Option Value}{name:Str}{v:Value}
end
theorem jB {v:V}{o:Option Value}(r:UF (some v) o):∃u,o=some u/\ZC v u:=by
 cases o with
 | none=>exact(show False from r).elim
 | some u=>exact⟨u,rfl,r⟩
section
variable {P:xC}{w:World}{H H':Hp}{h h':Heap}{a C dx:Addr}{fs fs':List (Str×V)}
end
section
variable {X:Cx}{jH:Qb}{σ:St}{H:Hp}{s:Shared}{a C dx:Addr}{fs:List (Str×V)}{f:Str}{v:V}{A:xD}{E:xE}
end
section
variable {X:Cx}{o e value:Expr}{f:Str}{pos pos' tpos:Pos}{ta tv:TE}
end
section
variable {X:Cx}{jH:Qb}{σ:St}{H:Hp}{s:Shared}{A:xD}{E:xE}{Q:xE}{c:Value}{b:Bool}
end
structure Room (k:Nat)(A:xD):Prop where
 hd:A.handled=none
 dp:A.depth+3*k+5<recursionLimit
 un:A.units+16*k+200<cLine
 gd:A.guards=some []
theorem Room.mono {j k:Nat}{A:xD}(r:Room k A)(h:j<=k):Room j A:=⟨r.hd,by have:=r.dp;omega,by have:=r.un;omega,r.gd⟩
theorem Room.deeper {k:Nat}{A:xD}(r:Room (k+1) A)(env:Env):Room k (A.deeper env):=
 ⟨r.hd,by have:=r.dp;show A.depth+1+3*k+5<_;omega,by have:=r.un;show A.units+3+16*k+200<_;omega,r.gd⟩
theorem Room.depth {k:Nat}{A:xD}(r:Room k A):A.depth<recursionLimit:=by have:=r.dp;omega
theorem Room.units {k:Nat}{A:xD}(r:Room k A):A.units+64<cLine:=by have:=r.un;omega
theorem Room.units0 {k:Nat}{A:xD}(r:Room k A):A.units<cLine:=by have:=r.un;omega
noncomputable def VB:TA:=λ_ H Q=>Q [] H
noncomputable def Vz (ta:TE)(tr:TA):TA:=fun σ H Q=>ta σ H λx H1=>tr σ H1 λxs H2=>Q (x::xs) H2
section
variable {X:Cx}{e:Expr}{es:List Expr}{te:TE}{t:TA}{pos:Pos}
theorem Xv:PA X [] VB:=λ_ _ _ _ H Q I h=>Calls.spliced_nil ⟨[],H,I,.nil,h⟩
theorem Y5 (ha:PE X e te)(hr:PA X es t)(hs:xh (e::es) X.env=(false,eval e X.env)::xh es X.env:=by rfl):PA X (e::es) (Vz te t):=by
 intro pos jH s σ H Q I h;rw[hs];show xf _ _ (spliced ((false,eval e X.env)::backTo pos (xh es X.env))) _ _ s;refine Calls.spliced_cons (ZD (ha jH s σ H _ I h) λu s1 ⟨x,H1,I1,r1,q1⟩=>?_);exact ZD (hr pos jH s1 σ H1 _ I1 q1) λus s2 ⟨xs,H2,I2,r2,q2⟩=>⟨x::xs,H2,I2,.cons r1 r2,q2⟩
noncomputable def tTup (t:TA):TE:=fun σ H Q=>t σ H λxs H1=>xs.length<=xg/\∀p,H1 p=none->Q (.ref p) (Zj H1 p (.tup xs))
noncomputable def tLst (t:TA):TE:=fun σ H Q=>t σ H λxs H1=>xs.length<=xg/\∀p,H1 p=none->Q (.ref p) (Zj H1 p (.lst xs))
theorem ZmW {x1}(h:PA X es t):PE X (.Tuple es x1 pos) (tTup t):=by
 intro jH s σ H Q I hq;refine wpAny_Tuple_spliced (ZD (h pos jH s σ H _ I hq) λus s1 ⟨xs,H1,I1,r,z,q⟩=>⟨by rw[<-r.length];exact z,?_⟩);have hf:H1 s1.heap.objs.size=none:=I1.hok.fresh (qk _);refine⟨.ref s1.heap.objs.size,Zj H1 s1.heap.objs.size (.tup xs),I1.laid (t':=s1.toks) (λb u e=>qd _ e) (qk _) ?_,rfl,q _ hf⟩;exact⟨z,us,r,⟨_,qw _ rfl,rfl,_,rfl⟩⟩
theorem ZmX (h:PA X es t):PE X (.List es pos) (tLst t):=by
 intro jH s σ H Q I hq;refine wpAny_List_spliced (ZD (h pos jH s σ H _ I hq) λus s1 ⟨xs,H1,I1,r,z,q⟩=>⟨by rw[<-r.length];exact z,?_⟩);have hf:H1 s1.heap.objs.size=none:=I1.hok.fresh (qk _);refine⟨.ref s1.heap.objs.size,Zj H1 s1.heap.objs.size (.lst xs),I1.laid (t':=s1.toks) (λb u e=>qd _ e) (qk _) ?_,rfl,q _ hf⟩;exact⟨z,us,0,r,qw _ rfl⟩
end
noncomputable abbrev Sp:=List V->Hp->VK->XK->Prop
noncomputable abbrev Xo:=List Env->Hp->Shared->XK->xE
structure Env0 (P:xC)(w:World)(K:qj)(mg:Str->Option Value)(base:Heap)(A:xD)(outer:List Env)(s:Shared)(H:Hp):Prop where
 frames:A.frames=some outer
 mod:Mod K mg base
 bs:∀b o,base.get? b=some o->s.heap.get? b=some o/\H b=none
 bsz:base.objs.size<=s.heap.objs.size
 funs:s.heap.FunFrames base outer
 frf:∀b∈Xy outer,H b=none
 hok:Yg P w H s.heap
 bare:AllBare s.gens
noncomputable def CE (outer:List Env)(P:xC)(w:World)(H:Hp)(s:Shared)(Q:VK)(u:Value)(s':Shared):Prop:=
 ∃v H',s'.os=s.os/\AllBare s'.gens/\Un (Xy outer) [] H H' s.heap s'.heap/\Yg P w H' s'.heap/\ZC v u/\Q v H'
noncomputable def CR (CX:Xo)(outer:List Env)(P:xC)(w:World)(H:Hp)(s:Shared)(Q:VK)(E:XK)(r:Result)(s':Shared):Prop:=
 match r with
 | .ok (.ret u)=>CE outer P w H s Q u s'
 | .ok _=>False
 | .error e=>CX outer H s E e s'
structure FnOk (P:xC)(w:World)(K:qj)(mg:Str->Option Value)(base:Heap)(CX:Xo)(k:Nat)(f:Addr)(fd:xB)(ps:List Str)(sp:Sp):Prop where
 len:∀vs H Q E,sp vs H Q E->vs.length=ps.length
 run:∀(A:xD) (outer:List Env) (s:Shared) (H:Hp) (args:Args) (us:List Value) (vs:List V) (Q:VK) (E:XK),Room k A->Env0 P w K mg base A outer s H->BindsTo s fd args (ps.zip us)->Zu vs us->sp vs H Q E->
  xo (xA P w) A (.call (.ref f) args) (CR CX outer P w H s Q E) s
theorem FnOk.mono {P:xC}{w:World}{K:qj}{mg:Str->Option Value}{base:Heap}{CX:Xo}{j k:Nat}{f:Addr}{fd:xB}{ps:List Str}{sp:Sp}(F:FnOk P w K mg base CX j f fd ps sp)(h:j<=k) :
  FnOk P w K mg base CX k f fd ps sp:=⟨F.len,λA outer s H args us vs Q E hr=>F.run A outer s H args us vs Q E (hr.mono h)⟩
theorem FnOk.imp {P:xC}{w:World}{K:qj}{mg:Str->Option Value}{base:Heap}{CX:Xo}{k:Nat}{f:Addr}{fd:xB}{ps:List Str}{sp sp':Sp}(F:FnOk P w K mg base CX k f fd ps sp)
  (h:∀vs H Q E,sp' vs H Q E->sp vs H Q E):FnOk P w K mg base CX k f fd ps sp':=
 ⟨λvs H Q E q=>F.len vs H Q E (h _ _ _ _ q),λA outer s H args us vs Q E hr he hb hv hs=>F.run A outer s H args us vs Q E hr he hb hv (h _ _ _ _ hs)⟩
section
variable {X:Cx}{jH:Qb}{σ:St}{H:Hp}{s s':Shared}
theorem Inv.env0 (I:Inv X jH σ H s):Env0 X.prog X.w X.K X.mg X.base X.A X.stack s H:=
 ⟨I.ok.frames,I.ok.mod,I.bs,zC I.ok.bsz I.sz,I.stack,I.stkFree,I.hok,I.bare⟩
theorem Inv.after {Q:VK}{u:Value}(I:Inv X jH σ H s)(h:CE X.stack X.prog X.w H s Q u s'):EP X jH σ Q u s':=by
 obtain⟨v,H',os,bare,un,hok,r,q⟩:=h;obtain⟨hh,g,d,t,os'⟩:=s';obtain rfl:os'=s.os:=os;exact⟨v,H',I.call (h':=hh) (g':=g) (d':=d) (t':=t) (ch:=[]) un hok bare (λb z=>absurd z (by simp)),r,q⟩
end
noncomputable def Zn5 (sp:Sp)(dvs:List V)(E:XK)(t:TA):TE:=fun σ H Q=>t σ H λvs H1=>sp (vs++dvs) H1 Q E
noncomputable def Wd (K:qj)(fd:xB)(ps:List Str)(ds:List Value):Prop:=
 ∀(s:Shared) (us:List Value),K.In s.heap->(us++ds).length=ps.length->BindsTo s fd ⟨us,[]⟩ (ps.zip (us++ds))
theorem Wd.all {K:qj}{fd:xB}{ps:List Str}(h:∀us:List Value,us.length=ps.length->bindArgs fd ⟨us,[]⟩=pure (ps.zip us)):Wd K fd ps []:=λs us _ hl=>by
 rw[zB]at hl⊢;exact .of_eq (h us hl)
noncomputable def ZdU (CX:Xo)(X:Cx)(E:XK):Prop:=∀(jH:Qb) (σ:St) (H:Hp) (s:Shared) (e:Value) (s':Shared),Inv X jH σ H s->CX X.stack H s E e s'->X.xe e s'
section
variable {X:Cx}{CX:Xo}{k:Nat}{f C:Addr}{fd:xB}{ps:List Str}{sp:Sp}{dvs:List V}{ds:List Value}{E:XK}{x m:Str}{p pos apos:Pos}{e o:Expr}{es:List Expr}{ta:TE}{t:TA}
theorem Zjj {jH:Qb}{σ:St}{H:Hp}{s:Shared}{Q:VK}{us:List Value}{vs:List V}(F:FnOk X.prog X.w X.K X.mg X.base CX k f fd ps sp)(hr:Room k X.A)(hb:Wd X.K fd ps ds)(hd:Zu dvs ds)(hx:ZdU CX X E)
  (I:Inv X jH σ H s) (r:Zu vs us) (h:sp (vs++dvs) H Q E):xf (xA X.prog X.w) X.A (call (.ref f) us) (EP X jH σ Q) X.xe s:=by
 have r2:Zu (vs++dvs) (us++ds):=r.append hd;have hl:(us++ds).length=ps.length:=by rw[<-r2.length];exact F.len _ _ _ _ h
 refine xz (codeAny_mono (F.run X.A X.stack s H ⟨us,[]⟩ (us++ds) (vs++dvs) Q E hr I.env0 (hb s us I.kIn hl) r2 h) λr s' hq=>?_)
 cases r with
 | error e=>exact hx jH σ H s e s' I hq
 | ok fl=>
  cases fl with
  | ret u=>exact I.after hq
  | next=>exact yw hq
  | brk=>exact yw hq
  | cont=>exact yw hq
theorem ZgR (F:FnOk X.prog X.w X.K X.mg X.base CX k f fd ps sp)(hr:Room k X.A)(hg:Gl X x)(hm:X.mg x=some (.ref f))(hk:yW X.K (.ref f)=true)(hb:Wd X.K fd ps ds)(hd:Zu dvs ds)(hx:ZdU CX X E)
  (ha:PA X (e::es) t) (hdb:(x==("__debug__" : Str))=false:=by decide) (he:xh (e::es) X.env=(false,eval e X.env)::xh es X.env:=by rfl) (hpl:(backTo pos (xh es X.env)).any (·.1)=false:=by rfl) :
  PE X (.Call (.Name x p) (e::es) [] pos) (Zn5 sp dvs E t):=by
 intro jH s σ H Q I h;refine wpAny_Call_Name_kw (ZgN I hg hm ?_ hdb);refine PySem.W.callWith_K (h₀:=X.base) I.ok.mod.kin hk (ZD (ha pos jH s σ H _ I h) λus s1 ⟨vs,H1,I1,r,q⟩=>⟨I1.kIn,?_⟩) he hpl;exact Zjj F hr hb hd hx I1 r q
end
section
variable {X:Cx}{CX:Xo}{k:Nat}{f C:Addr}{fd:xB}{ps ks:List Str}{sp:Sp}{E:XK}{x m:Str}{p pos apos kpos:Pos}{e o:Expr}{es:List Expr}{kws:List Keyword}{te ta:TE}{t tk:TA}{nm:Option Str}
variable {g:List Value->List Value->List Value}{gV:List V->List V->List V}
end
structure FnScope (N P:List Str)(sc:Scope):Prop where
 kind:sc.kind=.function
 co:sc.isCoroutine=false
 gen:sc.isGenerator=false
 nd:N.Nodup
 pre:N.take P.length=P
 par:∀x∈P,sc.names.lookup x=some .local∨sc.names.lookup x=some .cell
 nofree:∀y∈sc.names,y.2≠.free
theorem Zde {kindOf:Str->Option NameKind}{x:Str}:∀{binds:List (Str×Value)} {m:Str->Option Value},(∀v,(x,v)∉binds)->bindL kindOf binds m x=m x
 | [],_,_=>rfl
 | (n,v)::r,m,h=>by
  unfold bindL;rw[Zde λw hw=>h w (qM _ hw)];split
  ·have:x≠n:=by rintro rfl;exact h v zK
   simp[this]
  ·rfl
theorem Zdf {kindOf:Str->Option NameKind}{x:Str}:∀{binds:List (Str×Value)} {m:Str->Option Value},(∀v,(x,v)∉binds)->bindC kindOf binds m x=m x
 | [],_,_=>rfl
 | (n,v)::r,m,h=>by
  unfold bindC;rw[Zdf λw hw=>h w (qM _ hw)];split
  ·rfl
  ·have:x≠n:=by rintro rfl;exact h v zK
   simp[this]
theorem Zdg {kindOf:Str->Option NameKind}{x:Str}{v:Value}:∀{P:List Str} {vs:List Value} {i:Nat} {m:Str->Option Value},P.Nodup->P[i]?=some x->vs[i]?=some v->kindOf x=some .local->
  bindL kindOf (P.zip vs) m x=some v
 | [],_,_,_,_,h,_,_=>by simp at h
 | _::_,[],_,_,_,_,h,_=>by simp at h
 | p::P,w::vs,0,m,nd,h1,h2,hk=>by
  simp at h1 h2;subst h1;subst h2;show bindL kindOf ((p,w)::P.zip vs) m p=_;unfold bindL;rw[Zde λv hv=>(zV.mp nd).1 (qao hv).1,if_pos hk];simp
 | p::P,w::vs,i+1,m,nd,h1,h2,hk=>by
  show bindL kindOf ((p,w)::P.zip vs) m x=_;unfold bindL;exact Zdg (i:=i) (zV.mp nd).2 (by simpa using h1) (by simpa using h2) hk
theorem Zdh {kindOf:Str->Option NameKind}{x:Str}{v:Value}:∀{P:List Str} {vs:List Value} {i:Nat} {m:Str->Option Value},P.Nodup->P[i]?=some x->vs[i]?=some v->kindOf x≠some .local->
  bindC kindOf (P.zip vs) m x=some v
 | [],_,_,_,_,h,_,_=>by simp at h
 | _::_,[],_,_,_,_,h,_=>by simp at h
 | p::P,w::vs,0,m,nd,h1,h2,hk=>by
  simp at h1 h2;subst h1;subst h2;show bindC kindOf ((p,w)::P.zip vs) m p=_;unfold bindC;rw[Zdf λv hv=>(zV.mp nd).1 (qao hv).1,if_neg hk];simp
 | p::P,w::vs,i+1,m,nd,h1,h2,hk=>by
  show bindC kindOf ((p,w)::P.zip vs) m x=_;unfold bindC;exact Zdh (i:=i) (zV.mp nd).2 (by simpa using h1) (by simpa using h2) hk
noncomputable def start (N:List Str)(vs:List V):St:=vs.map some++qB (N.length-vs.length) none
noncomputable def WJ (CX:Xo)(P:xC)(w:World)(K:qj)(mg:Str->Option Value)(base:Heap)(N:List Str)(qual:Str)(scope:Scope)(f:Addr)(cd:Value)(A:xD)(outer:List Env)(s:Shared)(H:Hp)(E:XK):Cx where
 prog:=P
 w:=w
 K:=K
 mg:=mg
 base:=base
 A:=A.deeper (envOfC qual scope s.heap.objs.size f cd)
 N:=N
 s₀:=s
 H₀:=H
 env:=envOfC qual scope s.heap.objs.size f cd
 outer:=outer
 stack:=envOfC qual scope s.heap.objs.size f cd::outer
 ex:=[]
 calm:=true
 fn:=λ_=>true
 pn:=[]
 xe:=λe s'=>xf (xA P w) (A.deeper (envOfC qual scope s.heap.objs.size f cd)) (leaving (envOfC qual scope s.heap.objs.size f cd) e) (λ_ s''=>CX outer H s E e s'') (λe' s''=>CX outer H s E e' s'') s'
theorem ZeA {sc:Scope}{n:Nat}{x:Str}(h:sc.names.lookup x=some .cell):∃c,(cellsFrom n sc.names []).lookup x=some c:=by
 have q:=qcA sc.names n [] (.inl h);exact yI.mp q
theorem ZhU {CX:Xo}{P:xC}{w:World}{K:qj}{mg:Str->Option Value}{base:Heap}{N ps:List Str}{qual:Str}{scope:Scope}{f:Addr}{cd:Value}{A:xD}{outer:List Env}{s s1:Shared}{H:Hp}{E:XK}{us:List Value}{vs:List V}
  (S:FnScope N ps scope) (hd:A.handled=none) (e0:Env0 P w K mg base A outer s H) (hl:vs.length=ps.length) (r:Zu vs us)
  (x:InCallC s s.heap.objs.size (bindL (envOfC qual scope s.heap.objs.size f cd).kindOf (ps.zip us) λ_=>none) (cellsFrom (s.heap.objs.size+1) scope.names []) (bindC (envOfC qual scope s.heap.objs.size f cd).kindOf (ps.zip us) λ_=>none) s1) :
  Inv (WJ CX P w K mg base N qual scope f cd A outer s H E) [] (start N vs) H s1:=by
 have hpl:ps.length<=N.length:=by have:=congrArg qak S.pre;rw[qV]at this;omega
 obtain⟨h1,tk,rfl,hk⟩:=x.done;have noA:∀b:Addr,b∉(WJ CX P w K mg base N qual scope f cd A outer s H E).ex:=λb z=>absurd (show b∈([]:List Addr)from z) (by simp);refine⟨⟨e0.mod,S.kind,rfl,rfl,qk _,λy z c h1 h2=>?_,λy hy=>?_,λy c _ h=>?_,λ_=>hd,qcK e0.frames,.inr ⟨rfl,rfl⟩,λb z=>absurd z (noA b),e0.bs,e0.bsz,λb _ _=>noA b,λb z=>absurd z (noA b),e0.funs,e0.frf⟩,
  rfl,e0.bare,Un.kept hk,⟨_,x.toInCall.ns,λi y v h1 h2 h3=>?_⟩,λy c h=>⟨_,x.cell y c h⟩,e0.hok.fresh (qk _),λy c h=>?_,λp hp=>absurd (show p∈([]:Qb)from hp) (by simp),e0.hok.kept hk,?_⟩
 ·exact name_of_addr x.apart (zZ h1) (zZ h2)
 ·have hy:scope.names.lookup y=some .cell∨scope.names.lookup y=some .free:=hy
  rcases hy with hy | hy
  ·exact ZeA hy
  ·exact absurd rfl (S.nofree _ (zZ hy))
 ·exact qci (x.above y c (zZ h))
 ·have hi:i<vs.length:=by
   unfold start at h2;by_cases hi:i<vs.length
   ·exact hi
   ·rw[zM (by simpa using hi)]at h2
    rw[yr]at h2;split at h2 <;> cases h2
  have ha:vs[i]?=some v:=by
   unfold start at h2;rw[zw (by simpa using hi),qu]at h2
   cases e:vs[i]? with
   | none=>rw[e]at h2;cases h2
   | some a=>rw[e]at h2;cases h2;rfl
  obtain⟨u,hu,rv⟩:=r.get ha;have hp:ps[i]?=some y:=by
   rw[<-S.pre,zX (by omega)];exact h1
  have ndP:ps.Nodup:=by rw[<-S.pre];exact S.nd.sublist (yB _ _)
  refine⟨u,rv,?_⟩;rcases S.par y (zq hp)with k | k
  ·exact .inl ⟨k,Zdg ndP hp hu k⟩
  ·obtain⟨c,e⟩:=ZeA (n:=s.heap.objs.size+1) k
   refine .inr ⟨.inl k,c,e,?_⟩;have q:=x.cell y c e;rw[Zdh ndP hp hu (by show scope.names.lookup y≠_;rw[k];decide)]at q;exact q
 ·exact e0.hok.fresh (qci (x.above y c (zZ h)))
 ·unfold start
  show _=N.length;rw[qJ,qf,qcD];omega
theorem Zme {CX:Xo}{P:xC}{w:World}{K:qj}{mg:Str->Option Value}{base:Heap}{k:Nat}{f:Addr}{name qual:Str}{params:Arguments}{body:List Stmt}{scope:Scope}{dV kV doc pm cdv ct oc:Value}{an od:Option Addr}
  {osl:Array (Option Value)} {N ps:List Str} {sp:Sp} (lk:K.lookup f=some ⟨oc,od,.func (y8 name qual params body scope dV kV doc pm an cdv ct),osl⟩) (hcd:qbs K cdv qual=true) (S:FnScope N ps scope)
  (len:∀vs H Q E,sp vs H Q E->vs.length=ps.length)
  (hbody:∀(A:xD) (outer:List Env) (s:Shared) (H:Hp) (vs:List V) (Q:VK) (E:XK),Room k (A.deeper (envOfC qual scope s.heap.objs.size f cdv))->sp vs H Q E->
   ∃t,X2 (WJ CX P w K mg base N qual scope f cdv A outer s H E) body t/\t { nx:=λ_ H'=>Q .non H',rt:=Q } (start N vs) H) :
  FnOk P w K mg base CX (k+1) f (y8 name qual params body scope dV kV doc pm an cdv ct) ps sp:=by
 refine⟨len,λA outer s H args us vs Q E hr e0 hb r hsp=>?_⟩;have hl:=len _ _ _ _ hsp;have KX:K.In s.heap:=e0.mod.kin.keeps λb o e=>(e0.bs b o e).1;have lim:s.heap.NoLimit:=e0.mod.nolimit.keeps λb o e=>(e0.bs b o e).1;have hkind:∀y∈ps.zip us,scope.names.lookup y.1=some .local∨(scope.names.lookup y.1=some .cell/\((cellsFrom (s.heap.objs.size+1) scope.names []).lookup y.1).isSome=true):=λ⟨n,v⟩ hy=>by
  rcases S.par n (qao hy).1 with q | q
  ·exact .inl q
  ·exact .inr ⟨q,qcA _ _ _ (.inl q)⟩
 refine codeAny_call_function hr.depth (KX _ _ lk) rfl S.co S.gen rfl (PySem.W.codeRec_of KX hcd) (hb _ _ _ _ ?_);refine wpAny_newFunctionEnv_cells S.kind hkind λenv he s1 x=>?_;subst he;refine⟨lim.keeps x.toInCall.keep,codeAny_func ?_⟩;obtain⟨t,ht,hq⟩:=hbody A outer s H vs Q E (hr.deeper _) hsp;have I:Inv (WJ CX P w K mg base N qual scope f cdv A outer s H E) [] (start N vs) H s1:=ZhU S hr.hd e0 hl r x;refine xc (ht [] s1 (start N vs) H _ I hq) (λfl s' hs=>?_) λe s' hs=>hs;have fin:∀{σ':St} {H':Hp} {v:V} {u:Value},Inv (WJ CX P w K mg base N qual scope f cdv A outer s H E) [] σ' H' s'->ZC v u->Q v H'->CE outer P w H s Q u s':=
  λ{σ' H' v u} J rv q=>⟨v,H',J.os,J.bare,J.base,J.hok,rv,q⟩
 cases fl with
 | ret u=>
  obtain⟨v,σ',H',J,rv,q⟩:=hs;exact fin J rv q
 | next=>
  obtain⟨σ',H',J,q⟩:=hs;exact fin (v:=V.non) (u:=zd) J rfl q
 | brk=>
  obtain⟨_,_,_,q⟩:=hs;exact yw q
 | cont=>
  obtain⟨_,_,_,q⟩:=hs;exact yw q
section
variable {X:Cx}{x:Str}{p pos:Pos}{e:Expr}{es:List Expr}{t:TA}{id T:String}{r:List V->Hp->VK->Prop}
noncomputable def tCB (r:List V->Hp->VK->Prop)(t:TA):TE:=fun σ H Q=>t σ H λvs H1=>r vs H1 Q
theorem ZaU (hc:XO X (.builtin id) r)(hg:Gl X x)(hm:X.mg x=none)(hv:xj x=some (.builtin id))(ha:PA X (e::es) t)(hn:x≠"__name__":=by decide)(hdb:(x==("__debug__" : Str))=false:=by decide)
  (he:xh (e::es) X.env=(false,eval e X.env)::xh es X.env:=by rfl) (hpl:(backTo pos (xh es X.env)).any (·.1)=false:=by rfl):PE X (.Call (.Name x p) (e::es) [] pos) (tCB r t):=by
 intro jH s σ H Q I h;refine wpAny_Call_Name_kw (Uv I hg hm hv ?_ hn hdb);exact PyProof.Rows.callWith_builtin1 (ZD (ha pos jH s σ H _ I h) λus s1 ⟨vs,H1,I1,r1,q1⟩=>hc jH s1 σ H1 vs us Q I1 r1 q1) he hpl
theorem Zbj (hc:XO X (.type T) r)(hg:Gl X x)(hm:X.mg x=none)(hv:xj x=some (.type T))(ha:PA X (e::es) t)(hn:x≠"__name__":=by decide)(hdb:(x==("__debug__" : Str))=false:=by decide)
  (he:xh (e::es) X.env=(false,eval e X.env)::xh es X.env:=by rfl) (hpl:(backTo pos (xh es X.env)).any (·.1)=false:=by rfl):PE X (.Call (.Name x p) (e::es) [] pos) (tCB r t):=by
 intro jH s σ H Q I h;refine wpAny_Call_Name_kw (Uv I hg hm hv ?_ hn hdb);exact yq (ZD (ha pos jH s σ H _ I h) λus s1 ⟨vs,H1,I1,r1,q1⟩=>hc jH s1 σ H1 vs us Q I1 r1 q1) he hpl
end
end L2
namespace HT
noncomputable def lexLt:List Int->List Int->Bool
 | [],[]=>false
 | [],_::_=>true
 | _::_,[]=>false
 | x::xs,y::ys=>if x=y then lexLt xs ys else decide (x<y)
theorem ZfR (x y:Int)(xs ys:List Int):lexLt (x::xs) (y::ys)=if x=y then lexLt xs ys else decide (x<y):=rfl
theorem Zc0:lexLt [] []=false:=rfl
theorem Zb9 (y:Int)(ys:List Int):lexLt [] (y::ys)=true:=rfl
theorem Zca (x:Int)(xs:List Int):lexLt (x::xs) []=false:=rfl
theorem Zjk (A:xD)(s:Shared)(a:Int)(t:Tok)(c:Int)(u:Tok):∃e,qa4 A s (.int a t) (.int c u) e/\(e=true↔a=c):=
 ⟨(a==c),qa4.int_int a t c u,by simp⟩
theorem Zjl (A:xD)(s:Shared)(a:Int)(t:Tok)(c:Int)(u:Tok)(prog:xC)(w:World)(E:xE)(Q:xE)(h:Q (.bool (decide (a<c))) s) :
  xf (xA prog w) A (richCompare .Lt (.int a t) (.int c u)) Q E s:=
 (PyProof.Rows.lt_int h:xf (xA prog w) A (xk .Lt (.int a t) (.int c u)) Q E s)
section
open PySem.SeqAt
open PySem.AutoSeq1 (wpAny_loadPart')
open PySem.MeetsSeq PySem.MeetsSeq2 PySem.MeetsSeq3
theorem Zc1 (l b:Addr)(items items2:Array Value)(n n2:Nat)(dd dd2:Option Addr)(sl sl2:Array (Option Value))(ns ms:List Int)(hi:IntsAre items.toList ns)(hj:IntsAre items2.toList ms) :
  Meets (Builtin.«tuple.__lt__» ⟨[.ref l,.ref b],[]⟩)
   (λ_ R s=>s.heap.get? l=some { cls:=.type "tuple",dict:=dd,data:=.seq items n,slots:=sl }/\s.heap.get? b=some { cls:=.type "tuple",dict:=dd2,data:=.seq items2 n2,slots:=sl2 }/\
    R (.ok (.ret (.bool (lexLt ns ms)))) s):=
 .of_wp λprog w A R s h=>by
  obtain⟨hp,g,d,tk,os⟩:=s;obtain⟨hl,hb,h⟩:=h;have f2:=qcj;have z1:items.size=ns.length:=by rw[<-hi.length];simp
  have z2:items2.size=ms.length:=by rw[<-hj.length];simp
  wp_walk using wpAny_loadPart' hl,wpAny_loadPart' hb,wpAny_forIn_list _ (λrest b s'=>b.1=none/\s'=⟨hp,g,d,tk,os⟩/\∃(vs ws:List Value) (ns' ms':List Int),rest=vs.zip ws/\
   IntsAre vs ns'/\IntsAre ws ms'/\ns'.length+items2.size=ms'.length+items.size/\R (.ok (.ret (.bool (lexLt ns' ms')))) ⟨hp,g,d,tk,os⟩) _
  case turn=>
   rintro⟨y,x⟩ rest b s' ⟨hb',rfl,vs,ws,ns',ms',hz,hvi,hwi,jQ,hR⟩
   cases hvi with
   | nil=>rw[List.zip_nil_left]at hz;cases hz
   | cons a t hvi'=>
    cases hwi with
    | nil=>rw[List.zip_nil_right]at hz;cases hz
    | cons c u hwi'=>
     rw[List.zip_cons_cons]at hz;injection hz with hyx hrest;injection hyx with hy hx;subst hy hx;rw[ZfR]at hR;simp only[qS]at jQ;obtain⟨e,he,hiff⟩:=Zjk A.in1 ⟨hp,g,d,tk,os⟩ a t c u;refine xa (he prog w _ _ ?_)
     cases e with
     | true=>
      rw[if_pos (hiff.mp rfl)]at hR
      wp_walk
      exact⟨rfl,rfl,_,_,_,_,hrest,hvi',hwi',by omega,hR⟩
     | false=>
      rw[if_neg (λq=>absurd (hiff.mpr q) yJ)]at hR;have hri:=Zjl A.in1 ⟨hp,g,d,tk,os⟩ a t c u prog w
      wp_walk using hri
      exact⟨_,rfl,by simpa using hR⟩
  case fin=>
   rintro⟨b1,b2⟩ s' ⟨hb',rfl,vs,ws,ns',ms',hz,hvi,hwi,jQ,hR⟩;simp only at hb';subst hb';have hv:lexLt ns' ms'=decide (items.size<items2.size):=by
    cases hvi with
    | nil=>
     cases hwi with
     | nil=>
      simp only[y9]at jQ;rw[Zc0];exact(decide_eq_false (by omega)).symm
     | cons c u hw=>
      simp only[y9,qS]at jQ;rw[Zb9];exact(decide_eq_true (by omega)).symm
    | cons a t hv=>
     cases hwi with
     | nil=>
      simp only[y9,qS]at jQ;rw[Zca];exact(decide_eq_false (by omega)).symm
     | cons c u hw=>
      rw[List.zip_cons_cons]at hz
      cases hz
   rw[hv]at hR
   wp_walk
   exact⟨_,rfl,by simpa[Builtin.Tuple.tupleCompareSizes]using hR⟩
  case h=>
   exact⟨rfl,rfl,items.toList,items2.toList,ns,ms,rfl,hi,hj,by omega,h⟩
end
section
variable {prog:xC}{w:World}{A:xD}{E:xE}{s:Shared}
theorem lt_tupInts {l b:Addr}{items items2:Array Value}{ns ms:List Int}{Q:xE}(hl:IsTup s.heap l items)(hb:IsTup s.heap b items2)(hi:IntsAre items.toList ns)(hj:IntsAre items2.toList ms)
  (hu:A.units<cLine) (h:Q (.bool (lexLt ns ms)) s):xf (xA prog w) A (xk .Lt (.ref l) (.ref b)) Q E s:=by
 obtain⟨⟨cls,dd,data,sl⟩,ho,hc,n,hd⟩:=id hl;obtain⟨⟨cls2,dd2,data2,sl2⟩,ho2,hc2,n2,hd2⟩:=id hb;simp only at hc hd hc2 hd2;subst hc hd hc2 hd2;exact richCompare_meets_room (op:=.Lt) ⟨_,ho,rfl⟩ ⟨_,ho2,rfl⟩ PySem.F.slot_tuple_lt PySem.F.entry_tuple_lt (PySem.F.args_tuple_lt_2 _ _) (Zc1 l b items items2 n n2 dd dd2 sl sl2 ns ms hi hj)
  ⟨ho,ho2,show yn (lexLt ns ms)≠qcL/\Q (.bool (lexLt ns ms)) s from⟨(λx=>nomatch x),h⟩⟩ hu
theorem cat_tup {t b:Addr}{vs ws:List Value}{Q:xE}(ht:IsTup s.heap t vs.toArray)(hb:IsTup s.heap b ws.toArray)(hv:vs≠[])
  (h1:ws=[]->Q (.ref t) s) (h2:ws≠[]->Q (.ref s.heap.objs.size) { s with heap:=s.heap.push { cls:=.type "tuple",data:=.seq (vs++ws).toArray } })
  (hsz:vs.length+ws.length<=xg):xf (xA prog w) A (binaryOp .Add (.ref t) (.ref b)) Q E s:=by
 obtain⟨⟨cls,dd,data,sl⟩,ho,hc,n,hd⟩:=id ht;obtain⟨⟨cls2,dd2,data2,sl2⟩,ho2,hc2,n2,hd2⟩:=id hb;simp only at hc hd hc2 hd2;subst hc hd hc2 hd2;have e:vs.toArray++ws.toArray=(vs++ws).toArray:=by simp
 by_cases hw:ws=[]
 ·exact concat_meets ⟨_,ho,rfl⟩ ⟨_,ho2,rfl⟩ noFill_tuple_add seq_tuple_add qbB qbu (qbl _ _)
   (tuple_addW1 t b vs.toArray ws.toArray n n2 dd dd2 sl sl2 (by simpa using hv) (by simp[hw])) ⟨ho,ho2,h1 hw⟩
 ·refine concat_meets ⟨_,ho,rfl⟩ ⟨_,ho2,rfl⟩ noFill_tuple_add seq_tuple_add qbB qbu (qbl _ _)
   (tuple_addW2 t b vs.toArray ws.toArray n n2 dd dd2 sl sl2 (by simpa using hv) (by simpa using hw) (by rw[qD,qD];exact hsz)) ⟨ho,ho2,?_⟩
  rw[e];exact h2 hw
noncomputable def sIx (n d:Nat):Option Int->Nat
 | none=>d
 | some v=>if v<0 then (v+(n:Int)).toNat else min v.toNat n
theorem sIx_none (n d:Nat):sIx n d none=d:=rfl
theorem sIx_nat (n d k:Nat):sIx n d (some (k:Int))=min k n:=by
 show(if (k:Int)<0 then ((k:Int)+(n:Int)).toNat else min (k:Int).toNat n)=min k n;rw[if_neg (by omega),yO]
theorem ZmY (n d:Nat)(hd:d<=n)(o:Option Int):sIx n d o<=n:=by
 cases o with
 | none=>exact hd
 | some v=>
  show(if v<0 then (v+(n:Int)).toNat else min v.toNat n)<=n;by_cases hv:v<0
  ·rw[if_pos hv];omega
  ·rw[if_neg hv];exact Nat.min_le_right _ _
theorem ZgS (v:Int)(n d:Nat):(if v<0 then max (v+(n:Int)) 0 else min v (n:Int))=((sIx n d (some v):Nat):Int):=by
 show(if v<0 then max (v+(n:Int)) 0 else min v (n:Int))=(((if v<0 then (v+(n:Int)).toNat else min v.toNat n):Nat):Int);by_cases hv:v<0
 ·simp only[if_pos hv];omega
 ·simp only[if_neg hv];omega
theorem ZfS (lo hi:Option Int)(n:Nat):qbi lo hi 1 (n:Int)=(((sIx n 0 lo:Nat):Int),((sIx n n hi:Nat):Int)):=by
 have h1:¬((1:Int)<0):=by omega
 unfold qbi;simp only[h1,if_false];refine qc7 ?_ ?_
 ·cases lo with
  | none=>rfl
  | some v=>exact ZgS v n 0
 ·cases hi with
  | none=>rfl
  | some v=>exact ZgS v n n
theorem ZfT (i j:Nat):qay (i:Int) (j:Int) 1=j-i:=by
 unfold qay;have h1:(1:Int) > 0:=by omega
 simp only[h1,if_true,Int.ediv_one];split <;> omega
theorem Zcb {v:Value}{o:Option Int}{Q:Option Int->Shared->Prop}(p:IsPart v o)(h:Q o s):xf (xA prog w) A (Builtin.Slice.slicePartIndex v) Q E s:=by
 cases p with
 | none=>exact slicePart_none h
 | int i t=>exact slicePart_int h
theorem Zai {sl:Addr}{vl vu:Value}{lo hi:Option Int}{n:Nat}{Q:Int×Int×Nat->Shared->Prop}(hs:s.heap.IsSliceOf sl vl vu .none)(pl:IsPart vl lo)(pu:IsPart vu hi)
  (h:Q (((sIx n 0 lo:Nat):Int),1,sIx n n hi-sIx n 0 lo) s):xf (xA prog w) A (qb6 (.ref sl) (pure (n:Int))) Q E s:=by
 obtain⟨os,hos,hcs,hds⟩:=id hs;unfold qb6 Builtin.Slice.sliceFields;refine xa (xa (wpAny_field hos hds (x:=vl) rfl (xa (wpAny_field hos hds (x:=vu) rfl (xa (wpAny_field hos hds (x:=.none) rfl (xb ?_)))))));refine xa (slicePart_none ?_);show xf _ _ (if ((1:Int)==0)=true then _ else _) _ _ s;rw[if_neg (by decide)];refine xa (Zcb pl (xa (Zcb pu (xa (xb ?_)))));show xf _ _ (match qbi lo hi 1 (n:Int)with | (lo,hi)=>pure (lo,(1:Int),qay lo hi 1)) _ _ s;rw[ZfS lo hi n];show xf _ _ (pure (((sIx n 0 lo:Nat):Int),(1:Int),qay ((sIx n 0 lo:Nat):Int) ((sIx n n hi:Nat):Int) 1)) _ _ s;rw[ZfT];exact xb h
theorem Zjm (xs:Array Value)(i k:Nat):((qm k).filterMap λ(m:Nat)=>xs[((i:Int)+(m:Int)*1).toNat]?).toArray=((xs.toList.drop i).take k).toArray:=by
 have e:(λ(m:Nat)=>xs[((i:Int)+(m:Int)*1).toNat]?)=λm=>xs[i+m]?:=by
  funext m;have:((i:Int)+(m:Int)*1).toNat=i+m:=by omega
  rw[this]
 rw[e];have:=pick_run xs i k;rw[List.filterMap_map]at this;have e2:((λx=>xs[x]?)∘λx=>i+x)=λm=>xs[i+m]?:=rfl;rw[e2]at this;rw[this]
theorem getItem_tuple_cut {t sl:Addr}{items:Array Value}{vl vu:Value}{lo hi:Option Int}{Q:xE}(ht:IsTup s.heap t items)(hs:s.heap.IsSliceOf sl vl vu .none)(pl:IsPart vl lo)(pu:IsPart vu hi)
  (hw:¬(sIx items.size 0 lo=0/\sIx items.size items.size hi=items.size))
  (h:Q (.ref s.heap.objs.size) { s with heap:=s.heap.push { cls:=.type "tuple",data:=.seq ((items.toList.drop (sIx items.size 0 lo)).take (sIx items.size items.size hi-sIx items.size 0 lo)).toArray } })
  (hsz:items.size<=xg):xf (xA prog w) A (getItem (.ref t) (.ref sl)) Q E s:=by
 have htake:sizeOk (.seq ((items.toList.drop (sIx items.size 0 lo)).take (sIx items.size items.size hi-sIx items.size 0 lo)).toArray):=by
  show((items.toList.drop (sIx items.size 0 lo)).take (sIx items.size items.size hi-sIx items.size 0 lo)).toArray.size<=xg;rw[qD,qV,zN,qE];omega
 have hj:sIx items.size items.size hi<=items.size:=ZmY _ _ (qk _) hi;obtain⟨os,hos,hcs,hds⟩:=id hs;have hTs:s.TypeIs (.ref sl) "slice":=⟨os,hos,hcs⟩;unfold getItem
 try with_reducible refine xu ?_
 first | refine xa (xb ?_) | skip
 refine xa (wpAny_sequenceKey ht.typeIs (by decide) ?_);refine xa (wpAny_callSpecial?_slot (name:=qy "__getitem__") ht.typeIs yd
  (wpAny_call_entry yd ht.typeIs entry_tuple_getitem ?_ (args_tuple_getitem _ _)))
 show xf _ _ (qb7 (.ref t) >>= _) _ _ s;refine xa (tupleItemsOf_ ht ?_);refine xa (wpAny_typeOf hTs ?_);rw[if_pos (by decide)];refine xa (Zai hs pl pu ?_);have hno:¬((((sIx items.size 0 lo:Nat):Int)==0&&(1:Int)==1&&(sIx items.size items.size hi-sIx items.size 0 lo)==items.size)=true):=by
  intro q;rw[zF,zF]at q;have q1:((sIx items.size 0 lo:Nat):Int)=0:=eq_of_beq q.1.1;have q2:sIx items.size items.size hi-sIx items.size 0 lo=items.size:=eq_of_beq q.2;exact hw ⟨by omega,by omega⟩
 show xf _ _ (if (((sIx items.size 0 lo:Nat):Int)==0&&(1:Int)==1&&(sIx items.size items.size hi-sIx items.size 0 lo)==items.size)=true then _ else _) _ _ s;rw[if_neg hno,Zjm]
 first
  | exact xa (m:=qaH _) (xl (xb ⟨_,rfl,xb h⟩) htake)
  | exact xa (m:=qaH _) (xl (xa (xb (xb ⟨_,rfl,xb h⟩))) htake)
  | exact xa (xa (m:=qaH _) (xl (xb (xb ⟨_,rfl,xb h⟩)) htake))
  | exact xa (xa (m:=qaH _) (xl (xb ⟨_,rfl,xb h⟩) htake))
end
end HT
namespace L2
noncomputable abbrev TO:=St->Hp->(Option Int->Hp->Prop)->Prop
noncomputable def PO (X:Cx)(e:Option Expr)(t:TO):Prop:=
 ∀(jH:Qb) (s:Shared) (σ:St) (H:Hp) (Q:Option Int->Hp->Prop),Inv X jH σ H s->t σ H Q->
  xf (xA X.prog X.w) X.A (evalPart e X.env) (λu s'=>∃o H',Inv X jH σ H' s'/\IsPart u o/\Q o H') X.xe s
noncomputable def Zk1:TO:=λ_ H Q=>Q none H
noncomputable def Zn6 (t:TE):TO:=fun σ H Q=>t σ H λx H1=>∃i,x=.int i/\Q (some i) H1
theorem JH {ns:List Int}:∀{us:List Value},Zu (ns.map V.int) us->IntsAre us ns:=by
 induction ns with
 | nil=>intro us r;rw[qck]at r;cases r;exact .nil
 | cons n ns ih=>
  intro us r;rw[qY]at r
  cases r with
  | cons r1 r2=>
   obtain⟨t,e⟩:=r1;subst e;exact .cons n t (ih r2)
section
variable {X:Cx}{e:Expr}{te:TE}{lo hi:Option Expr}{tl th:TO}{pos p2:Pos}
theorem Zk2:PO X none Zk1:=by
 intro jH s σ H Q I h;rw[evalPart_none];exact xb ⟨none,H,I,.none,h⟩
theorem Zk3 (h:PE X e te):PO X (some e) (Zn6 te):=by
 intro jH s σ H Q I hw;rw[evalPart_some];refine ZD (h jH s σ H _ I hw) λu s1 ⟨x,H1,I1,r1,q1⟩=>?_;obtain⟨i,rfl,q⟩:=q1;obtain⟨t,rfl⟩:=r1;exact⟨some i,H1,I1,.int i t,q⟩
noncomputable def V8 (X:Cx)(r:V->Option Int->Option Int->Hp->VK->Prop):Prop:=
 ∀(jH:Qb) (s:Shared) (σ:St) (H:Hp) (x:V) (v vl vu:Value) (lo hi:Option Int) (sl:Addr) (Q:VK),Inv X jH σ H s->ZC x v->s.heap.IsSliceOf sl vl vu .none->IsPart vl lo->IsPart vu hi->r x lo hi H Q->
  ∃T id,typeLookup (.type T) "__getitem__" = pure (some (.builtin id))/\s.TypeIs v T/\xf (xA X.prog X.w) X.A (getItem v (.ref sl)) (EP X jH σ Q) X.xe s
theorem V8.or {r r':V->Option Int->Option Int->Hp->VK->Prop}(h:V8 X r)(h':V8 X r'):V8 X (λx lo hi H Q=>r x lo hi H Q∨r' x lo hi H Q):=by
 intro jH s σ H x v vl vu lo hi sl Q I rx hs pl pu q;rcases q with q | q
 ·exact h jH s σ H x v vl vu lo hi sl Q I rx hs pl pu q
 ·exact h' jH s σ H x v vl vu lo hi sl Q I rx hs pl pu q
noncomputable def tSl (r:V->Option Int->Option Int->Hp->VK->Prop)(te:TE)(tl th:TO):TE:=fun σ H Q=>te σ H λx H1=>tl σ H1 λl H2=>th σ H2 λu H3=>r x l u H3 Q
theorem Zjn {r:V->Option Int->Option Int->Hp->VK->Prop}(hr:V8 X r)(he:PE X e te)(hl:PO X lo tl)(hu:PO X hi th):PE X (.Subscript e (.Slice lo hi none p2) pos) (tSl r te tl th):=by
 intro jH s σ H Q I h;refine Subscript_ (ZD (he jH s σ H _ I h) λv s1 ⟨x,H1,I1,r1,q1⟩=>?_);refine wpAny_Slice (ZD (hl jH s1 σ H1 _ I1 q1) λvl s2 ⟨l,H2,I2,pl,q2⟩=>ZD (hu jH s2 σ H2 _ I2 q2) λvu s3 ⟨u,H3,I3,pu,q3⟩=>?_);rw[evalPart_none];refine xb ?_;have I4:Inv X jH σ H3 { s3 with heap:=s3.heap.push { cls:=.type "slice",data:=.fields #[vl,vu,.none] } }:=I3.kept (t':=s3.toks) λb ob q=>qd _ q;obtain⟨T,id,hT,ht,hg⟩:=hr jH { s3 with heap:=s3.heap.push { cls:=.type "slice",data:=.fields #[vl,vu,.none] } } σ H3 x v vl vu l u s3.heap.objs.size Q I4 r1 (Heap.IsSliceOf.new ..) pl pu q3;show xf (xA X.prog X.w) X.A (subscriptTail e (.Slice lo hi none p2) v (.ref s3.heap.objs.size)) (EP X jH σ Q) X.xe { s3 with heap:=s3.heap.push { cls:=.type "slice",data:=.fields #[vl,vu,.none] } };exact tail_any (ops:=[.ref s3.heap.objs.size,v]) ht hT hg (by with_unfolding_all rfl)
noncomputable def Ve (xs:List V)(lo hi:Option Int):List V:=(xs.drop (HT.sIx xs.length 0 lo)).take (HT.sIx xs.length xs.length hi-HT.sIx xs.length 0 lo)
theorem ZbC (xs:List V)(lo hi:Option Int):(Ve xs lo hi).length<=xs.length:=by
 unfold Ve;rw[qV,zN];omega
noncomputable def rSlT (K:qj):V->Option Int->Option Int->Hp->VK->Prop:=λx lo hi H Q=>∃a xs,x=.ref a/\ZK K H a xs/\
 ¬(HT.sIx xs.length 0 lo=0/\HT.sIx xs.length xs.length hi=xs.length)/\∀p,H p=none->Q (.ref p) (Zj H p (.tup (Ve xs lo hi)))
theorem ZmZ:V8 X (rSlT X.K):=by
 intro jH s σ H x v vl vu lo hi sl Q I rx hs pl pu h;obtain⟨a,xs,rfl,hx,hw,q⟩:=h
 cases rx
 obtain⟨jJ,r,ht,hz⟩:=I.tuple hx;have jQ:jJ.toArray.size=xs.length:=by rw[qD];exact r.length.symm
 refine⟨"tuple",_,yd.lookup,ht.typeIs,?_⟩;refine HT.getItem_tuple_cut ht hs pl pu (by rw[jQ];exact hw) ?_ (by rw[jQ];exact hz);rw[jQ];refine⟨.ref s.heap.objs.size,_,I.laid (t':=s.toks) (o:=.tup (Ve xs lo hi)) (λb ob q=>qd _ q) (qk _) ?_,rfl,q _ (I.hok.fresh (qk _))⟩;exact⟨zC (ZbC xs lo hi) hz,_,(r.drop (HT.sIx xs.length 0 lo)).take (HT.sIx xs.length xs.length hi-HT.sIx xs.length 0 lo),qcz _ _⟩
noncomputable def rLtT (K:qj):R2:=λx y H Q=>∃a b ns ms,x=.ref a/\y=.ref b/\ZK K H a (ns.map V.int)/\ZK K H b (ms.map V.int)/\Q (.bl (HT.lexLt ns ms)) H
theorem Zm0 (hu:X.A.units<cLine):Yj X (xk .Lt) (rLtT X.K):=by
 intro jH s σ H x y v u Q I rx ry h;obtain⟨a,b,ns,ms,rfl,rfl,ha,hb,q⟩:=h
 cases rx
 cases ry
 obtain⟨jJ,r1,p1,_⟩:=I.tuple ha;obtain⟨jO,r2,p2,_⟩:=I.tuple hb;have i1:IntsAre jJ.toArray.toList ns:=JH r1;have i2:IntsAre jO.toArray.toList ms:=JH r2;exact HT.lt_tupInts p1 p2 i1 i2 hu ⟨.bl (HT.lexLt ns ms),H,I,rfl,q⟩
noncomputable def Zn7 (K:qj):R2:=λx y H Q=>∃a b xs ys,x=.ref a/\y=.ref b/\ZK K H a xs/\ZK K H b ys/\xs≠[]/\xs.length+ys.length<=xg/\
 (ys=[]->Q (.ref a) H)/\(ys≠[]->∀p,H p=none->Q (.ref p) (Zj H p (.tup (xs++ys))))
theorem Zu.nil_iff {xs:List V}{us:List Value}(r:Zu xs us):us=[]↔xs=[]:=by
 cases r with
 | nil=>simp
 | cons _ _=>simp
theorem Zk4:Yj X (binaryOp .Add) (Zn7 X.K):=by
 intro jH s σ H x y v u Q I rx ry h;obtain⟨a,b,xs,ys,rfl,rfl,ha,hb,hx,hz,q1,q2⟩:=h
 cases rx
 cases ry
 obtain⟨jJ,r1,p1,_⟩:=I.tuple ha;obtain⟨jO,r2,p2,_⟩:=I.tuple hb;refine HT.cat_tup p1 p2 (λz=>hx (r1.nil_iff.mp z)) (λz=>⟨.ref a,H,I,rfl,q1 (r2.nil_iff.mp z)⟩) (λz=>?_) (by rw[<-r1.length,<-r2.length];exact hz);refine⟨.ref s.heap.objs.size,_,I.laid (t':=s.toks) (o:=.tup (xs++ys)) (λb ob q=>qd _ q) (qk _) ?_,rfl,q2 (λw=>z (r2.nil_iff.mpr w)) _ (I.hok.fresh (qk _))⟩;exact⟨by rw[qJ];exact hz,_,r1.append r2,qcz _ _⟩
end
noncomputable def Xz (n:Nat)(i:Int):Option Nat:=if 0<=i then (if i<n then some i.toNat else none)else if -(n:Int)<=i then some (i+n).toNat else none
noncomputable def XA {α:Type}(xs:List α)(i:Int):Option α:=(Xz xs.length i).bind λj=>xs[j]?
theorem ZgT {n:Nat}{i:Int}{j:Nat}(h:Xz n i=some j):seqIndex? i n=some j/\j<n/\-(n:Int)<=i/\i<n:=by
 unfold Xz at h;by_cases h0:0<=i
 ·rw[if_pos h0]at h
  by_cases h1:i<n
  ·rw[if_pos h1]at h
   have e:i.toNat=j:=zv h;exact⟨by rw[seqIndex_of h0 h1,e],by omega,by omega,h1⟩
  ·rw[if_neg h1]at h;cases h
 ·rw[if_neg h0]at h
  by_cases h1:-(n:Int)<=i
  ·rw[if_pos h1]at h
   have e:(i+n).toNat=j:=zv h;exact⟨by rw[seqIndex_neg (by omega) h1,e],by omega,h1,by omega⟩
  ·rw[if_neg h1]at h;cases h
theorem ZgU {α:Type}{xs:List α}{i:Int}{v:α}(h:XA xs i=some v):∃j,seqIndex? i xs.length=some j/\xs[j]?=some v/\j<xs.length/\-(xs.length:Int)<=i/\i<xs.length:=by
 unfold XA at h
 cases e:Xz xs.length i with
 | none=>rw[e]at h;cases h
 | some j=>
  rw[e]at h;obtain⟨h1,h2,h3,h4⟩:=ZgT e;exact⟨j,h1,h,h2,h3,h4⟩
theorem Vp {α:Type}{xs:List α}{j:Nat}{v:α}(h:xs[j]?=some v):XA xs (j:Int)=some v:=by
 have hj:j<xs.length:=(qq.mp h).1;have e:Xz xs.length (j:Int)=some j:=by
  unfold Xz;rw[if_pos (by omega),if_pos (by omega)];simp
 unfold XA;rw[e];exact h
noncomputable def ZgV (b:Expr):Prop:=∀o i,subscripted b false o i=operate [o,i] (getItem o i)
noncomputable def V9 (X:Cx)(r:R2):Prop:=
 ∀(value slice:Expr) (jH:Qb) (s:Shared) (σ:St) (H:Hp) (x y:V) (v u:Value) (Q:VK),Inv X jH σ H s->ZC x v->ZC y u->r x y H Q->
  subscripted slice false v u=operate [v,u] (getItem v u)->xf (xA X.prog X.w) X.A (subscriptTail value slice v u) (EP X jH σ Q) X.xe s
noncomputable def MtR (X:Cx)(id:String)(r:V->List V->Hp->VK->Prop):Prop:=
 ∀(jH:Qb) (s:Shared) (σ:St) (H:Hp) (x:V) (xs:List V) (v:Value) (us:List Value) (Q:VK),Inv X jH σ H s->ZC x v->Zu xs us->r x xs H Q->
  xf (xA X.prog X.w) X.A (call (.builtin id) (v::us)) (EP X jH σ Q) X.xe s
section
variable {X:Cx}{a b:Expr}{ta tb:TE}{pos:Pos}
theorem V9.or {r r':R2}(h:V9 X r)(h':V9 X r'):V9 X (λx y H Q=>r x y H Q∨r' x y H Q):=by
 intro value slice jH s σ H x y v u Q I rx ry q hs;rcases q with q | q
 ·exact h value slice jH s σ H x y v u Q I rx ry q hs
 ·exact h' value slice jH s σ H x y v u Q I rx ry q hs
theorem ZgW {r:R2}(hr:V9 X r)(ha:PE X a ta)(hb:PE X b tb)(hs:ZgV b):PE X (.Subscript a b pos) (Yn r ta tb):=by
 intro jH s σ H Q I h;exact Subscript_ (binT ha hb I h λv u s2 x y H2 I2 rx ry q=>hr a b jH s2 σ H2 x y v u Q I2 rx ry q (hs _ _))
noncomputable def rIxL (K:qj):R2:=λx y H Q=>∃p xs i v,x=.ref p/\y=.int i/\Zy K H p xs/\XA xs i=some v/\Q v H
noncomputable def rIxT (K:qj):R2:=λx y H Q=>∃p xs i v,x=.ref p/\y=.int i/\ZK K H p xs/\XA xs i=some v/\Q v H
theorem ZbV:V9 X (rIxL X.K):=by
 intro value slice jH s σ H x y v u Q I rx ry h hs;obtain⟨p,xs,i,z,rfl,rfl,hq,he,q⟩:=h
 cases rx
 obtain⟨t,rfl⟩:=ry;obtain⟨jJ,r,pl,hz⟩:=I.list hq;obtain⟨j,h1,h2,h3,h4,h5⟩:=ZgU he;obtain⟨w,ew,rw'⟩:=r.get h2;have hl:=r.length;have hn:=Bh;have fin:EP X jH σ Q w s:=⟨z,H,I,rw',q⟩;by_cases h0:0<=i
 ·have hj:i.toNat=j:=by
   rw[seqIndex_of h0 h5]at h1;exact zv h1
  exact item_listR pl.isList h0 (by omega) (by rw[hj];simpa using ew) fin hs
 ·have hj:(i+(jJ.toArray.size:Int)).toNat=j:=by
   rw[seqIndex_neg (by omega) h4]at h1;rw[qD,<-hl];exact zv h1
  exact subscriptTail_builtinR (x:=w) pl.isList.typeIs slot_list_getitem.lookup
   (wpAny_getItem_list_neg (Q:=λr s'=>r=w/\EP X jH σ Q r s') pl.isList (by omega) (by rw[qD] <;> omega) (by omega) (by rw[hj];simpa using ew) ⟨rfl,fin⟩) hs
theorem Zm1:V9 X (rIxT X.K):=by
 intro value slice jH s σ H x y v u Q I rx ry h hs;obtain⟨p,xs,i,z,rfl,rfl,hq,he,q⟩:=h
 cases rx
 obtain⟨t,rfl⟩:=ry;obtain⟨jJ,r,pl,hz⟩:=I.tuple hq;obtain⟨j,h1,h2,h3,h4,h5⟩:=ZgU he;obtain⟨w,ew,rw'⟩:=r.get h2;have hl:=r.length;have hn:=Bh;have fin:EP X jH σ Q w s:=⟨z,H,I,rw',q⟩;exact subscriptTail_builtinR (x:=w) pl.typeIs slot_tuple_getitem.lookup
  (getItem_tuple (j:=j) (Q:=λr s'=>r=w/\EP X jH σ Q r s') pl (by omega) (by omega) (by rw[qD,<-hl];exact h1) (by simpa using ew) ⟨rfl,fin⟩) hs
theorem ZfU (jJ:List Value)(n j:Nat)(u:Value):zk (·.setIfInBounds j u) { cls:=.type "list",data:=.seq jJ.toArray n } = { cls:=.type "list",data:=.seq (jJ.set j u).toArray n }:=by
 simp[zk]
theorem Inv.lst {jH:Qb}{σ:St}{H:Hp}{s:Shared}{p:Addr}{xs:List V}(I:Inv X jH σ H s)(h:H p=some (.lst xs)) :
  ∃(jJ:List Value) (n:Nat),Zu xs jJ/\s.heap.get? p=some { cls:=.type "list",data:=.seq jJ.toArray n }/\xs.length<=xg:=by
 obtain⟨z,jJ,n,r,e⟩:=I.hok p _ h;exact⟨jJ,n,r,e,z⟩
theorem Inv.lstUpd {jH:Qb}{σ:St}{H:Hp}{s:Shared}{p:Addr}{xs ys:List V}{jJ its':List Value}{n n':Nat}{f:Obj->Obj}(I:Inv X jH σ H s)(h:H p=some (.lst xs))
  (ho:s.heap.get? p=some { cls:=.type "list",data:=.seq jJ.toArray n }) (hf:f { cls:=.type "list",data:=.seq jJ.toArray n } = { cls:=.type "list",data:=.seq its'.toArray n' }) (r:Zu ys its') (hz:ys.length<=xg) (t:Nat) :
  Inv X jH σ (Zj H p (.lst ys)) { s with heap:=s.heap.update p f,toks:=t }:=by
 have e:(s.heap.update p f).get? p=some { cls:=.type "list",data:=.seq its'.toArray n' }:=by
  rw[yb f ho (by rw[hf] <;> rfl),hf]
 refine I.write (x:=p) (e:=p) (by rw[h];trivial) (.inl rfl) (λb u hb q=>(yz _ _ (zD hb)).trans q) ⟨_,e⟩ ?_;exact⟨hz,its',n',r,e⟩
noncomputable def Zmf:V->V->V->Hp->(Hp->Prop)->Prop:=λo i v H Q=>∃p xs k j,o=.ref p/\i=.int k/\H p=some (.lst xs)/\Xz xs.length k=some j/\Q (Zj H p (.lst (xs.set j v)))
theorem Zcc:PSet X Zmf:=by
 intro jH s σ H o i v ov iv u Q I ro ri rv h;obtain⟨p,xs,k,j,rfl,rfl,hp,hj,q⟩:=h
 cases ro
 obtain⟨t,rfl⟩:=ri;obtain⟨jJ,n,r,ho,hz⟩:=I.lst hp;obtain⟨h1,h2,h3,h4⟩:=ZgT hj;have hl:=r.length;have hn:=Bh;have I':Inv X jH σ (Zj H p (.lst (xs.set j v))) { s with heap:=s.heap.update p (zk (·.setIfInBounds j u)) }:=
  I.lstUpd hp ho (ZfU jJ n j u) (r.set rv j) (by rw[List.length_set];exact hz) s.toks
 by_cases h0:0<=k
 ·have hk:k.toNat=j:=by
   rw[seqIndex_of h0 h4]at h1;exact zv h1
  exact PySem.W.ki_setAt ho h0 (by omega) (by rw[qD,<-hl];exact h4) (by rw[hk];exact⟨_,I',q⟩)
 ·have hk:(k+(jJ.toArray.size:Int)).toNat=j:=by
   rw[seqIndex_neg (by omega) h3]at h1;rw[qD,<-hl];exact zv h1
  exact PySem.W.ki_setBack ho (by omega) (by rw[qD,<-hl];exact h3) (by omega) (by rw[hk];exact⟨_,I',q⟩)
theorem ZdV (lo hi:Option Int)(n:Nat):(sliceBounds lo hi none n).1=((HT.sIx n 0 lo:Nat):Int)/\(sliceBounds lo hi none n).2.1=((HT.sIx n n hi:Nat):Int)/\(sliceBounds lo hi none n).2.2=1:=by
 refine⟨?_,?_,rfl⟩
 ·cases lo with
  | none=>simp[sliceBounds,HT.sIx]
  | some i=>
   simp only[sliceBounds,HT.sIx,Option.getD_none,show(1:Int) > 0 by decide,if_true];by_cases h:i<0
   ·simp only[h,if_true] <;> omega
   ·simp only[h,if_false] <;> omega
 ·cases hi with
  | none=>simp[sliceBounds,HT.sIx]
  | some i=>
   simp only[sliceBounds,HT.sIx,Option.getD_none,show(1:Int) > 0 by decide,if_true];by_cases h:i<0
   ·simp only[h,if_true] <;> omega
   ·simp only[h,if_false] <;> omega
theorem Zc2 (jJ:List Value)(lo hi:Option Int):slicePick jJ.toArray lo hi none=((jJ.drop (HT.sIx jJ.length 0 lo)).take (HT.sIx jJ.length jJ.length hi-HT.sIx jJ.length 0 lo)).toArray:=by
 obtain⟨h1,h2,h3⟩:=ZdV lo hi jJ.toArray.size;unfold slicePick;rw[h1,h2,h3];simp only[sliceRange_one,pick_run,qD] <;> rfl
noncomputable def rSlL (K:qj):V->Option Int->Option Int->Hp->VK->Prop:=λx lo hi H Q=>∃a xs,x=.ref a/\Zy K H a xs/\∀p,H p=none->Q (.ref p) (Zj H p (.lst (Ve xs lo hi)))
theorem Zk5:V8 X (rSlL X.K):=by
 intro jH s σ H x v vl vu lo hi sl Q I rx hs pl pu h;obtain⟨a,xs,rfl,hx,q⟩:=h
 cases rx
 obtain⟨jJ,r,ht,hz⟩:=I.list hx;have jQ:=r.length;refine⟨"list",_,slot_list_getitem.lookup,ht.isList.typeIs,?_⟩;refine wpAny_getItem_list_slice ht.isList hs pl pu .none (by simp) ?_ (by rw[qD] <;> omega);rw[Zc2,<-jQ];refine⟨.ref s.heap.objs.size,_,I.laid (t':=s.toks) (o:=.lst (Ve xs lo hi)) (λb ob q=>qd _ q) (qk _) ?_,rfl,q _ (I.hok.fresh (qk _))⟩;exact⟨zC (ZbC xs lo hi) hz,_,0,(r.drop (HT.sIx xs.length 0 lo)).take (HT.sIx xs.length xs.length hi-HT.sIx xs.length 0 lo),qw _ rfl⟩
theorem Zaj:XO X (.builtin "len") (λxs H Q=>∃p ys,xs=[.ref p]/\(Zy X.K H p ys∨ZK X.K H p ys)/\Q (.int ys.length) H):=by
 intro jH s σ H xs us Q I r h;obtain⟨p,ys,rfl,hq,q⟩:=h;obtain⟨u,rfl,rx⟩:=Va r
 cases rx
 have hn:=Bh;rcases hq with hq | hq
 ·obtain⟨jJ,r',pl,hz⟩:=I.list hq
  have jQ:=r'.length;exact Calls.call_len_list pl.isList (by simp only[qD] <;> omega) ⟨.int ys.length,H,I.tok _,⟨s.toks+1,by rw[qD,jQ]⟩,q⟩
 ·obtain⟨jJ,r',pl,hz⟩:=I.tuple hq
  have jQ:=r'.length;exact len_tuple pl (by simp only[qD] <;> omega) ⟨.int ys.length,H,I.tok _,⟨s.toks+1,by rw[qD,jQ]⟩,q⟩
theorem Zc3:XO X (.type "tuple") (λxs H Q=>∃p ys,xs=[.ref p]/\((Zy X.K H p ys/\∀l,H l=none->Q (.ref l) (Zj H l (.tup ys)))∨(ZK X.K H p ys/\Q (.ref p) H))):=by
 intro jH s σ H xs us Q I r h;obtain⟨p,ys,rfl,h⟩:=h;obtain⟨u,rfl,rx⟩:=Va r
 cases rx
 rcases h with⟨hq,q⟩ | ⟨hq,q⟩
 ·obtain⟨jJ,r',pl,hz⟩:=I.list hq
  have jQ:=r'.length;refine call_tuple_list pl.isList (λh' kp=>?_) (by simp only[qD] <;> omega);have I1:Inv X jH σ H { s with heap:=h' }:=I.kept (t':=s.toks) kp;have I2:Inv X jH σ (Zj H h'.objs.size (.tup ys)) { s with heap:=h'.push { cls:=.type "tuple",data:=.seq jJ.toArray } }:=
   I1.laid (t':=s.toks) (λb o e=>qd _ e) (qk _) (show YI X.prog X.w _ _ _ (.tup ys)from⟨hz,jJ,r',qcz _ _⟩)
  exact⟨.ref h'.objs.size,_,I2,rfl,q _ (I1.hok.fresh (qk _))⟩
 ·obtain⟨jJ,r',pl,hz⟩:=I.tuple hq
  exact call_tuple_same pl ⟨.ref p,H,I,rfl,q⟩
noncomputable def tyV (K:qj)(T:String)(x:V)(H:Hp):Prop:=match x with
 | .str _=>T = "str"
 | .int _=>T = "int"
 | .ref p=>(T = "list"/\∃xs,Zy K H p xs)∨(T = "tuple"/\∃o,K.lookup p=some o/\o.cls=.type "tuple"/\o.dict=none)∨
   (T = "dict"/\((∃kvs,H p=some (.dK kvs))∨∃kvs,H p=some (.dT kvs)))∨(T = "set"/\∃S n,H p=some (.set S n))
 | _=>False
theorem Zm2 {jH:Qb}{σ:St}{H:Hp}{s:Shared}{T:String}{x:V}{v:Value}(I:Inv X jH σ H s)(r:ZC x v)(ty:tyV X.K T x H) :
  s.TypeIs v T/\∀a,v=.ref a->∃ob,s.heap.get? a=some ob/\ob.dict=none:=by
 cases x with
 | str z=>
  obtain⟨t,rfl⟩:=r
  cases (show T = "str" from ty)
  exact⟨typeIs_str s z t,λ_ e=>nomatch e⟩
 | int i=>
  obtain⟨t,rfl⟩:=r
  cases (show T = "int" from ty)
  exact⟨typeIs_int s i t,λ_ e=>nomatch e⟩
 | ref p=>
  cases r
  rcases ty with⟨rfl,xs,hq⟩ | ⟨rfl,o,hk,hc,hd⟩ | ⟨rfl,hk⟩ | ⟨rfl,S,n,hk⟩
  ·obtain⟨jJ,_,pl,_⟩:=I.list hq
   refine⟨pl.isList.typeIs,λa e=>?_⟩
   cases e
   obtain⟨o,n,e,c,hd,_⟩:=pl;exact⟨o,e,hd⟩
  ·refine⟨⟨o,I.kIn p o hk,hc⟩,λa e=>?_⟩
   cases e
   exact⟨o,I.kIn _ o hk,hd⟩
  ·have z:∃o,s.heap.get? p=some o/\o.ExactDict:=by
    rcases hk with⟨kvs,hk⟩ | ⟨kvs,hk⟩
    ·obtain⟨_,_,_,_,o,_,_,e,ex,_⟩:=I.hok p _ hk
     exact⟨o,e,ex⟩
    ·obtain⟨_,_,_,_,o,_,_,e,ex,_⟩:=I.hok p _ hk
     exact⟨o,e,ex⟩
   obtain⟨o,e,ex⟩:=z;refine⟨⟨o,e,ex.1⟩,λa e2=>?_⟩
   cases e2
   exact⟨o,e,ex.2.1⟩
  ·obtain⟨o,_,_,_,e,ex,_⟩:=I.hok p _ hk
   refine⟨⟨o,e,ex.1⟩,λa e2=>?_⟩
   cases e2
   exact⟨o,e,ex.2.1⟩
 | _=>exact yw ty
noncomputable def Ua (K:qj)(T:String)(r:V->List V->Hp->VK->Prop)(to:TE)(t:TA):TE:=fun σ H Q=>to σ H λx H1=>tyV K T x H1/\t σ H1 λxs H2=>r x xs H2 Q
variable {o e:Expr}{es:List Expr}{to:TE}{t:TA}{name:Str}{apos cpos:Pos}{T id:String}{r:V->List V->Hp->VK->Prop}
theorem Zjo (pa:PlainAttrs T)(slot:Slot T name id)(hty:typeOf (.builtin id)=pure (.type "method_descriptor"))(hm:MtR X id r)(ho:PE X o to)(ha:PA X (e::es) t)
  (hbase:xq o name X.env (eval o X.env)=eval o X.env:=by rfl)
  (hfew:((backTo cpos (xh (e::es) X.env)).all (λx=>!x.1)&&(xp cpos (xi [] X.env)).all (λx=>x.1.isSome)
   && decide ((e::es).length+([]:List Keyword).length+(if ([]:List Keyword).isEmpty then 0 else 1)<30))=true:=by rfl)
  (hline:(apos.endLine==cpos.line)=true:=by rfl) (hs:xh (e::es) X.env=(false,eval e X.env)::xh es X.env:=by rfl) (hplain:(backTo cpos (xh es X.env)).any (·.1)=false:=by rfl) :
  PE X (.Call (.Attribute o name apos) (e::es) [] cpos) (Ua X.K T r to t):=by
 intro jH s σ H Q I h;refine wpAny_Call_method_late hbase hfew hline rfl (ZD (ho jH s σ H _ I h) λv s1 ⟨x,H1,I1,r1,ty,q1⟩=>?_);obtain⟨h1,h2⟩:=Zm2 I1 r1 ty;refine⟨T,id,pa,slot,hty,h1,h2,?_⟩;have hA:=ha cpos jH s1 σ H1 _ I1 q1;rw[hs]at hA⊢;refine Calls.callWith_builtin (by show(false||(backTo cpos (xh es X.env)).any (·.1))=false;rw[hplain] <;> rfl) (Calls.evalArgs_plain ?_);exact ZD hA λus s2 ⟨vs,H2,I2,r2,q2⟩=>hm jH s2 σ H2 x vs v us Q I2 r1 r2 q2
end
noncomputable def MtM (X:Cx)(id:String)(r:V->List V->Hp->VK->Prop):Prop:=
 ∀(jH:Qb) (s:Shared) (σ:St) (H:Hp) (x:V) (xs:List V) (v:Value) (us:List Value) (Q:VK),Inv X jH σ H s->ZC x v->Zu xs us->r x xs H Q->
  xf (xA X.prog X.w) X.A (call (.builtin id) (v::us)) (EP X jH σ Q) X.xe s
theorem Zu.one:∀{x:V} {us:List Value},Zu [x] us->∃u,us=[u]/\ZC x u
 | _,_,.cons r .nil=>⟨_,rfl,r⟩
theorem Zu.two:∀{x y:V} {us:List Value},Zu [x,y] us->∃u v,us=[u,v]/\ZC x u/\ZC y v
 | _,_,_,.cons r (.cons q .nil)=>⟨_,_,rfl,r,q⟩
theorem Zu.eraseIdx:∀{xs:List V} {us:List Value} (i:Nat),Zu xs us->Zu (xs.eraseIdx i) (us.eraseIdx i)
 | _,_,_,.nil=>.nil
 | _,_,0,.cons _ t=>t
 | _,_,i+1,.cons r t=>.cons r (Zu.eraseIdx i t)
theorem Zu.rep {xs:List V}{us:List Value}(h:Zu xs us):∀k:Nat,Zu (qB k xs).flatten (qB k us).flatten
 | 0=>.nil
 | k+1=>by
  rw[ya,ya,zJ,zJ];exact Zu.append h (Zu.rep h k)
theorem Zdi {α:Type}:∀(l:List α) (i:Nat),(l.eraseIdx i).length<=l.length
 | [],_=>qk _
 | _::_,0=>Nat.le_succ _
 | _::r,i+1=>Nat.succ_le_succ (Zdi r i)
theorem Zbk (jJ:List Value):∀(k:Nat) (j6:List Value),
  qbL (λx1 x2=>x1++x2) j6.toArray (qB k jJ.toArray)=(j6++(qB k jJ).flatten).toArray
 | 0,j6=>by simp
 | k+1,j6=>by
  have e:j6.toArray++jJ.toArray=(j6++jJ).toArray:=by simp
  have e2:(j6++jJ)++(qB k jJ).flatten=j6++(qB (k+1) jJ).flatten:=by
   rw[ya,zJ,qK]
  rw[<-e2,<-Zbk jJ k (j6++jJ),<-e,ya,qbj]
section
variable {X:Cx}{jH:Qb}{σ:St}{H:Hp}{s:Shared}{l b:Addr}{xs ys zs:List V}
theorem Inv.lset {jJ its':List Value}{n:Nat}{f:Array Value->Array Value}{t':Nat}(I:Inv X jH σ H s)(hH:H l=some (.lst xs))
  (e:s.heap.get? l=some { cls:=.type "list",data:=.seq jJ.toArray n }) (hf:f jJ.toArray=its'.toArray) (hv:Zu ys its') (hz:ys.length<=xg) :
  Inv X jH σ (Zj H l (.lst ys)) { s with heap:=s.heap.update l (zk f),toks:=t' }:=by
 have q:=PySem.IsL.update e f;rw[hf]at q;refine I.write (x:=l) (e:=l) (by rw[hH];exact trivial) (.inl rfl) (λb' u hb hu=>(yz s.heap (zk f) (zD hb)).trans hu) ⟨_,q⟩ ?_;exact⟨hz,its',_,hv,q⟩
theorem Inv.lnew {jJ:List Value}{t':Nat}(I:Inv X jH σ H s)(hv:Zu ys jJ)(hz:ys.length<=xg) :
  Inv X jH σ (Zj H s.heap.objs.size (.lst ys)) { s with heap:=s.heap.push { cls:=.type "list",data:=.seq jJ.toArray },toks:=t' }:=
 I.laid (λ_ _ q=>qd _ q) (qk _) ⟨hz,jJ,0,hv,qw _ rfl⟩
theorem Inv.fresh (I:Inv X jH σ H s):H s.heap.objs.size=none:=I.hok.fresh (qk _)
theorem Inv.lstM (I:Inv X jH σ H s)(hH:H l=some (.lst xs)):xs.length<=xg/\∃(jJ:List Value) (n:Nat),Zu xs jJ/\xs.length=jJ.length/\s.heap.get? l=some { cls:=.type "list",data:=.seq jJ.toArray n }:=by
 obtain⟨z,jJ,n,r,e⟩:=I.hok l _ hH;exact⟨z,jJ,n,r,r.length,e⟩
theorem ZeB {n:Nat}(h:n<=xg):qaI n=false:=by
 unfold qaI;exact decide_eq_false (by omega)
end
section
variable {X:Cx}
noncomputable def ZbW:V->List V->Hp->VK->Prop:=λx vs H Q=>∃l xs y,x=.ref l/\vs=[y]/\H l=some (.lst xs)/\xs.length<xg/\Q .non (Zj H l (.lst (xs ++ [y])))
theorem Zdj:MtM X "list.append" ZbW:=by
 intro jH s σ H x vs v us Q I rx rv h;obtain⟨l,xs,y,rfl,rfl,hH,hz,q⟩:=h
 cases rx
 obtain⟨u,rfl,ru⟩:=rv.one;obtain⟨z,jJ,n,r,hl,e⟩:=I.lstM hH;refine call_meets F.slot_list_append ⟨_,e,rfl⟩ F.entry_list_append (F.args_list_append_2 _ _) (PySem.list_append l jJ.toArray n u (by rw[qD];omega)) ⟨e,?_⟩;refine⟨.non,_,I.lset (its':=jJ ++ [u]) hH e (by simp) (r.append (.cons ru .nil)) ?_,rfl,q⟩;rw[qJ,qbH];omega
noncomputable def ZbX:V->List V->Hp->VK->Prop:=λx vs H Q=>∃l b xs zs,x=.ref l/\vs=[.ref b]/\H l=some (.lst xs)/\H b=some (.lst zs)/\xs.length+zs.length<=xg/\Q .non (Zj H l (.lst (xs++zs)))
theorem ZhV:MtM X "list.extend" ZbX:=by
 intro jH s σ H x vs v us Q I rx rv h;obtain⟨l,b,xs,zs,rfl,rfl,hH,hB,hz,q⟩:=h
 cases rx
 obtain⟨u,rfl,ru⟩:=rv.one
 cases ru
 obtain⟨z,jJ,n,r,hl,e⟩:=I.lstM hH;obtain⟨z2,jO,n2,r2,hl2,e2⟩:=I.lstM hB;have hsz:jJ.toArray.size+jO.toArray.size<=xg:=by rw[qD,qD];omega
 have hlong:¬(!jJ.toArray.isEmpty&&qaI (jJ.toArray.size+jO.toArray.size))=true:=by
  rw[ZeB hsz,Bool.and_false];exact yJ
 refine call_meets F.slot_list_extend ⟨_,e,rfl⟩ F.entry_list_extend (F.args_list_extend_2 _ _)
  (AutoSeq1.list_extend_list_list_0 l jJ.toArray n b jO.toArray n2 hlong (by rw[qD];omega) (by omega)) ⟨e,e2,?_⟩
 refine⟨.non,_,I.lset (its':=jJ++jO) hH e (by simp) (r.append r2) ?_,rfl,q⟩;rw[qJ];omega
noncomputable def Zjp:V->List V->Hp->VK->Prop:=λx vs H Q=>∃l xs i k y,x=.ref l/\vs=[.int i]/\H l=some (.lst xs)/\-(2 ^ 63)<=i/\i<2 ^ 63/\seqIndex? i xs.length=some k/\xs[k]?=some y/\Q y (Zj H l (.lst (xs.eraseIdx k)))
theorem Zjq:MtM X "list.pop" Zjp:=by
 intro jH s σ H x vs v us Q I rx rv h;obtain⟨l,xs,i,k,y,rfl,rfl,hH,h1,h2,hk,hy,q⟩:=h
 cases rx
 obtain⟨u,rfl,ru⟩:=rv.one;obtain⟨t,rfl⟩:=ru;obtain⟨z,jJ,n,r,hl,e⟩:=I.lstM hH;obtain⟨w,hw,rw'⟩:=r.get hy;refine call_meets F.slot_list_pop ⟨_,e,rfl⟩ F.entry_list_pop (F.args_list_pop_2 _ _)
  (MeetsSeq.list_pop_at l jJ.toArray n i t k w (fitsIndex_both h1 h2) (by rw[qD,<-hl];exact hk) (by rw[<-qz];exact hw) (by rw[qD];omega)) ⟨e,?_⟩
 refine⟨y,_,I.lset (its':=jJ.eraseIdx k) hH e ?_ (r.eraseIdx k) ?_,rw',q⟩
 ·show jJ.toArray.eraseIdxIfInBounds k=(jJ.eraseIdx k).toArray
  rw[List.eraseIdxIfInBounds_toArray]
 ·have:=Zdi xs k
  omega
noncomputable def rCat:R2:=λx y H Q=>∃l b xs zs,x=.ref l/\y=.ref b/\H l=some (.lst xs)/\H b=some (.lst zs)/\xs.length+zs.length<=xg/\∀p,H p=none->Q (.ref p) (Zj H p (.lst (xs++zs)))
theorem Zm3:Yj X (binaryOp .Add) rCat:=by
 intro jH s σ H x y v u Q I rx ry h;obtain⟨l,b,xs,zs,rfl,rfl,hH,hB,hz,q⟩:=h
 cases rx
 cases ry
 obtain⟨z,jJ,n,r,hl,e⟩:=I.lstM hH;obtain⟨z2,jO,n2,r2,hl2,e2⟩:=I.lstM hB;refine PySem.P.add_list e e2 ?_ (by rw[qD,qD];omega);have ea:jJ.toArray++jO.toArray=(jJ++jO).toArray:=by simp
 rw[ea];exact⟨.ref _,_,I.lnew (t':=s.toks) (r.append r2) (by rw[qJ];omega),rfl,q _ I.fresh⟩
noncomputable def rRep:R2:=λx y H Q=>∃l k xs,x=.ref l/\y=.int k/\H l=some (.lst xs)/\-(2 ^ 63)<=k/\k<2 ^ 63/\xs.length*k.toNat<=xg/\
 ∀p,H p=none->Q (.ref p) (Zj H p (.lst (qB k.toNat xs).flatten))
theorem ZdW {α:Type}(xs:List α)(k:Nat):(qB k xs).flatten.length=k*xs.length:=by
 induction k with
 | zero=>simp
 | succ k ih=>rw[ya,zJ,qJ,ih,qal,qbm]
theorem Zm4:Yj X (binaryOp .Mult) rRep:=by
 intro jH s σ H x y v u Q I rx ry h;obtain⟨l,k,xs,rfl,rfl,hH,h1,h2,hz,q⟩:=h
 cases rx
 obtain⟨t,rfl⟩:=ry;obtain⟨z,jJ,n,r,hl,e⟩:=I.lstM hH;have jQ:jJ.toArray.size*k.toNat<=xg:=by rw[qD,<-hl];exact hz
 have hcap:¬jJ.toArray.size*k.toNat > (2 ^ 63-1) / 8:=by
  have:(xg:Nat)<=(2 ^ 63-1) / 8:=by decide
  omega
 have hfit:¬(!Builtin.List.listFitsIndex k)=true:=by
  rw[fitsIndex_both h1 h2];exact yJ
 have hlong:¬qaI (jJ.toArray.size*k.toNat)=true:=by
  rw[ZeB jQ];exact yJ
 have hnew:qbL (λx1 x2=>x1++x2) #[] (qB (if jJ.toArray.isEmpty=true then 0 else k.toNat) jJ.toArray)=(qB k.toNat jJ).flatten.toArray:=by
  have f0:∀m:Nat,qbL (λx1 x2=>x1++x2) #[] (qB m jJ.toArray)=(qB m jJ).flatten.toArray:=λm=>by
   have:=Zbk jJ m [];rw[qap]at this;exact this
  rw[f0]
  cases jJ with
  | nil=>simp
  | cons a r'=>rw[if_neg (by simp)]
 refine wpAny_binaryOp_repeat_ref (T:="list") (U:="int") (by decide) ⟨_,e,rfl⟩ (λs'=>typeIs_int s' k t) noFill_list_mul F.fills_int_mul qbM repeat_list F.slot_int_index.lookup
  (call_meets qbM (typeIs_int s k t) F.entry_int_rmul (F.args_int_rmul_2 _ _) (int___rmul___int_list k t l jJ.toArray n)
   ⟨e,rfl,⟨_,e,rfl⟩,call_meets F.slot_list_mul ⟨_,e,rfl⟩ F.entry_list_mul (F.args_list_mul_2 _ _) (AutoListH.list___mul___list_int_3 l jJ.toArray n k t hfit hcap hlong) ⟨e,?_⟩⟩)
 rw[hnew];exact⟨.ref _,_,I.lnew (t':=s.toks) (r.rep k.toNat) (by rw[ZdW,qaZ];exact hz),rfl,q _ I.fresh⟩
end
section
variable {prog:xC}{w:World}{A:xD}{E:xE}{s:Shared}
end
section
variable {X:Cx}
end
section
variable {κ:Type}[DecidableEq κ]
noncomputable def Yd (kvs:List (κ×V))(k:κ):Option V:=(kvs.find? λkv=>decide (kv.1=k)).map (·.2)
noncomputable def YD (kvs:List (κ×V))(k:κ)(v:V):List (κ×V):=
 if (kvs.any λkv=>decide (kv.1=k))=true then kvs.map (λkv=>if kv.1=k then (kv.1,v)else kv)else kvs ++ [(k,v)]
theorem X7 {p:κ×V}{r:List (κ×V)}{k:κ}(e:p.1=k):Yd (p::r) k=some p.2:=by simp[Yd,qaQ,e]
theorem X8 {p:κ×V}{r:List (κ×V)}{k:κ}(e:¬p.1=k):Yd (p::r) k=Yd r k:=by simp[Yd,qaQ,e]
theorem ZaV (k:κ):∀kvs:List (κ×V),(kvs.any λkv=>decide (kv.1=k))=(Yd kvs k).isSome
 | []=>rfl
 | p::r=>by
  rw[qaM];by_cases e:p.1=k
  ·simp only[X7 e,decide_eq_true e,Bool.true_or,Option.isSome_some]
  ·rw[X8 e,decide_eq_false e,Bool.false_or];exact ZaV k r
theorem ZeC (k j:κ)(y:V):∀kvs:List (κ×V),Yd (kvs.map λkv=>if kv.1=k then (kv.1,y)else kv) j=(Yd kvs j).map λx=>if j=k then y else x
 | []=>rfl
 | p::r=>by
  have ih:=ZeC k j y r;rw[qY];by_cases h:p.1=k
  ·rw[if_pos h]
   by_cases e:p.1=j
   ·rw[X7 (p:=(p.1,y)) e,X7 e,yE,if_pos (e.symm.trans h)]
   ·rw[X8 (p:=(p.1,y)) e,X8 e,ih]
  ·rw[if_neg h]
   by_cases e:p.1=j
   ·rw[X7 (p:=p) e,X7 e,yE,if_neg (λz=>h (e.trans z))]
   ·rw[X8 (p:=p) e,X8 e,ih]
theorem Zdk (k j:κ)(y:V):∀kvs:List (κ×V),Yd kvs k=none->Yd (kvs ++ [(k,y)]) j=if j=k then some y else Yd kvs j
 | [],_=>by
  by_cases e:k=j
  ·rw[if_pos e.symm];exact X7 (p:=(k,y)) e
  ·rw[if_neg (λz=>e z.symm)];exact X8 (p:=(k,y)) e
 | p::r,hn=>by
  rw[qa5];have hk:¬p.1=k:=λz=>by rw[X7 z]at hn;cases hn
  rw[X8 hk]at hn;have ih:=Zdk k j y r hn;by_cases e:p.1=j
  ·rw[X7 e,X7 e,if_neg (λz=>hk (e.trans z))]
  ·rw[X8 e,X8 e,ih]
theorem Zjr (kvs:List (κ×V))(k j:κ)(y:V):Yd (YD kvs k y) j=if j=k then some y else Yd kvs j:=by
 unfold YD;by_cases a:(kvs.any λkv=>decide (kv.1=k))=true
 ·rw[if_pos a,ZeC]
  rw[ZaV]at a;by_cases e:j=k
  ·obtain⟨x,hx⟩:=yI.mp a
   rw[if_pos e,e,hx,yE,if_pos rfl]
  ·rw[if_neg e]
   cases Yd kvs j with
   | none=>rfl
   | some x=>rw[yE,if_neg e]
 ·rw[if_neg a]
  refine Zdk k j y kvs ?_;rw[ZaV]at a
  cases q:Yd kvs k with
  | none=>rfl
  | some x=>rw[q]at a;exact(a rfl).elim
theorem UQ (kvs:List (κ×V))(k:κ)(v:V):(YD kvs k v).length<=kvs.length+1:=by
 unfold YD;split
 ·rw[qf];omega
 ·rw[qJ,qS,y9];omega
theorem UF.isSome_eq {o:Option V}{u:Option Value}(r:UF o u):o.isSome=u.isSome:=by
 cases o with
 | none=>cases u with
  | none=>rfl
  | some _=>exact(show False from r).elim
 | some _=>cases u with
  | none=>exact(show False from r).elim
  | some _=>rfl
theorem KV.val {kvs:List (κ×V)}{vs:List (κ×Value)}(r:KV kvs vs)(k:κ):UF (Yd kvs k) (valueAt vs k):=by
 unfold KV at r
 induction r with
 | nil=>exact qa6
 | @cons p q ps qs h t ih=>
  obtain⟨h1,h2⟩:=h;by_cases e:p.1=k
  ·have e':q.1=k:=h1.symm.trans e
   have b:valueAt (q::qs) k=some q.2:=by simp[valueAt,qaQ,e']
   rw[X7 e,b];exact h2
  ·have e':¬q.1=k:=λz=>e (h1.trans z)
   have b:valueAt (q::qs) k=valueAt qs k:=by simp[valueAt,qaQ,e']
   rw[X8 e,b];exact ih
theorem KV.any {kvs:List (κ×V)}{vs:List (κ×Value)}(r:KV kvs vs)(k:κ):(kvs.any λkv=>decide (kv.1=k))=vs.any λkv=>decide (kv.1=k):=by
 unfold KV at r
 induction r with
 | nil=>rfl
 | cons h t ih=>rw[qaM,qaM,ih,h.1]
theorem KV.repl {kvs:List (κ×V)}{vs:List (κ×Value)}(r:KV kvs vs)(k:κ){y:V}{u:Value}(ry:ZC y u) :
  KV (kvs.map λkv=>if kv.1=k then (kv.1,y)else kv) (vs.map λkv=>if kv.1=k then (kv.1,u)else kv):=by
 unfold KV at r⊢
 induction r with
 | nil=>exact .nil
 | @cons p q ps qs h t ih=>
  rw[qY,qY];refine .cons ?_ ih;obtain⟨h1,h2⟩:=h;by_cases e:p.1=k
  ·rw[if_pos e,if_pos (h1.symm.trans e)];exact⟨h1,ry⟩
  ·rw[if_neg e,if_neg (λz=>e (h1.trans z))];exact⟨h1,h2⟩
theorem KV.put {kvs:List (κ×V)}{vs:List (κ×Value)}(r:KV kvs vs)(k:κ){y:V}{u:Value}(ry:ZC y u):KV (YD kvs k y) (stored vs k u):=by
 unfold YD stored;rw[r.any k];by_cases e:(vs.any λkv=>decide (kv.1=k))=true
 ·rw[if_pos e,if_pos e];exact r.repl k ry
 ·rw[if_neg e,if_neg e];exact Paired.snoc r ⟨rfl,ry⟩
theorem KV.length {kvs:List (κ×V)}{vs:List (κ×Value)}(r:KV kvs vs):kvs.length=vs.length:=qad r
end
theorem Ji {P:xC}{w:World}{k:Zt}{u:Value}(r:ZC (kV k) u):(XG P w).is k u=true:=by
 cases k with
 | inl i=>obtain⟨t,e⟩:=(show ∃t,u=qcX i t from r);subst e;exact Zew P w i t
 | inr x=>obtain⟨t,e⟩:=(show ∃t,u=Value.str x t from r);subst e;exact Zex P w x t
theorem Zdl {P:xC}{w:World}:∀{ks:List Zt} {us:List Value},Zu (ks.map kV) us->ItemsAre (XG P w) ks us
 | [],_,r=>by rw[qck]at r;cases r;exact .nil
 | k::ks,_,r=>by
  rw[qY]at r
  cases r with
  | cons h t=>exact .cons (Ji h) (Zdl t)
noncomputable abbrev KT (H:Hp):List (List Zt×V)->List (List Zt×Addr×Value)->Prop:=Paired λp q=>p.1=q.1/\H q.2.1=some (.tup (p.1.map kV))/\ZC p.2 q.2.2
theorem KT.val {H:Hp}{kvs:List (List Zt×V)}{xs:List (List Zt×Addr×Value)}(r:KT H kvs xs)(k:List Zt):UF (Yd kvs k) ((atKey xs k).map (·.2)):=by
 induction r with
 | nil=>exact qa6
 | @cons p q ps qs h t ih=>
  obtain⟨h1,_,h2⟩:=h;by_cases e:p.1=k
  ·have e':q.1=k:=h1.symm.trans e
   have b:atKey (q::qs) k=some q.2:=by simp[atKey,qaQ,e']
   rw[X7 e,b];exact h2
  ·have e':¬q.1=k:=λz=>e (h1.trans z)
   have b:atKey (q::qs) k=atKey qs k:=by simp[atKey,qaQ,e']
   rw[X8 e,b];exact ih
theorem KT.repl {H:Hp}{kvs:List (List Zt×V)}{xs:List (List Zt×Addr×Value)}(r:KT H kvs xs)(k:List Zt){y:V}{u:Value}(ry:ZC y u) :
  KT H (kvs.map λkv=>if kv.1=k then (kv.1,y)else kv) (xs.map (putAt k u)):=by
 induction r with
 | nil=>exact .nil
 | @cons p q ps qs h t ih=>
  rw[qY,qY];refine .cons ?_ ih;obtain⟨h1,h2,h3⟩:=h;unfold putAt;by_cases e:p.1=k
  ·rw[if_pos e,if_pos (h1.symm.trans e)];exact⟨h1,h2,ry⟩
  ·rw[if_neg e,if_neg (λz=>e (h1.trans z))];exact⟨h1,h2,h3⟩
theorem KT.put {H:Hp}{kvs:List (List Zt×V)}{xs:List (List Zt×Addr×Value)}(r:KT H kvs xs)(k:List Zt){b:Addr}{y:V}{u:Value}(hb:H b=some (.tup (k.map kV)))(ry:ZC y u) :
  KT H (YD kvs k y) (storedH xs k b u):=by
 have e:(kvs.any λkv=>decide (kv.1=k))=(atKey xs k).isSome:=by
  rw[ZaV,(r.val k).isSome_eq,Option.isSome_map]
 unfold YD storedH;rw[e];by_cases q:(atKey xs k).isSome=true
 ·rw[if_pos q,if_pos q];exact r.repl k ry
 ·rw[if_neg q,if_neg q];exact Paired.snoc r ⟨rfl,hb,ry⟩
theorem KT.keeps {H H':Hp}{kvs:List (List Zt×V)}{xs:List (List Zt×Addr×Value)}(r:KT H kvs xs)(ht:∀b ys,H b=some (.tup ys)->H' b=some (.tup ys)):KT H' kvs xs:=
 Paired.mapP r λ_ _ z=>⟨z.1,ht _ _ z.2.1,z.2.2⟩
section
variable {P:xC}{w:World}{H:Hp}{h:Heap}{a:Addr}
theorem Zmg {u:HO}(ok:Yg P w H h)(e:Rd H a u):YI P w H h a u:=e.ok ok
theorem ZgX {kvs:List (Zt×V)}(ok:Yg P w H h)(e:Rd H a (.dK kvs)):kvs.length<=xg/\(a==sysModules)=false/\∃vs,KV kvs vs/\h.DictOf (XG P w) a vs:=
 show YI P w H h a (.dK kvs)from Zmg ok e
theorem Zjs {kvs:List (Zt×V)}(ok:Yg P w H h)(e:H a=some (.dK kvs)):kvs.length<=xg/\(a==sysModules)=false/\∃vs,KV kvs vs/\h.DictOf (XG P w) a vs:=ZgX ok (.inl e)
theorem Bi {ks:List Zt}(ok:Yg P w H h)(e:H a=some (.tup (ks.map kV))):(tupleKind (XG P w)).is h ks a:=by
 obtain⟨_,jJ,r,o,h1,h2,n,h3⟩:=(show YI P w H h a (.tup (ks.map kV))from ok a _ e);exact⟨o,jJ.toArray,n,h1,h2,h3,by simpa using Zdl r⟩
theorem ZgY {kvs:List (List Zt×V)}(ok:Yg P w H h)(e:Rd H a (.dT kvs)):kvs.length<=xg/\(a==sysModules)=false/\
  ∃xs,KT H kvs xs/\h.DictOfH (tupleKind (XG P w)) a xs:=by
 obtain⟨z,y,xs,r,o,es,ep,h1,h2,h3,h4,h5⟩:=(show YI P w H h a (.dT kvs)from Zmg ok e);refine⟨z,y,xs,r,o,es,ep,h1,h2,h3,h4,λx hx=>?_,h5⟩;have all:∀{l:List (List Zt×V)} {m:List (List Zt×Addr×Value)},KT H l m->∀x∈m,(tupleKind (XG P w)).is h x.1 x.2.1:=by
  intro l m q
  induction q with
  | nil=>intro x hx;exact nomatch hx
  | @cons p q ps qs hq t ih=>
   intro x hx;rcases qp.mp hx with e | hx
   ·subst e
    exact Bi ok (by rw[<-hq.1];exact hq.2.1)
   ·exact ih x hx
 exact all r x hx
theorem Zmh {kvs:List (List Zt×V)}(ok:Yg P w H h)(e:H a=some (.dT kvs)):kvs.length<=xg/\(a==sysModules)=false/\
  ∃xs,KT H kvs xs/\h.DictOfH (tupleKind (XG P w)) a xs:=ZgY ok (.inl e)
end
noncomputable def Xk (H:Hp)(a:Addr)(y:V)(r:Option V):Prop:=
 (∃kvs k,Rd H a (.dK kvs)/\y=kV k/\r=Yd kvs k)∨∃kvs k b,Rd H a (.dT kvs)/\y=.ref b/\H b=some (.tup (k.map kV))/\r=Yd kvs k
noncomputable def WK (H:Hp)(a:Addr)(y v:V)(H':Hp):Prop:=
 (∃kvs k,H a=some (.dK kvs)/\y=kV k/\kvs.length<xg/\H'=Zj H a (.dK (YD kvs k v)))∨
 ∃kvs k b,H a=some (.dT kvs)/\y=.ref b/\H b=some (.tup (k.map kV))/\kvs.length<xg/\H'=Zj H a (.dT (YD kvs k v))
theorem Xk.k {H:Hp}{a:Addr}{kvs:List (Zt×V)}{k:Zt}(e:H a=some (.dK kvs)):Xk H a (kV k) (Yd kvs k):=.inl ⟨kvs,k,.inl e,rfl,rfl⟩
theorem Xk.t {H:Hp}{a b:Addr}{kvs:List (List Zt×V)}{k:List Zt}(e:H a=some (.dT kvs))(eb:H b=some (.tup (k.map kV))):Xk H a (.ref b) (Yd kvs k):=.inr ⟨kvs,k,b,.inl e,rfl,eb,rfl⟩
theorem WK.k {H:Hp}{a:Addr}{kvs:List (Zt×V)}{k:Zt}{v:V}(e:H a=some (.dK kvs))(hl:kvs.length<xg):WK H a (kV k) v (Zj H a (.dK (YD kvs k v))):=.inl ⟨kvs,k,e,rfl,hl,rfl⟩
theorem WK.t {H:Hp}{a b:Addr}{kvs:List (List Zt×V)}{k:List Zt}{v:V}(e:H a=some (.dT kvs))(eb:H b=some (.tup (k.map kV)))(hl:kvs.length<xg) :
  WK H a (.ref b) v (Zj H a (.dT (YD kvs k v))):=.inr ⟨kvs,k,b,e,rfl,eb,hl,rfl⟩
section
variable {X:Cx}{jH:Qb}{σ:St}{H:Hp}{s:Shared}{a:Addr}{y v:V}{u r:Value}{o:Option V}{A:xD}{E:xE}
theorem Inv.big (I:Inv X jH σ H s):sysModules<s.heap.objs.size:=by
 have h:mainGlobals<s.heap.objs.size:=(I.mod.glob.keeps I.bk).lt;exact qam (by decide) h
theorem ZhW {Q:xE}(hu:A.units+1<cLine)(I:Inv X jH σ H s)(g:Xk H a y (some v))(ry:ZC y u)(h:∀w' s',Inv X jH σ H s'->ZC v w'->Q w' s') :
  xf (xA X.prog X.w) A (getItem (.ref a) u) Q E s:=by
 rcases g with⟨kvs,k,e,ey,l⟩ | ⟨kvs,k,b,e,ey,eb,l⟩
 ·subst ey
  obtain⟨z,hd,vs,rel,dd⟩:=ZgX I.hok e;obtain⟨w',hw,rw'⟩:=jB (v:=v) (o:=valueAt vs k) (by rw[l];exact rel.val k);exact wpAny_getItem_of (Ji ry) dd.mapOf hw (h w' _ (I.tok _) rw')
 ·subst ey
  cases (show u=ze b from ry)
  obtain⟨z,hd,xs,rel,dd⟩:=ZgY I.hok e;obtain⟨w',hw,rw'⟩:=jB (v:=v) (o:=(atKey xs k).map (·.2)) (by rw[l];exact rel.val k);obtain⟨p,hp,hp2⟩:=yA.mp hw;refine wpAny_getItem_heap (tupleKind_room_in1 hu) (Bi I.hok eb) dd hp ?_;rw[hp2];exact h w' _ (I.tok _) rw'
theorem d_in {Q:xE}(hu:A.units+1<cLine)(I:Inv X jH σ H s)(g:Xk H a y o)(ry:ZC y u)(h:∀s',Inv X jH σ H s'->Q (.bool o.isSome) s') :
  xf (xA X.prog X.w) A (xk .In u (.ref a)) Q E s:=by
 rcases g with⟨kvs,k,e,ey,l⟩ | ⟨kvs,k,b,e,ey,eb,l⟩
 ·subst ey
  obtain⟨z,hd,vs,rel,dd⟩:=ZgX I.hok e;refine wpAny_in_of (Ji ry) hd dd.mapOf ?_;rw[<-(rel.val k).isSome_eq,<-l];exact h _ (I.tok _)
 ·subst ey
  cases (show u=ze b from ry)
  obtain⟨z,hd,xs,rel,dd⟩:=ZgY I.hok e;refine wpAny_in_heap (tupleKind_room_in1 hu) (Bi I.hok eb) hd dd ?_;have q:=(rel.val k).isSome_eq;rw[Option.isSome_map]at q;rw[<-q,<-l];exact h _ (I.tok _)
theorem JY {h':Heap}{t':Nat}{ob:HO}(I:Inv X jH σ H s)(mu:BI (H a))(hs:zW a s.heap h')(he:∃q,h'.get? a=some q)(new:YI X.prog X.w (Zj H a ob) h' a ob) :
  Inv X jH σ (Zj H a ob) { s with heap:=h',toks:=t' }:=
 I.write (x:=a) (e:=a) mu (.inl rfl) (λb q hb z=>(hs.2 b hb).trans z) he new
theorem ZfV {P:xC}{w:World}{H':Hp}{h':Heap}{kvs:List (Zt×V)}{vs:List (Zt×Value)}(z:kvs.length<=xg)(hd:(a==sysModules)=false)(rel:KV kvs vs)(dd:h'.DictOf (XG P w) a vs) :
  YI P w H' h' a (.dK kvs):=⟨z,hd,vs,rel,dd⟩
theorem ZhX {H':Hp}{Q:Unit->Shared->Prop}(hu:A.units+1<cLine)(I:Inv X jH σ H s)(g:WK H a y v H')(ry:ZC y u)(rv:ZC v r)(h:∀s',Inv X jH σ H' s'->Q () s') :
  xf (xA X.prog X.w) A (setItem (.ref a) u r) Q E s:=by
 rcases g with⟨kvs,k,e,ey,l,eH⟩ | ⟨kvs,k,b,e,ey,eb,l,eH⟩
 ·subst ey eH
  obtain⟨z,hd,vs,rel,dd⟩:=Zjs I.hok e;have hz:vs.length<=xg:=by rw[<-rel.length];exact z
  have hl:(YD kvs k v).length<=xg:=by have:=UQ kvs k v;omega
  refine wpAny_setItem_pairs (hsz:=hz) (Ji ry) dd λh' dd' hs=>h _ ?_;have he:∃q,h'.get? a=some q:=let ⟨q,_,_,hq,_⟩:=dd';⟨q,hq⟩;exact JY I (by rw[e];exact qa6) hs he (ZfV hl hd (rel.put k rv) dd')
 ·subst ey eH
  cases (show u=ze b from ry)
  obtain⟨z,hd,xs,rel,dd⟩:=Zmh I.hok e;have hz:xs.length<=xg:=by rw[<-qad rel];exact z
  have hl:(YD kvs k v).length<=xg:=by have:=UQ kvs k v;omega
  refine wpAny_setItem_heap (hsz:=hz) (tupleKind_room_in1 hu) (Bi I.hok eb) dd λh' dd' hs=>h _ ?_;obtain⟨q,es,ep,hq,h2,h3,h4,_,h5⟩:=dd';refine JY I (by rw[e];exact qa6) hs ⟨q,hq⟩ ⟨hl,hd,_,(rel.put k eb rv).keeps λc ys ec=>?_,q,es,ep,hq,h2,h3,h4,h5⟩;rw[Zq (Zmb ec e (λz=>nomatch z))];exact ec
end
section
variable {X:Cx}{jH:Qb}{σ:St}{H:Hp}{s:Shared}{a:Addr}{kvs:List (Zt×V)}{k:Zt}{u:Value}{A:xD}{E:xE}
end
noncomputable def NoSl (i:Expr):Prop:=∀ov iv,subscripted i false ov iv=operate [ov,iv] (getItem ov iv)
theorem Zk6 {prog:xC}{w:World}{A:xD}{E:xE}{s:Shared}{env:Env}{value slice:Expr}{pos:Pos}{T id:String}{Q:xE}
  (hl:typeLookup (.type T) "__getitem__" = pure (some (.builtin id))) (hs:NoSl slice)
  (h:xf (xA prog w) A (eval value env) (λo s₁=>xf (xA prog w) A (eval slice env) (λi s₂=>s₂.TypeIs o T/\xf (xA prog w) A (getItem o i) Q E s₂) E s₁) E s) :
  xf (xA prog w) A (eval (.Subscript value slice pos) env) Q E s:=by
 refine Subscript_ (xc h (λo s₁ h₁=>xc h₁ (λi s₂ h₂=>?_) λ_ _ x=>x) λ_ _ x=>x);obtain⟨hT,h₂⟩:=h₂;unfold subscriptTail;refine xa ?_;rw[getitemInPython_of_ne hT.not_modules];refine xa (wpAny_specialOf hT hl ?_);have fin:xf (xA prog w) A (subscripted slice false o i) (λr s₃=>xf (xA prog w) A (letTemporaryGo value o r >>= λ_=>pure r) Q E s₃) E s₂:=by
  rw[hs o i];exact wpAny_operating (xc h₂ (λr s₃ h₃=>xa (wpAny_letTemporaryGo (xb h₃))) λ_ _ x=>x)
 first
  | exact xb (xa fin)
  | exact xa (xb (xa fin))
  | exact xa fin
theorem ZeD {X:Cx}{jH:Qb}{σ:St}{H:Hp}{s:Shared}{a:Addr}{y:V}{o:Option V}(I:Inv X jH σ H s)(g:Xk H a y o):s.TypeIs (.ref a) "dict":=by
 rcases g with⟨kvs,k,e,_,_⟩ | ⟨kvs,k,b,e,_,_,_⟩
 ·obtain⟨_,_,vs,_,dd⟩:=ZgX I.hok e
  exact dd.typeIs
 ·obtain⟨_,_,xs,_,dd⟩:=ZgY I.hok e
  exact dd.typeIs
noncomputable def ZgZ (td ty:TE):TE:=fun σ H Q=>td σ H λx H1=>ty σ H1 λy H2=>∃a v,x=.ref a/\Xk H2 a y (some v)/\Q v H2
noncomputable def Zmi (td ty tv:TE):TS:=λD σ H=>tv σ H λv H1=>td σ H1 λx H2=>ty σ H2 λy H3=>∃a H4,x=.ref a/\WK H3 a y v H4/\D.nx σ H4
section
variable {X:Cx}{o i e value:Expr}{pos pos' tpos:Pos}{td ty tv:TE}
theorem WF (hu:X.A.units+1<cLine)(ho:PE X o td)(hi:PE X i ty)(hs:NoSl i):PE X (.Subscript o i pos) (ZgZ td ty):=by
 intro jH s σ H Q I h;refine Zk6 PySem.F.slot_dict_getitem.lookup hs (ZD (ho jH s σ H _ I h) λu s1 ⟨x,H1,I1,rx,q1⟩=>ZD (hi jH s1 σ H1 _ I1 q1) λiv s2 ⟨y,H2,I2,ry,a,v,ex,g,q2⟩=>?_);subst ex;obtain rfl:u=ze a:=rx;exact⟨ZeD I2 g,ZhW hu I2 g ry λw' s3 I3 rw'=>⟨v,H2,I3,rw',q2⟩⟩
theorem Zk7 (hu:X.A.units+1<cLine)(ho:PE X o td)(hi:PE X i ty)(hv:PE X value tv)(hs:xr value (some (.Subscript o i pos')) pos.line X.env=pure false) :
  PS X (.Assign [.Subscript o i pos'] value pos) (Zmi td ty tv):=by
 intro jH s σ H D I h;refine wpAny_Assign_Subscript (ZD (hv jH s σ H _ I h) λr s1 ⟨v,H1,I1,rv,q1⟩=>ZD (ho jH s1 σ H1 _ I1 q1) λu s2 ⟨x,H2,I2,rx,q2⟩=>ZD (hi jH s2 σ H2 _ I2 q2) λiv s3 ⟨y,H3,I3,ry,a,H4,ex,g,q3⟩=>?_) hs;subst ex;obtain rfl:u=ze a:=rx;exact ZhX hu I3 g ry rv λs4 I4=>⟨σ,H4,I4,q3⟩
end
theorem ZeE {P:xC}{w:World}{H:Hp}(h:Heap)(hb:sysModules<h.objs.size):YI P w H (h.push { cls:=.type "dict",data:=.dict #[] }) h.objs.size (.dK []):=
 ⟨zR _,beq_eq_false_iff_ne.mpr (zD (qT hb)),[],.nil,Heap.DictOf.new h⟩
theorem Zjt {P:xC}{w:World}{H:Hp}(h:Heap)(hb:sysModules<h.objs.size):YI P w H (h.push { cls:=.type "dict",data:=.dict #[] }) h.objs.size (.dT []):=
 ⟨zR _,beq_eq_false_iff_ne.mpr (zD (qT hb)),[],.nil,_,#[],0,qw _ rfl,⟨rfl,rfl,rfl⟩,rfl,rfl,List.nodup_nil⟩
section
variable {X:Cx}{pos:Pos}
end
noncomputable def ZfW:List (TE×TE)->St->Hp->(List (V×V)->Hp->Prop)->Prop
 | [],_,H,Q=>Q [] H
 | (tk,tv)::r,σ,H,Q=>tk σ H λx H1=>tv σ H1 λy H2=>ZfW r σ H2 λps H3=>Q ((x,y)::ps) H3
noncomputable abbrev VV:List (V×V)->List (Value×Value)->Prop:=Paired λp q=>ZC p.1 q.1/\ZC p.2 q.2
noncomputable def PPs (X:Cx)(pos:Pos)(keys:List (Option Expr))(values:List Expr)(trs:List (TE×TE)):Prop:=
 ∀(jH:Qb) (s:Shared) (σ:St) (H:Hp) (Q:List (V×V)->Hp->Prop),Inv X jH σ H s->ZfW trs σ H Q->
  xf (xA X.prog X.w) X.A (evalPairs (pairTrees keys values X.env pos)) (λvs s'=>∃ps H',Inv X jH σ H' s'/\VV ps vs/\Q ps H') X.xe s
theorem Zk8 {X:Cx}{pos:Pos}:PPs X pos [] [] []:=λjH s σ H Q I h=>pairTrees_nil_walk ⟨[],H,I,.nil,h⟩
theorem Zcd {X:Cx}{pos:Pos}{k v:Expr}{ks:List (Option Expr)}{vs:List Expr}{tk tv:TE}{trs:List (TE×TE)}(hk:PE X k tk)(hv:PE X v tv)(hr:PPs X pos ks vs trs) :
  PPs X pos (some k::ks) (v::vs) ((tk,tv)::trs):=λjH s σ H Q I h=>
 pairTrees_cons_walk (ZD (hk jH s σ H _ I h) λu s1 ⟨x,H1,I1,rx,q1⟩=>ZD (hv jH s1 σ H1 _ I1 q1) λw2 s2 ⟨y,H2,I2,ry,q2⟩=>
  ZD (hr jH s2 σ H2 _ I2 q2) λws s3 ⟨ps,H3,I3,rel,q3⟩=>⟨(x,y)::ps,H3,I3,.cons ⟨rx,ry⟩ rel,q3⟩)
noncomputable def VW (kvs more:List (Zt×V)):List (Zt×V):=more.foldl (λj6 kv=>YD j6 kv.1 kv.2) kvs
theorem KV.merge:∀{more:List (Zt×V)} {rs:List (Zt×Value)} {kvs:List (Zt×V)} {vs:List (Zt×Value)},KV more rs->KV kvs vs->KV (VW kvs more) (merged vs rs):=by
 intro more rs kvs vs r;unfold KV at r
 induction r generalizing kvs vs with
 | nil=>intro q;exact q
 | @cons p q ps qs h t ih=>
  intro r0;have e:KV (YD kvs p.1 p.2) (stored vs q.1 q.2):=by
   have:=r0.put p.1 h.2;rw[<-h.1];exact this
  exact ih e
theorem ZaC:∀(more kvs:List (Zt×V)),(VW kvs more).length<=kvs.length+more.length
 | [],kvs=>by show kvs.length<=kvs.length+0;omega
 | p::r,kvs=>by
  have h1:=ZaC r (YD kvs p.1 p.2);have h2:=UQ kvs p.1 p.2;show(VW (YD kvs p.1 p.2) r).length<=_;rw[qS];omega
theorem Zce {P:xC}{w:World}:∀{kvs:List (Zt×V)} {ws:List (Value×Value)},VV (kvs.map λkv=>(kV kv.1,kv.2)) ws->∃rs,Carries (XG P w) ws rs/\KV kvs rs
 | [],_,r=>by rw[qck]at r;cases r;exact⟨[],qa6,.nil⟩
 | p::kvs,_,r=>by
  rw[qY]at r
  cases r with
  | @cons a b as bs h t=>
   obtain⟨rs,c,q⟩:=Zce (P:=P) (w:=w) t;obtain⟨b1,b2⟩:=b;exact⟨(p.1,b2)::rs,⟨Ji h.1,rfl,c⟩,.cons ⟨rfl,h.2⟩ q⟩
noncomputable def Zmj (trs:List (TE×TE)):TE:=fun σ H Q=>∀p,H p=none->ZfW trs σ (Zj H p (.dK [])) λps H2=>H2 p=some (.dK [])/\∃kvs:List (Zt×V),ps=kvs.map (λkv=>(kV kv.1,kv.2))/\kvs.length<=15/\Q (.ref p) (Zj H2 p (.dK (VW [] kvs)))
theorem Zk9 {X:Cx}{pos:Pos}{keys:List (Option Expr)}{values:List Expr}{trs:List (TE×TE)}(h:PPs X pos keys values trs)(hall:keys.all (·.isSome)=true)(hl:keys.length=values.length)(h0:keys≠[])
  (h15:keys.length<=15):PE X (.Dict keys values pos) (Zmj trs):=by
 intro jH s σ H Q I q;have hn:=I.hok.fresh (qk s.heap.objs.size);have I1:=I.laid (a:=s.heap.objs.size) (o:=.dK []) (h':=s.heap.push { cls:=.type "dict",data:=.dict #[] }) (t':=s.toks) (λ_ _ q=>qd _ q) (qk _) (ZeE s.heap I.big);refine wpAny_Dict_walk (knd:=XG X.prog X.w) hall hl h0 h15 (ZD (h jH _ σ _ _ I1 (q _ hn)) λws s2 ⟨ps,H2,I2,rel,e,kvs,ep,lk,q2⟩=>?_);subst ep;obtain⟨rs,c,rk⟩:=Zce (P:=X.prog) (w:=X.w) rel;obtain⟨z,hd,vs0,r0,dd⟩:=Zjs I2.hok e
 cases r0
 refine⟨rs,c,dd,λh' dd' hs=>⟨.ref s.heap.objs.size,_,?_,rfl,q2⟩⟩;have hz:(VW [] kvs).length<=xg:=by
  have h1:=ZaC kvs [];rw[y9]at h1;rw[sizeLine_eq];omega
 have he:∃q,h'.get? s.heap.objs.size=some q:=let ⟨q,_,_,hq,_⟩:=dd';⟨q,hq⟩;exact JY I2 (by rw[e];exact qa6) hs he (ZfV hz hd (rk.merge .nil) dd')
section
variable {X:Cx}{jH:Qb}{σ:St}{H:Hp}{s:Shared}{a:Addr}{y d:V}{u r:Value}{o:Option V}{A:xD}{E:xE}
end
section
variable {X:Cx}{o e f:Expr}{apos cpos:Pos}{td ty tx:TE}
end
section
variable {X:Cx}{jH:Qb}{σ:St}{H:Hp}{s:Shared}{a:Addr}{kvs:List (Zt×V)}{A:xD}{E:xE}
end
section
variable {X:Cx}{jH:Qb}{σ:St}{H:Hp}{s:Shared}{a:Addr}{y:V}{u:Value}{A:xD}{E:xE}
end
end L2
namespace Att
open PySem.W PySem.Calls
theorem ZbT {P:Params}{h:Heap}:∀(ns:List Int) (vs:List Value),WellAll P h vs (ns.map WData.int)->IntsAre vs ns:=by
 intro ns
 induction ns with
 | nil=>
  intro vs w;rw[qck]at w
  cases w
  exact .nil
 | cons n ns ih=>
  intro vs w;rw[qY]at w
  cases w with
  | cons a b=>
   cases a
   exact .cons _ _ (ih _ b)
theorem ZhY {l:OpenLaw}{n:Nat}(hn:l.most=some n){P:Params}{h:Heap}{args:List WData}{vals:List Value}
  (hpre:l.row.toRowW.claim.pre args=true) (hwl:WellAll P h vals args) :
  ∃a vs ns,vals=[ze a]/\args=[WData.list (ns.map WData.int)]/\h.get? a=some { cls:=.type "list",data:=.seq vs.toArray }/\IntsAre vs ns/\ns.length<=n:=by
 have hsh:WShape.hasAll [] args [.list .int]=true:=(pre_splitW hpre).1;have hc:l.pre.holds [] { args:=args }=true:=(pre_splitW hpre).2;obtain⟨d,r,rfl,h1,h2⟩:=hasAllW_cons hsh;obtain rfl:=hasAllW_nil h2;obtain⟨xs,rfl,h3⟩:=hasW_list h1;obtain⟨ns,rfl⟩:=items_int h3;have jQ:ns.length<=n:=by
  unfold OpenLaw.pre at hc;have h4:(WTm.not (.lt (.lit (.int (n:Int))) (.len (.arg 0)))).holds [] { args:=[.list (ns.map .int)] }=true:=by
   have h4:=(holds_andW hc).1;rw[hn]at h4;exact h4
  have h5:=condW_of h4 (w_not (w_lt w_lit (w_len_list (w_arg rfl))));rw[qf]at h5;refine Nat.le_of_not_lt λq=>?_;have q':(n:Int)<((ns.length:Nat):Int):=by omega
  first
   | (rw[decide_eq_true q']at h5;exact absurd h5 (by decide))
   | (simp at h5;omega)
 cases hwl with
 | cons w1 w2=>
  cases w2
  cases w1 with
  | list ho hall=>exact⟨_,_,ns,rfl,rfl,ho,ZbT ns _ hall,jQ⟩
theorem ZhZ (l:OpenLaw)(args:List WData):l.row.toRowW.claim.post args (.bool true) args=true:=
 postW_of (r:=l.row.toRowW) (X:=(true==true))
  (show WShape.has [] (.bool true) .bool=true by first | rfl | decide | simp[WShape.has,WShape.arms,WShape.armsAll])
  (show(WTm.eq .res (.lit (.bool true))).value [] { args:=args,res:=some (.bool true),after:=args }=some (.bool (true==true))from w_eq_bool (w_res rfl) w_lit) rfl
theorem attach_call {l:OpenLaw}{n:Nat}{q:xC}{loose:List Str}{XP:(Str->Option Value)->Heap->Prop}{YP:World->Heap->Prop}{d:DefRec}
  (hn:l.most=some n) (hdf:d.params.defaults=[])
  (call:∀(w:World) (s₀ s₁:Shared) (mg mb:Str->Option Value) (fa:Addr) (o:Obj) (pm cd doc:Value) (a:Addr) (vs:List Value) (ns:List Int),
   Ground q loose [] XP w s₀ mg mb s₁.heap->YP w s₁.heap->
   s₁.heap.get? fa=some o->o.data=.func (docDef d.name d.params d.body d.scope pm cd doc)->s₁.heap.CodeRec cd d.name->mg d.name=some (.ref fa)->
   s₁.heap.get? a=some { cls:=.type "list",data:=.seq vs.toArray }->IntsAre vs ns->ns.length<=n->s₁.gens = #[]->
   xo (xA l.prog w) callerA (.call (.ref fa) ⟨[.ref a],[]⟩) (λr s'=>r=.ok (.ret (.bool true))/\OldK s₁.heap s'.heap/\s'.os=s₁.os/\AllBare s'.gens) s₁) :
  WalkO q loose XP YP l.row.toRowW d [] (λf vs=>qcM f vs):=by
 intro w s₀ s₁ mg mb G Y fa o pm cd doc dV kV ho hd hcd hD hmg hg args vals as hpre hlay hrd hwl hlo;obtain rfl:dV=.none:=Dflts.none hD hdf;obtain rfl:kV=.none:=Dflts.noKw hD;obtain⟨a,vs,ns,rfl,rfl,hobj,hints,jQ⟩:=ZhY hn hpre hwl;refine enter_call (codeAny_mono (call w s₀ s₁ mg mb fa o pm cd doc a vs ns G Y ho (fd_plain hd) hcd hmg hobj hints jQ hg) λr s' hq=>?_);obtain⟨rfl,h2,h3,h4⟩:=hq;exact⟨.inl ⟨.bool true,.bool true,[],rfl,λ_=>rfl,.bool true,ZhZ l _,λ_=>⟨yC,λ_ hm=>(nomatch hm)⟩⟩,h2,h3,h4⟩
section
variable {prog:xC}{w:World}{A:xD}{E:xE}{s:Shared}{K:Frag}
end
end Att
namespace L2
theorem Zdm:∀{vs:List Value} {ns:List Int},IntsAre vs ns->Zu (ns.map V.int) vs
 | _,_,.nil=>.nil
 | _,_,.cons n t h=>.cons ⟨t,rfl⟩ (Zdm h)
noncomputable def WG (s:Stmt):Arguments:=match s with
 | .FunctionDef _ a _ _ _ _ _ _ _ _=>a
 | _=>{ posonlyargs:=[],args:=[],vararg:=none,kwonlyargs:=[],kw_defaults:=[],kwarg:=none,defaults:=[] }
noncomputable def Wa (s:Stmt):List Stmt:=match s with
 | .FunctionDef _ _ b _ _ _ _ _ _ _=>b
 | _=>[]
noncomputable def ZH (s:Stmt):Scope:=match s with
 | .FunctionDef _ _ _ _ _ _ sc _ _ _=>sc
 | _=>{ kind:=.function,names:=[],isGenerator:=false,isCoroutine:=false }
noncomputable abbrev ZQ:Xo:=λ_ _ _ _ _ _=>False
noncomputable abbrev E0:XK:=λ_ _ _=>False
theorem Zju {X:Cx}:ZdU ZQ X E0:=λ_ _ _ _ _ _ _ h=>h.elim
structure Fun (K:qj)(x qual:Str)(st:Stmt)(f:Addr)(fd:xB):Prop where
 ex:∃(oc:Value) (od:Option Addr) (kV doc pm:Value) (an:Option Addr) (cdv ct:Value) (osl:Array (Option Value)),
  fd=y8 x qual (WG st) (Wa st) (ZH st) .none kV doc pm an cdv ct/\K.lookup f=some ⟨oc,od,.func fd,osl⟩/\qbs K cdv qual=true
 kp:yW K (.ref f)=true
section
variable {P:xC}{w:World}{K:qj}{mg:Str->Option Value}{base:Heap}
theorem Fun.ok {x qual:Str}{st:Stmt}{f:Addr}{fd:xB}{N ps:List Str}{k:Nat}{sp:Sp}(F:Fun K x qual st f fd)(S:FnScope N ps (ZH st))(len:∀vs H Q E,sp vs H Q E->vs.length=ps.length)
  (hbody:∀(cdv:Value) (A:xD) (outer:List Env) (s:Shared) (H:Hp) (vs:List V) (Q:VK) (E:XK),Room k (A.deeper (envOfC qual (ZH st) s.heap.objs.size f cdv))->sp vs H Q E->
   ∃t,X2 (WJ ZQ P w K mg base N qual (ZH st) f cdv A outer s H E).nox (Wa st) t/\t { nx:=λ_ H'=>Q .non H',rt:=Q } (start N vs) H):FnOk P w K mg base ZQ (k+1) f fd ps sp:=by
 obtain⟨oc,od,kV,doc,pm,an,cdv,ct,osl,rfl,lk,hcd⟩:=F.ex;refine Zme lk hcd S len λA outer s H vs Q E hr hsp=>?_;obtain⟨t,h,q⟩:=hbody cdv A outer s H vs Q E hr hsp;exact⟨t,h.nox,q⟩
theorem Fun.binds {x qual:Str}{st:Stmt}{f:Addr}{fd:xB}{ps:List Str}(F:Fun K x qual st f fd)
  (h:∀(kV doc pm:Value) (an:Option Addr) (cdv ct:Value) (us:List Value),us.length=ps.length->bindArgs (y8 x qual (WG st) (Wa st) (ZH st) .none kV doc pm an cdv ct) ⟨us,[]⟩=pure (ps.zip us)):Wd K fd ps []:=by
 obtain⟨oc,od,kV,doc,pm,an,cdv,ct,osl,rfl,lk,hcd⟩:=F.ex;exact .all (h kV doc pm an cdv ct)
theorem Zm5 {x qual:Str}{st:Stmt}{f:Addr}{oc:Value}{od an:Option Addr}{osl:Array (Option Value)}{kV doc pm cdv ct:Value}(l:K.lookup f=some ⟨oc,od,.func (y8 x qual (WG st) (Wa st) (ZH st) .none kV doc pm an cdv ct),osl⟩)
  (c:qbs K cdv qual=true) (k:yW K (.ref f)=true):Fun K x qual st f (y8 x qual (WG st) (Wa st) (ZH st) .none kV doc pm an cdv ct):=⟨⟨oc,od,kV,doc,pm,an,cdv,ct,osl,rfl,l,c⟩,k⟩
end
theorem hu_of {A:xD}{k:Nat}(hr:Room k A):A.units+1<cLine:=Nat.lt_of_le_of_lt (Nat.add_le_add_left (by decide:1<=64) _) hr.units
section
variable {X:Cx}
theorem pv (i:Nat){x:Str}{pos:Pos}(hN:X.N[i]?=some x:=by rfl)(hv:BJ X.env.scope x:=by first | exact zt rfl | exact qaa (zt rfl) | exact qaa (qaa rfl))(hd:(x==("__debug__" : Str))=false:=by decide)
  (hcd:(x==("__classdict__" : Str))=false:=by decide):PE X (.Name x pos) (Z3 i):=ZmL hN hv hd hcd
end
theorem VC {A B:Prop}(h:B):if false=true then A else B:=by
 rw[if_neg yJ];exact h
theorem V3 {A B:Prop}(h:A):if true=true then A else B:=by
 rw[if_pos rfl];exact h
section
variable {X:Cx}
end
section
variable {κ:Type}[DecidableEq κ]
end
theorem ZeF {prog:xC}{w:World}{A:xD}{R:Result->Shared->Prop}{s:Shared}{elt target iter:Expr}{ifs:List Expr}{scope:Scope}{pos:Pos}{it j6:Value}{env:Env}(I:Nat->Shared->Prop)
  (turn:∀n s,I n s->xf (xA prog w) A (pyNext it) (λr s₁=>match r with
   | none=>R (.ok .next) s₁
   | some v=>xf (xA prog w) A (letOwnedTupleGo target it v) (λ_ s₁'=>xf (xA prog w) A (assign target env v) (λ_ s₂=>
     xf (xA prog w) A (forIn ifs true λc r=>if r=true then do let ok<-isTrue c env (eval c env);pure (qaq ok)else pure (qaq r)) (λok s₃=>
      if ok=true then xf (xA prog w) A (eval elt env) (λx s₄=>
       xf (xA prog w) A (call (.builtin "list.append") [j6,x]) (λ_ s₅=>∃m,m<n/\I m s₅) (notedBy (xA prog w) A env λe s'=>R (.error e) s') s₄) (notedBy (xA prog w) A env λe s'=>R (.error e) s') s₃
      else ∃m,m<n/\I m s₃) (notedBy (xA prog w) A env λe s'=>R (.error e) s') s₂) (notedBy (xA prog w) A env λe s'=>R (.error e) s') s₁') (notedBy (xA prog w) A env λe s'=>R (.error e) s') s₁) (notedBy (xA prog w) A env λe s'=>R (.error e) s') s)
  (n:Nat) (h:I n s) :
  xo (xA prog w) A (.compLoop (.ListComp elt [⟨target,iter,ifs,0⟩] scope pos) 0 it j6 env) R s:=by
 refine codeAny_loop rfl I (λn s hI=>?_) n h;show xf _ A ((compTurn (.ListComp elt [⟨target,iter,ifs,0⟩] scope pos) 0 it j6 env).onRaise (λx=>do noteFrame x env;theTreesLotGoes x)) _ _ s;refine wpAny_noted ?_;rw[compTurn_list];refine xa (wpAny_standAt (xa (xc (turn n s hI) (λr s₁ h₁=>?_) λ_ _ h'=>h')))
 cases r with
 | none=>exact xb h₁
 | some v=>
  refine xa (xc h₁ (λ_ s₁' h₁'=>?_) λ_ _ h'=>h');refine xa (xc h₁' (λ_ s₂ h₂=>xa (xc h₂ (λok s₃ h₃=>?_) λ_ _ h'=>h')) λ_ _ h'=>h')
  cases ok with
  | false=>exact xb ⟨rfl,h₃⟩
  | true=>
   exact xa (xa (xc h₃ (λx s₄ h₄=>xa (xc h₄ (λ_ s₅ h₅=>xb (xb ⟨rfl,h₅⟩)) λ_ _ h'=>h')) λ_ _ h'=>h'))
noncomputable def blk (X:Cx)(jH:Qb)(N':List Str)(scope:Scope)(cl:List (Str×Addr))(C:Addr)(s:Shared)(H:Hp)(fp:List Addr):Cx where
 prog:=X.prog
 w:=X.w
 K:=X.K
 mg:=X.mg
 base:=X.base
 A:=X.A
 N:=N'
 s₀:=s
 H₀:=H
 env:=compEnvC scope cl C X.env
 outer:=X.stack
 stack:=X.stack
 ex:=fp
 fn:=λ_=>false
 calm:=X.calm
 pn:=X.pn++jH
 xe:=λ_ _=>False
noncomputable def VD (X:Cx)(ifs:List Expr)(t:TT):Prop:=
 ∀(jH:Qb) (s:Shared) (σ:St) (H:Hp) (Q:Bool->Hp->Prop),Inv X jH σ H s->t σ H Q->
  xf (xA X.prog X.w) X.A (forIn ifs true λc r=>if r=true then do let ok<-isTrue c X.env (eval c X.env);pure (qaq ok)else pure (qaq r)) (TP X jH σ Q) X.xe s
noncomputable def Zn8:TT:=λ_ H Q=>Q true H
theorem Zjv {X:Cx}:VD X [] Zn8:=λ_ _ _ H _ I h=>xb ⟨H,I,h⟩
theorem ZeG {X:Cx}{c:Expr}{t:TT}(h:PT X c t):VD X [c] t:=λjH s σ H Q I hq=>wpAny_tests_one (h jH s σ H Q I hq)
structure BlkOk (X:Cx)(N':List Str)(src:List (Option Nat))(scope:Scope)(cl:List (Str×Addr)):Prop where
 clos:closureFor scope X.env=pure cl
 nocell:∀y∈scope.names,y.2≠.cell
 kind:scope.kind=.function
 names:∀y∈scope.names,y.2=.local->scope.names.lookup y.1=some .local
 len:src.length=N'.length
 cells:∀x c,cl.lookup x=some c->X.env.cells.lookup x=some c
 has:∀x,((relabel scope X.env).names.lookup x=some .cell∨(relabel scope X.env).names.lookup x=some .free)->∃c,cl.lookup x=some c
 from_:∀(i j:Nat) x,src[i]?=some (some j)->N'[i]?=some x->X.N[j]?=some x/\(X.env.kindOf x=some .cell∨X.env.kindOf x=some .free)/\((relabel scope X.env).names.lookup x=some .cell∨(relabel scope X.env).names.lookup x=some .free)
noncomputable def Vb (src:List (Option Nat))(σ:St):St:=src.map λo=>o.bind λj=>(σ[j]?).bind id
theorem Zla {X:Cx}{jH:Qb}{σ:St}{H:Hp}{s s1:Shared}{N':List Str}{src:List (Option Nat)}{scope:Scope}{cl:List (Str×Addr)}{C:Addr}{fp:List Addr}{m:Str->Option Value}
  (B:BlkOk X N' src scope cl) (I:Inv X jH σ H s) (hf:∀b∈fp,Wg X jH H b) (hC:s.heap.objs.size<=C) (hCf:∀b∈fp,b≠C)
  (hs:s1.os=s.os) (hg:s1.gens=s.gens) (hk:∀b o,s.heap.get? b=some o->s1.heap.get? b=some o) (hn:s1.heap.Ns C m):Inv (blk X jH N' scope cl C s H fp) [] (Vb src σ) H s1:=by
 have noC:∀b o,s.heap.get? b=some o->b≠C:=λb o e=>qT (zh (qH e) hC);refine⟨⟨I.ok.mod,B.kind,I.ok.glob,I.ok.blt,hC,λx y c h1 h2=>I.ok.inj x y c (B.cells _ _ h1) (B.cells _ _ h2),λx hx=>B.has x hx,λx c hf _=>(by cases hf),I.ok.hd,I.ok.frames,.inl rfl,λb hb=>?_,I.bs,zC I.ok.bsz I.sz,λb o e hb=>?_,λb hb z=>?_,I.stack,I.stkFree⟩,
  hs,by rw[hg];exact I.bare,Un.kept hk,⟨m,hn,λi x v h1 h2 h3=>?_⟩,λx c e=>?_,I.hok.fresh hC,λx c e=>I.freeC x c (B.cells _ _ e),λp hp=>?_,I.hok.kept hk,?_⟩
 ·obtain⟨f0,f1,f2,f3,f4,f5⟩:=hf b hb
  exact⟨hCf b hb,λx c e=>f4 x c (B.cells _ _ e)⟩
 ·obtain⟨f0,f1,f2,f3,f4,f5⟩:=hf b hb
  rcases f3 with z | z
  ·exact I.ok.noex b o e z
  ·exact absurd (zh (qH (I.ok.bs b o e).1) z) (yL _)
 ·obtain⟨f0,f1,f2,f3,f4,f5⟩:=hf b hb
  rcases qp.mp (I.stkSub b z)with e | e
  ·exact f1 e
  ·exact f2 e
 ·have h2':(Vb src σ)[i]?=some (some v):=h2
  unfold Vb at h2';rw[qu]at h2'
  cases e:src[i]? with
  | none=>rw[e]at h2';cases h2'
  | some o=>
   rw[e]at h2'
   cases o with
   | none=>simp at h2'
   | some j=>
    obtain⟨q1,q2,q3⟩:=B.from_ i j x e h1;have hj:σ[j]?=some (some v):=by
     simp only[yE,Option.bind_some,qcc]at h2'
     cases e2:σ[j]? with
     | none=>rw[e2]at h2';cases h2'
     | some o2=>rw[e2]at h2';simp at h2';rw[h2']
    obtain⟨mm,hnn,hl⟩:=I.loc;have vis:BJ X.env.scope x:=by
     rcases q2 with z | z
     ·exact .inr (.inl z)
     ·exact .inr (.inr z)
    obtain⟨u,r,l⟩:=hl j x v q1 hj vis;refine⟨u,r,?_⟩;rcases l with⟨k,_⟩ | ⟨_,c,ec,z⟩
    ·rcases q2 with z | z <;> rw[z]at k <;> cases k
    ·obtain⟨c',ec'⟩:=B.has x q3
     have ee:c'=c:=by
      have:=B.cells _ _ ec';rw[ec]at this;exact(zv this).symm
     subst ee;obtain⟨o,ho,hd⟩:=z;exact .inr ⟨q3,c',ec',o,hk _ _ ho,hd⟩
 ·obtain⟨v,o,ho,hd⟩:=I.cell x c (B.cells _ _ e)
  exact⟨v,o,hk _ _ ho,hd⟩
 ·have hp':p∈X.pn++jH:=by simpa[blk]using hp
  obtain⟨e,n,ne,nf,d⟩:=I.pin p hp';refine⟨hk _ _ e,n,noC _ _ e,λz=>?_,d⟩;rcases qp.mp (I.stkSub p.1 z)with q | q
  ·exact ne q
  ·exact nf q
 ·show(Vb src σ).length=N'.length
  unfold Vb;rw[qf,B.len]
noncomputable def Zg0 (src:List (Option Nat))(wi:TI)(g:TG)(tt:TT)(te:TE):TE:=fun σ H Q=>wi σ H λJ H1=>∀p,H1 p=none->
 ∃W:Nat->Nat->St->Hp->Prop,(∃m,W 0 m (Vb src σ) (Zj H1 p (.lst [])))/\∀i m σ2 H2,W i m σ2 H2->
  (J.stop i H2/\Q (.ref p) H2)∨(J.go i H2/\∀x H3,J.yld i H2 x H3->g x σ2 H3 fun σ4 H4=>tt σ4 H4 λok H5=>
   if ok=true then te σ4 H5 λy H6=>∃xs,H6 p=some (.lst xs)/\xs.length<xg/\∃m',m'<m/\W (i+1) m' σ4 (Zj H6 p (.lst (xs ++ [y])))
   else ∃m',m'<m/\W (i+1) m' σ4 H5)
theorem Zh0 {X:Cx}{elt tg iter:Expr}{ifs:List Expr}{scope:Scope}{pos:Pos}{N':List Str}{src:List (Option Nat)}{cl:List (Str×Addr)}{g:TG}{tt:TT}{te:TE}
  {jH:Qb} {σ:St} {H2:Hp} {s₂:Shared} {it:Addr} {fp:List Addr} {tn:Nat->Heap->Prop} {J:It} {Qp:Addr->Hp->Prop} {RR:Value->Addr->Result->Shared->Prop} {E:xE}
  (hc:X.calm=true) (B:BlkOk X N' src scope cl)
  (hg:∀jH C s H fp,PG (blk X jH N' scope cl C s H fp) tg g) (ht:∀jH C s H fp,VD (blk X jH N' scope cl C s H fp) ifs tt) (he:∀jH C s H fp,PE (blk X jH N' scope cl C s H fp) elt te)
  (I2:Inv X jH σ H2 s₂) (T:Turn X.prog X.w X.K tg J fp it tn) (jV:tn 0 s₂.heap) (f2:∀b∈fp,Wg X jH H2 b)
  (q2:∀p,H2 p=none->∃W:Nat->Nat->St->Hp->Prop,(∃m,W 0 m (Vb src σ) (Zj H2 p (.lst [])))/\∀i m σ2 H2,W i m σ2 H2->
   (J.stop i H2/\Qp p H2)∨(J.go i H2/\∀x H3,J.yld i H2 x H3->g x σ2 H3 fun σ4 H4=>tt σ4 H4 λok H5=>
    if ok=true then te σ4 H5 λy H6=>∃xs,H6 p=some (.lst xs)/\xs.length<xg/\∃m',m'<m/\W (i+1) m' σ4 (Zj H6 p (.lst (xs ++ [y])))
    else ∃m',m'<m/\W (i+1) m' σ4 H5))
  (hfin:∀p C s6 H5 mm,Inv X jH σ H5 s6->s6.heap.Ns C mm->Wg X jH H5 C->Qp p H5->RR (.ref p) C (.ok .next) s6) :
  xf (xA X.prog X.w) X.A (newList []) (λj6 s₃=>xf (xA X.prog X.w) X.A (newFunctionEnv scope X.env.globals cl [] X.env.qual none .none (some X.env)) (λcenv s₄=>
   xo (xA X.prog X.w) X.A (.compStart (.ListComp elt [⟨tg,iter,ifs,0⟩] scope pos) 0 (.ref it) j6 { cenv with scope:=relabel scope X.env }) (RR j6 cenv.locals) s₄) E s₃) E s₂:=by
 have fpold:∀b∈fp,b<s₂.heap.objs.size:=λb hb=>by
  obtain⟨o,e,_⟩:=T.obj _ _ jV b hb;exact qH e
 have q2:=q2 s₂.heap.objs.size (I2.hok.fresh (qk _));obtain⟨W,⟨m0,w0⟩,turn⟩:=q2
 -- the new list
 refine xl ?_;have I3:Inv X jH σ (Zj H2 s₂.heap.objs.size (.lst [])) { s₂ with heap:=s₂.heap.push { cls:=.type "list",dict:=none,data:=.seq ([]:List Value).toArray } }:=
  I2.lnew (t':=s₂.toks) (ys:=[]) .nil (zR _)
 have st3:tn 0 (s₂.heap.push { cls:=.type "list",dict:=none,data:=.seq ([]:List Value).toArray }):=T.keep _ _ _ jV λb _ o e=>qd _ e;have f3:∀b∈fp,Wg X jH (Zj H2 s₂.heap.objs.size (.lst [])) b:=λb hb=>by
  obtain⟨f0,f1⟩:=f2 b hb;exact⟨by rw[Zq (qT (fpold b hb))];exact f0,f1⟩
 generalize hs3:({ s₂ with heap:=s₂.heap.push { cls:=.type "list",dict:=none,data:=.seq ([]:List Value).toArray } }:Shared)=s₃ at I3;have st3':tn 0 s₃.heap:=by rw[<-hs3];exact st3
 have lt3:s₂.heap.objs.size<s₃.heap.objs.size:=by rw[<-hs3];show _<(Heap.push _ _).objs.size;rw[yf];exact qa7 _
 refine wpAny_newFunctionEnv B.nocell (by intro y hy;simp at hy) (λh₁ hns₁ hsb₁=>?_) B.kind;have kp1:∀b o,s₃.heap.get? b=some o->h₁.get? b=some o:=λb o e=>hsb₁.extBut b o (qT (qH e)) (qd _ e);have I4:=Zla (s1:={ s₃ with heap:=h₁,toks:=s₃.toks+([]:List (Str×Value)).length }) (C:=s₃.heap.objs.size) B I3 f3 (qk _) (λb hb=>qT (qam (fpold b hb) lt3)) rfl rfl kp1 hns₁;have st4:tn 0 h₁:=T.keep _ _ _ st3' λb _ o e=>kp1 b o e;show xo (xA X.prog X.w) X.A (.compStart (.ListComp elt [⟨tg,iter,ifs,0⟩] scope pos) 0 (.ref it) (.ref s₂.heap.objs.size) (compEnvC scope cl s₃.heap.objs.size X.env)) (RR (.ref s₂.heap.objs.size) s₃.heap.objs.size) _;generalize hs4:({ s₃ with heap:=h₁,toks:=s₃.toks+([]:List (Str×Value)).length }:Shared)=s₄ at I4;have st4':tn 0 s₄.heap:=by rw[<-hs4];exact st4
 have blkX:∀{b:Addr} {H':Hp},b∈fp->H' b=none->Wg (blk X jH N' scope cl s₃.heap.objs.size s₃ (Zj H2 s₂.heap.objs.size (.lst [])) fp) [] H' b:=λ{b H'} hb hn=>by
  obtain⟨f0,f1,f2',f3',f4',f5'⟩:=f3 b hb;refine⟨hn,qT (qam (fpold b hb) lt3),λz=>?_,.inl hb,λx c e=>f4' x c (B.cells _ _ e),λp hp=>?_⟩
  ·rcases qp.mp (I3.stkSub b z)with e | e
   ·exact f1 e
   ·exact f2' e
  ·exact f5' p (by simpa[blk]using hp)
 have loop:xo (xA X.prog X.w) X.A (.compLoop (.ListComp elt [⟨tg,iter,ifs,0⟩] scope pos) 0 (.ref it) (.ref s₂.heap.objs.size) (compEnvC scope cl s₃.heap.objs.size X.env)) (RR (.ref s₂.heap.objs.size) s₃.heap.objs.size) s₄:=by
  refine ZeF (λn s'=>∃i σ' H',Inv (blk X jH N' scope cl s₃.heap.objs.size s₃ (Zj H2 s₂.heap.objs.size (.lst [])) fp) [] σ' H' s'/\tn i s'.heap/\(∀b∈fp,H' b=none)/\W i n σ' H') ?_ m0 ⟨0,_,_,I4,st4',λb hb=>(f3 b hb).1,w0⟩;rintro n s5 ⟨i,σ5,H5,I5,st5,fr5,w5⟩;rcases turn i n σ5 H5 w5 with⟨stop,qn⟩ | ⟨go,step⟩
  ·refine xc (T.done (blk X jH N' scope cl s₃.heap.objs.size s₃ (Zj H2 s₂.heap.objs.size (.lst [])) fp) rfl rfl rfl hc i [] s5 σ5 H5 (λ_ _=>False) I5 (λb hb=>blkX hb (fr5 b hb)) st5 stop) (λr s6 ⟨hr,I6⟩=>?_) λ_ _ f=>f.elim
   subst hr;obtain⟨mm,hnn,_⟩:=id I6.loc;have nC:H5 s₃.heap.objs.size=none:=I6.free;have J1:Inv X jH σ H5 s6:=by
    refine I3.call' (ch:=fp) I6.os I6.base I6.hok I6.bare λb hb=>?_;obtain⟨f0,f1,f2',f3',f4',f5'⟩:=f3 b hb;exact⟨f3',f1,f4',f5'⟩
   exact hfin _ _ s6 H5 mm J1 hnn (I3.fpOk (qk _) nC) qn
  ·refine xc (T.item (blk X jH N' scope cl s₃.heap.objs.size s₃ (Zj H2 s₂.heap.objs.size (.lst [])) fp) rfl rfl rfl hc i [] s5 σ5 H5 (λ_ _=>False) I5 (λb hb=>blkX hb (fr5 b hb)) st5 go) (λr s6 ⟨u,hr,h6⟩=>?_) λ_ _ f=>f.elim
   subst hr;refine xc h6 (λ_ s7 ⟨x,H7,I7,r7,y7,st7,fr7⟩=>?_) λ_ _ f=>f.elim;have I7':=I7.pinned (λb hb=>blkX hb (fr7 b hb)) (T.obj _ _ st7);refine xc (hg _ _ _ _ _ _ s7 σ5 H7 x u _ I7' r7 (step x H7 y7)) (λ_ s8 ⟨σ8,H8,I8,q8⟩=>?_) λ_ _ f=>f.elim;refine xc (ht _ _ _ _ _ _ s8 σ8 H8 _ I8 q8) (λok s9 ⟨H9,I9,q9⟩=>?_) λ_ _ f=>f.elim;have again:∀{σ7:St} {H7:Hp} {sz:Shared},Inv (blk X jH N' scope cl s₃.heap.objs.size s₃ (Zj H2 s₂.heap.objs.size (.lst [])) fp) ([]++Bg fp s7.heap) σ7 H7 sz->(∃m',m'<n/\W (i+1) m' σ7 H7)->
     ∃m,m<n/\∃i σ' H',Inv (blk X jH N' scope cl s₃.heap.objs.size s₃ (Zj H2 s₂.heap.objs.size (.lst [])) fp) [] σ' H' sz/\tn i sz.heap/\(∀b∈fp,H' b=none)/\W i m σ' H':=λ{σ7 H7 sz} Iz ⟨m',hm,wz⟩=>by
    refine⟨m',hm,i+1,σ7,H7,Iz.unpinned,T.keep _ _ _ st7 λb hb o e=>(Iz.pin (b,o) (zx _ (zx _ (JG hb e)))).1,λb hb=>?_,wz⟩;obtain⟨o,e,d⟩:=T.obj _ _ st7 b hb;exact(Iz.pin (b,o) (zx _ (zx _ (JG hb e)))).2.1
   cases ok with
   | false=>
    show ∃m,m<n/\_;exact again I9 (by simpa using q9)
   | true=>
    have q9':te σ8 H9 λy H6=>∃xs,H6 s₂.heap.objs.size=some (.lst xs)/\xs.length<xg/\∃m',m'<n/\W (i+1) m' σ8 (Zj H6 s₂.heap.objs.size (.lst (xs ++ [y]))):=by simpa using q9
    show xf _ _ _ _ _ _;refine xc (he _ _ _ _ _ _ s9 σ8 H9 _ I9 q9') (λy sA ⟨yv,HA,IA,rA,xs,eA,zA,mA⟩=>?_) λ_ _ f=>f.elim;refine xc (Zdj (X:=blk X jH N' scope cl s₃.heap.objs.size s₃ (Zj H2 s₂.heap.objs.size (.lst [])) fp) _ sA σ8 HA (.ref s₂.heap.objs.size) [yv] (.ref s₂.heap.objs.size) [y] (λ_ HB=>HB=Zj HA s₂.heap.objs.size (.lst (xs ++ [yv]))) IA rfl (.cons rA .nil) ⟨_,xs,yv,rfl,rfl,eA,zA,rfl⟩) (λ_ sB ⟨_,HB,IB,_,eB⟩=>?_) λ_ _ f=>f.elim;subst eB;exact again IB mA
 exact codeAny_compStart_list loop (T.self _ 0 _ _ _ st4' loop)
theorem Zg1 {X:Cx}{elt tg iter:Expr}{ifs:List Expr}{scope:Scope}{pos:Pos}{N':List Str}{src:List (Option Nat)}{cl:List (Str×Addr)}{wi:TI}{g:TG}{tt:TT}{te:TE}
  (hc:X.calm=true) (B:BlkOk X N' src scope cl) (hi:PI X tg iter wi)
  (hg:∀jH C s H fp,PG (blk X jH N' scope cl C s H fp) tg g) (ht:∀jH C s H fp,VD (blk X jH N' scope cl C s H fp) ifs tt) (he:∀jH C s H fp,PE (blk X jH N' scope cl C s H fp) elt te)
  (hs:∀x,foldedSetIterable iter X.env x=pure x:=by intro _;rfl):PE X (.ListComp elt [⟨tg,iter,ifs,0⟩] scope pos) (Zg0 src wi g tt te):=by
 intro jH s σ H Q I h;rw[eval_ListComp];refine wpAny_comprehension_free (use:=none) rfl hs B.clos B.kind B.names (xc (hi jH s σ H _ I h) (λxv s₁ h₁=>xc h₁ (λit s₂ h₂=>?_) λ_ _ e=>e) λ_ _ e=>e);obtain⟨it,fp,tn,J,H2,e,I2,T,jV,f2,q2⟩:=h₂;subst e;refine Zh0 (RR:=λj6 C=>compPost (xA X.prog X.w) X.A X.xe none (EP X jH σ Q) j6 C) (Qp:=λp H=>Q (.ref p) H) hc B hg ht he I2 T jV f2 q2 ?_;intro p C s6 H5 mm J1 hnn fC qn;refine⟨mm,hnn,λh' sb=>?_⟩;obtain⟨c0,c1,c2,c3,c4,c5⟩:=fC;exact⟨.ref p,H5,J1.turned (t':=s6.toks) (it:=C) (λb o hb e=>(sb.2 b hb).trans e) c0 c1 c3 c4 c5,rfl,qn⟩
end L2
namespace TF
open L2
inductive D where
 | non | bl (b:Bool) | int (i:Int) | str (x:Str) | tup (xs:List D) | lst (xs:List D)
 | dk (kvs:List (Zt×V)) | dt (kvs:List (List Zt×V)) | du (kvs:List (List Zt×V)) | df (kvs:List (Zt×V)) | pen | ty (n:String) | clo (t:Nat) (caps:List D)
noncomputable abbrev St:=L2.St
noncomputable abbrev Pn:=List Int×List Int
noncomputable abbrev M (α:Type):=Pn->Option (α×Pn)
noncomputable abbrev Za:=List (Option D)
noncomputable def ZI {α:Type}(a:α):M α:=λs=>some (a,s)
noncomputable def Zo {α β:Type}(m:M α)(k:α->M β):M β:=λs=>match m s with | none=>none | some p=>k p.1 p.2
noncomputable def ZO {α:Type}:M α:=λ_=>none
noncomputable def Xp {α:Type}(o:Option α):M α:=λs=>match o with | none=>none | some a=>some (a,s)
theorem ZE {α β:Type}{m:M α}{k:α->M β}{s s':Pn}{b:β}(h:Zo m k s=some (b,s')):∃a s1,m s=some (a,s1)/\k a s1=some (b,s'):=by
 unfold Zo at h
 cases e:m s with
 | none=>rw[e]at h;cases h
 | some p=>rw[e]at h;exact⟨p.1,p.2,rfl,h⟩
theorem ZL {α:Type}{a b:α}{s s':Pn}(h:ZI a s=some (b,s')):b=a/\s'=s:=by
 unfold ZI at h
 cases h
 exact⟨rfl,rfl⟩
theorem WR {α:Type}{o:Option α}{b:α}{s s':Pn}(h:Xp o s=some (b,s')):o=some b/\s'=s:=by
 unfold Xp at h
 cases e:o with
 | none=>rw[e]at h;cases h
 | some a=>rw[e]at h;cases h;exact⟨rfl,rfl⟩
structure Gh where
 fp:Addr->Prop
 rd:Addr->Prop
 pen:V
 st:Pn->Hp->Prop
 mono:∀s H H',st s H->(∀b o,rd b->H b=some o->H' b=some o)->(∀b φ,H b=some (.ext φ)->H' b=some (.ext φ))->st s H'
 sub:∀b,fp b->rd b
 dom:∀s H b,st s H->rd b->∃o,H b=some o
 ntp:∀s H b vs,st s H->fp b->H b≠some (.tup vs)
 clo:Nat->V->List V->Prop:=λ_ _ _=>False
mutual
noncomputable def Zi (G:Gh)(H:Hp):D->V->Prop
 | .non,v=>v=.non
 | .bl b,v=>v=.bl b
 | .int i,v=>v=.int i
 | .str x,v=>v=.str x
 | .tup ds,v=>∃a vs,v=.ref a/\¬G.fp a/\H a=some (.tup vs)/\Zf G H ds vs
 | .lst ds,v=>∃a vs,v=.ref a/\¬G.fp a/\H a=some (.lst vs)/\Zf G H ds vs
 | .dk kvs,v=>∃a,v=.ref a/\¬G.fp a/\H a=some (.dK kvs)
 | .dt kvs,v=>∃a o,v=.ref a/\¬G.fp a/\H a=some (.frz o (.dT kvs))
 | .du kvs,v=>∃a,v=.ref a/\¬G.fp a/\H a=some (.dT kvs)
 | .df kvs,v=>∃a o,v=.ref a/\¬G.fp a/\H a=some (.frz o (.dK kvs))
 | .pen,v=>v=G.pen
 | .ty n,v=>v=.ty n
 | .clo t ds,v=>∃vs,G.clo t v vs/\Zf G H ds vs
noncomputable def Zf (G:Gh)(H:Hp):List D->List V->Prop
 | [],vs=>vs=[]
 | d::ds,vs=>∃v r,vs=v::r/\Zi G H d v/\Zf G H ds r
end
noncomputable def Zz (G:Gh)(H H':Hp):Prop:=∀b o,¬G.fp b->H b=some o->H' b=some o
theorem Zz.refl (G:Gh)(H:Hp):Zz G H H:=λ_ _ _ e=>e
theorem Zz.trans {G:Gh}{H H1 H2:Hp}(a:Zz G H H1)(b:Zz G H1 H2):Zz G H H2:=λc o n e=>b c o n (a c o n e)
mutual
theorem Zi.ext {G:Gh}{H H':Hp}(e:Zz G H H'):∀{d:D} {v:V},Zi G H d v->Zi G H' d v
 | .non,_,h=>h
 | .bl _,_,h=>h
 | .int _,_,h=>h
 | .str _,_,h=>h
 | .tup ds,v,h=>by
  unfold Zi at h⊢;obtain⟨a,vs,e1,n,e2,r⟩:=h;exact⟨a,vs,e1,n,e _ _ n e2,Zf.ext e r⟩
 | .lst ds,v,h=>by
  unfold Zi at h⊢;obtain⟨a,vs,e1,n,e2,r⟩:=h;exact⟨a,vs,e1,n,e _ _ n e2,Zf.ext e r⟩
 | .dk kvs,v,h=>by
  unfold Zi at h⊢;obtain⟨a,e1,n,e2⟩:=h;exact⟨a,e1,n,e _ _ n e2⟩
 | .dt kvs,v,h=>by
  unfold Zi at h⊢;obtain⟨a,o,e1,n,e2⟩:=h;exact⟨a,o,e1,n,e _ _ n e2⟩
 | .df kvs,v,h=>by
  unfold Zi at h⊢;obtain⟨a,o,e1,n,e2⟩:=h;exact⟨a,o,e1,n,e _ _ n e2⟩
 | .du kvs,v,h=>by
  unfold Zi at h⊢;obtain⟨a,e1,n,e2⟩:=h;exact⟨a,e1,n,e _ _ n e2⟩
 | .pen,_,h=>h
 | .ty _,_,h=>h
 | .clo t ds,v,h=>by
  unfold Zi at h⊢;obtain⟨vs,c,r⟩:=h;exact⟨vs,c,Zf.ext e r⟩
theorem Zf.ext {G:Gh}{H H':Hp}(e:Zz G H H'):∀{ds:List D} {vs:List V},Zf G H ds vs->Zf G H' ds vs
 | [],_,h=>h
 | d::ds,vs,h=>by
  unfold Zf at h⊢;obtain⟨v,r,e1,r1,r2⟩:=h;exact⟨v,r,e1,Zi.ext e r1,Zf.ext e r2⟩
end
section
variable {G:Gh}{H:Hp}
theorem jc {ds:List D}{v:V}:Zi G H (.tup ds) v↔∃a vs,v=.ref a/\¬G.fp a/\H a=some (.tup vs)/\Zf G H ds vs:=by unfold Zi;exact qaF
theorem jb {ds:List D}{v:V}:Zi G H (.lst ds) v↔∃a vs,v=.ref a/\¬G.fp a/\H a=some (.lst vs)/\Zf G H ds vs:=by unfold Zi;exact qaF
theorem jl {kvs:List (Zt×V)}{v:V}:Zi G H (.dk kvs) v↔∃a,v=.ref a/\¬G.fp a/\H a=some (.dK kvs):=by unfold Zi;exact qaF
theorem jk {kvs:List (List Zt×V)}{v:V}:Zi G H (.dt kvs) v↔∃a o,v=.ref a/\¬G.fp a/\H a=some (.frz o (.dT kvs)):=by unfold Zi;exact qaF
theorem jm {kvs:List (List Zt×V)}{v:V}:Zi G H (.du kvs) v↔∃a,v=.ref a/\¬G.fp a/\H a=some (.dT kvs):=by unfold Zi;exact qaF
theorem jt {kvs:List (Zt×V)}{v:V}:Zi G H (.df kvs) v↔∃a o,v=.ref a/\¬G.fp a/\H a=some (.frz o (.dK kvs)):=by unfold Zi;exact qaF
theorem ja {i:Int}{v:V}:Zi G H (.int i) v↔v=.int i:=by unfold Zi;exact qaF
theorem je {b:Bool}{v:V}:Zi G H (.bl b) v↔v=.bl b:=by unfold Zi;exact qaF
theorem jh {b:Str}{v:V}:Zi G H (.str b) v↔v=.str b:=by unfold Zi;exact qaF
theorem jg {v:V}:Zi G H .non v↔v=.non:=by unfold Zi;exact qaF
theorem jp {v:V}:Zi G H .pen v↔v=G.pen:=by unfold Zi;exact qaF
theorem ju {n:String}{v:V}:Zi G H (.ty n) v↔v=.ty n:=by unfold Zi;exact qaF
theorem jw {t:Nat}{ds:List D}{v:V}:Zi G H (.clo t ds) v↔∃vs,G.clo t v vs/\Zf G H ds vs:=by unfold Zi;exact qaF
theorem Zf.nil_iff {vs:List V}:Zf G H [] vs↔vs=[]:=by unfold Zf;exact qaF
theorem jd {d:D}{ds:List D}{vs:List V}:Zf G H (d::ds) vs↔∃v r,vs=v::r/\Zi G H d v/\Zf G H ds r:=by
 constructor
 ·intro h;unfold Zf at h;exact h
 ·intro h;unfold Zf;exact h
theorem Zf.length:∀{ds:List D} {vs:List V},Zf G H ds vs->ds.length=vs.length
 | [],vs,h=>by rw[Zf.nil_iff.mp h];rfl
 | d::ds,vs,h=>by
  obtain⟨v,r,rfl,_,h2⟩:=jd.mp h;simp[Zf.length h2]
theorem Zf.get:∀{ds:List D} {vs:List V} {i:Nat} {d:D},Zf G H ds vs->ds[i]?=some d->∃v,vs[i]?=some v/\Zi G H d v
 | [],_,_,_,_,e=>by simp at e
 | d::ds,vs,0,d',h,e=>by
  obtain⟨v,r,rfl,h1,_⟩:=jd.mp h;simp at e;subst e;exact⟨v,rfl,h1⟩
 | d::ds,vs,i+1,d',h,e=>by
  obtain⟨v,r,rfl,_,h2⟩:=jd.mp h;obtain⟨u,e1,e2⟩:=Zf.get h2 (i:=i) (d:=d') (by simpa using e);exact⟨u,by simpa using e1,e2⟩
theorem Zf.append:∀{ds es:List D} {vs us:List V},Zf G H ds vs->Zf G H es us->Zf G H (ds++es) (vs++us)
 | [],es,vs,us,h,h'=>by rw[Zf.nil_iff.mp h];exact h'
 | d::ds,es,vs,us,h,h'=>by
  obtain⟨v,r,rfl,h1,h2⟩:=jd.mp h;exact jd.mpr ⟨v,r++us,rfl,h1,Zf.append h2 h'⟩
theorem Zf.one {d:D}{v:V}(h:Zi G H d v):Zf G H [d] [v]:=jd.mpr ⟨v,[],rfl,h,Zf.nil_iff.mpr rfl⟩
theorem Zf.cons {d:D}{v:V}{ds:List D}{vs:List V}(h:Zi G H d v)(h2:Zf G H ds vs):Zf G H (d::ds) (v::vs):=jd.mpr ⟨v,vs,rfl,h,h2⟩
theorem Zf.set:∀{ds:List D} {vs:List V} {d:D} {v:V} (i:Nat),Zf G H ds vs->Zi G H d v->Zf G H (ds.set i d) (vs.set i v)
 | [],vs,d,v,i,h,_=>by rw[Zf.nil_iff.mp h];exact Zf.nil_iff.mpr (by simp)
 | e::ds,vs,d,v,0,h,h'=>by
  obtain⟨u,r,rfl,h1,h2⟩:=jd.mp h;exact Zf.cons h' h2
 | e::ds,vs,d,v,i+1,h,h'=>by
  obtain⟨u,r,rfl,h1,h2⟩:=jd.mp h;exact Zf.cons h1 (Zf.set i h2 h')
theorem Zf.take:∀{ds:List D} {vs:List V} (n:Nat),Zf G H ds vs->Zf G H (ds.take n) (vs.take n)
 | _,_,0,_=>Zf.nil_iff.mpr (by simp)
 | [],vs,n+1,h=>by rw[Zf.nil_iff.mp h];exact Zf.nil_iff.mpr (by simp)
 | d::ds,vs,n+1,h=>by
  obtain⟨u,r,rfl,h1,h2⟩:=jd.mp h;exact Zf.cons h1 (Zf.take n h2)
theorem Zf.drop:∀{ds:List D} {vs:List V} (n:Nat),Zf G H ds vs->Zf G H (ds.drop n) (vs.drop n)
 | _,_,0,h=>h
 | [],vs,n+1,h=>by rw[Zf.nil_iff.mp h];exact Zf.nil_iff.mpr (by simp)
 | d::ds,vs,n+1,h=>by
  obtain⟨u,r,rfl,h1,h2⟩:=jd.mp h;exact Zf.drop n h2
end
noncomputable def Nt (o:Option HO):Prop:=∃u,o=some u/\∀vs,u≠.tup vs
theorem Nt.no {o:Option HO}(h:Nt o)(e:o=none):False:=by
 obtain⟨u,q,_⟩:=h;rw[e]at q;cases q
structure Gr (G:Gh)(Hf H Hf' H':Hp):Prop where
 hh:Zz G H H'
 ff:Zz G Hf Hf'
 fh:Zz G Hf' H'
 nw:∀b,¬G.fp b->Hf b=none->Nt (H b)->Hf' b=none
theorem Gr.refl {G:Gh}{Hf H:Hp}(e:Zz G Hf H):Gr G Hf H Hf H:=⟨.refl _ _,.refl _ _,e,λ_ _ h _=>h⟩
theorem Gr.trans {G:Gh}{Hf H jW H1 kd H2:Hp}(a:Gr G Hf H jW H1)(b:Gr G jW H1 kd H2):Gr G Hf H kd H2:=
 ⟨a.hh.trans b.hh,a.ff.trans b.ff,b.fh,λc n h1 h2=>b.nw c n (a.nw c n h1 h2) (let ⟨u,e,nt⟩:=h2;⟨u,a.hh c u n e,nt⟩)⟩
theorem Gr.new {G:Gh}{Hf H:Hp}{p:Addr}{o:HO}(e:Zz G Hf H)(hp:H p=none)(nf:¬G.fp p):Gr G Hf H (Zj Hf p o) (Zj H p o) where
 hh:=λb u n q=>by rw[Zq (ZW q hp)];exact q
 ff:=λb u n q=>by rw[Zq (ZW (e b u n q) hp)];exact q
 fh:=λb u n q=>by
  by_cases hb:b=p
  ·subst hb;rw[ZM]at q⊢;exact q
  ·rw[Zq hb]at q⊢;exact e b u n q
 nw:=λb n h1 h2=>by
  by_cases hb:b=p
  ·subst hb;exact(h2.no hp).elim
  ·rw[Zq hb];exact h1
theorem Gh.nofp {G:Gh}{s:Pn}{H:Hp}{p:Addr}(h:G.st s H)(hp:H p=none):¬G.fp p:=λf=>by
 obtain⟨o,e⟩:=G.dom s H p h (G.sub p f);rw[hp]at e;cases e
theorem jD {G:Gh}{s:Pn}{H:Hp}{p:Addr}(h:G.st s H)(hp:H p=none):¬G.rd p:=λf=>by
 obtain⟨o,e⟩:=G.dom s H p h f;rw[hp]at e;cases e
theorem Gh.grow {G:Gh}{s:Pn}{H:Hp}{p:Addr}{o:HO}(h:G.st s H)(hp:H p=none):G.st s (Zj H p o):=G.mono s H _ h (λb u _ q=>by
 rw[Zq (ZW q hp)];exact q) λb φ q=>by
 rw[Zq (ZW q hp)];exact q
noncomputable def Uz:D->Prop
 | .lst _=>True
 | .dk _=>True
 | .dt _=>True
 | .du _=>True
 | _=>False
noncomputable def Yh (G:Gh)(H Hf':Hp)(d:D)(v:V):Prop:=∀a,v=.ref a->Uz d->H a=none/\∀ds,d=.lst ds->∃vs Hm,Hf' a=some (.lst vs)/\Hm a=none/\Zz G Hm Hf'/\Zf G Hm ds vs
theorem jn {G:Gh}{H H' Hf':Hp}{d:D}{v:V}(e:Zz G H H')(r:∀a,v=.ref a->Uz d->¬G.fp a)(h:Yh G H' Hf' d v):Yh G H Hf' d v:=λa ea m=>by
 refine⟨?_,(h a ea m).2⟩
 cases q:H a with
 | none=>rfl
 | some o=>
  have:=e a o (r a ea m) q;rw[(h a ea m).1]at this;cases this
theorem Zi.nofp {G:Gh}{H:Hp}{d:D}{v:V}(r:Zi G H d v):∀a,v=.ref a->Uz d->¬G.fp a:=λa e m=>by
 cases d with
 | lst ds=>obtain⟨b,vs,e1,n,_⟩:=jb.mp r;rw[e]at e1;cases e1;exact n
 | dk ds=>obtain⟨b,e1,n,_⟩:=jl.mp r;rw[e]at e1;cases e1;exact n
 | dt ds=>obtain⟨b,_,e1,n,_⟩:=jk.mp r;rw[e]at e1;cases e1;exact n
 | du ds=>obtain⟨b,e1,n,_⟩:=jm.mp r;rw[e]at e1;cases e1;exact n
 | _=>exact m.elim
noncomputable def Yx (G:Gh)(H:Hp)(σ:St)(ρ:Za):Prop:=∀(i:Nat) (d:D),ρ[i]?=some (some d)->∃v,σ[i]?=some (some v)/\Zi G H d v
theorem Yx.ext {G:Gh}{H H':Hp}{σ:St}{ρ:Za}(h:Yx G H σ ρ)(e:Zz G H H'):Yx G H' σ ρ:=λi d q=>let ⟨v,a,b⟩:=h i d q;⟨v,a,b.ext e⟩
noncomputable def PD (X:Cx)(G:Gh)(fr:Bool)(e:Expr)(f:Za->M D):Prop:=
 ∃t,PE X e t/\∀(σ:St) (Hf H:Hp) (ρ:Za) (s:Pn) (d:D) (s':Pn) (Q:VK),Zz G Hf H->Yx G Hf σ ρ->G.st s H->f ρ s=some (d,s')->
  (∀v Hf' H',Gr G Hf H Hf' H'->G.st s' H'->Zi G Hf' d v->(fr=true->Yh G H Hf' d v)->Q v H')->t σ H Q
noncomputable def Vi (X:Cx)(G:Gh)(e:Expr)(f:Za->M Bool):Prop:=
 ∃t,PT X e t/\∀(σ:St) (Hf H:Hp) (ρ:Za) (s:Pn) (b:Bool) (s':Pn) (Q:Bool->Hp->Prop),Zz G Hf H->Yx G Hf σ ρ->G.st s H->f ρ s=some (b,s')->
  (∀Hf' H',Gr G Hf H Hf' H'->G.st s' H'->Q b H')->t σ H Q
noncomputable def WA (X:Cx)(G:Gh)(es:List Expr)(f:Za->M (List D)):Prop:=
 ∃t,PA X es t/\∀(σ:St) (Hf H:Hp) (ρ:Za) (s:Pn) (ds:List D) (s':Pn) (Q:List V->Hp->Prop),Zz G Hf H->Yx G Hf σ ρ->G.st s H->f ρ s=some (ds,s')->
  (∀vs Hf' H',Gr G Hf H Hf' H'->G.st s' H'->Zf G Hf' ds vs->Q vs H')->t σ H Q
section
variable {X:Cx}{G:Gh}
theorem PD.weak {e:Expr}{f:Za->M D}{fr:Bool}(h:PD X G fr e f):PD X G false e f:=by
 obtain⟨t,p,q⟩:=h;exact⟨t,p,fun σ Hf H ρ s d s' Q e1 e2 e3 e4 k=>q σ Hf H ρ s d s' Q e1 e2 e3 e4 λv Hf' H' g1 g2 g3 _=>k v Hf' H' g1 g2 g3 (λz=>by cases z)⟩
noncomputable def Zb (i:Nat):Za->M D:=fun ρ=>Xp ((ρ[i]?).bind id)
noncomputable def dC (d:D):Za->M D:=λ_=>ZI d
theorem Zm6 (i:Nat){x:Str}{pos:Pos}(h:PE X (.Name x pos) (Z3 i)):PD X G false (.Name x pos) (Zb i):=by
 refine⟨_,h,fun σ Hf H ρ s d s' Q e1 e2 e3 e4 k=>?_⟩;obtain⟨e,rfl⟩:=WR e4;have e':ρ[i]?=some (some d):=by
  cases q:ρ[i]? with
  | none=>rw[q]at e;cases e
  | some o=>rw[q]at e;simp at e;rw[e]
 obtain⟨v,h1,h2⟩:=e2 i d e';exact⟨v,h1,k v Hf H (.refl e1) e3 h2 (λz=>by cases z)⟩
theorem Yh.scal {H Hf':Hp}{d:D}{v:V}(h:Uz d->False):Yh G H Hf' d v:=λ_ _ m=>(h m).elim
theorem ZS {i:Int}{j pos}:PD X G true (.Constant (.int i) j pos) (dC (.int i)):=by
 refine⟨_,YS,fun σ Hf H ρ s d s' Q e1 e2 e3 e4 k=>?_⟩;obtain⟨rfl,rfl⟩:=ZL e4;exact k _ Hf H (.refl e1) e3 (ja.mpr rfl) λ_=>.scal λz=>z
theorem VZ {b:Bool}{j pos}:PD X G true (.Constant (.bool b) j pos) (dC (.bl b)):=by
 refine⟨_,ZnW,fun σ Hf H ρ s d s' Q e1 e2 e3 e4 k=>?_⟩;obtain⟨rfl,rfl⟩:=ZL e4;exact k _ Hf H (.refl e1) e3 (je.mpr rfl) λ_=>.scal λz=>z
noncomputable def Zd:Za->M (List D):=λ_=>ZI []
noncomputable def Zc (f:Za->M D)(g:Za->M (List D)):Za->M (List D):=fun ρ=>Zo (f ρ) λd=>Zo (g ρ) λds=>ZI (d::ds)
theorem Zm:WA X G [] Zd:=by
 refine⟨_,Xv,fun σ Hf H ρ s d s' Q e1 e2 e3 e4 k=>?_⟩;obtain⟨rfl,rfl⟩:=ZL e4;exact k _ Hf H (.refl e1) e3 (Zf.nil_iff.mpr rfl)
theorem Zg {e:Expr}{es:List Expr}{f:Za->M D}{g:Za->M (List D)}{fr:Bool}(h:PD X G fr e f)(hr:WA X G es g)(hs:xh (e::es) X.env=(false,eval e X.env)::xh es X.env:=by rfl):WA X G (e::es) (Zc f g):=by
 obtain⟨t,p,q⟩:=h;obtain⟨u,p2,q2⟩:=hr;refine⟨_,Y5 p p2 hs,fun σ Hf H ρ s ds s' Q e1 e2 e3 e4 k=>?_⟩;obtain⟨d,s1,a1,a2⟩:=ZE e4;obtain⟨r,s2,a3,a4⟩:=ZE a2;obtain⟨rfl,rfl⟩:=ZL a4;refine q σ Hf H ρ s d s1 _ e1 e2 e3 a1 λv jW H1 g1 j8 r1 _=>?_;refine q2 σ jW H1 ρ s1 r _ _ g1.fh (e2.ext g1.ff) j8 a3 λvs kd H2 g2 jV r2=>?_;exact k _ kd H2 (g1.trans g2) jV (Zf.cons (r1.ext g2.ff) r2)
noncomputable def Yk (f:Za->M (List D)):Za->M D:=fun ρ=>Zo (f ρ) λds=>if ds.length<=xg then ZI (.tup ds)else ZO
noncomputable def Yy (f:Za->M (List D)):Za->M D:=fun ρ=>Zo (f ρ) λds=>if ds.length<=xg then ZI (.lst ds)else ZO
theorem YW {α:Type}{c:Prop}[Decidable c]{a:M α}{s s':Pn}{b:α}(h:(if c then a else ZO) s=some (b,s')):c/\a s=some (b,s'):=by
 split at h
 ·rename_i hc;exact⟨hc,h⟩
 ·cases h
theorem Yh.mk {Hf H:Hp}{p:Addr}{vs:List V}{ds:List D}(e:Zz G Hf H)(hp:H p=none)(nf:¬G.fp p)(r:Zf G Hf ds vs):Yh G H (Zj Hf p (.lst vs)) (.lst ds) (.ref p):=λa ea _=>by
 cases ea
 refine⟨hp,λds' ed=>?_⟩
 cases ed
 have hf:Hf p=none:=by
  cases q:Hf p with
  | none=>rfl
  | some o=>rw[e p o nf q]at hp;cases hp
 exact⟨vs,Hf,ZM,hf,λb o n q=>by rw[Zq (ZW q hf)];exact q,r⟩
theorem XM {es:List Expr}{f:Za->M (List D)}{x1:Nat}{pos:Pos}(h:WA X G es f):PD X G true (.Tuple es x1 pos) (Yk f):=by
 obtain⟨t,p,q⟩:=h;refine⟨_,ZmW p,fun σ Hf H ρ s d s' Q e1 e2 e3 e4 k=>?_⟩;obtain⟨ds,s1,a1,a2⟩:=ZE e4;obtain⟨hl,a3⟩:=YW a2;obtain⟨rfl,rfl⟩:=ZL a3;refine q σ Hf H ρ s ds s' _ e1 e2 e3 a1 λvs jW H1 g1 j8 r1=>⟨by rw[<-r1.length];exact hl,λp hp=>?_⟩;have nf:=Gh.nofp j8 hp;have g2:=Gr.new (o:=.tup vs) g1.fh hp nf;exact k (.ref p) _ _ (g1.trans g2) (Gh.grow j8 hp) (jc.mpr ⟨p,vs,rfl,nf,ZM,r1.ext g2.ff⟩) λ_=>.scal λz=>z
theorem Xw {es:List Expr}{f:Za->M (List D)}{pos:Pos}(h:WA X G es f):PD X G true (.List es pos) (Yy f):=by
 obtain⟨t,p,q⟩:=h;refine⟨_,ZmX p,fun σ Hf H ρ s d s' Q e1 e2 e3 e4 k=>?_⟩;obtain⟨ds,s1,a1,a2⟩:=ZE e4;obtain⟨hl,a3⟩:=YW a2;obtain⟨rfl,rfl⟩:=ZL a3;refine q σ Hf H ρ s ds s' _ e1 e2 e3 a1 λvs jW H1 g1 j8 r1=>⟨by rw[<-r1.length];exact hl,λp hp=>?_⟩;have nf:=Gh.nofp j8 hp;have g2:=Gr.new (o:=.lst vs) g1.fh hp nf;refine k (.ref p) _ _ (g1.trans g2) (Gh.grow j8 hp) (jb.mpr ⟨p,vs,rfl,nf,ZM,r1.ext g2.ff⟩) λ_=>jn g1.hh (λa ea _=>by cases ea;exact nf) (Yh.mk g1.fh hp nf r1)
noncomputable def XB (X:Cx)(G:Gh)(f:Value->Value->Sem Value)(g:D->D->Option D):Prop:=
 ∃r,Yj X f r/\∀(Hf H:Hp) (s:Pn) (x y:V) (d e c:D) (Q:VK),Zz G Hf H->G.st s H->Zi G Hf d x->Zi G Hf e y->g d e=some c->
  (∀v Hf' H',Gr G Hf H Hf' H'->G.st s H'->Zi G Hf' c v->Yh G H Hf' c v->Q v H')->r x y H Q
noncomputable def Ze (g:D->D->Option D)(a b:Za->M D):Za->M D:=fun ρ=>Zo (a ρ) λd=>Zo (b ρ) λe=>Xp (g d e)
theorem op2D {fa fb:Za->M D}{g:D->D->Option D}{ta tb:TE}{r:R2}
  (qa:∀(σ:St) (Hf H:Hp) (ρ:Za) (s:Pn) (d:D) (s':Pn) (Q:VK),Zz G Hf H->Yx G Hf σ ρ->G.st s H->fa ρ s=some (d,s')->(∀v Hf' H',Gr G Hf H Hf' H'->G.st s' H'->Zi G Hf' d v->Q v H')->ta σ H Q)
  (qb:∀(σ:St) (Hf H:Hp) (ρ:Za) (s:Pn) (d:D) (s':Pn) (Q:VK),Zz G Hf H->Yx G Hf σ ρ->G.st s H->fb ρ s=some (d,s')->(∀v Hf' H',Gr G Hf H Hf' H'->G.st s' H'->Zi G Hf' d v->Q v H')->tb σ H Q)
  (qo:∀(Hf H:Hp) (s:Pn) (x y:V) (d e c:D) (Q:VK),Zz G Hf H->G.st s H->Zi G Hf d x->Zi G Hf e y->g d e=some c->(∀v Hf' H',Gr G Hf H Hf' H'->G.st s H'->Zi G Hf' c v->Yh G H Hf' c v->Q v H')->r x y H Q)
  (σ:St) (Hf H:Hp) (ρ:Za) (s:Pn) (d:D) (s':Pn) (Q:VK) (e1:Zz G Hf H) (e2:Yx G Hf σ ρ) (e3:G.st s H) (e4:Ze g fa fb ρ s=some (d,s'))
  (k:∀v Hf' H',Gr G Hf H Hf' H'->G.st s' H'->Zi G Hf' d v->Yh G H Hf' d v->Q v H'):Yn r ta tb σ H Q:=by
 obtain⟨da,s1,a1,a2⟩:=ZE e4;obtain⟨db,s2,a3,a4⟩:=ZE a2;obtain⟨a5,rfl⟩:=WR a4;refine qa σ Hf H ρ s da s1 _ e1 e2 e3 a1 λx jW H1 g1 j8 r1=>?_;refine qb σ jW H1 ρ s1 db _ _ g1.fh (e2.ext g1.ff) j8 a3 λy kd H2 g2 jV r2=>?_;refine qo kd H2 _ x y da db d Q g2.fh jV (r1.ext g2.ff) r2 a5 λv Hf3 H3 g3 st3 r3 fz=>?_;exact k v Hf3 H3 ((g1.trans g2).trans g3) st3 r3 (jn (g1.hh.trans g2.hh) r3.nofp fz)
theorem PD.drop {e:Expr}{f:Za->M D}{fr:Bool}(h:PD X G fr e f):∃t,PE X e t/\∀(σ:St) (Hf H:Hp) (ρ:Za) (s:Pn) (d:D) (s':Pn) (Q:VK),Zz G Hf H->Yx G Hf σ ρ->G.st s H->f ρ s=some (d,s')->
  (∀v Hf' H',Gr G Hf H Hf' H'->G.st s' H'->Zi G Hf' d v->Q v H')->t σ H Q:=by
 obtain⟨t,p,q⟩:=h;exact⟨t,p,fun σ Hf H ρ s d s' Q a b c d' k=>q σ Hf H ρ s d s' Q a b c d' λv Hf' H' g1 g2 g3 _=>k v Hf' H' g1 g2 g3⟩
theorem Ys {a b:Expr}{op:Operator}{pos:Pos}{fa fb:Za->M D}{g:D->D->Option D}{r1 r2:Bool}(ho:XB X G (binaryOp op) g)(ha:PD X G r1 a fa)(hb:PD X G r2 b fb):PD X G true (.BinOp a op b pos) (Ze g fa fb):=by
 obtain⟨r,po,qo⟩:=ho;obtain⟨ta,pa,qa⟩:=ha.drop;obtain⟨tb,pb,qb⟩:=hb.drop;exact⟨_,YT po pa pb,fun σ Hf H ρ s d s' Q e1 e2 e3 e4 k=>op2D qa qb qo σ Hf H ρ s d s' Q e1 e2 e3 e4 λv Hf' H' g1 g2 g3 fz=>k v Hf' H' g1 g2 g3 λ_=>fz⟩
theorem Jb {a b:Expr}{op:CmpOp}{pos:Pos}{fa fb:Za->M D}{g:D->D->Option D}{r1 r2:Bool}(ho:XB X G (xk op) g)(ha:PD X G r1 a fa)(hb:PD X G r2 b fb)
  (hm:behindInMarks op b=false:=by first | exact Ja _ | with_unfolding_all rfl):PD X G true (.Compare a [op] [b] pos) (Ze g fa fb):=by
 obtain⟨r,po,qo⟩:=ho;obtain⟨ta,pa,qa⟩:=ha.drop;obtain⟨tb,pb,qb⟩:=hb.drop;exact⟨_,Zk0 po pa pb hm,fun σ Hf H ρ s d s' Q e1 e2 e3 e4 k=>op2D qa qb qo σ Hf H ρ s d s' Q e1 e2 e3 e4 λv Hf' H' g1 g2 g3 fz=>k v Hf' H' g1 g2 g3 λ_=>fz⟩
noncomputable def YN (f:Za->M D):Za->M Bool:=fun ρ=>Zo (f ρ) λd=>match d with | .bl b=>ZI b | _=>ZO
theorem ZeH {f:Za->M D}{ρ:Za}{s s':Pn}{b:Bool}(h:YN f ρ s=some (b,s')):f ρ s=some (.bl b,s'):=by
 obtain⟨d,s1,a1,a2⟩:=ZE h
 cases d with
 | bl c=>obtain⟨rfl,rfl⟩:=ZL a2;exact a1
 | _=>cases a2
theorem Ur {a b:Expr}{op:CmpOp}{pos:Pos}{fa fb:Za->M D}{g:D->D->Option D}{r1 r2:Bool}(ho:XB X G (xk op) g)(ha:PD X G r1 a fa)(hb:PD X G r2 b fb)
  (hm:behindInMarks op b=false:=by first | exact Ja _ | with_unfolding_all rfl):Vi X G (.Compare a [op] [b] pos) (YN (Ze g fa fb)):=by
 obtain⟨r,po,qo⟩:=ho;obtain⟨ta,pa,qa⟩:=ha.drop;obtain⟨tb,pb,qb⟩:=hb.drop;refine⟨_,JX po pa pb hm,fun σ Hf H ρ s c s' Q e1 e2 e3 e4 k=>?_⟩;exact op2D qa qb qo σ Hf H ρ s (.bl c) s' _ e1 e2 e3 (ZeH e4) λv Hf' H' g1 g2 g3 fz=>⟨c,je.mp g3,k Hf' H' g1 g2⟩
theorem JZ {e:Expr}{f:Za->M D}{fr:Bool}(h:PD X G fr e f)(he:∀whole,isTrue e X.env whole=(do let v<-whole;standAt e.pos;holding [v] (truthy v)):=by intro _;rfl):Vi X G e (YN f):=by
 obtain⟨t,p,q⟩:=h;refine⟨_,ZmM p he,fun σ Hf H ρ s c s' Q e1 e2 e3 e4 k=>?_⟩;exact q σ Hf H ρ s (.bl c) s' _ e1 e2 e3 (ZeH e4) λv Hf' H' g1 g2 g3 fz=>⟨c,je.mp g3,k Hf' H' g1 g2⟩
noncomputable def UG (f g:Za->M Bool):Za->M Bool:=fun ρ=>Zo (f ρ) λb=>if b=true then g ρ else ZI false
noncomputable def JA (X:Cx)(G:Gh)(e:Expr)(f:Za->M Bool):Prop:=
 ∃t,PW X e t/\∀(σ:St) (Hf H:Hp) (ρ:Za) (s:Pn) (b:Bool) (s':Pn) (Q:Bool->Hp->Prop),Zz G Hf H->Yx G Hf σ ρ->G.st s H->f ρ s=some (b,s')->
  (∀Hf' H',Gr G Hf H Hf' H'->G.st s' H'->Q b H')->t σ H Q
theorem JA.pt {e:Expr}{f:Za->M Bool}(h:JA X G e f):Vi X G e f:=by
 obtain⟨t,p,q⟩:=h;exact⟨t,p.pt,q⟩
theorem Zjw {a:Expr}{pos:Pos}{f:Za->M Bool}(h:Vi X G a f):JA X G (.BoolOp .And [a] pos) f:=by
 obtain⟨t,p,q⟩:=h;exact⟨t,ZgO p,q⟩
theorem Zlb {a b:Expr}{rest:List Expr}{pos:Pos}{f g:Za->M Bool}(h:Vi X G a f)(h2:JA X G (.BoolOp .And (b::rest) pos) g):JA X G (.BoolOp .And (a::b::rest) pos) (UG f g):=by
 obtain⟨t,p,q⟩:=h;obtain⟨u,p2,q2⟩:=h2;refine⟨_,Zja p p2,fun σ Hf H ρ s c s' Q e1 e2 e3 e4 k=>?_⟩;obtain⟨b,s1,a1,a2⟩:=ZE e4;refine q σ Hf H ρ s b s1 _ e1 e2 e3 a1 λjW H1 g1 j8=>?_
 cases b with
 | true=>exact q2 σ jW H1 ρ s1 c s' _ g1.fh (e2.ext g1.ff) j8 a2 λkd H2 g2 jV=>k kd H2 (g1.trans g2) jV
 | false=>obtain⟨rfl,rfl⟩:=ZL a2;exact k jW H1 g1 j8
noncomputable def Vf (f g:Za->M D):Za->M D:=fun ρ=>Zo (f ρ) λd=>match d with | .bl true=>g ρ | .bl false=>ZI (.bl false) | _=>ZO
noncomputable def JB (f g:Za->M D):Za->M D:=fun ρ=>Zo (f ρ) λd=>match d with | .bl true=>ZI (.bl true) | .bl false=>g ρ | _=>ZO
noncomputable def Jp (f:Za->M D):Za->M D:=fun ρ=>Zo (f ρ) λd=>match d with | .bl b=>ZI (.bl (!b)) | _=>ZO
theorem Zjx {op}{a:Expr}{pos:Pos}{fr:Bool}{f:Za->M D}(h:PD X G fr a f):PD X G false (.BoolOp op [a] pos) f:=by
 obtain⟨t,p,q⟩:=h.weak;exact⟨t,ZmN p,q⟩
theorem Zm7 {a b:Expr}{rest:List Expr}{pos:Pos}{r1 r2:Bool}{f g:Za->M D}(h:PD X G r1 a f)(h2:PD X G r2 (.BoolOp .And (b::rest) pos) g):PD X G false (.BoolOp .And (a::b::rest) pos) (Vf f g):=by
 obtain⟨t,p,q⟩:=h.drop;obtain⟨u,p2,q2⟩:=h2.drop;refine⟨_,ZmO p p2,fun σ Hf H ρ s c s' Q e1 e2 e3 e4 k=>?_⟩;obtain⟨d,s1,a1,a2⟩:=ZE e4;refine q σ Hf H ρ s d s1 _ e1 e2 e3 a1 λv jW H1 g1 j8 r1=>?_
 cases d with
 | bl b=>
  cases b with
  | true=>exact⟨true,je.mp r1,V3 (q2 σ jW H1 ρ s1 c s' _ g1.fh (e2.ext g1.ff) j8 a2 λv kd H2 g2 jV r2=>k v kd H2 (g1.trans g2) jV r2 (λz=>by cases z))⟩
  | false=>obtain⟨rfl,rfl⟩:=ZL a2;exact⟨false,je.mp r1,VC (k _ jW H1 g1 j8 (je.mpr rfl) (λz=>by cases z))⟩
 | _=>cases a2
theorem Zn9 {a b:Expr}{rest:List Expr}{pos:Pos}{r1 r2:Bool}{f g:Za->M D}(h:PD X G r1 a f)(h2:PD X G r2 (.BoolOp .Or (b::rest) pos) g):PD X G false (.BoolOp .Or (a::b::rest) pos) (JB f g):=by
 obtain⟨t,p,q⟩:=h.drop;obtain⟨u,p2,q2⟩:=h2.drop;refine⟨_,ZnZ p p2,fun σ Hf H ρ s c s' Q e1 e2 e3 e4 k=>?_⟩;obtain⟨d,s1,a1,a2⟩:=ZE e4;refine q σ Hf H ρ s d s1 _ e1 e2 e3 a1 λv jW H1 g1 j8 r1=>?_
 cases d with
 | bl b=>
  cases b with
  | false=>exact⟨false,je.mp r1,VC (q2 σ jW H1 ρ s1 c s' _ g1.fh (e2.ext g1.ff) j8 a2 λv kd H2 g2 jV r2=>k v kd H2 (g1.trans g2) jV r2 (λz=>by cases z))⟩
  | true=>obtain⟨rfl,rfl⟩:=ZL a2;exact⟨true,je.mp r1,V3 (k _ jW H1 g1 j8 (je.mpr rfl) (λz=>by cases z))⟩
 | _=>cases a2
theorem Zjy {a:Expr}{pos:Pos}{r1:Bool}{f:Za->M D}(h:PD X G r1 a f):PD X G true (.UnaryOp .Not a pos) (Jp f):=by
 obtain⟨t,p,q⟩:=h.drop;refine⟨_,ZmP p,fun σ Hf H ρ s c s' Q e1 e2 e3 e4 k=>?_⟩;obtain⟨d,s1,a1,a2⟩:=ZE e4;refine q σ Hf H ρ s d s1 _ e1 e2 e3 a1 λv jW H1 g1 j8 r1=>?_
 cases d with
 | bl b=>obtain⟨rfl,rfl⟩:=ZL a2;exact⟨b,je.mp r1,k _ jW H1 g1 j8 (je.mpr rfl) λ_=>.scal λz=>z⟩
 | _=>cases a2
noncomputable def WW (X:Cx)(G:Gh)(f:Value)(g:List D->Option D):Prop:=
 ∃r,XO X f r/\∀(Hf H:Hp) (s:Pn) (xs:List V) (ds:List D) (c:D) (Q:VK),Zz G Hf H->G.st s H->Zf G Hf ds xs->g ds=some c->
  (∀v Hf' H',Gr G Hf H Hf' H'->G.st s H'->Zi G Hf' c v->Yh G H Hf' c v->Q v H')->r xs H Q
noncomputable def ZN (g:List D->Option D)(fs:Za->M (List D)):Za->M D:=fun ρ=>Zo (fs ρ) λds=>Xp (g ds)
theorem W9 {id:String}{x:Str}{p pos:Pos}{e:Expr}{es:List Expr}{g:List D->Option D}{fs:Za->M (List D)}(hc:WW X G (.builtin id) g)(hg:Gl X x)(hm:X.mg x=none)(hv:xj x=some (.builtin id))(ha:WA X G (e::es) fs)
  (hn:x≠"__name__":=by decide) (hdb:(x==("__debug__" : Str))=false:=by decide)
  (he:xh (e::es) X.env=(false,eval e X.env)::xh es X.env:=by rfl) (hpl:(backTo pos (xh es X.env)).any (·.1)=false:=by rfl):PD X G true (.Call (.Name x p) (e::es) [] pos) (ZN g fs):=by
 obtain⟨r,pr,qr⟩:=hc;obtain⟨t,pa,qa⟩:=ha;refine⟨_,ZaU pr hg hm hv pa hn hdb he hpl,fun σ Hf H ρ s d s' Q e1 e2 e3 e4 k=>?_⟩;obtain⟨ds,s1,a1,a2⟩:=ZE e4;obtain⟨a3,rfl⟩:=WR a2;refine qa σ Hf H ρ s ds _ _ e1 e2 e3 a1 λvs jW H1 g1 j8 r1=>?_;exact qr jW H1 _ vs ds d Q g1.fh j8 r1 a3 λv kd H2 g2 jV r2 fz=>k v kd H2 (g1.trans g2) jV r2 λ_=>jn g1.hh r2.nofp fz
theorem JO {T:String}{x:Str}{p pos:Pos}{e:Expr}{es:List Expr}{g:List D->Option D}{fs:Za->M (List D)}(hc:WW X G (.type T) g)(hg:Gl X x)(hm:X.mg x=none)(hv:xj x=some (.type T))(ha:WA X G (e::es) fs)
  (hn:x≠"__name__":=by decide) (hdb:(x==("__debug__" : Str))=false:=by decide)
  (he:xh (e::es) X.env=(false,eval e X.env)::xh es X.env:=by rfl) (hpl:(backTo pos (xh es X.env)).any (·.1)=false:=by rfl):PD X G true (.Call (.Name x p) (e::es) [] pos) (ZN g fs):=by
 obtain⟨r,pr,qr⟩:=hc;obtain⟨t,pa,qa⟩:=ha;refine⟨_,Zbj pr hg hm hv pa hn hdb he hpl,fun σ Hf H ρ s d s' Q e1 e2 e3 e4 k=>?_⟩;obtain⟨ds,s1,a1,a2⟩:=ZE e4;obtain⟨a3,rfl⟩:=WR a2;refine qa σ Hf H ρ s ds _ _ e1 e2 e3 a1 λvs jW H1 g1 j8 r1=>?_;exact qr jW H1 _ vs ds d Q g1.fh j8 r1 a3 λv kd H2 g2 jV r2 fz=>k v kd H2 (g1.trans g2) jV r2 λ_=>jn g1.hh r2.nofp fz
noncomputable def IxD (X:Cx)(G:Gh)(g:D->D->Option D):Prop:=
 ∃r,V9 X r/\∀(Hf H:Hp) (s:Pn) (x y:V) (d e c:D) (Q:VK),Zz G Hf H->G.st s H->Zi G Hf d x->Zi G Hf e y->g d e=some c->
  (∀v,Zi G Hf c v->Q v H)->r x y H Q
theorem Ya {a b:Expr}{pos:Pos}{fa fb:Za->M D}{g:D->D->Option D}{r1 r2:Bool}(ho:IxD X G g)(ha:PD X G r1 a fa)(hb:PD X G r2 b fb)(hs:ZgV b:=by intro _ _;rfl):PD X G false (.Subscript a b pos) (Ze g fa fb):=by
 obtain⟨r,po,qo⟩:=ho;obtain⟨ta,pa,qa⟩:=ha.drop;obtain⟨tb,pb,qb⟩:=hb.drop;refine⟨_,ZgW po pa pb hs,fun σ Hf H ρ s d s' Q e1 e2 e3 e4 k=>?_⟩;obtain⟨da,s1,a1,a2⟩:=ZE e4;obtain⟨db,s2,a3,a4⟩:=ZE a2;obtain⟨a5,rfl⟩:=WR a4;refine qa σ Hf H ρ s da s1 _ e1 e2 e3 a1 λx jW H1 g1 j8 r1=>?_;refine qb σ jW H1 ρ s1 db _ _ g1.fh (e2.ext g1.ff) j8 a3 λy kd H2 g2 jV r2=>?_;exact qo kd H2 _ x y da db d Q g2.fh jV (r1.ext g2.ff) r2 a5 λv r3=>k v kd H2 (g1.trans g2) jV r3 (λz=>by cases z)
noncomputable def Yw (n:Nat)(fr:Bool)(GG:Gh->Prop)(F:List D->M D):Sp:=λvs H Q _=>∃(G:Gh) (Hf:Hp) (ds:List D) (s:Pn) (d:D) (s':Pn),GG G/\vs.length=n/\Zz G Hf H/\Zf G Hf ds vs/\G.st s H/\F ds s=some (d,s')/\
 ∀v Hf' H',Gr G Hf H Hf' H'->G.st s' H'->Zi G Hf' d v->(fr=true->Yh G H Hf' d v)->Q v H'
noncomputable def ZA (F:List D->M D)(fs:Za->M (List D)):Za->M D:=fun ρ=>Zo (fs ρ) F
theorem Zlc {CX:Xo}{k:Nat}{f:Addr}{fd:xB}{ps:List Str}{n:Nat}{fr:Bool}{GG:Gh->Prop}{F:List D->M D}{E:XK}{x:Str}{p pos:Pos}{e:Expr}{es:List Expr}{fs:Za->M (List D)}
  (FN:FnOk X.prog X.w X.K X.mg X.base CX k f fd ps (Yw n fr GG F)) (hG:GG G) (hr:Room k X.A) (hg:Gl X x) (hm:X.mg x=some (.ref f)) (hk:yW X.K (.ref f)=true) (hb:Wd X.K fd ps []) (hx:ZdU CX X E)
  (ha:WA X G (e::es) fs) (jQ:(e::es).length=n:=by rfl) (hal:∀ρ s ds s',fs ρ s=some (ds,s')->ds.length=(e::es).length)
  (hdb:(x==("__debug__" : Str))=false:=by decide) (he:xh (e::es) X.env=(false,eval e X.env)::xh es X.env:=by rfl) (hpl:(backTo pos (xh es X.env)).any (·.1)=false:=by rfl) :
  PD X G fr (.Call (.Name x p) (e::es) [] pos) (ZA F fs):=by
 obtain⟨t,pa,qa⟩:=ha;refine⟨_,ZgR FN hr hg hm hk hb .nil hx pa hdb he hpl,fun σ Hf H ρ s d s' Q e1 e2 e3 e4 k=>?_⟩;obtain⟨ds,s1,a1,a2⟩:=ZE e4;refine qa σ Hf H ρ s ds _ _ e1 e2 e3 a1 λvs jW H1 g1 j8 r1=>?_;refine⟨G,jW,ds,s1,d,s',hG,by rw[zB,<-r1.length,hal _ _ _ _ a1];exact jQ,g1.fh,by rw[zB];exact r1,j8,a2,λv kd H2 g2 jV r2 fz=>?_⟩;exact k v kd H2 (g1.trans g2) jV r2 λz=>jn g1.hh r2.nofp (fz z)
theorem YV {f:Za->M D}{g:Za->M (List D)}{n:Nat}(h:∀ρ s ds s',g ρ s=some (ds,s')->ds.length=n):∀ρ s ds s',Zc f g ρ s=some (ds,s')->ds.length=n+1:=fun ρ s ds s' q=>by
 obtain⟨d,s1,a1,a2⟩:=ZE q;obtain⟨r,s2,a3,a4⟩:=ZE a2;obtain⟨rfl,rfl⟩:=ZL a4;simp[h _ _ _ _ a3]
theorem Ul:∀ρ s ds s',Zd ρ s=some (ds,s')->ds.length=0:=fun ρ s ds s' q=>by
 obtain⟨rfl,rfl⟩:=ZL q;rfl
end
mutual
noncomputable def XQ:D->Bool
 | .tup ds=>Jc ds
 | .lst _=>false
 | .dk _=>false
 | .dt _=>false
 | .du _=>false
 | .df _=>false
 | .clo _ _=>false
 | _=>true
noncomputable def Jc:List D->Bool
 | []=>true
 | d::ds=>XQ d&&Jc ds
end
mutual
theorem Zi.only {G:Gh}{H H':Hp}(e:∀b vs,¬G.fp b->H b=some (.tup vs)->H' b=some (.tup vs)):∀{d:D} {v:V},XQ d=true->Zi G H d v->Zi G H' d v
 | .non,_,_,h=>h
 | .bl _,_,_,h=>h
 | .int _,_,_,h=>h
 | .str _,_,_,h=>h
 | .tup ds,v,n,h=>by
  obtain⟨a,vs,e1,nf,e2,r⟩:=jc.mp h;exact jc.mpr ⟨a,vs,e1,nf,e _ _ nf e2,Zf.only e (by simpa[XQ]using n) r⟩
 | .lst ds,v,n,h=>by simp[XQ]at n
 | .dk kvs,v,n,h=>by simp[XQ]at n
 | .dt kvs,v,n,h=>by simp[XQ]at n
 | .du kvs,v,n,h=>by simp[XQ]at n
 | .df kvs,v,n,h=>by simp[XQ]at n
 | .pen,_,_,h=>h
 | .ty _,_,_,h=>h
 | .clo _ _,v,n,h=>by simp[XQ]at n
theorem Zf.only {G:Gh}{H H':Hp}(e:∀b vs,¬G.fp b->H b=some (.tup vs)->H' b=some (.tup vs)):∀{ds:List D} {vs:List V},Jc ds=true->Zf G H ds vs->Zf G H' ds vs
 | [],_,_,h=>h
 | d::ds,vs,n,h=>by
  obtain⟨v,r,e1,r1,r2⟩:=jd.mp h;have n':XQ d=true/\Jc ds=true:=by simpa[Jc]using n
  exact jd.mpr ⟨v,r,e1,Zi.only e n'.1 r1,Zf.only e n'.2 r2⟩
end
noncomputable def Vv (G:Gh)(Hf H:Hp)(a:Addr):D->Prop
 | .lst ds=>∃vs,H a=some (.lst vs)/\Zf G Hf ds vs
 | .dk kvs=>H a=some (.dK kvs)
 | .dt kvs=>∃o,H a=some (.frz o (.dT kvs))
 | .du kvs=>H a=some (.dT kvs)
 | _=>False
theorem Vv.there {G:Gh}{Hf H:Hp}{a:Addr}{d:D}(h:Vv G Hf H a d):∃o,H a=some o/\∀vs,o≠.tup vs:=by
 cases d with
 | lst ds=>obtain⟨vs,e,_⟩:=h;exact⟨_,e,λ_ z=>by cases z⟩
 | dk kvs=>exact⟨_,h,λ_ z=>by cases z⟩
 | dt kvs=>obtain⟨o,h⟩:=h;exact⟨_,h,λ_ z=>by cases z⟩
 | du kvs=>exact⟨_,h,λ_ z=>by cases z⟩
 | _=>exact h.elim
theorem Vv.keep {G:Gh}{Hf H Hf' H':Hp}{a:Addr}{d:D}(h:Vv G Hf H a d)(e:Zz G Hf Hf')(ha:∀o,H a=some o->H' a=some o):Vv G Hf' H' a d:=by
 cases d with
 | lst ds=>obtain⟨vs,q,r⟩:=h;exact⟨vs,ha _ q,r.ext e⟩
 | dk kvs=>exact ha _ h
 | dt kvs=>obtain⟨o,h⟩:=h;exact⟨o,ha _ h⟩
 | du kvs=>exact ha _ h
 | _=>exact h.elim
theorem Vv.rep {G:Gh}{Hf H Hf':Hp}{a:Addr}{d:D}(h:Vv G Hf H a d)(nf:¬G.fp a)(e:Zz G Hf Hf')(ha:∀o,H a=some o->Hf' a=some o):Zi G Hf' d (.ref a):=by
 cases d with
 | lst ds=>obtain⟨vs,q,r⟩:=h;exact jb.mpr ⟨a,vs,rfl,nf,ha _ q,r.ext e⟩
 | dk kvs=>exact jl.mpr ⟨a,rfl,nf,ha _ h⟩
 | dt kvs=>obtain⟨o,h⟩:=h;exact jk.mpr ⟨a,o,rfl,nf,ha _ h⟩
 | du kvs=>exact jm.mpr ⟨a,rfl,nf,ha _ h⟩
 | _=>exact h.elim
structure Jf (G:Gh)(own:List Nat)(kn jP H0:Hp)(σ:St)(Hf H:Hp)(ρ:Za):Prop where
 len:σ.length=ρ.length
 kn:Zz G kn Hf
 gr:Gr G jP H0 Hf H
 fz:∀(i:Nat) (d:D),i∉own->ρ[i]?=some (some d)->∃v,σ[i]?=some (some v)/\Zi G Hf d v
 ow:∀(i:Nat) (d:D),i∈own->ρ[i]?=some (some d)->∃a,σ[i]?=some (some (.ref a))/\¬G.rd a/\Hf a=none/\H0 a=none/\Vv G Hf H a d
 ne:∀(i j:Nat) (a:Addr) (di dj:D),i∈own->j∈own->i≠j->ρ[i]?=some (some di)->ρ[j]?=some (some dj)->σ[i]?=some (some (.ref a))->σ[j]?=some (some (.ref a))->False
noncomputable def J (G:Gh)(own:List Nat)(kn jP H0:Hp)(σ:St)(H:Hp)(ρ:Za):Prop:=∃Hf,Jf G own kn jP H0 σ Hf H ρ
noncomputable def ZU (own:List Nat)(ρ:Za):Za:=ρ.mapIdx λi o=>if i∈own then none else o
theorem Zcf (ρ:Za):ZU [] ρ=ρ:=by
 unfold ZU;apply yc;intro i;simp
theorem Zjz {own:List Nat}{ρ:Za}{i:Nat}{d:D}(h:(ZU own ρ)[i]?=some (some d)):i∉own/\ρ[i]?=some (some d):=by
 unfold ZU at h;rw[List.getElem?_mapIdx]at h
 cases e:ρ[i]? with
 | none=>rw[e]at h;cases h
 | some o=>
  rw[e]at h;simp only[yE,qcc]at h;split at h
  ·cases h
  ·rename_i hn;exact⟨hn,by rw[h]⟩
section
variable {X:Cx}{G:Gh}{own:List Nat}{kn jP H0 Hf H:Hp}{σ:St}{ρ:Za}
theorem Jf.envA (j:Jf G own kn jP H0 σ Hf H ρ):Yx G Hf σ (ZU own ρ):=λi d e=>by
 obtain⟨n,q⟩:=Zjz e;exact j.fz i d n q
theorem jv {G:Gh}{a:Addr}(h:¬G.rd a):¬G.fp a:=λz=>h (G.sub a z)
theorem Jf.grow {Hf' H':Hp}(j:Jf G own kn jP H0 σ Hf H ρ)(g:Gr G Hf H Hf' H'):Jf G own kn jP H0 σ Hf' H' ρ where
 len:=j.len
 kn:=j.kn.trans g.ff
 gr:=j.gr.trans g
 fz:=λi d n e=>let ⟨v,a,b⟩:=j.fz i d n e;⟨v,a,b.ext g.ff⟩
 ow:=λi d m e=>by
  obtain⟨a,h1,h2,h3,h4,h5⟩:=j.ow i d m e;have nf:=jv h2;refine⟨a,h1,h2,?_,h4,h5.keep g.ff λo q=>g.hh a o nf q⟩;exact g.nw a nf h3 h5.there
 ne:=j.ne
noncomputable def wide (jP H0 H:Hp):Hp:=λb=>open Classical in if jP b=none/\Nt (H0 b)then none else H b
theorem Um {jP H0 H:Hp}:Zz G (wide jP H0 H) H:=λb o _ e=>by
 unfold wide at e;split at e
 ·cases e
 ·exact e
theorem Jf.wideF (j:Jf G own kn jP H0 σ Hf H ρ):Zz G Hf (wide jP H0 H):=λb o n e=>by
 unfold wide;split
 ·rename_i h
  rw[j.gr.nw b n h.1 h.2]at e;cases e
 ·exact j.gr.fh b o n e
theorem Jf.envB (j:Jf G own kn jP H0 σ Hf H ρ):Yx G (wide jP H0 H) σ ρ:=λi d e=>by
 by_cases m:i∈own
 ·obtain⟨a,h1,h2,h3,h4,h5⟩:=j.ow i d m e
  refine⟨_,h1,h5.rep (jv h2) j.wideF λo q=>?_⟩;unfold wide;rw[if_neg (λz=>z.2.no h4)];exact q
 ·obtain⟨v,h1,h2⟩:=j.fz i d m e
  exact⟨v,h1,h2.ext j.wideF⟩
theorem Jf.grW {Hf' H':Hp}(j:Jf G own kn jP H0 σ Hf H ρ)(g:Gr G (wide jP H0 H) H Hf' H'):Gr G jP H0 Hf' H' where
 hh:=j.gr.hh.trans g.hh
 ff:=λb o n e=>g.ff b o n (j.wideF b o n (j.gr.ff b o n e))
 fh:=g.fh
 nw:=λb n h1 h2=>g.nw b n (by unfold wide;rw[if_pos ⟨h1,h2⟩]) (let ⟨u,e,nt⟩:=h2;⟨u,j.gr.hh b u n e,nt⟩)
noncomputable def JC:D->Bool
 | .lst ds=>Jc ds
 | .dk _=>true
 | .dt _=>true
 | .du _=>true
 | _=>false
theorem Zld {d:D}(h:JC d=true):Uz d:=by
 cases d <;> first | trivial | (simp[JC]at h)
theorem Jf.growB {Hf' H':Hp}(j:Jf G own kn jP H0 σ Hf H ρ)(g:Gr G (wide jP H0 H) H Hf' H') :
  ∃Hf'',Jf G own kn jP H0 σ Hf'' H' ρ/\Zz G Hf Hf''/\(∀d v,XQ d=true->Zi G Hf' d v->Zi G Hf'' d v)/\∀d v,JC d=true->Yh G H Hf' d v->Zi G Hf' d v->Zi G Hf'' d v/\Yh G H Hf'' d v:=by
 classical
 -- the owned addresses are left out again
 let OA:Addr->Prop:=λb=>∃i d,i∈own/\ρ[i]?=some (some d)/\σ[i]?=some (some (.ref b))
 have oaH:∀b,OA b->Hf b=none/\¬G.rd b/\∃o,H b=some o/\∀vs,o≠.tup vs:=λb ⟨i,d,m,e,q⟩=>by
  obtain⟨a,h1,h2,h3,h4,h5⟩:=j.ow i d m e;rw[q]at h1;cases h1;exact⟨h3,h2,h5.there⟩
 have W:=j.grW g;refine⟨λb=>if OA b then none else Hf' b,?_⟩;have fF:Zz G Hf (λb=>if OA b then none else Hf' b):=λb o n e=>by
  have:¬OA b:=λz=>by rw[(oaH b z).1]at e;cases e
  show(if OA b then none else Hf' b)=_;rw[if_neg this];exact g.ff b o n (j.wideF b o n e)
 have Fh:Zz G (λb=>if OA b then none else Hf' b) H':=λb o n e=>by
  have e':(if OA b then none else Hf' b)=some o:=e;split at e'
  ·cases e'
  ·exact g.fh b o n e'
 have tupK:∀b vs,¬G.fp b->Hf' b=some (.tup vs)->(if OA b then none else Hf' b)=some (.tup vs):=λb vs nf e=>by
  have:¬OA b:=λz=>by
   obtain⟨_,_,o,q,nt⟩:=oaH b z;have q1:=g.hh b o nf q;have q2:=g.fh b _ nf e;rw[q1]at q2;exact nt vs (zv q2)
  rw[if_neg this];exact e
 have frK:∀a,H a=none->¬OA a:=λa e z=>by
  obtain⟨_,_,o,q,nt⟩:=oaH a z;rw[e]at q;cases q
 refine⟨⟨j.len,j.kn.trans fF,⟨W.hh,j.gr.ff.trans fF,Fh,λb n h1 h2=>?_⟩,λi d n e=>?_,λi d m e=>?_,j.ne⟩,fF,λd v n r=>Zi.only tupK n r,λd v ok fr r=>?_⟩
 ·show(if OA b then none else Hf' b)=none
  split
  ·rfl
  ·exact W.nw b n h1 h2
 ·obtain⟨v,a,b⟩:=j.fz i d n e
  exact⟨v,a,b.ext fF⟩
 ·obtain⟨a,h1,h2,h3,h4,h5⟩:=j.ow i d m e
  refine⟨a,h1,h2,?_,h4,h5.keep fF λo q=>g.hh a o (jv h2) q⟩;show(if OA a then none else Hf' a)=none;rw[if_pos ⟨i,d,m,e,h1⟩]
 ·cases d with
  | lst ds=>
   obtain⟨a,vs,e,n,q,r'⟩:=jb.mp r;have na:=frK a (fr a e trivial).1;have ea:(if OA a then none else Hf' a)=some (.lst vs):=by rw[if_neg na];exact q
   refine⟨jb.mpr ⟨a,vs,e,n,ea,Zf.only tupK ok r'⟩,λb eb m=>?_⟩;rw[e]at eb;cases eb;refine⟨(fr a e trivial).1,λds' ed=>?_⟩
   cases ed
   refine⟨vs,λb=>if b=a then none else if OA b then none else Hf' b,ea,if_pos rfl,λb o nb eb=>?_,?_⟩
   ·have eb':(if b=a then none else if OA b then none else Hf' b)=some o:=eb
    split at eb'
    ·cases eb'
    ·exact eb'
   ·refine Zf.only (λb ws nb eb=>?_) ok r'
    have hba:b≠a:=λz=>by rw[z,q]at eb;cases eb
    show(if b=a then none else if OA b then none else Hf' b)=_;rw[if_neg hba];exact tupK b ws nb eb
  | dk ds=>
   obtain⟨a,e,n,q⟩:=jl.mp r;have na:=frK a (fr a e trivial).1;refine⟨jl.mpr ⟨a,e,n,?_⟩,λb eb m=>⟨(fr b eb m).1,λds' ed=>by cases ed⟩⟩;show(if OA a then none else Hf' a)=_;rw[if_neg na];exact q
  | dt ds=>
   obtain⟨a,o,e,n,q⟩:=jk.mp r;have na:=frK a (fr a e trivial).1;refine⟨jk.mpr ⟨a,o,e,n,?_⟩,λb eb m=>⟨(fr b eb m).1,λds' ed=>by cases ed⟩⟩;show(if OA a then none else Hf' a)=_;rw[if_neg na];exact q
  | du ds=>
   obtain⟨a,e,n,q⟩:=jm.mp r;have na:=frK a (fr a e trivial).1;refine⟨jm.mpr ⟨a,e,n,?_⟩,λb eb m=>⟨(fr b eb m).1,λds' ed=>by cases ed⟩⟩;show(if OA a then none else Hf' a)=_;rw[if_neg na];exact q
  | _=>exact absurd (Zld ok) (λz=>z)
theorem Jf.set {i:Nat}{d:D}{v:V}{own':List Nat}(j:Jf G own kn jP H0 σ Hf H ρ)(ho:∀k,k∈own'->k≠i/\k∈own)(hk:∀k,k∈own->k≠i->k∈own')(r:Zi G Hf d v):Jf G own' kn jP H0 (σ.set i (some v)) Hf H (ρ.set i (some d)) where
 len:=by simp[j.len]
 kn:=j.kn
 gr:=j.gr
 fz:=λk c n e=>by
  by_cases h:i=k
  ·subst h
   have hl:i < ρ.length:=by
    have:=(qq.mp e).1;simpa using this
   rw[zu hl]at e
   cases e
   exact⟨v,zu (by rw[j.len];exact hl),r⟩
  ·rw[qZ h]at e⊢
   exact j.fz k c (λz=>n (hk k z (zD h))) e
 ow:=λk c m e=>by
  have h:i≠k:=zD (ho k m).1;rw[qZ h]at e⊢;exact j.ow k c (ho k m).2 e
 ne:=λk l a dk dl mk ml n ek el sk sl=>by
  have h:i≠k:=zD (ho k mk).1;have h':i≠l:=zD (ho l ml).1;rw[qZ h]at ek sk;rw[qZ h']at el sl;exact j.ne k l a dk dl (ho k mk).2 (ho l ml).2 n ek el sk sl
noncomputable def Bj:D->Bool
 | .lst _=>true
 | .dk _=>true
 | .dt _=>true
 | .du _=>true
 | _=>false
theorem ZfX {d:D}(h:Bj d=true):Uz d:=by
 cases d <;> first | trivial | (simp[Bj]at h)
theorem Jf.setOwn {i:Nat}{d:D}{v:V}{Hb Hq:Hp}{s:Pn}{own':List Nat}(j0:Jf G own kn jP H0 σ Hq Hb ρ)(j:Jf G own kn jP H0 σ Hf H ρ)(ho:∀k,k∈own'↔k=i∨k∈own)(st:G.st s Hb)(hb:Zz G Hb H)(hq:Zz G Hq Hf)
  (r:Zi G Hf d v) (fr:Yh G Hb Hf d v) (ok:Bj d=true):∃Hf',Jf G own' kn jP H0 (σ.set i (some v)) Hf' H (ρ.set i (some d)):=by
 classical
 have mu:=ZfX ok;obtain⟨a,ea,nfa⟩:∃a,v=.ref a/\¬G.fp a:=by
  cases d with
  | lst ds=>obtain⟨a,vs,e,n,_⟩:=jb.mp r;exact⟨a,e,n⟩
  | dk ds=>obtain⟨a,e,n,_⟩:=jl.mp r;exact⟨a,e,n⟩
  | dt ds=>obtain⟨a,_,e,n,_⟩:=jk.mp r;exact⟨a,e,n⟩
  | du ds=>obtain⟨a,e,n,_⟩:=jm.mp r;exact⟨a,e,n⟩
  | _=>exact mu.elim
 subst ea;have fra:Hb a=none:=(fr a rfl mu).1;have hqa:Hq a=none:=by
  cases e:Hq a with
  | none=>rfl
  | some o=>rw[j0.gr.fh a o nfa e]at fra;cases fra
 have h0a:H0 a=none:=by
  cases e:H0 a with
  | none=>rfl
  | some o=>rw[j0.gr.hh a o nfa e]at fra;cases fra
 have qF:Zz G Hq (λb=>if b=a then none else Hf b):=λb o n e=>by
  have:b≠a:=λz=>by rw[z,hqa]at e;cases e
  show(if b=a then none else Hf b)=_;rw[if_neg this];exact hq b o n e
 have oldA:∀k c,k∈own->ρ[k]?=some (some c)->σ[k]?≠some (some (.ref a)):=λk c m e z=>by
  obtain⟨b,h1,_,_,_,h5⟩:=j0.ow k c m e;rw[z]at h1;cases h1;obtain⟨o,q,_⟩:=h5.there;rw[fra]at q;cases q
 refine⟨λb=>if b=a then none else Hf b,by simp[j.len],j0.kn.trans qF,⟨j.gr.hh,j0.gr.ff.trans qF,λb o n e=>?_,λb n h1 h2=>?_⟩,λk c n e=>?_,λk c m e=>?_,λk l b dk dl mk ml n ek el sk sl=>?_⟩
 ·have e':(if b=a then none else Hf b)=some o:=e
  split at e'
  ·cases e'
  ·exact j.gr.fh b o n e'
 ·show(if b=a then none else Hf b)=none
  split
  ·rfl
  ·exact j.gr.nw b n h1 h2
 ·have h:i≠k:=λz=>n ((ho k).mpr (.inl z.symm))
  rw[qZ h]at e⊢;obtain⟨v,q1,q2⟩:=j0.fz k c (λz=>n ((ho k).mpr (.inr z))) e;exact⟨v,q1,q2.ext qF⟩
 ·by_cases h:i=k
  ·subst h
   have hl:i < ρ.length:=by
    have:=(qq.mp e).1;simpa using this
   rw[zu hl]at e
   cases e
   refine⟨a,zu (by rw[j.len];exact hl),jD st fra,by show(if a=a then none else Hf a)=none;rw[if_pos rfl],h0a,?_⟩
   cases d with
   | lst ds=>
    obtain⟨a',vs,e',n',q',r'⟩:=jb.mp r
    cases e'
    obtain⟨ws,Hm,f1,f2,f3,f4⟩:=(fr a rfl mu).2 ds rfl;rw[q']at f1;cases f1;refine⟨vs,j.gr.fh a _ n' q',f4.ext λb o nb eb=>?_⟩;have:b≠a:=λz=>by rw[z,f2]at eb;cases eb
    show(if b=a then none else Hf b)=_;rw[if_neg this];exact f3 b o nb eb
   | dk ds=>obtain⟨a',e',n',q'⟩:=jl.mp r;cases e';exact j.gr.fh a _ n' q'
   | dt ds=>obtain⟨a',o',e',n',q'⟩:=jk.mp r;cases e';exact⟨o',j.gr.fh a _ n' q'⟩
   | du ds=>obtain⟨a',e',n',q'⟩:=jm.mp r;cases e';exact j.gr.fh a _ n' q'
   | _=>exact mu.elim
  ·have m':k∈own:=((ho k).mp m).resolve_left (zD h)
   rw[qZ h]at e⊢;obtain⟨b,h1,h2,h3,h4,h5⟩:=j0.ow k c m' e;obtain⟨b',g1,g2,g3,g4,g5⟩:=j.ow k c m' e;rw[h1]at g1;cases g1;refine⟨b,h1,h2,?_,h4,h5.keep qF λo q=>hb b o (jv h2) q⟩;show(if b=a then none else Hf b)=none;split
   ·rfl
   ·exact g3
 ·by_cases hk:i=k
  ·subst hk
   have h':i≠l:=n;have hl:i < σ.length:=by
    have:=(qq.mp sk).1;simpa using this
   rw[zu hl]at sk
   cases sk
   rw[qZ h']at el sl;exact oldA l dl (((ho l).mp ml).resolve_left (zD h')) el sl
  ·by_cases hl':i=l
   ·subst hl'
    have hl:i < σ.length:=by
     have:=(qq.mp sl).1;simpa using this
    rw[zu hl]at sl
    cases sl
    rw[qZ hk]at ek sk;exact oldA k dk (((ho k).mp mk).resolve_left (zD hk)) ek sk
   ·rw[qZ hk]at ek sk
    rw[qZ hl']at el sl;exact j.ne k l b dk dl (((ho k).mp mk).resolve_left (zD hk)) (((ho l).mp ml).resolve_left (zD hl')) n ek el sk sl
theorem Jf.freeze {own':List Nat}(j:Jf G own kn jP H0 σ Hf H ρ)(ho:∀k,k∈own'->k∈own):∃Hf',Jf G own' kn jP H0 σ Hf' H ρ:=by
 classical
 let OA:Addr->Prop:=λb=>∃i d,i∈own/\i∉own'/\ρ[i]?=some (some d)/\σ[i]?=some (some (.ref b))
 have oaH:∀b,OA b->Hf b=none/\H0 b=none:=λb ⟨i,d,m,_,e,q⟩=>by
  obtain⟨a,h1,h2,h3,h4,h5⟩:=j.ow i d m e;rw[q]at h1;cases h1;exact⟨h3,h4⟩
 have fF:Zz G Hf (λb=>if OA b then H b else Hf b):=λb o n e=>by
  have:¬OA b:=λz=>by rw[(oaH b z).1]at e;cases e
  show(if OA b then H b else Hf b)=_;rw[if_neg this];exact e
 refine⟨λb=>if OA b then H b else Hf b,j.len,j.kn.trans fF,⟨j.gr.hh,j.gr.ff.trans fF,λb o n e=>?_,λb n h1 h2=>?_⟩,λk c n e=>?_,λk c m e=>?_,λk l b dk dl mk ml=>j.ne k l b dk dl (ho k mk) (ho l ml)⟩
 ·have e':(if OA b then H b else Hf b)=some o:=e
  split at e'
  ·exact e'
  ·exact j.gr.fh b o n e'
 ·have:¬OA b:=λz=>h2.no (oaH b z).2
  show(if OA b then H b else Hf b)=none;rw[if_neg this];exact j.gr.nw b n h1 h2
 ·by_cases m:k∈own
  ·obtain⟨a,h1,h2,h3,h4,h5⟩:=j.ow k c m e
   refine⟨_,h1,h5.rep (jv h2) fF λo q=>?_⟩;show(if OA a then H a else Hf a)=_;rw[if_pos ⟨k,c,m,n,e,h1⟩];exact q
  ·obtain⟨v,h1,h2⟩:=j.fz k c m e
   exact⟨v,h1,h2.ext fF⟩
 ·obtain⟨a,h1,h2,h3,h4,h5⟩:=j.ow k c (ho k m) e
  refine⟨a,h1,h2,?_,h4,h5.keep fF λo q=>q⟩;have:¬OA a:=λ⟨i,d,mi,ni,ei,qi⟩=>j.ne i k a d c mi (ho k m) (λz=>ni (z▸m)) ei e qi h1;show(if OA a then H a else Hf a)=none;rw[if_neg this];exact h3
end
theorem Jf.setF {G:Gh}{own:List Nat}{kn jP H0 Hf H:Hp}{σ:St}{ρ:Za}{i:Nat}{d:D}{v:V}(j:Jf G own kn jP H0 σ Hf H ρ)(hi:i∉own)(r:Zi G Hf d v):Jf G own kn jP H0 (σ.set i (some v)) Hf H (ρ.set i (some d)):=
 j.set (own':=own) (λk m=>⟨λz=>hi (by rw[<-z];exact m),m⟩) (λk m _=>m) r
noncomputable def X3 (G:Gh)(fr:Bool)(t:TE)(f:Za->M D):Prop:=
 ∀(σ:St) (Hf H:Hp) (ρ:Za) (s:Pn) (d:D) (s':Pn) (Q:VK),Zz G Hf H->Yx G Hf σ ρ->G.st s H->f ρ s=some (d,s')->
  (∀v Hf' H',Gr G Hf H Hf' H'->G.st s' H'->Zi G Hf' d v->(fr=true->Yh G H Hf' d v)->Q v H')->t σ H Q
noncomputable def VE (G:Gh)(own:List Nat)(fr:Bool)(t:TE)(f:Za->M D):Prop:=
 ∀(kn jP H0:Hp) (σ:St) (Hf H:Hp) (ρ:Za) (s:Pn) (d:D) (s':Pn) (Q:VK),Jf G own kn jP H0 σ Hf H ρ->G.st s H->f ρ s=some (d,s')->
  (∀v Hf' H',Jf G own kn jP H0 σ Hf' H' ρ->Zz G Hf Hf'->Zz G H H'->G.st s' H'->Zi G Hf' d v->(fr=true->Yh G H Hf' d v)->Q v H')->t σ H Q
section
variable {X:Cx}{G:Gh}{own:List Nat}{fr:Bool}{t:TE}{f:Za->M D}
theorem X3.a (h:X3 G fr t f):VE G own fr t (fun ρ=>f (ZU own ρ)):=λkn jP H0 σ Hf H ρ s d s' Q j st e k=>
 h σ Hf H (ZU own ρ) s d s' Q j.gr.fh j.envA st e λv Hf' H' g st' r fz=>k v Hf' H' (j.grow g) g.ff g.hh st' r fz
theorem X3.n (h:X3 G fr t f):VE G [] fr t f:=λkn jP H0 σ Hf H ρ s d s' Q j st e k=>
 h.a kn jP H0 σ Hf H ρ s d s' Q j st (by show f (ZU [] ρ) s=_;rw[Zcf];exact e) k
theorem Zh1 {d:D}(h:XQ d=true):¬Uz d:=by
 cases d <;> first | exact(λz=>z) | (simp[XQ]at h)
noncomputable def BM (fr:Bool)(f:Za->M D):Za->M D:=fun ρ=>Zo (f ρ) λd=>if (XQ d||(fr&&JC d))=true then ZI d else ZO
theorem Zm8 {fr:Bool}{f:Za->M D}{ρ:Za}{s s':Pn}{d:D}(h:f ρ s=some (d,s'))(c:(XQ d||(fr&&JC d))=true):BM fr f ρ s=some (d,s'):=by
 unfold BM Zo;rw[h];show(if (XQ d||(fr&&JC d))=true then ZI d else ZO) s'=_;rw[if_pos c];rfl
theorem X3.b (h:X3 G fr t f):VE G own fr t (BM fr f):=λkn jP H0 σ Hf H ρ s d s' Q j st e k=>by
 obtain⟨d1,s1,a1,a2⟩:=ZE e;obtain⟨c,a3⟩:=YW a2;obtain⟨rfl,rfl⟩:=ZL a3;refine h σ _ H ρ s d s' Q Um j.envB st a1 λv Hf' H' g st' r fz=>?_;obtain⟨F,j',fF,q1,q2⟩:=j.growB g;rcases qcU.mp c with c | c
 ·exact k v F H' j' fF g.hh st' (q1 d v c r) λz a ea m=>absurd m (Zh1 c)
 ·obtain⟨c1,c2⟩:=qaz.mp c
  obtain⟨x1,x2⟩:=q2 d v c2 (fz c1) r;exact k v F H' j' fF g.hh st' x1 λ_=>x2
inductive Out where
 | nx (ρ:Za) | rt (d:D) | bk (ρ:Za) | ct (ρ:Za)
noncomputable def Post (G:Gh)(ob own':List Nat)(kn jP H0:Hp)(fr:Bool)(out:Out)(s':Pn)(E:Ends):Prop:=match out with
 | .nx ρ=>∀σ H,J G own' kn jP H0 σ H ρ->G.st s' H->E.nx σ H
 | .bk ρ=>∀σ H,J G ob kn jP H0 σ H ρ->G.st s' H->E.bk σ H
 | .ct ρ=>∀σ H,J G ob kn jP H0 σ H ρ->G.st s' H->E.ct σ H
 | .rt d=>∀v Hf' H',Gr G jP H0 Hf' H'->G.st s' H'->Zi G Hf' d v->(fr=true->Yh G H0 Hf' d v)->E.rt v H'
noncomputable def BN (G:Gh)(ob own own':List Nat)(fr:Bool)(t:TS)(g:Za->M Out):Prop:=
 ∀(kn jP H0:Hp) (σ:St) (H:Hp) (ρ:Za) (s:Pn) (out:Out) (s':Pn) (E:Ends),J G own kn jP H0 σ H ρ->G.st s H->g ρ s=some (out,s')->Post G ob own' kn jP H0 fr out s' E->t E σ H
noncomputable def YA (X:Cx)(G:Gh)(ob own own':List Nat)(fr:Bool)(st:Stmt)(g:Za->M Out):Prop:=∃t,PS X st t/\BN G ob own own' fr t g
noncomputable def Xl (X:Cx)(G:Gh)(ob own own':List Nat)(fr:Bool)(sts:List Stmt)(g:Za->M Out):Prop:=∃t,X2 X sts t/\BN G ob own own' fr t g
variable {ob own' own2:List Nat}
theorem YA.frz {st:Stmt}{g:Za->M Out}(h:YA X G ob own2 own' fr st g)(hs:∀k,k∈own2->k∈own:=by decide):YA X G ob own own' fr st g:=by
 obtain⟨t,p,q⟩:=h;exact⟨t,p,λkn jP H0 σ H ρ s out s' E ⟨Hf,j⟩ st e po=>q kn jP H0 σ H ρ s out s' E (j.freeze hs) st e po⟩
noncomputable def ZJ:Za->M Out:=fun ρ=>ZI (.nx ρ)
noncomputable def Zn (g1 g2:Za->M Out):Za->M Out:=fun ρ=>Zo (g1 ρ) λo=>match o with | .nx ρ'=>g2 ρ' | .rt d=>ZI (.rt d) | .bk ρ'=>ZI (.bk ρ') | .ct ρ'=>ZI (.ct ρ')
theorem YH (hs:∀k,k∈own'->k∈own:=by decide):Xl X G ob own own' fr [] ZJ:=⟨_,ZdR,λkn jP H0 σ H ρ s out s' E ⟨Hf,j⟩ st e p=>by
 obtain⟨rfl,rfl⟩:=ZL e;exact p σ H (j.freeze hs) st⟩
theorem Z5 {st:Stmt}{sts:List Stmt}{g1 g2:Za->M Out}(h:YA X G ob own own2 fr st g1)(h2:Xl X G ob own2 own' fr sts g2):Xl X G ob own own' fr (st::sts) (Zn g1 g2):=by
 obtain⟨t,p,q⟩:=h;obtain⟨u,p2,q2⟩:=h2;refine⟨_,WD p p2,λkn jP H0 σ H ρ s out s' E j st e po=>?_⟩;obtain⟨o,s1,a1,a2⟩:=ZE e;refine q kn jP H0 σ H ρ s o s1 _ j st a1 ?_
 cases o with
 | nx ρ1=>exact fun σ1 H1 j1 j8=>q2 kn jP H0 σ1 H1 ρ1 s1 out s' E j1 j8 a2 po
 | rt d=>obtain⟨rfl,rfl⟩:=ZL a2;exact po
 | bk ρ1=>obtain⟨rfl,rfl⟩:=ZL a2;exact po
 | ct ρ1=>obtain⟨rfl,rfl⟩:=ZL a2;exact po
noncomputable def Z2 (f:Za->M D):Za->M Out:=fun ρ=>Zo (f ρ) λd=>ZI (.rt d)
theorem YY {e:Expr}{pos:Pos}(h:PD X G fr e f):YA X G ob own own' fr (.Return (some e) pos) (Z2 f):=by
 obtain⟨t,p,q⟩:=h;refine⟨_,U9 p,λkn jP H0 σ H ρ s out s' E ⟨Hf,j⟩ st e po=>?_⟩;obtain⟨d,s1,a1,a2⟩:=ZE e;obtain⟨rfl,rfl⟩:=ZL a2;exact q σ _ H ρ s d s' _ Um j.envB st a1 λv Hf' H' g st' r fz=>po v Hf' H' (j.grW g) st' r λz=>jn j.gr.hh r.nofp (fz z)
theorem BZ {i:Nat}{x:Str}{pos pos':Pos}(hi:i∈own)(h:PE X (.Name x pos') (Z3 i)):YA X G ob own own' true (.Return (some (.Name x pos')) pos) (Z2 (Zb i)):=by
 refine⟨_,U9 h,λkn jP H0 σ H ρ s out s' E ⟨Hf,j⟩ st e po=>?_⟩;obtain⟨d,s1,a1,a2⟩:=ZE e;obtain⟨rfl,rfl⟩:=ZL a2;obtain⟨e1,rfl⟩:=WR a1;have e':ρ[i]?=some (some d):=by
  cases q:ρ[i]? with
  | none=>rw[q]at e1;cases e1
  | some o=>rw[q]at e1;simp at e1;rw[e1]
 obtain⟨v,h1,h2⟩:=j.envB i d e';obtain⟨a,g1,g2,g3,g4,g5⟩:=j.ow i d hi e';rw[g1]at h1;cases h1;refine⟨_,g1,po (.ref a) _ H (j.grW (.refl Um)) st h2 λ_ b eb _=>?_⟩
 cases eb
 refine⟨g4,λds ed=>?_⟩;subst ed;obtain⟨vs,q1,q2⟩:=g5;refine⟨vs,Hf,?_,g3,j.wideF,q2⟩;unfold wide;rw[if_neg (λz=>z.2.no g4)];exact q1
noncomputable def XV (c:Za->M Bool)(g1 g2:Za->M Out):Za->M Out:=fun ρ=>Zo (c ρ) λb=>if b=true then g1 ρ else g2 ρ
theorem ZdX {c:Expr}{a b:List Stmt}{pos:Pos}{fc:Za->M Bool}{g1 g2:Za->M Out}(hc:Vi X G c fc)(ha:Xl X G ob own own' fr a g1)(hb:Xl X G ob own own' fr b g2):YA X G ob own own' fr (.If c a b pos) (XV fc g1 g2):=by
 obtain⟨tc,pc,qc⟩:=hc;obtain⟨ta,pa,qa⟩:=ha;obtain⟨tb,pb,qb⟩:=hb;refine⟨_,Zjc pc pa pb,λkn jP H0 σ H ρ s out s' E ⟨Hf,j⟩ st e po=>?_⟩;obtain⟨b,s1,a1,a2⟩:=ZE e;refine qc σ _ H ρ s b s1 _ Um j.envB st a1 λHf' H' g st'=>?_;obtain⟨F,j',fF,q1,q2⟩:=j.growB g
 cases b with
 | true=>exact V3 (qa kn jP H0 σ H' ρ s1 out s' E ⟨F,j'⟩ st' a2 po)
 | false=>exact VC (qb kn jP H0 σ H' ρ s1 out s' E ⟨F,j'⟩ st' a2 po)
noncomputable def BB (X:Cx)(G:Gh)(fr:Bool)(i:Nat)(st:Stmt)(f:Za->M D):Prop:=∃te,PS X st (λE σ H=>te σ H λy H1=>E.nx (σ.set i (some y)) H1)/\X3 G fr te f
theorem YJ {i:Nat}{x:Str}{e:Expr}{pos pos':Pos}(hN:X.N.Nodup)(hi:X.N[i]?=some x)(hx:W6 X.env.scope x)(he:PD X G fr e f)(hs:xr e (some (.Name x pos')) pos.line X.env=pure false:=by rfl)
  (hf:X.fn x=true∨X.env.scope.names.lookup x=some .local:=by first | exact .inl rfl | exact .inr rfl | assumption):BB X G fr i (.Assign [.Name x pos'] e pos) f:=by
 obtain⟨t,p,q⟩:=he;exact⟨t,Uw hN hi hx p hs hf,q⟩
noncomputable def YE (i:Nat)(f:Za->M D):Za->M Out:=fun ρ=>Zo (f ρ) λd=>ZI (.nx (ρ.set i (some d)))
theorem ZeI {i:Nat}{st:Stmt}{te:TE}(hp:PS X st (λE σ H=>te σ H λy H1=>E.nx (σ.set i (some y)) H1))(hy:VE G own fr te f)(hi:i∉own){fr':Bool}:YA X G ob own own fr' st (YE i f):=
 ⟨_,hp,λkn jP H0 σ H ρ s out s' E ⟨Hf,j⟩ st e po=>by
  obtain⟨d,s1,a1,a2⟩:=ZE e;obtain⟨rfl,rfl⟩:=ZL a2;exact hy kn jP H0 σ Hf H ρ s d s' _ j st a1 λv Hf' H' j' e1 e2 st' r fz=>po _ H' ⟨Hf',j'.setF hi r⟩ st'⟩
theorem XF {i:Nat}{st:Stmt}{fr':Bool}(h:BB X G fr i st f):YA X G ob [] [] fr' st (YE i f):=let ⟨_,p,q⟩:=h;ZeI p q.n (by simp)
theorem ZeJ {i:Nat}{st:Stmt}{fr':Bool}(h:BB X G fr i st f)(hi:i∉own:=by decide):YA X G ob own own fr' st (YE i (fun ρ=>f (ZU own ρ))):=let ⟨_,p,q⟩:=h;ZeI p q.a hi
noncomputable def Wx (i:Nat)(f:Za->M D):Za->M Out:=fun ρ=>Zo (f ρ) λd=>if Bj d=true then ZI (.nx (ρ.set i (some d)))else ZO
theorem ZeK {i:Nat}{st:Stmt}{te:TE}(hp:PS X st (λE σ H=>te σ H λy H1=>E.nx (σ.set i (some y)) H1))(hy:VE G own true te f)(ho:∀k,k∈own'↔k=i∨k∈own){fr':Bool}:YA X G ob own own' fr' st (Wx i f):=
 ⟨_,hp,λkn jP H0 σ H ρ s out s' E ⟨Hf,j⟩ st e po=>by
  obtain⟨d,s1,a1,a2⟩:=ZE e;obtain⟨ok,a3⟩:=YW a2;obtain⟨rfl,rfl⟩:=ZL a3;exact hy kn jP H0 σ Hf H ρ s d s' _ j st a1 λv Hf' H' j' e1 e2 st' r fz=>po _ H' (j.setOwn j' ho st e2 e1 r (fz rfl) ok) st'⟩
theorem UZ {i:Nat}{st:Stmt}{fr':Bool}(h:BB X G true i st f):YA X G ob [] [i] fr' st (Wx i f):=let ⟨_,p,q⟩:=h;ZeK p q.n (by intro k;simp)
theorem ZeL {i:Nat}{st:Stmt}{fr':Bool}(h:BB X G true i st f)(ho:∀k,k∈own'↔k=i∨k∈own:=by intro k;simp;try omega):YA X G ob own own' fr' st (Wx i (fun ρ=>f (ZU own ρ))):=let ⟨_,p,q⟩:=h;ZeK p q.a ho
inductive Sets (G:Gh)(Hf:Hp)(ok:Nat->Prop):St->Za->St->Za->Prop
 | nil {σ ρ}:Sets G Hf ok σ ρ σ ρ
 | cons {σ ρ σ' ρ'} {i:Nat} {d:D} {v:V}:ok i->Zi G Hf d v->Sets G Hf ok (σ.set i (some v)) (ρ.set i (some d)) σ' ρ'->Sets G Hf ok σ ρ σ' ρ'
noncomputable def Vj (X:Cx)(G:Gh)(tg:Expr)(ok:Nat->Prop)(τ:D->Za->Option Za):Prop:=
 ∃g,PG X tg g/\∀(x:V) (σ:St) (Hf H:Hp) (d:D) (ρ ρ':Za) (Q:St->Hp->Prop),Zz G Hf H->Zi G Hf d x->τ d ρ=some ρ'->(∀σ',Sets G Hf ok σ ρ σ' ρ'->Q σ' H)->g x σ H Q
noncomputable def ZP (i:Nat):D->Za->Option Za:=λd ρ=>some (ρ.set i (some d))
theorem X9 {i:Nat}{x:Str}{pos:Pos}{ok:Nat->Prop}(hN:X.N.Nodup)(hi:X.N[i]?=some x)(hx:W6 X.env.scope x)(oi:ok i)(hf:X.fn x=true∨X.env.scope.names.lookup x=some .local:=by first | exact .inl rfl | exact .inr rfl | assumption):Vj X G (.Name x pos) ok (ZP i):=
 ⟨_,Uq hN hi hx hf,λx σ Hf H d ρ ρ' Q e r q k=>by
  cases q
  exact k _ (.cons oi r .nil)⟩
noncomputable def Zg2 (i j:Nat):D->Za->Option Za:=λd ρ=>match d with | .tup [a,b]=>some ((ρ.set i (some a)).set j (some b)) | _=>none
theorem ZeM {i j:Nat}{x y:Str}{pos px py:Pos}{k:Nat}{ok:Nat->Prop}(hc:X.calm=true)(hN:X.N.Nodup)(hi:X.N[i]?=some x)(hj:X.N[j]?=some y)(hx:W6 X.env.scope x)(hy:W6 X.env.scope y)(oi:ok i)(oj:ok j)
  (hfx:X.fn x=true∨X.env.scope.names.lookup x=some .local:=by first | exact .inl rfl | exact .inr rfl | assumption) (hfy:X.fn y=true∨X.env.scope.names.lookup y=some .local:=by first | exact .inl rfl | exact .inr rfl | assumption)
  (hn:(assignEach [.Name x px,.Name y py] X.env).length=2:=by rfl) (hst:(assignEach [.Name x px,.Name y py] X.env).findIdx? (·.1)=none:=by rfl)
  (hp:BK X [.Name x px,.Name y py] (Zjd (WV i) (Zjd (WV j) gNil))):Vj X G (.Tuple [.Name x px,.Name y py] k pos) ok (Zg2 i j):=
 ⟨_,ZmQ hc hp hn hst,λx σ Hf H d ρ ρ' Q e r q k=>by
  match d,q,r with
  | .tup [a,b],q,r=>
   cases q
   obtain⟨ad,vs,rfl,n,h,rl⟩:=jc.mp r;obtain⟨v1,r1,rfl,q1,q2⟩:=jd.mp rl;obtain⟨v2,r2,rfl,q3,q4⟩:=jd.mp q2;have:=Zf.nil_iff.mp q4;subst this;exact⟨ad,_,rfl,ZK.of (e _ _ n h),rfl,v1,_,rfl,v2,_,rfl,rfl,k _ (.cons oi q1 (.cons oj q3 .nil))⟩⟩
theorem Sets.jf {kn jP H0 Hf H:Hp}{σ σ':St}{ρ ρ':Za}(h:Sets G Hf (λi=>i∉own) σ ρ σ' ρ'):Jf G own kn jP H0 σ Hf H ρ->Jf G own kn jP H0 σ' Hf H ρ':=by
 induction h with
 | nil=>exact λj=>j
 | cons o r _ ih=>exact λj=>ih (j.setF o r)
noncomputable def Wy (G:Gh)(J:It)(Hf':Hp)(ds:List D):Prop:=
 ∀(i:Nat) (kd H2:Hp) (s:Pn),Zz G Hf' kd->Zz G kd H2->G.st s H2->
  (∀d,ds[i]?=some d->J.go i H2/\∀x H3,J.yld i H2 x H3->∃Hf3,Gr G kd H2 Hf3 H3/\G.st s H3/\Zi G Hf3 d x)/\(i=ds.length->J.stop i H2)
noncomputable def WM (X:Cx)(G:Gh)(tg iter:Expr)(f:Za->M (List D)):Prop:=
 ∃wi,PI X tg iter wi/\∀(σ:St) (Hf H:Hp) (ρ:Za) (s:Pn) (ds:List D) (s':Pn) (R:It->Hp->Prop),Zz G Hf H->Yx G Hf σ ρ->G.st s H->f ρ s=some (ds,s')->
  (∀J Hf' H',Gr G Hf H Hf' H'->G.st s' H'->Wy G J Hf' ds->R J H')->wi σ H R
theorem Wy.range {lo:Int}{n:Nat}{Hf:Hp}{ds:List D}(e:ds=(qm n).map λ(i:Nat)=>D.int (lo+i)):Wy G (BL lo n) Hf ds:=λi kd H2 s e1 e2 st=>by
 subst e;refine⟨λd q=>?_,λq=>by show n<=i;rw[q];simp⟩;have hi:i<n:=by
  have:=(qq.mp q).1;simpa using this
 have hd:d=.int (lo+i):=by
  rw[qu,zI hi]at q;simp at q;exact q.symm
 subst hd;refine⟨hi,λx H3 y=>?_⟩;obtain⟨y1,y2⟩:=y;subst y1 y2;exact⟨kd,.refl e2,st,ja.mpr rfl⟩
theorem Wy.list {K:qj}{a:Addr}{vs:List V}{Hf:Hp}{ds:List D}(nf:¬G.fp a)(h:Hf a=some (.lst vs))(r:Zf G Hf ds vs):Wy G (Itl K a) Hf ds:=λi kd H2 s e1 e2 st=>by
 have h2:Zy K H2 a vs:=Zy.of (e2 _ _ nf (e1 _ _ nf h));refine⟨λd q=>?_,λq=>⟨vs,h2,by rw[q,r.length];exact qk _⟩⟩;obtain⟨v,q1,q2⟩:=r.get q;refine⟨⟨vs,v,h2,q1⟩,λx H3 ⟨y1,y2⟩=>?_⟩;subst y1;have e:=y2 vs h2;rw[q1]at e;cases e;exact⟨kd,.refl e2,st,q2.ext e1⟩
theorem Wy.tup {K:qj}{a:Addr}{vs:List V}{Hf:Hp}{ds:List D}(nf:¬G.fp a)(h:Hf a=some (.tup vs))(r:Zf G Hf ds vs):Wy G (Itt K a) Hf ds:=λi kd H2 s e1 e2 st=>by
 have h2:ZK K H2 a vs:=ZK.of (e2 _ _ nf (e1 _ _ nf h));refine⟨λd q=>?_,λq=>⟨vs,h2,by rw[q,r.length];exact qk _⟩⟩;obtain⟨v,q1,q2⟩:=r.get q;refine⟨⟨vs,v,h2,q1⟩,λx H3 ⟨y1,y2⟩=>?_⟩;subst y1;have e:=y2 vs h2;rw[q1]at e;cases e;exact⟨kd,.refl e2,st,q2.ext e1⟩
noncomputable def Z9 (lo:Int)(n:Nat):List D:=(qm n).map λ(i:Nat)=>D.int (lo+i)
noncomputable def YZ (f:Za->M D):Za->M (List D):=fun ρ=>Zo (f ρ) λd=>match d with | .int j=>if -(2 ^ 62)<=j/\j<2 ^ 62 then ZI (Z9 0 j.toNat)else ZO | _=>ZO
theorem B0 {tg a:Expr}{p pos:Pos}{r1:Bool}(hg:Gl X "range")(hm:X.mg "range" = none)(ha:PD X G r1 a f)(hs:xh [a] X.env=[(false,eval a X.env)]:=by rfl):WM X G tg (.Call (.Name "range" p) [a] [] pos) (YZ f):=by
 obtain⟨t,pa,qa⟩:=ha.drop;refine⟨_,Zdd hg hm (Y5 pa Xv (by rw[hs];rfl)) hs,fun σ Hf H ρ s ds s' R e1 e2 e3 e4 k=>?_⟩;obtain⟨d,s1,a1,a2⟩:=ZE e4
 cases d with
 | int j=>
  obtain⟨c,a3⟩:=YW a2;obtain⟨rfl,rfl⟩:=ZL a3;refine qa σ Hf H ρ s _ _ _ e1 e2 e3 a1 λv jW H1 g st r=>?_;rw[ja.mp r];exact⟨j,rfl,c.1,c.2,k _ jW H1 g st (.range rfl)⟩
 | _=>cases a2
noncomputable def J6 (f g:Za->M D):Za->M (List D):=fun ρ=>Zo (f ρ) λd=>Zo (g ρ) λe=>match d,e with | .int i,.int j=>if -(2 ^ 62)<=i/\i<2 ^ 62/\-(2 ^ 62)<=j/\j<2 ^ 62 then ZI (Z9 i (j-i).toNat)else ZO | _,_=>ZO
noncomputable def YU (f:Za->M D):Za->M (List D):=fun ρ=>Zo (f ρ) λd=>match d with | .lst ds=>ZI ds | _=>ZO
noncomputable def X0 (f:Za->M D):Za->M (List D):=fun ρ=>Zo (f ρ) λd=>match d with | .tup ds=>ZI ds | _=>ZO
theorem Vo {tg l:Expr}{r1:Bool}(hl:PD X G r1 l f):WM X G tg l (YU f):=by
 obtain⟨t,pa,qa⟩:=hl.drop;refine⟨_,ZdT pa,fun σ Hf H ρ s ds s' R e1 e2 e3 e4 k=>?_⟩;obtain⟨d,s1,a1,a2⟩:=ZE e4
 cases d with
 | lst es=>
  obtain⟨rfl,rfl⟩:=ZL a2;refine qa σ Hf H ρ s _ _ _ e1 e2 e3 a1 λv jW H1 g st r=>?_;obtain⟨a,vs,rfl,nf,h,rl⟩:=jb.mp r;exact⟨a,rfl,⟨vs,Zy.of (g.fh _ _ nf h)⟩,k _ jW H1 g st (.list nf h rl)⟩
 | _=>cases a2
theorem J7 {tg l:Expr}{r1:Bool}(hl:PD X G r1 l f):WM X G tg l (X0 f):=by
 obtain⟨t,pa,qa⟩:=hl.drop;refine⟨_,ZmT pa,fun σ Hf H ρ s ds s' R e1 e2 e3 e4 k=>?_⟩;obtain⟨d,s1,a1,a2⟩:=ZE e4
 cases d with
 | tup es=>
  obtain⟨rfl,rfl⟩:=ZL a2;refine qa σ Hf H ρ s _ _ _ e1 e2 e3 a1 λv jW H1 g st r=>?_;obtain⟨a,vs,rfl,nf,h,rl⟩:=jc.mp r;exact⟨a,rfl,⟨vs,ZK.of (g.fh _ _ nf h)⟩,k _ jW H1 g st (.tup nf h rl)⟩
 | _=>cases a2
noncomputable def Jq (τ:D->Za->Option Za)(body:Za->M Out):List D->Za->M Out
 | [],ρ=>ZI (.nx ρ)
 | d::ds,ρ=>Zo (Xp (τ d ρ)) fun ρ1=>Zo (body ρ1) λo=>match o with | .nx ρ2=>Jq τ body ds ρ2 | .ct ρ2=>Jq τ body ds ρ2 | .bk ρ2=>ZI (.nx ρ2) | .rt d=>ZI (.rt d)
noncomputable def XS (fi:Za->M (List D))(τ:D->Za->Option Za)(body:Za->M Out):Za->M Out:=fun ρ=>Zo (fi ρ) λds=>Jq τ body ds ρ
noncomputable def PDIJ (X:Cx)(G:Gh)(own:List Nat)(tg iter:Expr)(f:Za->M (List D)):Prop:=
 ∃wi,PI X tg iter wi/\∀(kn jP H0:Hp) (σ:St) (Hf H:Hp) (ρ:Za) (s:Pn) (ds:List D) (s':Pn) (R:It->Hp->Prop),Jf G own kn jP H0 σ Hf H ρ->G.st s H->f ρ s=some (ds,s')->
  (∀J Hf' H',Jf G own kn jP H0 σ Hf' H' ρ->Zz G Hf Hf'->G.st s' H'->Wy G J Hf' ds->R J H')->wi σ H R
theorem WM.a {tg iter:Expr}{fi:Za->M (List D)}(h:WM X G tg iter fi):PDIJ X G own tg iter (fun ρ=>fi (ZU own ρ)):=by
 obtain⟨wi,p,q⟩:=h;exact⟨wi,p,λkn jP H0 σ Hf H ρ s ds s' R j st e k=>q σ Hf H _ s ds s' R j.gr.fh j.envA st e λJ Hf' H' g st' it=>k J Hf' H' (j.grow g) g.ff st' it⟩
theorem Uh {tg a:Expr}{p pos:Pos}{r1:Bool}(hg:Gl X "range")(hm:X.mg "range" = none)(ha:PD X G r1 a f)(hs:xh [a] X.env=[(false,eval a X.env)]:=by rfl):PDIJ X G own tg (.Call (.Name "range" p) [a] [] pos) (YZ f):=by
 obtain⟨t,pa,qa⟩:=ha.drop;refine⟨_,Zdd hg hm (Y5 pa Xv (by rw[hs];rfl)) hs,λkn jP H0 σ Hf H ρ s ds s' R j st e4 k=>?_⟩;obtain⟨d,s1,a1,a2⟩:=ZE e4
 cases d with
 | int i=>
  obtain⟨c,a3⟩:=YW a2;obtain⟨rfl,rfl⟩:=ZL a3;refine qa σ _ H ρ s _ _ _ Um j.envB st a1 λv jW H1 g st r=>?_;obtain⟨F,j',fF,q1,q2⟩:=j.growB g;rw[ja.mp r];exact⟨i,rfl,c.1,c.2,k _ F H1 j' fF st (.range rfl)⟩
 | _=>cases a2
theorem ZbD {tg a b:Expr}{p pos:Pos}{r1 r2:Bool}{f2:Za->M D}(hg:Gl X "range")(hm:X.mg "range" = none)(ha:PD X G r1 a f)(hb:PD X G r2 b f2)
  (hs:xh [a,b] X.env=[(false,eval a X.env),(false,eval b X.env)]:=by rfl) (hs2:xh [b] X.env=[(false,eval b X.env)]:=by rfl):PDIJ X G own tg (.Call (.Name "range" p) [a,b] [] pos) (J6 f f2):=by
 obtain⟨t,pa,qa⟩:=ha.drop;obtain⟨u,pb,qb⟩:=hb.drop;refine⟨_,ZhQ hg hm (Y5 pa (Y5 pb Xv (by rw[hs2];rfl)) (by rw[hs,hs2])) hs hs2,λkn jP H0 σ Hf H ρ s ds s' R j st e4 k=>?_⟩;obtain⟨d,s1,a1,a2⟩:=ZE e4;obtain⟨d2,s2,a3,a4⟩:=ZE a2
 match d,d2,a4,a1,a3 with
 | .int i,.int l,a4,a1,a3=>
  obtain⟨c,a5⟩:=YW a4;obtain⟨rfl,rfl⟩:=ZL a5;refine qa σ _ H ρ s _ _ _ Um j.envB st a1 λv jW H1 g st r=>?_;refine qb σ jW H1 ρ s1 _ _ _ g.fh (j.envB.ext g.ff) st a3 λv2 kd H2 g2 jV r2=>?_;obtain⟨F,j',fF,q1,q2⟩:=j.growB (g.trans g2);rw[ja.mp r,ja.mp r2];exact⟨i,l,rfl,c,k _ F H2 j' fF jV (.range rfl)⟩
theorem Jf.weak {kn kn' jP H0 Hf H:Hp}{σ:St}{ρ:Za}(j:Jf G own kn' jP H0 σ Hf H ρ)(e:Zz G kn kn'):Jf G own kn jP H0 σ Hf H ρ:=⟨j.len,e.trans j.kn,j.gr,j.fz,j.ow,j.ne⟩
theorem Wn {tg iter:Expr}{body:List Stmt}{pos:Pos}{fi:Za->M (List D)}{τ:D->Za->Option Za}{g:Za->M Out}(hp:PassesOwn (xA X.prog X.w) X.A X.env X.xe)(hc:X.calm=true)(hi:PDIJ X G own tg iter fi)(hg:Vj X G tg (λi=>i∉own) τ)(hb:Xl X G own own own fr body g)
  (hs:∀x,foldedSetIterable iter X.env x=pure x:=by intro _;rfl):YA X G ob own own fr (.For tg iter body [] pos) (XS fi τ g):=by
 obtain⟨wi,pi,qi⟩:=hi;obtain⟨gt,pg,qg⟩:=hg;obtain⟨tb,pb,qb⟩:=hb;refine⟨_,Zjh hp hc pi pg pb hs,λkn jP H0 σ H ρ s out s' E ⟨Hf,j⟩ st e po=>?_⟩;obtain⟨ds,s1,a1,a2⟩:=ZE e;refine qi kn jP H0 σ Hf H ρ s ds s1 _ j st a1 λJt jW H1 j1 e1 j8 it=>?_;refine⟨λi m σ2 H2=>∃ρ2 s2,J G own jW jP H0 σ2 H2 ρ2/\G.st s2 H2/\Jq τ g (ds.drop i) ρ2 s2=some (out,s')/\i<=ds.length/\m=ds.length-i,⟨_,ρ,s1,⟨jW,⟨j1.len,.refl _ _,j1.gr,j1.fz,j1.ow,j1.ne⟩⟩,j8,a2,zR _,rfl⟩,?_⟩;rintro i m σ2 H2 ⟨ρ2,s2,⟨kd,j2⟩,jV,eq2,hle,rfl⟩;obtain⟨i1,i2⟩:=it i kd H2 s2 j2.kn j2.gr.fh jV;by_cases hlt:i<ds.length
 ·have hd:ds.drop i=ds[i]::ds.drop (i+1):=qaA hlt
  rw[hd]at eq2;obtain⟨ρ3,s3,b1,b2⟩:=ZE eq2;obtain⟨b1',e3⟩:=WR b1;subst e3;obtain⟨o,s4,b3,b4⟩:=ZE b2;obtain⟨go,yl⟩:=i1 ds[i] (by simp[hlt]);refine .inr ⟨go,fun σ' H'=>∃ρ5 s5,J G own jW jP H0 σ' H' ρ5/\G.st s5 H'/\Jq τ g (ds.drop (i+1)) ρ5 s5=some (out,s'),fun σ' H' ⟨ρ5,s5,j5,st5,q5⟩=>⟨_,by omega,ρ5,s5,j5,st5,q5,hlt,rfl⟩,λx H3 y3=>?_⟩;obtain⟨Hf3,g3,st3,r3⟩:=yl x H3 y3;have j3:=j2.grow g3;refine qg x σ2 Hf3 H3 ds[i] ρ2 ρ3 _ g3.fh r3 b1' fun σ3 sets=>?_;have j4:=sets.jf j3;refine qb jW jP H0 σ3 H3 ρ3 s3 o s4 _ ⟨Hf3,j4⟩ st3 b3 ?_
  cases o with
  | nx ρ5=>exact fun σ5 H5 j5 st5=>⟨ρ5,s4,j5,st5,b4⟩
  | ct ρ5=>exact fun σ5 H5 j5 st5=>⟨ρ5,s4,j5,st5,b4⟩
  | bk ρ5=>
   obtain⟨rfl,rfl⟩:=ZL b4;exact fun σ5 H5 ⟨Hf5,j5⟩ st5=>po σ5 H5 ⟨Hf5,j5.weak (j.kn.trans e1)⟩ st5
  | rt d=>
   obtain⟨rfl,rfl⟩:=ZL b4;exact po
 ·have hd:ds.drop i=[]:=qcN.mpr (by omega)
  rw[hd]at eq2;obtain⟨rfl,rfl⟩:=ZL eq2;exact .inl ⟨i2 (by omega),po σ2 H2 ⟨kd,j2.weak (j.kn.trans e1)⟩ jV⟩
end
noncomputable def runB (n k:Nat)(g:Za->M Out):List D->M D:=λds=>if ds.length=k then Zo (g (ds.map some++qB (n-k) none)) λo=>match o with | .rt d=>ZI d | .nx _=>ZI .non | _=>ZO else ZO
theorem XC {P:xC}{w:World}{K:qj}{mg:Str->Option Value}{base:Heap}{x qual:Str}{st:Stmt}{f:Addr}{fd:xB}{N ps:List Str}{k:Nat}{own:List Nat}{fr:Bool}{GG:Gh->Prop}{g:Za->M Out}
  (F:Fun K x qual st f fd) (S:FnScope N ps (ZH st))
  (hb:∀(cdv:Value) (A:xD) (outer:List Env) (s:Shared) (H:Hp) (E:XK),Room k (A.deeper (envOfC qual (ZH st) s.heap.objs.size f cdv))->∀G,GG G->Xl (WJ ZQ P w K mg base N qual (ZH st) f cdv A outer s H E).nox G [] [] own fr (Wa st) g) :
  FnOk P w K mg base ZQ (k+1) f fd ps (Yw ps.length fr GG (runB N.length ps.length g)):=by
 refine F.ok S (λvs H Q E h=>?_) λcdv A outer s H vs Q E hr h=>?_
 ·obtain⟨G,Hf,ds,pn,d,pn',_,e,_⟩:=h
  exact e
 ·obtain⟨G,Hf,ds,pn,d,pn',hG,el,e1,r,st',eF,k'⟩:=h
  obtain⟨t,p,q⟩:=hb cdv A outer s H E hr G hG;refine⟨t,p,?_⟩;obtain⟨hl,a0⟩:=YW eF;obtain⟨o,s1,a1,a2⟩:=ZE a0;have hpl:ps.length<=N.length:=by have:=congrArg qak S.pre;rw[qV]at this;omega
  have j0:Jf G [] Hf Hf H (L2.start N vs) Hf H (ds.map some++qB (N.length-ps.length) none):=by
   refine⟨?_,.refl _ _,.refl e1,λi d n e=>?_,λi d m e=>?_,λi j a di dj mi mj n e=>?_⟩
   ·unfold L2.start;simp;omega
   ·have hi:i<ds.length:=by
     by_cases hi:i<ds.length
     ·exact hi
     ·rw[zM (by simpa using hi),yr]at e
      split at e <;> cases e
    have e':ds[i]?=some d:=by
     rw[zw (by simpa using hi),qu]at e
     cases q:ds[i]? with
     | none=>rw[q]at e;cases e
     | some c=>rw[q]at e;simp at e;rw[e]
    obtain⟨v,h1,h2⟩:=r.get e';refine⟨v,?_,h2⟩;unfold L2.start;rw[zw (by simp;rw[<-r.length];exact hi),qu,h1];rfl
   ·exact absurd m (by simp)
   ·exact absurd mi (by simp)
  refine q Hf Hf H (L2.start N vs) H _ pn o s1 _ ⟨Hf,j0⟩ st' a1 ?_
  cases o with
  | rt c=>
   obtain⟨rfl,rfl⟩:=ZL a2;exact λv Hf' H' g' jV r2 fz=>k' v Hf' H' g' jV r2 fz
  | nx ρ'=>
   obtain⟨rfl,rfl⟩:=ZL a2;exact fun σ' H' ⟨Hf',j'⟩ jV=>k' .non Hf' H' j'.gr jV (jg.mpr rfl) λ_=>.scal λz=>z
  | bk ρ'=>cases a2
  | ct ρ'=>cases a2
noncomputable def tOf (G:Gh)(fr:Bool)(f:Za->M D):TE:=fun σ H Q=>∃(Hf:Hp) (ρ:Za) (s:Pn) (d:D) (s':Pn),Zz G Hf H/\Yx G Hf σ ρ/\G.st s H/\f ρ s=some (d,s')/\
 ∀v Hf' H',Gr G Hf H Hf' H'->G.st s' H'->Zi G Hf' d v->(fr=true->Yh G H Hf' d v)->Q v H'
noncomputable def Jr (G:Gh)(f:Za->M Bool):TT:=fun σ H Q=>∃(Hf:Hp) (ρ:Za) (s:Pn) (b:Bool) (s':Pn),Zz G Hf H/\Yx G Hf σ ρ/\G.st s H/\f ρ s=some (b,s')/\
 ∀Hf' H',Gr G Hf H Hf' H'->G.st s' H'->Q b H'
noncomputable def gOf (G:Gh)(ok:Nat->Prop)(τ:D->Za->Option Za):TG:=λx σ H Q=>∃(Hf:Hp) (d:D) (ρ ρ':Za),Zz G Hf H/\Zi G Hf d x/\τ d ρ=some ρ'/\∀σ',Sets G Hf ok σ ρ σ' ρ'->Q σ' H
section
variable {X:Cx}{G:Gh}{own:List Nat}{fr:Bool}{f:Za->M D}
theorem PD.canon {e:Expr}(h:PD X G fr e f):PE X e (tOf G fr f):=by
 obtain⟨t,p,q⟩:=h;exact λjH s σ H Q I ⟨Hf,ρ,pn,d,pn',a1,a2,a3,a4,k⟩=>p jH s σ H Q I (q σ Hf H ρ pn d pn' Q a1 a2 a3 a4 k)
theorem Vi.canon {e:Expr}{f:Za->M Bool}(h:Vi X G e f):PT X e (Jr G f):=by
 obtain⟨t,p,q⟩:=h;exact λjH s σ H Q I ⟨Hf,ρ,pn,d,pn',a1,a2,a3,a4,k⟩=>p jH s σ H Q I (q σ Hf H ρ pn d pn' Q a1 a2 a3 a4 k)
theorem Vj.canon {tg:Expr}{ok:Nat->Prop}{τ:D->Za->Option Za}(h:Vj X G tg ok τ):PG X tg (gOf G ok τ):=by
 obtain⟨t,p,q⟩:=h;exact λjH s σ H v u Q I r ⟨Hf,d,ρ,ρ',a1,a2,a3,k⟩=>p jH s σ H v u Q I r (q v σ Hf H d ρ ρ' Q a1 a2 a3 k)
noncomputable def Wq (src:List (Option Nat))(ρ:Za):Za:=src.map λo=>o.bind λj=>(ρ[j]?).bind id
theorem ZfY {Hf:Hp}{σ:St}{ρ:Za}{src:List (Option Nat)}(h:Yx G Hf σ ρ):Yx G Hf (Vb src σ) (Wq src ρ):=λi d e=>by
 unfold Wq at e;rw[qu]at e
 cases q:src[i]? with
 | none=>rw[q]at e;cases e
 | some o=>
  rw[q]at e
  cases o with
  | none=>simp at e
  | some j=>
   simp only[yE,Option.bind_some,qcc]at e;have hj:ρ[j]?=some (some d):=by
    cases e2:ρ[j]? with
    | none=>rw[e2]at e;cases e
    | some o2=>rw[e2]at e;simp at e;rw[e]
   obtain⟨v,h1,h2⟩:=h j d hj;refine⟨v,?_,h2⟩;unfold Vb;rw[qu,q];simp[h1]
theorem Sets.len {Hf:Hp}{ok:Nat->Prop}{σ σ':St}{ρ ρ':Za}(h:Sets G Hf ok σ ρ σ' ρ'):(σ.length=ρ.length->σ'.length=ρ'.length)/\σ'.length=σ.length:=by
 induction h with
 | nil=>exact⟨λe=>e,rfl⟩
 | cons _ _ _ ih=>exact⟨λe=>ih.1 (by simp[e]),ih.2.trans (by simp)⟩
theorem Sets.env {Hf:Hp}{ok:Nat->Prop}{σ σ':St}{ρ ρ':Za}(h:Sets G Hf ok σ ρ σ' ρ'):σ.length=ρ.length->Yx G Hf σ ρ->Yx G Hf σ' ρ':=by
 induction h with
 | nil=>exact λ_ e=>e
 | @cons σ ρ σ' ρ' i d v o r _ ih=>
  intro hl he;refine ih (by simp[hl]) λk c e=>?_;by_cases h:i=k
  ·subst h
   have hk:i < ρ.length:=by
    have:=(qq.mp e).1;simpa using this
   rw[zu hk]at e
   cases e
   exact⟨v,zu (by rw[hl];exact hk),r⟩
  ·rw[qZ h]at e⊢
   exact he k c e
theorem Sets.envOld {Hf:Hp}{ok:Nat->Prop}{σ σ':St}{ρ ρ' ρ0:Za}(h:Sets G Hf ok σ ρ σ' ρ')(h0:∀i d,ok i->ρ0[i]?≠some (some d)):Yx G Hf σ ρ0->Yx G Hf σ' ρ0:=by
 induction h with
 | nil=>exact λe=>e
 | @cons σ ρ σ' ρ' i d v o r _ ih=>
  intro he;refine ih λk c e=>?_;have hne:i≠k:=λz=>h0 k c (z▸o) e;rw[qZ hne];exact he k c e
noncomputable def UA (τ:D->Za->Option Za)(ft:Za->M Bool)(fe:Za->M D)(ρ:Za):List D->M (List D)
 | []=>ZI []
 | d::ds=>Zo (Xp (τ d ρ)) fun ρ1=>Zo (ft ρ1) λb=>if b=true then Zo (fe ρ1) λc=>Zo (UA τ ft fe ρ ds) λr=>ZI (c::r)else UA τ ft fe ρ ds
noncomputable def YC (src:List (Option Nat))(fi:Za->M (List D))(τ:D->Za->Option Za)(ft:Za->M Bool)(fe:Za->M D):Za->M D:=fun ρ=>
 Zo (fi ρ) λds=>if ds.length<=xg then Zo (UA τ ft fe (Wq src ρ) ds) λr=>ZI (.lst r)else ZO
noncomputable def Yu:Za->M Bool:=λ_=>ZI true
theorem ZjA {src:List (Option Nat)}{wi:TI}{fi:Za->M (List D)}{τ:D->Za->Option Za}{ft:Za->M Bool}{fe:Za->M D}{r1:Bool}
  (qi:∀(σ:St) (Hf H:Hp) (ρ:Za) (s:Pn) (ds:List D) (s':Pn) (R:It->Hp->Prop),Zz G Hf H->Yx G Hf σ ρ->G.st s H->fi ρ s=some (ds,s')->
   (∀J Hf' H',Gr G Hf H Hf' H'->G.st s' H'->Wy G J Hf' ds->R J H')->wi σ H R) :
  X3 G true (Zg0 src wi (gOf G (λi=>src[i]?=some none) τ) (Jr G ft) (tOf G r1 fe)) (YC src fi τ ft fe):=by
 intro σ Hf H ρ s d s' Q e1 e2 e3 e4 k;obtain⟨ds,s1,a1,a2⟩:=ZE e4;obtain⟨hz,a3⟩:=YW a2;obtain⟨r,s2,a4,a5⟩:=ZE a3;obtain⟨rfl,rfl⟩:=ZL a5;refine qi σ Hf H ρ s ds s1 _ e1 e2 e3 a1 λJt jW H1 g1 j8 it=>?_;intro p hp;have nrp:=jD j8 hp;have nfp:=jv nrp;have hf1p:jW p=none:=by
  cases e:jW p with
  | none=>rfl
  | some o=>rw[g1.fh p o nfp e]at hp;cases hp
 have h0:∀(i:Nat) (d:D),src[i]?=some none->(Wq src ρ)[i]?≠some (some d):=λi d e q=>by
  unfold Wq at q;rw[qu,e]at q;simp at q
 refine⟨λi m σ2 H2=>∃(kd:Hp) (s2:Pn) (vs:List V) (j6 rest:List D),i<=ds.length/\m=ds.length-i/\Gr G jW H1 kd H2/\Yx G kd σ2 (Wq src ρ)/\σ2.length=(Wq src ρ).length/\G.st s2 H2/\kd p=none/\H2 p=some (.lst vs)/\Zf G kd j6 vs/\j6.length<=i/\
  UA τ ft fe (Wq src ρ) (ds.drop i) s2=some (rest,s')/\j6++rest=r,⟨_,jW,s1,[],[],r,zR _,rfl,?_,?_,?_,Gh.grow j8 hp,hf1p,ZM,Zf.nil_iff.mpr rfl,qk _,a4,rfl⟩,?_⟩
 ·refine⟨λb o n e=>?_,.refl _ _,λb o n e=>?_,λb n h1 h2=>h1⟩
  ·rw[Zq (ZW e hp)];exact e
  ·rw[Zq (ZW e hf1p)];exact g1.fh b o n e
 ·exact ZfY (e2.ext g1.ff)
 ·unfold Vb Wq;simp
 ·rintro i m σ2 H2 ⟨kd,sz,vs,j6,rest,hle,rfl,g2,env2,len2,jV,hfp2,hp2,racc,hacc,eq2,hr⟩
  obtain⟨i1,i2⟩:=it i kd H2 sz g2.ff g2.fh jV;by_cases hlt:i<ds.length
  ·have hd:ds.drop i=ds[i]::ds.drop (i+1):=qaA hlt
   rw[hd]at eq2;obtain⟨ρ3,s3,b1,b2⟩:=ZE eq2;obtain⟨b1',e3'⟩:=WR b1;subst e3';obtain⟨bo,s4,b3,b4⟩:=ZE b2;obtain⟨go,yl⟩:=i1 ds[i] (by simp[hlt]);refine .inr ⟨go,λx H3 y3=>?_⟩;obtain⟨Hf3,g3,st3,r3⟩:=yl x H3 y3;refine⟨Hf3,ds[i],Wq src ρ,ρ3,g3.fh,r3,b1',fun σ4 sets=>?_⟩;have env2':=env2.ext g3.ff;have env4:=sets.env len2 env2';have env4':=sets.envOld h0 env2';refine⟨Hf3,ρ3,s3,bo,s4,g3.fh,env4,st3,b3,λHf5 H5 g5 st5=>?_⟩;have g25:=g3.trans g5;have hfp5:Hf5 p=none:=g25.nw p nfp hfp2 ⟨_,hp2,λ_ z=>by cases z⟩;have hp5:H5 p=some (.lst vs):=g25.hh p _ nfp hp2
   cases bo with
   | false=>
    refine VC ⟨ds.length-(i+1),by omega,Hf5,s4,vs,j6,rest,hlt,rfl,g2.trans g25,env4'.ext g5.ff,by rw[<-len2];exact sets.len.2,st5,hfp5,hp5,racc.ext g25.ff,by omega,?_,hr⟩;exact b4
   | true=>
    have b4':Zo (fe ρ3) (λc=>Zo (UA τ ft fe (Wq src ρ) (ds.drop (i+1))) λr=>ZI (c::r)) s4=some (rest,s'):=b4;obtain⟨c,s6,b5,b6⟩:=ZE b4';obtain⟨rr,s7,b7,b8⟩:=ZE b6;obtain⟨rfl,rfl⟩:=ZL b8;refine V3 ⟨Hf5,ρ3,s4,c,s6,g5.fh,env4.ext g5.ff,st5,b5,λv Hf6 H6 g6 st6 r6 _=>?_⟩;have hfp6:Hf6 p=none:=g6.nw p nfp hfp5 ⟨_,hp5,λ_ z=>by cases z⟩;have hp6:H6 p=some (.lst vs):=g6.hh p _ nfp hp5;have hl:vs.length<xg:=by rw[<-racc.length];omega
    refine⟨vs,hp6,hl,ds.length-(i+1),by omega,Hf6,s6,vs ++ [v],j6 ++ [c],rr,hlt,rfl,?_,(env4'.ext g5.ff).ext g6.ff,by rw[<-len2];exact sets.len.2,?_,hfp6,ZM,(racc.ext (g25.ff.trans g6.ff)).append (.one r6),by simp;omega,b7,by rw[<-hr];simp⟩
    ·have gg:=(g2.trans g25).trans g6
     refine⟨λb o n e=>?_,gg.ff,λb o n e=>?_,gg.nw⟩
     ·rw[Zq (ZW e hp)];exact gg.hh b o n e
     ·rw[Zq (ZW e hfp6)];exact gg.fh b o n e
    ·refine G.mono _ _ _ st6 (λb o rb e=>?_) λb φ e=>?_
     ·have:b≠p:=λz=>nrp (z▸rb)
      rw[Zq this];exact e
     ·have:b≠p:=λz=>by rw[z,hp6]at e;cases e
      rw[Zq this];exact e
  ·have hd:ds.drop i=[]:=qcN.mpr (by omega)
   rw[hd]at eq2;obtain⟨rfl,rfl⟩:=ZL eq2;refine .inl ⟨i2 (by omega),?_⟩;rw[zB]at hr;subst hr;refine k (.ref p) (Zj kd p (.lst vs)) H2 (g1.trans ⟨g2.hh,λb o n e=>?_,λb o n e=>?_,λb n h1 h2=>?_⟩) jV (jb.mpr ⟨p,vs,rfl,nfp,ZM,racc.ext λb o n e=>?_⟩) λ_ a ea _=>?_
   ·rw[Zq (ZW (g2.ff b o n e) hfp2)];exact g2.ff b o n e
   ·by_cases hb:b=p
    ·subst hb;rw[ZM]at e;rw[hp2];exact e
    ·rw[Zq hb]at e;exact g2.fh b o n e
   ·have:b≠p:=λz=>h2.no (z▸hp)
    rw[Zq this];exact g2.nw b n h1 h2
   ·rw[Zq (ZW e hfp2)];exact e
   ·cases ea
    refine⟨?_,λds' ed=>?_⟩
    ·cases q:H p with
     | none=>rfl
     | some o=>rw[g1.hh p o nfp q]at hp;cases hp
    ·cases ed
     exact⟨vs,kd,ZM,hfp2,λb o n e=>by rw[Zq (ZW e hfp2)];exact e,racc⟩
theorem WX:VD X [] (Jr G Yu):=λjH s σ H Q I ⟨Hf,ρ,pn,b,pn',a1,a2,a3,a4,k⟩=>by
 obtain⟨rfl,rfl⟩:=ZL a4;exact Zjv jH s σ H Q I (k Hf H (.refl a1) a3)
theorem Zg3 {c:Expr}{ft:Za->M Bool}(h:Vi X G c ft):VD X [c] (Jr G ft):=ZeG h.canon
theorem Jf.put {kn jP H0 Hf H:Hp}{σ:St}{ρ:Za}{i:Nat}{a:Addr}{d d':D}{o':HO}(j:Jf G own kn jP H0 σ Hf H ρ)(hi:i∈own)(e:ρ[i]?=some (some d))(sa:σ[i]?=some (some (.ref a)))
  (new:Vv G Hf (Zj H a o') a d'):Jf G own kn jP H0 σ Hf (Zj H a o') (ρ.set i (some d')):=by
 obtain⟨a',h1,h2,h3,h4,h5⟩:=j.ow i d hi e;rw[sa]at h1;cases h1;have il:i < ρ.length:=(qq.mp e).1;refine⟨by simp[j.len],j.kn,⟨λb o n q=>?_,j.gr.ff,λb o n q=>?_,j.gr.nw⟩,λk c n q=>?_,λk c m q=>?_,λk l b dk dl mk ml n ek el sk sl=>?_⟩
 ·rw[Zq (ZW q h4)];exact j.gr.hh b o n q
 ·rw[Zq (ZW q h3)];exact j.gr.fh b o n q
 ·have hne:i≠k:=λz=>n (z▸hi)
  rw[qZ hne]at q;exact j.fz k c n q
 ·by_cases hk:i=k
  ·subst hk
   rw[zu il]at q
   cases q
   exact⟨a,sa,h2,h3,h4,new⟩
  ·rw[qZ hk]at q
   obtain⟨b,g1,g2,g3,g4,g5⟩:=j.ow k c m q;have hab:b≠a:=λz=>j.ne i k a d c hi m hk e q sa (z▸g1);exact⟨b,g1,g2,g3,g4,g5.keep (.refl _ _) λo z=>by rw[Zq hab];exact z⟩
 ·have ek':∃d,ρ[k]?=some (some d):=by
   by_cases hk:i=k
   ·exact⟨d,hk▸e⟩
   ·rw[qZ hk]at ek;exact⟨_,ek⟩
  have el':∃d,ρ[l]?=some (some d):=by
   by_cases hl:i=l
   ·exact⟨d,hl▸e⟩
   ·rw[qZ hl]at el;exact⟨_,el⟩
  obtain⟨_,ek'⟩:=ek';obtain⟨_,el'⟩:=el';exact j.ne k l b _ _ mk ml n ek' el' sk sl
theorem Vq {kn jP H0 Hf H:Hp}{σ:St}{ρ:Za}{i:Nat}{ds:List D}(j:Jf G own kn jP H0 σ Hf H ρ)(hi:i∈own)(e:ρ[i]?=some (some (.lst ds))) :
  ∃a vs,σ[i]?=some (some (.ref a))/\¬G.rd a/\H a=some (.lst vs)/\Zf G Hf ds vs:=by
 obtain⟨a,h1,h2,h3,h4,vs,h5,h6⟩:=j.ow i _ hi e;exact⟨a,vs,h1,h2,h5,h6⟩
theorem ZbY {ρ:Za}{i:Nat}{d:D}(h:(ρ[i]?).bind id=some d):ρ[i]?=some (some d):=by
 cases q:ρ[i]? with
 | none=>rw[q]at h;cases h
 | some o=>rw[q]at h;simp at h;rw[h]
theorem jz {s:Pn}{H:Hp}{a:Addr}{o:HO}(st:G.st s H)(h:¬G.rd a)
  (hx:∀φ,H a≠some (.ext φ):=by intro φ z;first | (have z2:=z.symm.trans (by assumption:_=some (L2.HO.lst _));cases z2) | (have z2:=z.symm.trans (by assumption:_=some (L2.HO.dK _));cases z2) | (have z2:=z.symm.trans (by assumption:_=some (L2.HO.dT _));cases z2)):G.st s (Zj H a o):=G.mono _ _ _ st (λb u rb e=>by
 have:b≠a:=λz=>h (z▸rb);rw[Zq this];exact e) λb φ e=>by
 have:b≠a:=λz=>hx φ (z▸e);rw[Zq this];exact e
noncomputable def VF (i:Nat)(f:Za->M D):Za->M Out:=fun ρ=>Zo (f ρ) λd=>match (ρ[i]?).bind id with
 | some (.lst ds)=>if ds.length<xg then ZI (.nx (ρ.set i (some (.lst (ds ++ [d])))))else ZO
 | _=>ZO
theorem Zle {i:Nat}{ob:List Nat}{te:TE}{r1:Bool}(hi:i∈own)(hy:VE G own r1 te f) :
  BN G ob own own fr (VY (Ua X.K "list" ZbW (Z3 i) (Vz te VB))) (VF i f):=λkn jP H0 σ H ρ s out s' E ⟨Hf,j⟩ st e po=>by
 obtain⟨d,s1,a1,a2⟩:=ZE e
 cases hb:(ρ[i]?).bind id with
 | none=>rw[hb]at a2;cases a2
 | some c=>
  rw[hb]at a2
  cases c with
  | lst ds=>
   have a2':(if ds.length<xg then ZI (.nx (ρ.set i (some (.lst (ds ++ [d])))))else ZO) s1=some (out,s'):=a2;obtain⟨c2,a3⟩:=YW a2';obtain⟨rfl,rfl⟩:=ZL a3;have ei:=ZbY hb;obtain⟨a,vs,h1,h2,h3,h4⟩:=Vq j hi ei;refine⟨_,h1,.inl ⟨rfl,vs,Zy.of h3⟩,?_⟩;refine hy kn jP H0 σ Hf H ρ s d s' _ j st a1 λv Hf' H' j' e1 e2 st' r fz=>?_;obtain⟨a',vs',h1',h2',h3',h4'⟩:=Vq j' hi ei;rw[h1]at h1';cases h1';refine⟨a,vs',v,rfl,rfl,h3',by rw[<-h4'.length];exact c2,?_⟩;exact po σ _ ⟨Hf',j'.put hi ei h1 ⟨vs' ++ [v],ZM,h4'.append (.one r)⟩⟩ (jz st' h2)
  | _=>cases a2
theorem Zbl {i:Nat}{x:Str}{e:Expr}{pos p1 p2 p3:Pos}{te:TE}(hv:PE X (.Name x p1) (Z3 i))(p:PE X e te)
  (hbase:xq (.Name x p1) "append" X.env (eval (.Name x p1) X.env)=eval (.Name x p1) X.env:=by rfl)
  (hfew:((backTo p3 (xh [e] X.env)).all (λx=>!x.1)&&(xp p3 (xi [] X.env)).all (λx=>x.1.isSome)
   && decide ([e].length+([]:List Keyword).length+(if ([]:List Keyword).isEmpty then 0 else 1)<30))=true:=by rfl)
  (hline:(p2.endLine==p3.line)=true:=by rfl) (hs:xh [e] X.env=(false,eval e X.env)::xh [] X.env:=by rfl)
  (hsw:xr (.Call (.Attribute (.Name x p1) "append" p2) [e] [] p3) none pos.line X.env=pure false:=by rfl) :
  PS X (.Expr (.Call (.Attribute (.Name x p1) "append" p2) [e] [] p3) pos) (VY (Ua X.K "list" ZbW (Z3 i) (Vz te VB))):=
 ZdS (Zjo qbv PySem.F.slot_list_append PySem.F.type_list_append Zdj hv (Y5 p Xv hs) hbase hfew hline hs rfl) hsw
section
variable {i:Nat}{x:Str}{e:Expr}{pos p1 p2 p3:Pos}{r1:Bool}{ob:List Nat}{st:Stmt}
theorem Zcg (hi:i∈own)(he:PD X G r1 e f)(hp:∀te,PE X e te->PS X st (VY (Ua X.K "list" ZbW (Z3 i) (Vz te VB)))):YA X G ob own own fr st (VF i (fun ρ=>f (ZU own ρ))):=by
 obtain⟨t,p,q⟩:=he;exact⟨_,hp t p,Zle hi (X3.a q)⟩
end
end
section
variable {X:Cx}{G:Gh}
noncomputable def dI (C:Int->Int->Bool)(g:Int->Int->D):D->D->Option D
 | .int i,.int j=>if C i j=true then some (g i j)else none
 | _,_=>none
theorem ZdY {C:Int->Int->Bool}{g:Int->Int->D}{d e c:D}(h:dI C g d e=some c):∃i j,d=.int i/\e=.int j/\C i j=true/\c=g i j:=by
 match d,e,h with
 | .int i,.int j,h=>
  have h':(if C i j=true then some (g i j)else none)=some c:=h;split at h'
  ·rename_i hc;cases h';exact⟨i,j,rfl,rfl,hc,rfl⟩
  ·cases h'
theorem Zmk {f:Value->Value->Sem Value}{C:Int->Int->Prop}{Cb:Int->Int->Bool}{g:Int->Int->Int}(h:Yj X f (rI C λi j=>.int (g i j)))(hc:∀i j,Cb i j=true->C i j):XB X G f (dI Cb λi j=>.int (g i j)):=
 ⟨_,h,λHf H s x y d e c Q e1 st rx ry q k=>by
  obtain⟨i,j,rfl,rfl,hcb,rfl⟩:=ZdY q;exact⟨i,j,ja.mp rx,ja.mp ry,hc i j hcb,k _ Hf H (.refl e1) st (ja.mpr rfl) (.scal λz=>z)⟩⟩
theorem Zm9 {f:Value->Value->Sem Value}{g:Int->Int->Int}(h:Yj X f (Y9 λi j=>.int (g i j))):XB X G f (dI (λ_ _=>true) λi j=>.int (g i j)):=
 ⟨_,h,λHf H s x y d e c Q e1 st rx ry q k=>by
  obtain⟨i,j,rfl,rfl,hcb,rfl⟩:=ZdY q;exact⟨i,j,ja.mp rx,ja.mp ry,k _ Hf H (.refl e1) st (ja.mpr rfl) (.scal λz=>z)⟩⟩
theorem ZjB {f:Value->Value->Sem Value}{g:Int->Int->Bool}(h:Yj X f (Y9 λi j=>.bl (g i j))):XB X G f (dI (λ_ _=>true) λi j=>.bl (g i j)):=
 ⟨_,h,λHf H s x y d e c Q e1 st rx ry q k=>by
  obtain⟨i,j,rfl,rfl,hcb,rfl⟩:=ZdY q;exact⟨i,j,ja.mp rx,ja.mp ry,k _ Hf H (.refl e1) st (je.mpr rfl) (.scal λz=>z)⟩⟩
noncomputable def Vg:=dI (λ_ _=>true) λi j=>.int (i-j)
noncomputable def Bq (i j:Int):Bool:=(decide (-(2 ^ 64)<i)&&decide (i<2 ^ 64))||(decide (-(2 ^ 64)<j)&&decide (j<2 ^ 64))
noncomputable def VG:=dI Bq λi j=>.int (i*j)
noncomputable def V4:=dI (λ_ j=>decide (0<j)) λi j=>.int (i % j)
theorem ZdZ:XB X G (binaryOp .Sub) Vg:=Zm9 ZmU
theorem ZbZ:XB X G (binaryOp .Mult) VG:=Zmk Ux λi j h=>by
 simp only[Bq,Bool.or_eq_true,zF,decide_eq_true_eq]at h;exact h
theorem Zg4:XB X G (binaryOp .Mod) V4:=Zmk VU λi j h=>by simpa using h
noncomputable def dLe:=dI (λ_ _=>true) λi j=>.bl (decide (i<=j))
noncomputable def dGt:=dI (λ_ _=>true) λi j=>.bl (decide (j<i))
theorem Zna:XB X G (xk .LtE) dLe:=ZjB Zn3
theorem Znb:XB X G (xk .Gt) dGt:=ZjB Zji
noncomputable def Yi:List D->Option (List Int)
 | []=>some []
 | .int i::ds=>(Yi ds).map (i :: ·)
 | _::_=>none
theorem JP:∀{ds:List D} {ns:List Int},Yi ds=some ns->ds=ns.map D.int
 | [],ns,h=>by simp[Yi]at h;subst h;rfl
 | .int i::ds,ns,h=>by
  cases e:Yi ds with
  | none=>simp[Yi,e]at h
  | some ms=>simp[Yi,e]at h;subst h;simp[JP e]
 | .non::_,_,h=>by simp[Yi]at h
 | .bl _::_,_,h=>by simp[Yi]at h
 | .str _::_,_,h=>by simp[Yi]at h
 | .tup _::_,_,h=>by simp[Yi]at h
 | .lst _::_,_,h=>by simp[Yi]at h
 | .dk _::_,_,h=>by simp[Yi]at h
 | .dt _::_,_,h=>by simp[Yi]at h
 | .du _::_,_,h=>by simp[Yi]at h
 | .df _::_,_,h=>by simp[Yi]at h
 | .pen::_,_,h=>by simp[Yi]at h
 | .ty _::_,_,h=>by simp[Yi]at h
theorem Zch (ns:List Int):Yi (ns.map D.int)=some ns:=by
 induction ns with
 | nil=>rfl
 | cons n ns ih=>simp[Yi,ih]
theorem jr {H:Hp}:∀{ns:List Int} {vs:List V},Zf G H (ns.map D.int) vs->vs=ns.map V.int
 | [],vs,h=>Zf.nil_iff.mp h
 | n::ns,vs,h=>by
  obtain⟨v,r,rfl,h1,h2⟩:=jd.mp h;rw[ja.mp h1,jr h2];rfl
noncomputable def dLt:D->D->Option D
 | .int i,.int j=>some (.bl (decide (i<j)))
 | .tup a,.tup b=>match Yi a,Yi b with | some ns,some ms=>some (.bl (HT.lexLt ns ms)) | _,_=>none
 | _,_=>none
theorem Znc (hu:X.A.units<cLine):XB X G (xk .Lt) dLt:=
 ⟨_,Zmc.or (Zm0 hu),λHf H s x y d e c Q e1 st rx ry q k=>by
  match d,e,q,rx,ry with
  | .int i,.int j,q,rx,ry=>
   cases q
   exact .inl ⟨i,j,ja.mp rx,ja.mp ry,k _ Hf H (.refl e1) st (je.mpr rfl) (.scal λz=>z)⟩
  | .tup a,.tup b,q,rx,ry=>
   have q:(match Yi a,Yi b with | some ns,some ms=>some (D.bl (HT.lexLt ns ms)) | _,_=>none)=some c:=q
   cases ea:Yi a with
   | none=>rw[ea]at q;simp at q
   | some ns=>
    cases eb:Yi b with
    | none=>rw[ea,eb]at q;simp at q
    | some ms=>
     rw[ea,eb]at q
     cases q
     rw[JP ea]at rx;rw[JP eb]at ry;obtain⟨p,vs,rfl,np,hp,rp⟩:=jc.mp rx;obtain⟨p2,vs2,rfl,np2,hp2,rp2⟩:=jc.mp ry;rw[jr rp]at hp;rw[jr rp2]at hp2;exact .inr ⟨p,p2,ns,ms,rfl,rfl,ZK.of (e1 _ _ np hp),ZK.of (e1 _ _ np2 hp2),k _ Hf H (.refl e1) st (je.mpr rfl) (.scal λz=>z)⟩⟩
theorem Zlf:Yj X (binaryOp .Add) (λx y H Q=>∃a b ys,x=.ref a/\y=.ref b/\ZK X.K H a []/\ZK X.K H b ys/\Q (.ref b) H):=by
 intro jH s σ H x y v u Q I rx ry h;obtain⟨a,b,ys,rfl,rfl,ha,hb,q⟩:=h
 cases rx
 cases ry
 obtain⟨jJ,r1,p1,_⟩:=I.tuple ha;obtain⟨jO,r2,p2,_⟩:=I.tuple hb;have e0:jJ=[]:=by cases r1;rfl
 subst e0;obtain⟨⟨cls,dd,data,sl⟩,ho,hc,n,hd⟩:=id p1;obtain⟨⟨cls2,dd2,data2,sl2⟩,ho2,hc2,n2,hd2⟩:=id p2;simp only at hc hd hc2 hd2;subst hc hd hc2 hd2;exact concat_meets ⟨_,ho,rfl⟩ ⟨_,ho2,rfl⟩ noFill_tuple_add seq_tuple_add qbB qbu (qbl _ _)
   (tuple_addW0 a b ([]:List Value).toArray jO.toArray n n2 dd dd2 sl sl2 rfl) ⟨ho,ho2,⟨.ref b,H,I,rfl,q⟩⟩
noncomputable def Z4:D->D->Option D
 | .int i,.int j=>some (.int (i+j))
 | .tup a,.tup b=>if a.length+b.length<=xg then some (.tup (a++b))else none
 | .lst a,.lst b=>if a.length+b.length<=xg then some (.lst (a++b))else none
 | _,_=>none
theorem Xh:XB X G (binaryOp .Add) Z4:=
 ⟨_,VT.or (Zm3.or (Zk4.or Zlf)),λHf H s x y d e c Q e1 st rx ry q k=>by
  match d,e,q,rx,ry with
  | .int i,.int j,q,rx,ry=>
   cases q
   exact .inl ⟨i,j,ja.mp rx,ja.mp ry,k _ Hf H (.refl e1) st (ja.mpr rfl) (.scal λz=>z)⟩
  | .lst a,.lst b,q,rx,ry=>
   have q:(if a.length+b.length<=xg then some (D.lst (a++b))else none)=some c:=q;split at q
   ·rename_i hz
    cases q
    obtain⟨p,vs,rfl,np,hp,rp⟩:=jb.mp rx;obtain⟨p2,vs2,rfl,np2,hp2,rp2⟩:=jb.mp ry;refine .inr (.inl ⟨p,p2,vs,vs2,rfl,rfl,e1 _ _ np hp,e1 _ _ np2 hp2,by rw[<-rp.length,<-rp2.length];exact hz,λl hl=>?_⟩);have nf:=Gh.nofp st hl;have g2:=Gr.new (o:=.lst (vs++vs2)) e1 hl nf;have rr:=rp.append rp2;exact k (.ref l) _ _ g2 (Gh.grow st hl) (jb.mpr ⟨l,_,rfl,nf,ZM,rr.ext g2.ff⟩) (Yh.mk e1 hl nf rr)
   ·cases q
  | .tup a,.tup b,q,rx,ry=>
   have q:(if a.length+b.length<=xg then some (D.tup (a++b))else none)=some c:=q;split at q
   ·rename_i hz
    cases q
    obtain⟨p,vs,rfl,np,hp,rp⟩:=jc.mp rx;obtain⟨p2,vs2,rfl,np2,hp2,rp2⟩:=jc.mp ry;by_cases hv:vs=[]
    ·subst hv
     have ea:a=[]:=yt.mp (by rw[rp.length];rfl);subst ea;exact .inr (.inr (.inr ⟨p,p2,vs2,rfl,rfl,ZK.of (e1 _ _ np hp),ZK.of (e1 _ _ np2 hp2),k _ Hf H (.refl e1) st ry (.scal λz=>z)⟩))
    ·refine .inr (.inr (.inl ⟨p,p2,vs,vs2,rfl,rfl,ZK.of (e1 _ _ np hp),ZK.of (e1 _ _ np2 hp2),hv,by rw[<-rp.length,<-rp2.length];exact hz,λz=>?_,λ_ l hl=>?_⟩))
     ·subst z
      have eb:b=[]:=yt.mp (by rw[rp2.length];rfl);subst eb;rw[zB]at k;exact k _ Hf H (.refl e1) st rx (.scal λz=>z)
     ·have nf:=Gh.nofp st hl
      have g2:=Gr.new (o:=.tup (vs++vs2)) e1 hl nf;exact k (.ref l) _ _ g2 (Gh.grow st hl) (jc.mpr ⟨l,_,rfl,nf,ZM,(rp.append rp2).ext g2.ff⟩) (.scal λz=>z)
   ·cases q⟩
noncomputable def Zx:D->D->Option D
 | .lst ds,.int i=>XA ds i
 | .tup ds,.int i=>XA ds i
 | _,_=>none
theorem Zg5 {Hf:Hp}{ds:List D}{vs:List V}{i:Int}{c:D}(r:Zf G Hf ds vs)(h:XA ds i=some c):∃v,XA vs i=some v/\Zi G Hf c v:=by
 unfold XA at h⊢;rw[<-r.length]
 cases e:Xz ds.length i with
 | none=>rw[e]at h;cases h
 | some j=>
  rw[e]at h;obtain⟨v,h1,h2⟩:=r.get (i:=j) (d:=c) h;exact⟨v,h1,h2⟩
theorem Yb:IxD X G Zx:=
 ⟨_,ZbV.or Zm1,λHf H s x y d e c Q e1 st rx ry q k=>by
  match d,e,q,rx,ry with
  | .lst ds,.int i,q,rx,ry=>
   obtain⟨p,vs,rfl,np,hp,rp⟩:=jb.mp rx;obtain⟨v,h1,h2⟩:=Zg5 rp q;exact .inl ⟨p,vs,i,v,rfl,ja.mp ry,Zy.of (e1 _ _ np hp),h1,k v h2⟩
  | .tup ds,.int i,q,rx,ry=>
   obtain⟨p,vs,rfl,np,hp,rp⟩:=jc.mp rx;obtain⟨v,h1,h2⟩:=Zg5 rp q;exact .inr ⟨p,vs,i,v,rfl,ja.mp ry,ZK.of (e1 _ _ np hp),h1,k v h2⟩⟩
theorem ji {H:Hp}{d:D}{xs:List V}(h:Zf G H [d] xs):∃v,xs=[v]/\Zi G H d v:=by
 obtain⟨v,r,rfl,h1,h2⟩:=jd.mp h;rw[Zf.nil_iff.mp h2];exact⟨v,rfl,h1⟩
theorem js {H:Hp}{d e:D}{xs:List V}(h:Zf G H [d,e] xs):∃v w,xs=[v,w]/\Zi G H d v/\Zi G H e w:=by
 obtain⟨v,r,rfl,h1,h2⟩:=jd.mp h;obtain⟨w,rfl,h3⟩:=ji h2;exact⟨v,w,rfl,h1,h3⟩
noncomputable def Ye:List D->Option D
 | [.lst ds]=>some (.int ds.length)
 | [.tup ds]=>some (.int ds.length)
 | _=>none
theorem ZfZ:WW X G (.builtin "len") Ye:=
 ⟨_,Zaj,λHf H s xs ds c Q e1 st r q k=>by
  match ds,q,r with
  | [.lst es],q,r=>
   cases q
   obtain⟨v,rfl,rv⟩:=ji r;obtain⟨p,vs,rfl,np,hp,rp⟩:=jb.mp rv;exact⟨p,vs,rfl,.inl (Zy.of (e1 _ _ np hp)),k _ Hf H (.refl e1) st (ja.mpr (by rw[rp.length])) (.scal λz=>z)⟩
  | [.tup es],q,r=>
   cases q
   obtain⟨v,rfl,rv⟩:=ji r;obtain⟨p,vs,rfl,np,hp,rp⟩:=jc.mp rv;exact⟨p,vs,rfl,.inr (ZK.of (e1 _ _ np hp)),k _ Hf H (.refl e1) st (ja.mpr (by rw[rp.length])) (.scal λz=>z)⟩⟩
noncomputable def Bk:List D->Option D
 | [.lst ds]=>some (.tup ds)
 | [.tup ds]=>some (.tup ds)
 | _=>none
theorem BR:WW X G (.type "tuple") Bk:=
 ⟨_,Zc3,λHf H s xs ds c Q e1 st r q k=>by
  match ds,q,r with
  | [.lst es],q,r=>
   cases q
   obtain⟨v,rfl,rv⟩:=ji r;obtain⟨p,vs,rfl,np,hp,rp⟩:=jb.mp rv;refine⟨p,vs,rfl,.inl ⟨Zy.of (e1 _ _ np hp),λl hl=>?_⟩⟩;have nf:=Gh.nofp st hl;have g2:=Gr.new (o:=.tup vs) e1 hl nf;exact k (.ref l) _ _ g2 (Gh.grow st hl) (jc.mpr ⟨l,_,rfl,nf,ZM,rp.ext g2.ff⟩) (.scal λz=>z)
  | [.tup es],q,r=>
   cases q
   obtain⟨v,rfl,rv⟩:=ji r;obtain⟨p,vs,rfl,np,hp,rp⟩:=jc.mp rv;exact⟨p,vs,rfl,.inr ⟨ZK.of (e1 _ _ np hp),k _ Hf H (.refl e1) st rv (.scal λz=>z)⟩⟩⟩
noncomputable def Jj:List D->Option D
 | [.int i,.int j]=>some (.int (if j > i then j else i))
 | _=>none
noncomputable def UB:List D->Option D
 | [.int i,.int j]=>some (.int (if j<i then j else i))
 | _=>none
theorem Zci (hc:X.calm=true):WW X G (.builtin "max") Jj:=
 ⟨_,ZhS hc,λHf H s xs ds c Q e1 st r q k=>by
  match ds,q,r with
  | [.int i,.int j],q,r=>
   cases q
   obtain⟨v,w,rfl,rv,rw'⟩:=js r;rw[ja.mp rv,ja.mp rw'];exact⟨i,j,rfl,k _ Hf H (.refl e1) st (ja.mpr rfl) (.scal λz=>z)⟩⟩
theorem Zcj (hc:X.calm=true):WW X G (.builtin "min") UB:=
 ⟨_,ZhT hc,λHf H s xs ds c Q e1 st r q k=>by
  match ds,q,r with
  | [.int i,.int j],q,r=>
   cases q
   obtain⟨v,w,rfl,rv,rw'⟩:=js r;rw[ja.mp rv,ja.mp rw'];exact⟨i,j,rfl,k _ Hf H (.refl e1) st (ja.mpr rfl) (.scal λz=>z)⟩⟩
noncomputable def YQ:List D->Option (List Bool)
 | []=>some []
 | .bl b::ds=>(YQ ds).map (b :: ·)
 | _::_=>none
theorem ZaI:∀{ds:List D} {ns:List Bool},YQ ds=some ns->ds=ns.map D.bl
 | [],ns,h=>by simp[YQ]at h;subst h;rfl
 | .bl i::ds,ns,h=>by
  cases e:YQ ds with
  | none=>simp[YQ,e]at h
  | some ms=>simp[YQ,e]at h;subst h;simp[ZaI e]
 | .non::_,_,h=>by simp[YQ]at h
 | .int _::_,_,h=>by simp[YQ]at h
 | .str _::_,_,h=>by simp[YQ]at h
 | .tup _::_,_,h=>by simp[YQ]at h
 | .lst _::_,_,h=>by simp[YQ]at h
 | .dk _::_,_,h=>by simp[YQ]at h
 | .dt _::_,_,h=>by simp[YQ]at h
 | .du _::_,_,h=>by simp[YQ]at h
 | .df _::_,_,h=>by simp[YQ]at h
 | .pen::_,_,h=>by simp[YQ]at h
 | .ty _::_,_,h=>by simp[YQ]at h
theorem ZbE (ns:List Bool):YQ (ns.map D.bl)=some ns:=by
 induction ns with
 | nil=>rfl
 | cons n ns ih=>simp[YQ,ih]
theorem jA {H:Hp}:∀{ns:List Bool} {vs:List V},Zf G H (ns.map D.bl) vs->vs=ns.map V.bl
 | [],vs,h=>Zf.nil_iff.mp h
 | n::ns,vs,h=>by
  obtain⟨v,r,rfl,h1,h2⟩:=jd.mp h;rw[je.mp h1,jA h2];rfl
theorem Zck:∀{bs:List Bool} {us:List Value},Zu (bs.map V.bl) us->us=bs.map yn
 | [],_,.nil=>rfl
 | b::bs,_,.cons r t=>by
  cases (show _=yn b from r)
  rw[Zck t];rfl
theorem Zcl {hc:X.calm=true}{jH:Qb}{s:Shared}{σ:St}{H:Hp}{p:Addr}{bs:List Bool}{Q:xE}{E:xE}(fin:Bool)(I:Inv X jH σ H s)(h:H p=some (.lst (bs.map V.bl)))
  (fn:(Nat->Bool)->List Nat->Bool) (hq:∀s',Inv X jH σ H s'->Q (.bool (fn (λi=>bs.getD i false) (qm bs.length))) s') :
  xf (xA X.prog X.w) X.A.in1 (pyIter (.ref p)) (λit s₂=>∃I fp wr n P St tr,it=.ref I/\Walks X.prog X.w X.A.in1 I fp wr n P St/\St 0 s₂.heap/\TruthOf X.prog X.w X.A.in1 P tr/\
   ∀h' tk,(∀b o,b∉wr->s₂.heap.get? b=some o->h'.get? b=some o)->Q (.bool (fn tr (qm n))) { s₂ with heap:=h',toks:=tk }) E s:=by
 obtain⟨jJ,rv,pl,hz⟩:=I.list (Zy.of h);have eu:=Zck rv;subst eu;refine wpAny_pyIter_list pl.isList ?_;have hne:p≠s.heap.objs.size:=qT (by
  obtain⟨o,ho,_⟩:=pl.isList;exact qH ho)
 refine⟨s.heap.objs.size,_,_,_,_,_,λi=>bs.getD i false,rfl,Walks.list (A:=X.A.in1) (I.ok.hd hc) s.heap.objs.size p hne _,⟨⟨_,qw _ rfl,rfl,rfl⟩,pl.isList.at λo e=>qd _ e⟩,?_,?_⟩
 ·intro i v s' Q' E' hP hQ'
  have hv:v=.bool (bs.getD i false):=by
   have e:(bs.map yn).toArray[i]?=some v:=hP;rw[List.getElem?_toArray,qu]at e
   cases q:bs[i]? with
   | none=>rw[q]at e;cases e
   | some b=>rw[q]at e;cases e;simp[qbI,q]
  subst hv;exact wpAny_truthy_bool hQ'
 ·intro h' tk hk
  have:(List.map yn bs).toArray.size=bs.length:=by simp
  rw[this];have I1:Inv X jH σ H { s with heap:=s.heap.push { cls:=.type "list_iterator",data:=.fields #[.ref p,.int 0 0] } }:=I.kept (t':=s.toks) λb o e=>qd _ e;refine hq _ (I.kept (t':=tk) λb o e=>hk b o ?_ (qd _ e));have:=qT (qH e);simpa using this
theorem ZjC (bs:List Bool):(qm bs.length).all (λi=>bs.getD i false)=bs.all id:=by
 induction bs with
 | nil=>rfl
 | cons b bs ih=>
  rw[qS,yj,List.all_cons,qcZ];show(b&&(qm bs.length).all λi=>bs.getD i false)=_;rw[ih];rfl
theorem ZjD (bs:List Bool):(qm bs.length).any (λi=>bs.getD i false)=bs.any id:=by
 induction bs with
 | nil=>rfl
 | cons b bs ih=>
  rw[qS,yj,qaM,List.any_map];show(b||(qm bs.length).any λi=>bs.getD i false)=_;rw[ih];rfl
theorem Zh2 (hc:X.calm=true):XO X (.builtin "all") (λxs H Q=>∃(p:Addr) (bs:List Bool),xs=[.ref p]/\H p=some (.lst (bs.map V.bl))/\Q (.bl (bs.all id)) H):=by
 intro jH s σ H xs us Q I r h;obtain⟨p,bs,rfl,hp,q⟩:=h;obtain⟨u,rfl,ru⟩:=Va r
 cases ru
 refine call_all_walk (Zcl (hc:=hc) true I hp (λt l=>l.all t) λs' I'=>⟨.bl (bs.all id),H,I',?_,q⟩);show yn _=_;rw[ZjC]
theorem Zh3 (hc:X.calm=true):XO X (.builtin "any") (λxs H Q=>∃(p:Addr) (bs:List Bool),xs=[.ref p]/\H p=some (.lst (bs.map V.bl))/\Q (.bl (bs.any id)) H):=by
 intro jH s σ H xs us Q I r h;obtain⟨p,bs,rfl,hp,q⟩:=h;obtain⟨u,rfl,ru⟩:=Va r
 cases ru
 refine call_any_walk (Zcl (hc:=hc) true I hp (λt l=>l.any t) λs' I'=>⟨.bl (bs.any id),H,I',?_,q⟩);show yn _=_;rw[ZjD]
noncomputable def BC:List D->Option D
 | [.lst ds]=>(YQ ds).map λbs=>.bl (bs.all id)
 | _=>none
noncomputable def BD:List D->Option D
 | [.lst ds]=>(YQ ds).map λbs=>.bl (bs.any id)
 | _=>none
theorem Zh4 (hc:X.calm=true):WW X G (.builtin "all") BC:=
 ⟨_,Zh2 hc,λHf H s xs ds c Q e1 st r q k=>by
  match ds,q,r with
  | [.lst es],q,r=>
   obtain⟨v,rfl,rv⟩:=ji r;obtain⟨p,vs,rfl,np,hp,rp⟩:=jb.mp rv
   cases e:YQ es with
   | none=>simp[BC,e]at q
   | some bs=>
    simp[BC,e]at q;subst q;rw[ZaI e]at rp;rw[jA rp]at hp;exact⟨p,bs,rfl,e1 _ _ np hp,k _ Hf H (.refl e1) st (je.mpr rfl) (.scal λz=>z)⟩⟩
theorem Zh5 (hc:X.calm=true):WW X G (.builtin "any") BD:=
 ⟨_,Zh3 hc,λHf H s xs ds c Q e1 st r q k=>by
  match ds,q,r with
  | [.lst es],q,r=>
   obtain⟨v,rfl,rv⟩:=ji r;obtain⟨p,vs,rfl,np,hp,rp⟩:=jb.mp rv
   cases e:YQ es with
   | none=>simp[BD,e]at q
   | some bs=>
    simp[BD,e]at q;subst q;rw[ZaI e]at rp;rw[jA rp]at hp;exact⟨p,bs,rfl,e1 _ _ np hp,k _ Hf H (.refl e1) st (je.mpr rfl) (.scal λz=>z)⟩⟩
end
mutual
noncomputable def Zk:D->Bool
 | .non=>true
 | .bl _=>true
 | .int _=>true
 | .str _=>true
 | .tup ds=>Yp ds
 | .lst ds=>Yp ds
 | _=>false
noncomputable def Yp:List D->Bool
 | []=>true
 | d::ds=>Zk d&&Yp ds
end
mutual
noncomputable def ZX:D->Nat
 | .tup ds=>Y2 ds+1
 | .lst ds=>Y2 ds+1
 | _=>0
noncomputable def Y2:List D->Nat
 | []=>0
 | d::ds=>max (ZX d) (Y2 ds)
end
theorem U3:∀{ds:List D} {d:D},d∈ds->ZX d<=Y2 ds
 | e::ds,d,h=>by
  rcases qp.mp h with rfl | h
  ·simp only[Y2];omega
  ·have:=U3 h
   simp only[Y2];omega
theorem Ui:∀{ds:List D} {d:D},Yp ds=true->d∈ds->Zk d=true
 | e::ds,d,n,h=>by
  have n':Zk e=true/\Yp ds=true:=by simpa[Yp]using n
  rcases qp.mp h with rfl | h
  ·exact n'.1
  ·exact Ui n'.2 h
mutual
noncomputable def ZB:D->D->Bool
 | .non,.non=>true
 | .bl a,.bl b=>a==b
 | .bl a,.int i=>(if a then 1 else 0)==i
 | .int i,.bl b=>i==(if b then 1 else 0)
 | .int i,.int j=>i==j
 | .str x,.str y=>x==y
 | .tup a,.tup b=>Y8 a b
 | .lst a,.lst b=>Y8 a b
 | _,_=>false
noncomputable def Y8:List D->List D->Bool
 | [],[]=>true
 | a::as,b::bs=>ZB a b&&Y8 as bs
 | _,_=>false
end
mutual
theorem Zcm:∀d:D,Zk d=true->ZB d d=true
 | .non,_=>by simp[ZB]
 | .bl _,_=>by simp[ZB]
 | .int _,_=>by simp[ZB]
 | .str _,_=>by simp[ZB]
 | .tup ds,h=>by simp only[ZB];exact Zbm ds (by simpa[Zk]using h)
 | .lst ds,h=>by simp only[ZB];exact Zbm ds (by simpa[Zk]using h)
 | .dk _,h=>by simp[Zk]at h
 | .dt _,h=>by simp[Zk]at h
 | .du _,h=>by simp[Zk]at h
 | .df _,h=>by simp[Zk]at h
 | .pen,h=>by simp[Zk]at h
 | .ty _,h=>by simp[Zk]at h
 | .clo _ _,h=>by simp[Zk]at h
theorem Zbm:∀ds:List D,Yp ds=true->Y8 ds ds=true
 | [],_=>by simp[Y8]
 | d::ds,h=>by
  have n':Zk d=true/\Yp ds=true:=by simpa[Yp]using h
  simp only[Y8,Zcm d n'.1,Zbm ds n'.2,Bool.and_self]
end
theorem Zcn:∀{a b:List D},Y8 a b=true->a.length=b.length
 | [],[],_=>rfl
 | a::as,b::bs,h=>by
  have:ZB a b=true/\Y8 as bs=true:=by simpa[Y8]using h
  simp[Zcn this.2]
 | [],_::_,h=>by simp[Y8]at h
 | _::_,[],h=>by simp[Y8]at h
theorem ZaJ:∀(a b:List D),a.length=b.length->(qm a.length).all (λj=>ZB (a.getD j .non) (b.getD j .non))=Y8 a b
 | [],[],_=>rfl
 | a::as,b::bs,h=>by
  have h':as.length=bs.length:=by simpa using h
  rw[qS,yj,List.all_cons,qcZ,Y8,<-ZaJ as bs h'];rfl
 | [],_::_,h=>by simp at h
 | _::_,[],h=>by simp at h
theorem ZeN:∀(a b:List D),((qm (min a.length b.length)).all (λj=>ZB (a.getD j .non) (b.getD j .non))&&a.length==b.length)=Y8 a b:=λa b=>by
 by_cases h:a.length=b.length
 ·rw[<-ZaJ a b h,h];simp
 ·have:Y8 a b=false:=by
   cases e:Y8 a b with
   | false=>rfl
   | true=>exact absurd (Zcn e) h
  rw[this];simp[h]
mutual
theorem Zi.inj {G:Gh}{H:Hp}:∀{d e:D} {v:V},Zk d=true->Zk e=true->Zi G H d v->Zi G H e v->d=e
 | .non,e,v,_,pe,h,h'=>by
  rw[jg.mp h]at h'
  cases e <;> first | rfl | (simp[Zk]at pe;done) | (simp[Zi]at h')
 | .bl b,e,v,_,pe,h,h'=>by
  rw[je.mp h]at h'
  cases e <;> first | (simp[Zk]at pe;done) | (simp[Zi]at h';rw[h']) | (simp[Zi]at h')
 | .int b,e,v,_,pe,h,h'=>by
  rw[ja.mp h]at h'
  cases e <;> first | (simp[Zk]at pe;done) | (simp[Zi]at h';rw[h']) | (simp[Zi]at h')
 | .str b,e,v,_,pe,h,h'=>by
  rw[jh.mp h]at h'
  cases e <;> first | (simp[Zk]at pe;done) | (simp[Zi]at h';rw[h']) | (simp[Zi]at h')
 | .tup ds,e,v,pd,pe,h,h'=>by
  obtain⟨a,vs,rfl,n,q,r⟩:=jc.mp h
  cases e with
  | tup es=>
   obtain⟨a',vs',e',n',q',r'⟩:=jc.mp h'
   cases e'
   rw[q]at q';cases q';rw[Zf.inj (by simpa[Zk]using pd) (by simpa[Zk]using pe) r r']
  | lst es=>
   obtain⟨a',vs',e',n',q',r'⟩:=jb.mp h'
   cases e'
   rw[q]at q';cases q'
  | _=>first | (simp[Zi]at h';done) | (simp[Zk]at pe;done)
 | .lst ds,e,v,pd,pe,h,h'=>by
  obtain⟨a,vs,rfl,n,q,r⟩:=jb.mp h
  cases e with
  | lst es=>
   obtain⟨a',vs',e',n',q',r'⟩:=jb.mp h'
   cases e'
   rw[q]at q';cases q';rw[Zf.inj (by simpa[Zk]using pd) (by simpa[Zk]using pe) r r']
  | tup es=>
   obtain⟨a',vs',e',n',q',r'⟩:=jc.mp h'
   cases e'
   rw[q]at q';cases q'
  | _=>first | (simp[Zi]at h';done) | (simp[Zk]at pe;done)
 | .dk _,_,_,pd,_,_,_=>by simp[Zk]at pd
 | .dt _,_,_,pd,_,_,_=>by simp[Zk]at pd
 | .du _,_,_,pd,_,_,_=>by simp[Zk]at pd
 | .df _,_,_,pd,_,_,_=>by simp[Zk]at pd
 | .pen,_,_,pd,_,_,_=>by simp[Zk]at pd
 | .ty _,_,_,pd,_,_,_=>by simp[Zk]at pd
 | .clo _ _,_,_,pd,_,_,_=>by simp[Zk]at pd
theorem Zf.inj {G:Gh}{H:Hp}:∀{ds es:List D} {vs:List V},Yp ds=true->Yp es=true->Zf G H ds vs->Zf G H es vs->ds=es
 | [],es,vs,_,pe,h,h'=>by
  rw[Zf.nil_iff.mp h]at h'
  cases es with
  | nil=>rfl
  | cons e es=>obtain⟨v,r,e1,_⟩:=jd.mp h';cases e1
 | d::ds,es,vs,pd,pe,h,h'=>by
  obtain⟨v,r,rfl,r1,r2⟩:=jd.mp h;have pd':Zk d=true/\Yp ds=true:=by simpa[Yp]using pd
  cases es with
  | nil=>have:=Zf.nil_iff.mp h';cases this
  | cons e es=>
   obtain⟨v',r',e1,r1',r2'⟩:=jd.mp h'
   cases e1
   have pe':Zk e=true/\Yp es=true:=by simpa[Yp]using pe
   rw[Zi.inj pd'.1 pe'.1 r1 r1',Zf.inj pd'.2 pe'.2 r2 r2']
end
section
variable {X:Cx}{G:Gh}{jH:Qb}{σ:St}{Hf H:Hp}{s:Shared}
theorem JQ (A:xD):A.in1.units=A.units+1:=rfl
theorem Zb0 {ds:List D}{vs:List V}{us:List Value}(r:Zf G Hf ds vs)(rv:Zu vs us){j:Nat}(h:j<us.toArray.size):∃v,Zi G Hf (ds.getD j .non) v/\ZC v us.toArray[j]/\ds.getD j .non∈ds:=by
 have hl:j<ds.length:=by rw[r.length,rv.length];simpa using h
 have e:ds[j]?=some (ds.getD j .non):=by simp[qbI,hl]
 obtain⟨v,h1,h2⟩:=r.get e;obtain⟨u,h3,h4⟩:=rv.get h1;refine⟨v,h2,?_,?_⟩
 ·have:us.toArray[j]=u:=by
   have h':j<us.length:=by simpa using h
   have q:us[j]?=some us[j]:=by simp[h']
   rw[h3]at q;simpa using(zv q).symm
  rw[this];exact h4
 ·simp[qbI,hl]
theorem ZjE (I:Inv X jH σ H s)(e1:Zz G Hf H):∀(n:Nat) (A:xD) (d e:D) (x y:V) (u v:Value),ZX d<=n->ZX e<=n->A.units+n+1<cLine->Zk d=true->Zk e=true->Zi G Hf d x->Zi G Hf e y->ZC x u->ZC y v->
  qa4 A s u v (ZB d e)/\qcO A s u v (ZB d e)/\qcl A s u v (!ZB d e):=by
 intro n
 induction n with
 | zero=>
  intro A d e x y u v hd he hu pd pe rd re ru rv;have hu':A.units<cLine:=by omega
  cases d with
  | tup ds=>simp[ZX]at hd
  | lst ds=>simp[ZX]at hd
  | dk _=>simp[Zk]at pd
  | dt _=>simp[Zk]at pd
  | du _=>simp[Zk]at pd
  | df _=>simp[Zk]at pd
  | pen=>simp[Zk]at pd
  | ty _=>simp[Zk]at pd
  | clo _ _=>simp[Zk]at pd
  | non=>
   rw[jg.mp rd]at ru
   cases (show u=zd from ru)
   cases e with
   | tup ds=>simp[ZX]at he
   | lst ds=>simp[ZX]at he
   | dk _=>simp[Zk]at pe
   | dt _=>simp[Zk]at pe
   | du _=>simp[Zk]at pe
   | df _=>simp[Zk]at pe
   | pen=>simp[Zk]at pe
   | ty _=>simp[Zk]at pe
   | clo _ _=>simp[Zk]at pe
   | non=>rw[jg.mp re]at rv;cases (show v=zd from rv);simp only[ZB];exact⟨.same _,.none_none,.none_none⟩
   | bl b=>rw[je.mp re]at rv;cases (show v=yn b from rv);simp only[ZB];exact⟨.none_bool b,.none_bool b,.none_bool b⟩
   | int b=>rw[ja.mp re]at rv;obtain⟨t,rfl⟩:=rv;simp only[ZB];exact⟨.none_int b t,.none_int b t,.none_int b t⟩
   | str b=>rw[jh.mp re]at rv;obtain⟨t,rfl⟩:=rv;simp only[ZB];exact⟨.none_str b t,.none_str b t,.none_str b t⟩
  | bl a=>
   rw[je.mp rd]at ru
   cases (show u=yn a from ru)
   cases e with
   | tup ds=>simp[ZX]at he
   | lst ds=>simp[ZX]at he
   | dk _=>simp[Zk]at pe
   | dt _=>simp[Zk]at pe
   | du _=>simp[Zk]at pe
   | df _=>simp[Zk]at pe
   | pen=>simp[Zk]at pe
   | ty _=>simp[Zk]at pe
   | clo _ _=>simp[Zk]at pe
   | non=>rw[jg.mp re]at rv;cases (show v=zd from rv);simp only[ZB];exact⟨.bool_none a,.bool_none a,.bool_none a⟩
   | bl b=>rw[je.mp re]at rv;cases (show v=yn b from rv);simp only[ZB];exact⟨.bool_bool a b,.bool_bool a b,.bool_bool a b⟩
   | int b=>rw[ja.mp re]at rv;obtain⟨t,rfl⟩:=rv;simp only[ZB];exact⟨.bool_int a b t,.bool_int a b t,.bool_int a b t⟩
   | str b=>rw[jh.mp re]at rv;obtain⟨t,rfl⟩:=rv;simp only[ZB];exact⟨.bool_str a b t,.bool_str a b t,.bool_str a b t⟩
  | int a=>
   rw[ja.mp rd]at ru;obtain⟨ta,rfl⟩:=ru
   cases e with
   | tup ds=>simp[ZX]at he
   | lst ds=>simp[ZX]at he
   | dk _=>simp[Zk]at pe
   | dt _=>simp[Zk]at pe
   | du _=>simp[Zk]at pe
   | df _=>simp[Zk]at pe
   | pen=>simp[Zk]at pe
   | ty _=>simp[Zk]at pe
   | clo _ _=>simp[Zk]at pe
   | non=>rw[jg.mp re]at rv;cases (show v=zd from rv);simp only[ZB];exact⟨.int_none a ta,.int_none a ta,.int_none a ta⟩
   | bl b=>rw[je.mp re]at rv;cases (show v=yn b from rv);simp only[ZB];exact⟨.int_bool a ta b,.int_bool a ta b,.int_bool a ta b⟩
   | int b=>rw[ja.mp re]at rv;obtain⟨t,rfl⟩:=rv;simp only[ZB];exact⟨.int_int a ta b t,.int_int a ta b t,.int_int a ta b t⟩
   | str b=>rw[jh.mp re]at rv;obtain⟨t,rfl⟩:=rv;simp only[ZB];exact⟨.int_str a ta b t,.int_str a ta b t,.int_str a ta b t⟩
  | str a=>
   rw[jh.mp rd]at ru;obtain⟨ta,rfl⟩:=ru
   cases e with
   | tup ds=>simp[ZX]at he
   | lst ds=>simp[ZX]at he
   | dk _=>simp[Zk]at pe
   | dt _=>simp[Zk]at pe
   | du _=>simp[Zk]at pe
   | df _=>simp[Zk]at pe
   | pen=>simp[Zk]at pe
   | ty _=>simp[Zk]at pe
   | clo _ _=>simp[Zk]at pe
   | non=>rw[jg.mp re]at rv;cases (show v=zd from rv);simp only[ZB];exact⟨.str_none a ta,.str_none a ta,.str_none a ta⟩
   | bl b=>rw[je.mp re]at rv;cases (show v=yn b from rv);simp only[ZB];exact⟨.str_bool a ta b,.str_bool a ta b,.str_bool a ta b⟩
   | int b=>rw[ja.mp re]at rv;obtain⟨t,rfl⟩:=rv;simp only[ZB];exact⟨.str_int a ta b t,.str_int a ta b t,.str_int a ta b t⟩
   | str b=>rw[jh.mp re]at rv;obtain⟨t,rfl⟩:=rv;simp only[ZB];exact⟨.str_str a ta b t,.str_str a ta b t,.str_str a ta b t⟩
 | succ n ih=>
  intro A d e x y u v hd he hu pd pe rd re ru rv;have hu':A.units<cLine:=by omega
  by_cases hs:ZX d<=n/\ZX e<=n
  ·exact ih A d e x y u v hs.1 hs.2 (by omega) pd pe rd re ru rv
  -- two refs
  have same:∀{l b:Addr},x=.ref l->y=.ref b->l=b->ZB d e=true:=λex ey el=>by
   subst ex ey el;have:=Zi.inj pd pe rd re;subst this;exact Zcm d pd
  cases d with
  | dk _=>simp[Zk]at pd
  | dt _=>simp[Zk]at pd
  | du _=>simp[Zk]at pd
  | df _=>simp[Zk]at pd
  | pen=>simp[Zk]at pd
  | ty _=>simp[Zk]at pd
  | clo _ _=>simp[Zk]at pd
  | tup ds=>
   obtain⟨l,vs,rfl,nl,hl,rl⟩:=jc.mp rd
   cases (show u=ze l from ru)
   obtain⟨jJ,rits,pits,_⟩:=I.tuple (ZK.of (K:=X.K) (e1 _ _ nl hl));have il:s.heap.IsTuple l jJ.toArray:=pits
   cases e with
   | dk _=>simp[Zk]at pe
   | dt _=>simp[Zk]at pe
   | du _=>simp[Zk]at pe
   | df _=>simp[Zk]at pe
   | pen=>simp[Zk]at pe
   | ty _=>simp[Zk]at pe
   | clo _ _=>simp[Zk]at pe
   | non=>rw[jg.mp re]at rv;cases (show v=zd from rv);simp only[ZB];exact⟨.tuple_none il hu',.tuple_none il hu',.tuple_none il hu'⟩
   | bl b=>rw[je.mp re]at rv;cases (show v=yn b from rv);simp only[ZB];exact⟨.tuple_bool b il hu',.tuple_bool b il hu',.tuple_bool b il hu'⟩
   | int b=>rw[ja.mp re]at rv;obtain⟨t,rfl⟩:=rv;simp only[ZB];exact⟨.tuple_int b t il hu',.tuple_int b t il hu',.tuple_int b t il hu'⟩
   | str b=>rw[jh.mp re]at rv;obtain⟨t,rfl⟩:=rv;simp only[ZB];exact⟨.tuple_str b t il hu',.tuple_str b t il hu',.tuple_str b t il hu'⟩
   | lst es=>
    obtain⟨b,ws,rfl,nb,hb,rb⟩:=jb.mp re
    cases (show v=ze b from rv)
    obtain⟨jO,kg,jX,_⟩:=I.list (Zy.of (K:=X.K) (e1 _ _ nb hb));simp only[ZB];exact⟨.tuple_list il jX.isList hu',.tuple_list il jX.isList hu',.tuple_list il jX.isList hu'⟩
   | tup es=>
    obtain⟨b,ws,rfl,nb,hb,rb⟩:=jc.mp re
    cases (show v=ze b from rv)
    obtain⟨jO,kg,jX,_⟩:=I.tuple (ZK.of (K:=X.K) (e1 _ _ nb hb));have ib:s.heap.IsTuple b jO.toArray:=jX;have hit:∀j (h1:j<jJ.toArray.size) (h2:j<jO.toArray.size),qa4 A.in1 s jJ.toArray[j] jO.toArray[j] ((λj=>ZB (ds.getD j .non) (es.getD j .non)) j):=λj h1 h2=>by
     obtain⟨v1,a1,a2,a3⟩:=Zb0 rl rits h1;obtain⟨v2,b1,b2,b3⟩:=Zb0 rb kg h2;exact(ih A.in1 _ _ v1 v2 _ _ (zC (U3 a3) (by simp[ZX]at hd;omega)) (zC (U3 b3) (by simp[ZX]at he;omega)) (by rw[JQ];omega)
      (Ui (by simpa[Zk]using pd) a3) (Ui (by simpa[Zk]using pe) b3) a1 b1 a2 b2).1
    have sz1:jJ.toArray.size=ds.length:=by rw[rl.length,rits.length];simp
    have sz2:jO.toArray.size=es.length:=by rw[rb.length,kg.length];simp
    have rc:=qcO.tuples (e:=λj=>ZB (ds.getD j .non) (es.getD j .non)) il ib hu' hit;have rn:=qcl.tuples (e:=λj=>ZB (ds.getD j .non) (es.getD j .non)) il ib hu' hit;rw[sz1,sz2,ZeN]at rc rn;simp only[ZB];refine⟨?_,rc,rn⟩;by_cases hlb:l=b
    ·have q:=same rfl rfl hlb
     simp only[ZB]at q;subst hlb;rw[q];exact .same _
    ·exact .of_refs hlb rc
  | lst ds=>
   obtain⟨l,vs,rfl,nl,hl,rl⟩:=jb.mp rd
   cases (show u=ze l from ru)
   obtain⟨jJ,rits,pits,_⟩:=I.list (Zy.of (K:=X.K) (e1 _ _ nl hl));have il:=pits.isList
   cases e with
   | dk _=>simp[Zk]at pe
   | dt _=>simp[Zk]at pe
   | du _=>simp[Zk]at pe
   | df _=>simp[Zk]at pe
   | pen=>simp[Zk]at pe
   | ty _=>simp[Zk]at pe
   | clo _ _=>simp[Zk]at pe
   | non=>rw[jg.mp re]at rv;cases (show v=zd from rv);simp only[ZB];exact⟨.list_none il hu',.list_none il hu',.list_none il hu'⟩
   | bl b=>rw[je.mp re]at rv;cases (show v=yn b from rv);simp only[ZB];exact⟨.list_bool b il hu',.list_bool b il hu',.list_bool b il hu'⟩
   | int b=>rw[ja.mp re]at rv;obtain⟨t,rfl⟩:=rv;simp only[ZB];exact⟨.list_int b t il hu',.list_int b t il hu',.list_int b t il hu'⟩
   | str b=>rw[jh.mp re]at rv;obtain⟨t,rfl⟩:=rv;simp only[ZB];exact⟨.list_str b t il hu',.list_str b t il hu',.list_str b t il hu'⟩
   | tup es=>
    obtain⟨b,ws,rfl,nb,hb,rb⟩:=jc.mp re
    cases (show v=ze b from rv)
    obtain⟨jO,kg,jX,_⟩:=I.tuple (ZK.of (K:=X.K) (e1 _ _ nb hb));have ib:s.heap.IsTuple b jO.toArray:=jX;simp only[ZB];exact⟨.list_tuple il ib hu',.list_tuple il ib hu',.list_tuple il ib hu'⟩
   | lst es=>
    obtain⟨b,ws,rfl,nb,hb,rb⟩:=jb.mp re
    cases (show v=ze b from rv)
    obtain⟨jO,kg,jX,_⟩:=I.list (Zy.of (K:=X.K) (e1 _ _ nb hb));have ib:=jX.isList;have hit:∀j (h1:j<jJ.toArray.size) (h2:j<jO.toArray.size),qa4 A.in1 s jJ.toArray[j] jO.toArray[j] ((λj=>ZB (ds.getD j .non) (es.getD j .non)) j):=λj h1 h2=>by
     obtain⟨v1,a1,a2,a3⟩:=Zb0 rl rits h1;obtain⟨v2,b1,b2,b3⟩:=Zb0 rb kg h2;exact(ih A.in1 _ _ v1 v2 _ _ (zC (U3 a3) (by simp[ZX]at hd;omega)) (zC (U3 b3) (by simp[ZX]at he;omega)) (by rw[JQ];omega)
      (Ui (by simpa[Zk]using pd) a3) (Ui (by simpa[Zk]using pe) b3) a1 b1 a2 b2).1
    have sz1:jJ.toArray.size=ds.length:=by rw[rl.length,rits.length];simp
    have sz2:jO.toArray.size=es.length:=by rw[rb.length,kg.length];simp
    have key:qcO A s (.ref l) (.ref b) (Y8 ds es)/\qcl A s (.ref l) (.ref b) (!Y8 ds es):=by
     by_cases hsz:ds.length=es.length
     ·have rc:=qcO.lists (e:=λj=>ZB (ds.getD j .non) (es.getD j .non)) il ib (by rw[sz1,sz2];exact hsz) hu' hit
      have rn:=qcl.lists (e:=λj=>ZB (ds.getD j .non) (es.getD j .non)) il ib (by rw[sz1,sz2];exact hsz) hu' hit;rw[sz1,ZaJ ds es hsz]at rc rn;exact⟨rc,rn⟩
     ·have hne:(jJ.toArray.size != jO.toArray.size)=true:=by rw[sz1,sz2];simpa using hsz
      have hf:Y8 ds es=false:=by
       cases e:Y8 ds es with
       | false=>rfl
       | true=>exact absurd (Zcn e) hsz
      rw[hf];exact⟨.lists_lengths il ib hne hu',.lists_lengths il ib hne hu'⟩
    simp only[ZB];refine⟨?_,key.1,key.2⟩;by_cases hlb:l=b
    ·have q:=same rfl rfl hlb
     simp only[ZB]at q;subst hlb;rw[q];exact .same _
    ·exact .of_refs hlb key.1
  | non=>
   rw[jg.mp rd]at ru
   cases (show u=zd from ru)
   cases e with
   | tup es=>
    obtain⟨b,ws,rfl,nb,hb,rb⟩:=jc.mp re
    cases (show v=ze b from rv)
    obtain⟨jO,kg,jX,_⟩:=I.tuple (ZK.of (K:=X.K) (e1 _ _ nb hb));have ib:s.heap.IsTuple b jO.toArray:=jX;simp only[ZB];exact⟨.none_tuple ib hu',.none_tuple ib hu',.none_tuple ib hu'⟩
   | lst es=>
    obtain⟨b,ws,rfl,nb,hb,rb⟩:=jb.mp re
    cases (show v=ze b from rv)
    obtain⟨jO,kg,jX,_⟩:=I.list (Zy.of (K:=X.K) (e1 _ _ nb hb));have ib:=jX.isList;simp only[ZB];exact⟨.none_list ib hu',.none_list ib hu',.none_list ib hu'⟩
   | _=>simp[ZX]at hs
  | bl a=>
   rw[je.mp rd]at ru
   cases (show u=yn a from ru)
   cases e with
   | tup es=>
    obtain⟨b,ws,rfl,nb,hb,rb⟩:=jc.mp re
    cases (show v=ze b from rv)
    obtain⟨jO,kg,jX,_⟩:=I.tuple (ZK.of (K:=X.K) (e1 _ _ nb hb));have ib:s.heap.IsTuple b jO.toArray:=jX;simp only[ZB];exact⟨.bool_tuple a ib hu',.bool_tuple a ib hu',.bool_tuple a ib hu'⟩
   | lst es=>
    obtain⟨b,ws,rfl,nb,hb,rb⟩:=jb.mp re
    cases (show v=ze b from rv)
    obtain⟨jO,kg,jX,_⟩:=I.list (Zy.of (K:=X.K) (e1 _ _ nb hb));have ib:=jX.isList;simp only[ZB];exact⟨.bool_list a ib hu',.bool_list a ib hu',.bool_list a ib hu'⟩
   | _=>simp[ZX]at hs
  | int a=>
   rw[ja.mp rd]at ru;obtain⟨ta,rfl⟩:=ru
   cases e with
   | tup es=>
    obtain⟨b,ws,rfl,nb,hb,rb⟩:=jc.mp re
    cases (show v=ze b from rv)
    obtain⟨jO,kg,jX,_⟩:=I.tuple (ZK.of (K:=X.K) (e1 _ _ nb hb));have ib:s.heap.IsTuple b jO.toArray:=jX;simp only[ZB];exact⟨.int_tuple a ta ib hu',.int_tuple a ta ib hu',.int_tuple a ta ib hu'⟩
   | lst es=>
    obtain⟨b,ws,rfl,nb,hb,rb⟩:=jb.mp re
    cases (show v=ze b from rv)
    obtain⟨jO,kg,jX,_⟩:=I.list (Zy.of (K:=X.K) (e1 _ _ nb hb));have ib:=jX.isList;simp only[ZB];exact⟨.int_list a ta ib hu',.int_list a ta ib hu',.int_list a ta ib hu'⟩
   | _=>simp[ZX]at hs
  | str a=>
   rw[jh.mp rd]at ru;obtain⟨ta,rfl⟩:=ru
   cases e with
   | tup es=>
    obtain⟨b,ws,rfl,nb,hb,rb⟩:=jc.mp re
    cases (show v=ze b from rv)
    obtain⟨jO,kg,jX,_⟩:=I.tuple (ZK.of (K:=X.K) (e1 _ _ nb hb));have ib:s.heap.IsTuple b jO.toArray:=jX;simp only[ZB];exact⟨.str_tuple a ta ib hu',.str_tuple a ta ib hu',.str_tuple a ta ib hu'⟩
   | lst es=>
    obtain⟨b,ws,rfl,nb,hb,rb⟩:=jb.mp re
    cases (show v=ze b from rv)
    obtain⟨jO,kg,jX,_⟩:=I.list (Zy.of (K:=X.K) (e1 _ _ nb hb));have ib:=jX.isList;simp only[ZB];exact⟨.str_list a ta ib hu',.str_list a ta ib hu',.str_list a ta ib hu'⟩
   | _=>simp[ZX]at hs
end
section
variable {X:Cx}{G:Gh}
noncomputable def V5 (d e:D):Bool:=Zk d&&Zk e&&decide (ZX d<=60)&&decide (ZX e<=60)
theorem Zdn {d e:D}(h:V5 d e=true):Zk d=true/\Zk e=true/\ZX d<=60/\ZX e<=60:=by
 simp only[V5,zF,decide_eq_true_eq]at h;exact⟨h.1.1.1,h.1.1.2,h.1.2,h.2⟩
noncomputable def V6 (d e:D):Option D:=if V5 d e=true then some (.bl (ZB d e))else none
noncomputable def Wz (d e:D):Option D:=if V5 d e=true then some (.bl (!ZB d e))else none
noncomputable def rEqD (G:Gh)(neg:Bool):R2:=λx y H Q=>∃Hf d e,Zz G Hf H/\V5 d e=true/\Zi G Hf d x/\Zi G Hf e y/\Q (.bl (if neg then !ZB d e else ZB d e)) H
theorem Znd (hu:X.A.units+64<cLine):Yj X (xk .Eq) (rEqD G false):=by
 intro jH s σ H x y v u Q I rx ry h;obtain⟨Hf,d,e,e1,ok,rd,re,q⟩:=h;obtain⟨o1,o2,o3,o4⟩:=Zdn ok;exact(ZjE I e1 60 X.A d e x y v u o3 o4 (by omega) o1 o2 rd re rx ry).2.1 _ _ _ _ ⟨.bl (ZB d e),H,I,rfl,q⟩
theorem Zne (hu:X.A.units+64<cLine):Yj X (xk .NotEq) (rEqD G true):=by
 intro jH s σ H x y v u Q I rx ry h;obtain⟨Hf,d,e,e1,ok,rd,re,q⟩:=h;obtain⟨o1,o2,o3,o4⟩:=Zdn ok;exact(ZjE I e1 60 X.A d e x y v u o3 o4 (by omega) o1 o2 rd re rx ry).2.2 _ _ _ _ ⟨.bl (!ZB d e),H,I,rfl,q⟩
theorem ZjF (hu:X.A.units+64<cLine):XB X G (xk .Eq) V6:=
 ⟨_,Znd (G:=G) hu,λHf H s x y d e c Q e1 st rx ry q k=>by
  unfold V6 at q;split at q
  ·rename_i ok
   cases q
   exact⟨Hf,d,e,e1,ok,rx,ry,k _ Hf H (.refl e1) st (je.mpr rfl) (.scal λz=>z)⟩
  ·cases q⟩
theorem Bl (hu:X.A.units+64<cLine):XB X G (xk .NotEq) Wz:=
 ⟨_,Zne (G:=G) hu,λHf H s x y d e c Q e1 st rx ry q k=>by
  unfold Wz at q;split at q
  ·rename_i ok
   cases q
   exact⟨Hf,d,e,e1,ok,rx,ry,k _ Hf H (.refl e1) st (je.mpr rfl) (.scal λz=>z)⟩
  ·cases q⟩
noncomputable def XT (x:D)(ds:List D):Bool:=Zk x&&Yp ds&&decide (ZX x<=60)&&decide (Y2 ds<=60)
noncomputable def X4 (x:D)(ds:List D):Bool:=ds.any λd=>ZB d x
theorem Zh6 {x:D}{ds:List D}(h:XT x ds=true):Zk x=true/\Yp ds=true/\ZX x<=60/\Y2 ds<=60:=by
 simp only[XT,zF,decide_eq_true_eq]at h;exact⟨h.1.1.1,h.1.1.2,h.1.2,h.2⟩
open Classical in
noncomputable def UH (G:Gh)(Hf:Hp)(x:D)(u:Value):Bool:=if h:∃d v,Zk d=true/\Zi G Hf d v/\ZC v u then ZB h.choose x else false
theorem Zg6 {Hf:Hp}{x d:D}{v:V}{u:Value}(pd:Zk d=true)(r:Zi G Hf d v)(ru:ZC v u):UH G Hf x u=ZB d x:=by
 have h:∃d v,Zk d=true/\Zi G Hf d v/\ZC v u:=⟨d,v,pd,r,ru⟩;unfold UH;rw[dif_pos h];obtain⟨v',p',r',ru'⟩:=h.choose_spec;have ev:v'=v:=ZC.inj ru' ru;subst ev;rw[Zi.inj p' pd r' r]
theorem ZeO {Hf:Hp}{x:D}:∀{ds:List D} {vs:List V} {us:List Value},Yp ds=true->Zf G Hf ds vs->Zu vs us->us.any (UH G Hf x)=X4 x ds
 | [],vs,us,_,r,rv=>by
  rw[Zf.nil_iff.mp r]at rv
  cases rv
  rfl
 | d::ds,vs,us,p,r,rv=>by
  obtain⟨v,rr,rfl,r1,r2⟩:=jd.mp r;have p':Zk d=true/\Yp ds=true:=by simpa[Yp]using p
  cases rv with
  | cons a b=>
   rw[qaM,Zg6 p'.1 r1 a,ZeO p'.2 r2 b];rfl
theorem ZeP {Hf:Hp}:∀{ds:List D} {vs:List V} {us:List Value} {u:Value},Zf G Hf ds vs->Zu vs us->u∈us->∃d v,d∈ds/\Zi G Hf d v/\ZC v u
 | [],vs,us,u,r,rv,m=>by
  rw[Zf.nil_iff.mp r]at rv
  cases rv
  simp at m
 | d::ds,vs,us,u,r,rv,m=>by
  obtain⟨v,rr,rfl,r1,r2⟩:=jd.mp r
  cases rv with
  | cons a b=>
   rcases qp.mp m with e | m
   ·subst e;exact⟨d,v,by simp,r1,a⟩
   ·obtain⟨d',v',m',h1,h2⟩:=ZeP r2 b m
    exact⟨d',v',by simp[m'],h1,h2⟩
noncomputable def rInD (G:Gh)(neg:Bool):R2:=λx y H Q=>∃Hf d ds,Zz G Hf H/\XT d ds=true/\Zi G Hf d x/\(Zi G Hf (.lst ds) y∨Zi G Hf (.tup ds) y)/\Q (.bl (if neg then !X4 d ds else X4 d ds)) H
theorem Zg7 {jH:Qb}{s:Shared}{σ:St}{Hf H:Hp}{d:D}{ds:List D}{x:V}{v:Value}{vs:List V}{jJ:List Value}(hu:X.A.units+64<cLine)(I:Inv X jH σ H s)(e1:Zz G Hf H)(ok:XT d ds=true)(rd:Zi G Hf d x)(rx:ZC x v)
  (rl:Zf G Hf ds vs) (rv:Zu vs jJ):(∀y,y∈jJ.toArray->qa4 X.A.in1 s y v (UH G Hf d y))/\jJ.toArray.any (UH G Hf d)=X4 d ds:=by
 obtain⟨o1,o2,o3,o4⟩:=Zh6 ok;refine⟨λy hy=>?_,?_⟩
 ·obtain⟨c,w,m,h1,h2⟩:=ZeP rl rv (by simpa using hy)
  rw[Zg6 (Ui o2 m) h1 h2];exact(ZjE I e1 60 X.A.in1 c d w x y v (zC (U3 m) o4) o3 (by rw[JQ];omega) (Ui o2 m) o1 h1 rd h2 rx).1
 ·rw[show jJ.toArray.any (UH G Hf d)=jJ.any (UH G Hf d) by simp,ZeO o2 rl rv]
theorem Znf (hu:X.A.units+64<cLine):Yj X (xk .In) (rInD G false):=by
 intro jH s σ H x y v u Q I rx ry h;obtain⟨Hf,d,ds,e1,ok,rd,hl,q⟩:=h;rcases hl with hl | hl
 ·obtain⟨p,vs,rfl,np,hp,rp⟩:=jb.mp hl
  cases (show u=ze p from ry)
  obtain⟨jJ,rv,pl,hz⟩:=I.list (Zy.of (K:=X.K) (e1 _ _ np hp));obtain⟨c1,c2⟩:=Zg7 hu I e1 ok rd rx rp rv;refine SeqAt.in_listAt _ pl.isList c1 ⟨.bl _,H,I,rfl,?_⟩;rw[c2];exact q
 ·obtain⟨p,vs,rfl,np,hp,rp⟩:=jc.mp hl
  cases (show u=ze p from ry)
  obtain⟨jJ,rv,pl,hz⟩:=I.tuple (ZK.of (K:=X.K) (e1 _ _ np hp));obtain⟨c1,c2⟩:=Zg7 hu I e1 ok rd rx rp rv;refine SeqAt.in_tupleAt _ pl c1 ⟨.bl _,H,I,rfl,?_⟩;rw[c2];exact q
end
theorem Zh7:typeLookup (.type "list") "keys" = pure none:=by rw[typeLookup_type,builtinLookup_eq_fast];kernel_rfl
theorem Zad:entryFor table "dict.update.loop" = some Builtin.«dict.update.loop»:=entryFor_of_tree (by kernel_rfl)
theorem BQ:plainId "dict.update.loop" = true:=by decide +kernel
theorem ZaK {prog:xC}{w:World}{A:xD}{E:xE}{s:Shared}{a:Addr}{o:Obj}{xs:Array Value}{k:Nat}{Q:Option Value->Shared->Prop}
  (hx:s.heap.get? a=some o) (hc:o.cls=.type "list") (hdat:o.data=.seq xs k) (hd:o.dict=none) (hA:A.handled=none)
  (h:∀h' tk,(∀b o,s.heap.get? b=some o->h'.get? b=some o)->Q none { s with heap:=h',toks:=tk }) :
  xf (xA prog w) A (getAttr? (.ref a) "keys") Q E s:=by
 have hmiss:=Zh7;have hname:(["__module__","__name__","__qualname__","__doc__","__annotations__"]:List Str).contains ("keys" : Str)=false:=by decide +kernel
 have hsz:("keys" : Str).length+100<=xg:=by decide +kernel
 obtain⟨c,dct,dat,sl⟩:=o;simp only at hc hdat hd;subst hc hdat hd;obtain⟨hp,g,d,tk,os⟩:=s;have hT:∀tk',(⟨hp,g,d,tk',os⟩:Shared).TypeIs (.ref a) "list":=λ_=>⟨_,hx,rfl⟩;have f1:=sub_AttributeError;have f3:=qbn.lookup;have f4:=qbn.bind (.ref a);have f5:=am_list_getattr_none;unfold getAttr? getAttrBy?;refine xa ?_;refine wpAny_mkText ?_;refine xa (wpAny_attempt ?_);unfold getAttrBy
 repeat (any_goals (first | assumption | exact hT _ | ((with_reducible show xf _ _ (call (Value.builtin "list.__getattribute__") _ _) _ _ _);refine call_meets qbn (hT _) am_entry_list_getattribute (F.args_list_getattribute_2 _ _) (meets_getattribute_miss_list a xs k sl "keys" _ hmiss hname hsz) ⟨hx,hA,λh' tk' e hx'=>?_⟩) | wp_step))
 obtain⟨t',u',he⟩:=hx'.there;have hTe:∀tk',(⟨h',g,d,tk',os⟩:Shared).TypeIs (.ref e) "AttributeError":=λ_=>⟨_,he,rfl⟩;have fin:∀tk',xf (xA prog w) A (do
   let b<-isInstance (.ref e) (.type "AttributeError")
   if b=true then pure none else throw (.ref e)) Q E ⟨h',g,d,tk',os⟩:=λtk'=>by
  refine xa (wpAny_isInstance (hTe _) f1 ?_);simp only[if_true];exact xb (h h' tk' hx'.of.keeps)
 show xf _ _ (getattributeRaised _ _ _ _ _ _ _) _ _ _;unfold getattributeRaised
 repeat (any_goals (first | assumption | exact fin _ | wp_step))
section
variable {X:Cx}{jH:Qb}{σ:St}{H:Hp}{s:Shared}{A:xD}{E:xE}{a:Addr}{y v:V}{u r:Value}
theorem Zh8 {H':Hp}{Q:Unit->Shared->Prop}(hu:A.units<cLine)(I:Inv X jH σ H s)(g:WK H a y v H')(ry:ZC y u)(rv:ZC v r)(h:∀s',Inv X jH σ H' s'->Q () s') :
  xf (xA X.prog X.w) A (dictSet a u r) Q E s:=by
 rcases g with⟨kvs,k,e,ey,l,eH⟩ | ⟨kvs,k,b,e,ey,eb,l,eH⟩
 ·subst ey eH
  obtain⟨z,hd,vs,rel,dd⟩:=Zjs I.hok e;have hz:vs.length<=xg:=by rw[<-rel.length];exact z
  have hl:(YD kvs k v).length<=xg:=by have:=UQ kvs k v;omega
  refine wpAny_dictSet_pairs (hsz:=hz) (Ji ry) dd λh' dd' hs=>h _ ?_;have he:∃q,h'.get? a=some q:=let ⟨q,_,_,hq,_⟩:=dd';⟨q,hq⟩;exact JY I (by rw[e];exact qa6) hs he (ZfV hl hd (rel.put k rv) dd')
 ·subst ey eH
  cases (show u=ze b from ry)
  obtain⟨z,hd,xs,rel,dd⟩:=Zmh I.hok e;have hz:xs.length<=xg:=by rw[<-qad rel];exact z
  have hl:(YD kvs k v).length<=xg:=by have:=UQ kvs k v;omega
  refine wpAny_dictSet_heap (hsz:=hz) (knd:=tupleKind (XG X.prog X.w)) hu (Bi I.hok eb) dd λh' dd' hs=>h _ ?_;obtain⟨q,es,ep,hq,h2,h3,h4,_,h5⟩:=dd';refine JY I (by rw[e];exact qa6) hs ⟨q,hq⟩ ⟨hl,hd,_,(rel.put k eb rv).keeps λc ys ec=>?_,q,es,ep,hq,h2,h3,h4,h5⟩;rw[Zq (Zmb ec e (λz=>nomatch z))];exact ec
end
section
variable {X:Cx}{jH:Qb}{σ:St}
inductive Puts (d:Addr):Hp->List V->Hp->Prop
 | nil {H:Hp}:Puts d H [] H
 | cons {H H1 H2:Hp} {b:Addr} {k v:V} {r:List V}:H b=some (.tup [k,v])->WK H d k v H1->Puts d H1 r H2->Puts d H (.ref b::r) H2
theorem ZjG {d l it:Addr}{vs:List V}{E:xE}{Q:Shared->Prop}{H':Hp}{A:xD}(hA:A.handled=none)(hu:A.units+1<cLine)
  (hQ:∀s',Inv X jH σ H' s'->Q s') (hfp:∀Hx:Hp,Hx it=none->Wg X jH Hx it) :
  ∀(k i:Nat) (s:Shared) (H:Hp),vs.length-i=k->i<=vs.length->Inv X jH σ H s->H it=none->s.heap.IsListIter it l i->H l=some (.lst vs)->l≠d->(∀Hx Hy y v,WK Hx d y v Hy->Hx l=some (.lst vs)->Hy l=some (.lst vs))->Puts d H (vs.drop i) H'->
   xo (xA X.prog X.w) A (.builtin "dict.update.loop" ⟨[.ref d,.ref it,rawInt i,.none],[]⟩) (wants (λr s₂=>r=.none/\Q s₂) E) s:=by
 intro k
 induction k with
 | zero=>
  intro i s H hk hi I hit st hl hne hkeep hp;have hil:i=vs.length:=by omega
  obtain⟨jJ,rv,pl,hz⟩:=I.list (Zy.of (K:=X.K) hl);refine xm Zad ?_;rw[yM BQ _];show xf _ A.in1 (pyNext (.ref it) >>= _) _ _ s;obtain⟨f0,f1,f2,f3,f4,f5⟩:=hfp H hit;have jQ:=rv.length;refine xa (wpAny_pyNext_list_end (A:=A.in1) hA st pl.isList (by simp;omega) λh' eb=>?_);have I2:Inv X jH σ H { s with heap:=h' }:=I.turned (t':=s.toks) (λb o hb e=>eb b o hb e) f0 f1 f3 f4 f5;have e0:vs.drop i=[]:=by rw[hil];simp
  rw[e0]at hp
  cases hp
  show xf _ _ (Builtin.Dict.addKeywords d [] >>= _) _ _ _;refine xa (xb ?_);exact xb ⟨rfl,hQ _ I2⟩
 | succ k ih=>
  intro i s H hk hi I hit st hl hne hkeep hp;have hlt:i<vs.length:=by omega
  obtain⟨jJ,rv,pl,hz⟩:=I.list (Zy.of (K:=X.K) hl);have jQ:=rv.length;refine xm Zad ?_;rw[yM BQ _];show xf _ A.in1 (pyNext (.ref it) >>= _) _ _ s;obtain⟨f0,f1,f2,f3,f4,f5⟩:=hfp H hit;have hd:vs.drop i=vs[i]::vs.drop (i+1):=qaA hlt;rw[hd]at hp;generalize hvi:vs[i]=x at hp;generalize hrest:vs.drop (i+1)=rest at hp
  cases hp with
  | @cons _ H1 _ b k0 v0 _ hb hput hrec=>
   have gx:vs[i]?=some (.ref b):=by rw[qI hlt,hvi]
   obtain⟨u,hu1,ru⟩:=rv.get gx
   cases (show u=ze b from ru)
   refine xa (wpAny_pyNext_list_item (A:=A.in1) st pl.isList (x:=.ref b) (by simpa using hu1) λh' st' sb=>?_);have I1:Inv X jH σ H { s with heap:=h' }:=I.turned (t':=s.toks) (λc o hc e=>(sb.2 c hc).trans e) f0 f1 f3 f4 f5;obtain⟨jO,rv2,pt,_⟩:=I1.tuple (ZK.of (K:=X.K) hb);obtain⟨ku,vu,e2,rk,rvv⟩:=rv2.two;subst e2;obtain⟨o,ho,hoc,n,hod⟩:=id pt;show xf _ _ (holding [ze b] _ >>= _) _ _ _;refine xa (xu ?_);refine xa (wpAny_tryCatch ?_);unfold Builtin.Dict.pairItems;refine xa (wpAny_typeOf (T:="tuple") ⟨o,ho,hoc⟩ ?_);rw[if_pos (by decide)];refine xa (xt ho hod ?_);refine xb ?_;show xf _ _ (holding [ku,vu] (dictSet d ku vu)) _ _ _;refine xu ?_;obtain⟨oi,hoi,ci,di⟩:=id st';have Ip:=I1.pinned (fp:=[it]) (λc hc=>by
    have e:c=it:=by simpa using hc
    subst e;exact hfp H hit) (λc hc=>by
    have e:c=it:=by simpa using hc
    subst e;exact⟨oi,hoi,λw z=>by rw[di]at z;cases z⟩)
   refine Zh8 (by rw[JQ];exact hu) Ip hput rk rvv λs2 I2=>?_;have pit:=I2.pin (it,oi) (zx _ (zx _ (JG (by simp) hoi)));have ec:((i:Int)+1)=((i+1:Nat):Int):=by push_cast;rfl
   show xf _ _ (again (.builtin "dict.update.loop" ⟨[.ref d,.ref it,rawInt ((i:Int)+1),.none],[]⟩)) _ _ _;rw[ec];refine xb ⟨plainId_quiet BQ _,?_⟩;refine ih (i+1) s2 H1 (by omega) hlt I2.unpinned pit.2.1 ⟨oi,pit.1,ci,di⟩ (hkeep _ _ _ _ hput hl) hne hkeep ?_;rw[hrest];exact hrec
theorem Zf0 (hc:X.calm=true)(hu:X.A.units+64<cLine)(tk:Bool):XO X (.type "dict") (λxs H Q=>∃l vs,xs=[.ref l]/\H l=some (.lst vs)/\∀p,H p=none->∃H',Puts p (Zj H p (if tk then .dT []else .dK [])) vs H'/\Q (.ref p) H'):=by
 intro jH s σ H xs us Q I r h;obtain⟨l,vs,rfl,hl,q⟩:=h;obtain⟨u,rfl,ru⟩:=Va r
 cases (show u=ze l from ru)
 obtain⟨H',puts,q'⟩:=q s.heap.objs.size (I.hok.fresh (qk _));have hA:=I.ok.hd hc;refine callType_codes (Q₁:=λobj s₁=>obj=.ref s.heap.objs.size/\s₁ = { s with heap:=s.heap.push { cls:=.type "dict",data:=.dict #[] } }) F.kt_called_dict (F.kt_typeCall_dict_1 _) F.entry_dict_init (kt_code_dict_new _ ⟨rfl,rfl⟩) ?_;rintro obj s₁ ⟨rfl,rfl⟩;have hbig:=I.big;have I1:Inv X jH σ (Zj H s.heap.objs.size (if tk then .dT []else .dK [])) { s with heap:=s.heap.push { cls:=.type "dict",data:=.dict #[] } }:=
  I.laid (t':=s.toks) (λb o e=>qd _ e) (qk _) (by
   cases tk
   ·exact ZeE s.heap hbig
   ·exact Zjt s.heap hbig)
 have hnew:(s.heap.push { cls:=.type "dict",data:=.dict #[] }).get? s.heap.objs.size=some { cls:=.type "dict",data:=.dict #[] }:=qw _ rfl;have hTd:({ s with heap:=s.heap.push { cls:=.type "dict",data:=.dict #[] } }:Shared).TypeIs (.ref s.heap.objs.size) "dict":=⟨_,hnew,rfl⟩;have hld:l≠s.heap.objs.size:=ZW hl (I.hok.fresh (qk _));have hl1:(Zj H s.heap.objs.size (if tk then HO.dT []else HO.dK [])) l=some (.lst vs):=by rw[Zq hld];exact hl
 obtain⟨zz,jJ,n,rits,hlo⟩:=(show YI X.prog X.w _ _ l (.lst vs)from I1.hok l _ hl1);refine⟨hTd,F.args_dict_init_2 _ _,?_⟩;unfold Builtin.«dict.__init__»;refine xa ?_;unfold Builtin.Dict.selfAndRest;refine xa (wpAny_notOrdered_dict hTd ?_);show xf _ _ (pure (s.heap.objs.size,[ze l])) _ _ _;refine xb ?_;show xf _ _ (qcu "dict.__init__" s.heap.objs.size (.ref l) [] .none) _ _ _;unfold qcu;have hTl:({ s with heap:=s.heap.push { cls:=.type "dict",data:=.dict #[] } }:Shared).TypeIs (.ref l) "list":=⟨_,hlo,rfl⟩;refine xa (wpAny_typeOf hTl ?_);rw[if_pos (by decide)];refine xa (ZaK hlo rfl rfl rfl hA λh2 tk2 kp2=>?_);simp only[Option.isNone_none,if_true];refine xa (wpAny_rule ?_);have I2:Inv X jH σ (Zj H s.heap.objs.size (if tk then .dT []else .dK [])) { s with heap:=h2,toks:=tk2 }:=I1.kept kp2;obtain⟨its',rv',pl',hz'⟩:=I2.list (Zy.of (K:=X.K) hl1);refine xa (wpAny_pyIter_list pl'.isList ?_);refine xb ⟨plainId_quiet BQ _,?_⟩;have I3:Inv X jH σ (Zj H s.heap.objs.size (if tk then .dT []else .dK [])) { s with heap:=h2.push { cls:=.type "list_iterator",data:=.fields #[.ref l,.int 0 0] },toks:=tk2 }:=I2.kept (t':=tk2) λb o e=>qd _ e;have hfresh:(Zj H s.heap.objs.size (if tk then HO.dT []else HO.dK [])) h2.objs.size=none:=I2.hok.fresh (qk _);have hst:(h2.push { cls:=.type "list_iterator",data:=.fields #[.ref l,.int 0 0] }).IsListIter h2.objs.size l 0:=⟨_,qw _ rfl,rfl,rfl⟩;refine ZjG (l:=l) (vs:=vs) (H':=H') (A:=X.A.in1) (jH:=jH) (σ:=σ) hA (by rw[JQ];omega) (λs' I'=>⟨.ref s.heap.objs.size,H',I',rfl,q'⟩) (λHx hn=>I2.fpOk (qk _) hn) vs.length 0 _ _ rfl (zR _) I3 hfresh hst hl1 hld ?_ puts;intro Hx Hy y v hput hxl;rcases hput with⟨kvs,k,e,ey,l',eH⟩ | ⟨kvs,k,b,e,ey,eb,l',eH⟩
 ·subst eH;rw[Zq hld];exact hxl
 ·subst eH;rw[Zq hld];exact hxl
end
section
variable {X:Cx}{G:Gh}
noncomputable def Jk:D->Option Zt
 | .int i=>some (.inl i)
 | .str x=>some (.inr x)
 | _=>none
noncomputable def XZ:List D->Option (List Zt)
 | []=>some []
 | d::ds=>match Jk d,XZ ds with | some k,some ks=>some (k::ks) | _,_=>none
noncomputable def Br:D->Option V
 | .int i=>some (.int i)
 | .bl b=>some (.bl b)
 | .str x=>some (.str x)
 | .non=>some .non
 | _=>none
theorem Zdo {H:Hp}{d:D}{v:V}{k:Zt}(h:Jk d=some k)(r:Zi G H d v):v=kV k:=by
 cases d with
 | int i=>cases h;rw[ja.mp r];rfl
 | str i=>cases h;rw[jh.mp r];rfl
 | _=>cases h
theorem B1 {H:Hp}:∀{ds:List D} {vs:List V} {ks:List Zt},XZ ds=some ks->Zf G H ds vs->vs=ks.map kV
 | [],vs,ks,h,r=>by cases h;exact Zf.nil_iff.mp r
 | d::ds,vs,ks,h,r=>by
  obtain⟨v,rr,rfl,r1,r2⟩:=jd.mp r;unfold XZ at h
  cases e1:Jk d with
  | none=>rw[e1]at h;cases h
  | some k=>
   cases e2:XZ ds with
   | none=>rw[e1,e2]at h;cases h
   | some ks'=>
    rw[e1,e2]at h
    cases h
    rw[Zdo e1 r1,B1 e2 r2];rfl
theorem Zh9 {H:Hp}{d:D}{v w:V}(h:Br d=some w)(r:Zi G H d v):v=w:=by
 cases d with
 | int i=>cases h;exact ja.mp r
 | str i=>cases h;exact jh.mp r
 | bl i=>cases h;exact je.mp r
 | non=>cases h;exact jg.mp r
 | _=>cases h
noncomputable def pairT:D->Option (List Zt×V)
 | .tup [.tup ks,v]=>match XZ ks,Br v with | some k,some w=>some (k,w) | _,_=>none
 | _=>none
noncomputable def WY:List (List Zt×V)->List D->Option (List (List Zt×V))
 | j6,[]=>some j6
 | j6,d::ds=>match pairT d with | some (k,v)=>WY (YD j6 k v) ds | none=>none
theorem Zf1 {d:D}{k:List Zt}{v:V}(h:pairT d=some (k,v)):∃ks w,d=.tup [.tup ks,w]/\XZ ks=some k/\Br w=some v:=by
 match d,h with
 | .tup [.tup ks,w],h=>
  have h':(match XZ ks,Br w with | some k,some w=>some (k,w) | _,_=>none)=some (k,v):=h
  cases e1:XZ ks with
  | none=>rw[e1]at h';cases h'
  | some k'=>
   cases e2:Br w with
   | none=>rw[e1,e2]at h';cases h'
   | some w'=>rw[e1,e2]at h';cases h';exact⟨ks,w,rfl,e1,e2⟩
theorem ZjH {Hf H:Hp}{p:Addr}(e1:Zz G Hf H)(hp:H p=none):∀{ds:List D} {vs:List V} {j6 res:List (List Zt×V)},Zf G Hf ds vs->WY j6 ds=some res->j6.length+ds.length<=xg->Puts p (Zj H p (.dT j6)) vs (Zj H p (.dT res))
 | [],vs,j6,res,r,h,_=>by
  rw[Zf.nil_iff.mp r]
  cases h
  exact .nil
 | d::ds,vs,j6,res,r,h,hl=>by
  obtain⟨v,rr,rfl,r1,r2⟩:=jd.mp r;unfold WY at h
  cases e:pairT d with
  | none=>rw[e]at h;cases h
  | some kv=>
   obtain⟨k,w⟩:=kv;rw[e]at h;have h:WY (YD j6 k w) ds=some res:=h;obtain⟨ks,wd,rfl,q1,q2⟩:=Zf1 e;obtain⟨b,ws,rfl,nb,hb,rb⟩:=jc.mp r1;obtain⟨v1,v2,rfl,rk,rv⟩:=js rb;obtain⟨c,cs,rfl,nc,hcx,rc⟩:=jc.mp rk;have ec:=B1 q1 rc;subst ec;have ev:=Zh9 q2 rv;subst ev;have hb':=e1 _ _ nb hb;have hc':=e1 _ _ nc hcx;have ll:=UQ j6 k v2;have hl':j6.length+(ds.length+1)<=xg:=by simpa using hl
   refine .cons (by rw[Zq (ZW hb' hp)];exact hb') (WK.t (k:=k) ZM (by rw[Zq (ZW hc' hp)];exact hc') (by omega)) ?_;rw[ZgM];exact ZjH e1 hp r2 h (by omega)
noncomputable def ZjI:List D->Option D
 | [.lst ds]=>if ds.length<=xg then (WY [] ds).map .dt else none
 | _=>none
theorem Zf2 (hc:X.calm=true)(hu:X.A.units+64<cLine):XO X (.type "dict") (λxs H Q=>∃l vs,xs=[.ref l]/\H l=some (.lst vs)/\∀p,H p=none->∃kvs,Puts p (Zj H p (.dT [])) vs (Zj H p (.dT kvs))/\∀o,Q (.ref p) (Zj H p (.frz o (.dT kvs)))):=by
 intro jH s σ H xs us Q I r h;obtain⟨l,vs,ex,hl,hp⟩:=h;refine ZD (Zf0 hc hu true jH s σ H xs us (λv H'=>∃p kvs,v=.ref p/\H'=Zj H p (.dT kvs)/\∀o,Q (.ref p) (Zj H p (.frz o (.dT kvs)))) I r ⟨l,vs,ex,hl,λp hn=>?_⟩) λu s1 ⟨v,H1,I1,r1,p,kvs,ev,eH,q⟩=>?_
 ·obtain⟨kvs,pu,q⟩:=hp p hn
  exact⟨_,pu,p,kvs,rfl,rfl,q⟩
 ·subst ev eH
  have ok:=I1.hok p (.dT kvs) ZM;obtain⟨_,_,xs',_,o,es,ep,h1,_⟩:=(show YI X.prog X.w _ s1.heap p (.dT kvs)from ok);have I2:=I1.write (x:=p) (e:=p) (o:=.frz o (.dT kvs)) (h':=s1.heap) (t':=s1.toks) (by rw[ZM];trivial) (.inl rfl) (λ_ _ _ e=>e) ⟨o,h1⟩ ⟨h1,ok.stay (λ_ _ _ e=>e) (λb e=>?_) λb xs e=>?_⟩
  ·rw[ZgM]at I2
   exact⟨.ref p,_,I2,r1,q o⟩
  ·have:b≠p:=λz=>by rw[z,ZM]at e;cases e
   rw[Zq this];exact e
  ·have:b≠p:=λz=>by rw[z,ZM]at e;cases e
   rw[Zq this];exact e
theorem Zf3 (hc:X.calm=true)(hu:X.A.units+64<cLine):WW X G (.type "dict") ZjI:=
 ⟨_,Zf2 hc hu,λHf H s xs ds c Q e1 st r q k=>by
  match ds,q,r with
  | [.lst es],q,r=>
   have q:(if es.length<=xg then (WY [] es).map D.dt else none)=some c:=q;split at q
   ·rename_i hz
    cases e:WY [] es with
    | none=>rw[e]at q;cases q
    | some res=>
     rw[e]at q
     cases q
     obtain⟨v,rfl,rv⟩:=ji r;obtain⟨l,vs,rfl,nl,hl,rl⟩:=jb.mp rv;refine⟨l,vs,rfl,e1 _ _ nl hl,λp hp=>⟨_,ZjH e1 hp rl e (by simpa using hz),λo=>?_⟩⟩;have nf:=Gh.nofp st hp;have g2:=Gr.new (o:=.frz o (.dT res)) e1 hp nf;exact k (.ref p) _ _ g2 (Gh.grow st hp) (jk.mpr ⟨p,o,rfl,nf,ZM⟩) λa ea _=>by cases ea;exact⟨hp,λds ed=>by cases ed⟩
   ·cases q⟩
theorem Zng (hu:X.A.units+1<cLine):Yj X (xk .In) (λx y H Q=>∃a o,y=.ref a/\Xk H a x o/\Q (.bl o.isSome) H):=by
 intro jH s σ H x y v u Q I rx ry h;obtain⟨a,o,rfl,g,q⟩:=h
 cases (show u=ze a from ry)
 exact d_in hu I g rx λs' I'=>⟨.bl _,H,I',rfl,q⟩
noncomputable def UI:D->D->Option Bool
 | x,.lst ds=>if XT x ds=true then some (X4 x ds)else none
 | x,.tup ds=>if XT x ds=true then some (X4 x ds)else none
 | .tup ks,.dt kvs=>(XZ ks).map λk=>(Yd kvs k).isSome
 | .tup ks,.du kvs=>(XZ ks).map λk=>(Yd kvs k).isSome
 | x,.dk kvs=>(Jk x).map λk=>(Yd kvs k).isSome
 | _,_=>none
noncomputable def Xq (x y:D):Option D:=(UI x y).map .bl
theorem Zia {Hf H:Hp}{x y:V}{d e:D}{b:Bool}(e1:Zz G Hf H)(rx:Zi G Hf d x)(ry:Zi G Hf e y)(h:UI d e=some b) :
  (∃ds,XT d ds=true/\(Zi G Hf (.lst ds) y∨Zi G Hf (.tup ds) y)/\b=X4 d ds)∨∃a o,y=.ref a/\Xk H a x o/\b=o.isSome:=by
 cases e with
 | lst ds=>
  have h:(if XT d ds=true then some (X4 d ds)else none)=some b:=by cases d <;> exact h
  split at h
  ·rename_i ok;cases h;exact .inl ⟨ds,ok,.inl ry,rfl⟩
  ·cases h
 | tup ds=>
  have h:(if XT d ds=true then some (X4 d ds)else none)=some b:=by cases d <;> exact h
  split at h
  ·rename_i ok;cases h;exact .inl ⟨ds,ok,.inr ry,rfl⟩
  ·cases h
 | dt kvs=>
  obtain⟨a,o,rfl,na,ha⟩:=jk.mp ry
  cases d with
  | tup ks=>
   have h:(XZ ks).map (λk=>(Yd kvs k).isSome)=some b:=h
   cases q:XZ ks with
   | none=>rw[q]at h;cases h
   | some k=>
    rw[q]at h;cases h;obtain⟨c,cs,rfl,nc,hcx,rc⟩:=jc.mp rx;have ec:=B1 q rc;subst ec;exact .inr ⟨a,_,rfl,.inr ⟨kvs,k,c,.inr ⟨o,e1 _ _ na ha⟩,rfl,e1 _ _ nc hcx,rfl⟩,rfl⟩
  | _=>cases h
 | du kvs=>
  obtain⟨a,rfl,na,ha⟩:=jm.mp ry
  cases d with
  | tup ks=>
   have h:(XZ ks).map (λk=>(Yd kvs k).isSome)=some b:=h
   cases q:XZ ks with
   | none=>rw[q]at h;cases h
   | some k=>
    rw[q]at h;cases h;obtain⟨c,cs,rfl,nc,hcx,rc⟩:=jc.mp rx;have ec:=B1 q rc;subst ec;exact .inr ⟨a,_,rfl,Xk.t (e1 _ _ na ha) (e1 _ _ nc hcx),rfl⟩
  | _=>cases h
 | dk kvs=>
  obtain⟨a,rfl,na,ha⟩:=jl.mp ry;have h:(Jk d).map (λk=>(Yd kvs k).isSome)=some b:=by cases d <;> exact h
  cases q:Jk d with
  | none=>rw[q]at h;cases h
  | some k=>
   rw[q]at h;cases h;have ek:=Zdo q rx;subst ek;exact .inr ⟨a,_,rfl,Xk.k (e1 _ _ na ha),rfl⟩
 | _=>cases d <;> cases h
theorem Zf4 (hu:X.A.units+64<cLine):XB X G (xk .In) Xq:=
 ⟨_,(Znf (G:=G) hu).or (Zng (by omega)),λHf H s x y d e c Q e1 st rx ry q k=>by
  unfold Xq at q
  cases h:UI d e with
  | none=>rw[h]at q;cases q
  | some b=>
   rw[h]at q;cases q;have kk:=k (.bl b) Hf H (.refl e1) st (je.mpr rfl) (.scal λz=>z);rcases Zia e1 rx ry h with⟨ds,ok,hl,rfl⟩ | ⟨a,o,ey,g,rfl⟩
   ·exact .inl ⟨Hf,d,ds,e1,ok,rx,hl,kk⟩
   ·exact .inr ⟨a,o,ey,g,kk⟩⟩
end
section
variable {X:Cx}{G:Gh}{own ob:List Nat}{fr:Bool}{f:Za->M D}
noncomputable def Zlg (ta:TA):TE:=fun σ H Q=>ta σ H λvs H1=>∃j:Int,vs=[.int j]/\∀p,H1 p=none->Q (.ref p) (Zj H1 p (.rng 0 j))
theorem Zib {a:Expr}{ta:TA}{p pos:Pos}(hg:Gl X "range")(hm:X.mg "range" = none)(ha:PA X [a] ta)(hs:xh [a] X.env=[(false,eval a X.env)]:=by rfl):PE X (.Call (.Name "range" p) [a] [] pos) (Zlg ta):=by
 intro jH s σ H Q I h;refine Call_ (Uv I hg hm boot_range (yq (ZD (ha pos jH s σ H _ I h) λus s1 ⟨vs,H1,I1,r1,q1⟩=>?_) hs rfl));obtain⟨j,e,q⟩:=q1;subst e
 cases r1 with
 | cons r rr=>
  cases rr
  obtain⟨t,rfl⟩:=r;refine call_range_1 ⟨.ref s1.heap.objs.size,Zj H1 s1.heap.objs.size (.rng 0 j),I1.laid (t':=s1.toks+1+1) (λb o e=>qd _ e) (qk _) ?_,rfl,q _ (I1.hok.fresh (qk _))⟩;exact⟨_,_,_,qw _ rfl⟩
theorem Zco:∀(ys:List Value) (lo:Int),(∀(j:Nat) v,ys[j]?=some v->∃t,v=.int (lo+j) t)->Zu ((qm ys.length).map λ(i:Nat)=>V.int (lo+i)) ys
 | [],lo,_=>.nil
 | y::ys,lo,h=>by
  obtain⟨t,e⟩:=h 0 y rfl;rw[qS,yj,qY,qC];refine .cons ⟨t,by rw[e]⟩ ?_;have q:=Zco ys (lo+1) λj v hv=>by
   obtain⟨t,e⟩:=h (j+1) v (by simpa using hv);exact⟨t,by rw[e];congr 1;push_cast;omega⟩
  have ee:((λ(i:Nat)=>V.int (lo+i))∘Nat.succ)=λ(i:Nat)=>V.int (lo+1+i):=by
   funext i;show V.int (lo+(Nat.succ i:Nat))=V.int (lo+1+i);congr 1;push_cast;omega
  rw[ee];exact q
theorem Zd0 (hc:X.calm=true):XO X (.type "list") (λxs H Q=>∃r j,xs=[.ref r]/\H r=some (.rng 0 j)/\-(2 ^ 62)<=j/\j<=2 ^ 24/\∀l,H l=none->Q (.ref l) (Zj H l (.lst ((qm j.toNat).map λ(i:Nat)=>V.int (0+i))))):=by
 intro jH s σ H xs us Q I r h;obtain⟨rr,j,rfl,hr,h1,h2,q⟩:=h;obtain⟨u,rfl,ru⟩:=Va r
 cases (show u=ze rr from ru)
 obtain⟨t,u',v',hro⟩:=(show YI X.prog X.w H s.heap rr (.rng 0 j)from I.hok rr _ hr);have hn:qct 0 j 1=((j.toNat:Nat):Int):=by rw[rangeSize_one];split <;> omega
 refine call_list_range (I.ok.hd hc) (show IsRange s.heap rr 0 j 1 t u' v' from hro) (small_one (by omega) (by omega) h1 (by omega)) hn (by omega) λh' tk acc' c' hk hS hacc=>?_;obtain⟨sz,hit⟩:=hacc;have rv:=Zco acc'.toList 0 λi v hv=>by
  obtain⟨t,e⟩:=hit i v (by simpa using hv);exact⟨t,by rw[e];simp⟩
 have el:acc'.toList.length=j.toNat:=by simpa using sz
 rw[el]at rv;refine⟨.ref s.heap.objs.size,Zj H s.heap.objs.size (.lst ((qm j.toNat).map λ(i:Nat)=>V.int (0+i))),I.laid hk (qk _) ?_,rfl,q _ (I.hok.fresh (qk _))⟩;refine⟨?_,acc'.toList,c',rv,?_⟩
 ·rw[qf,qW]
  show j.toNat<=2 ^ 24;omega
 ·rw[Array.toArray_toList]
  exact hS
noncomputable def JI (f:Za->M D):Za->M D:=fun ρ=>Zo (f ρ) λd=>match d with | .int j=>if -(2 ^ 62)<=j/\j<=2 ^ 24 then ZI (.lst (Z9 0 j.toNat))else ZO | _=>ZO
theorem Zcp {Hf:Hp}(lo:Int):∀(l:List Nat),Zf G Hf (l.map λ(i:Nat)=>D.int (lo+i)) (l.map λ(i:Nat)=>V.int (lo+i))
 | []=>Zf.nil_iff.mpr rfl
 | i::l=>Zf.cons (ja.mpr rfl) (Zcp lo l)
theorem ZaW {a:Expr}{p1 p2 pos1 pos:Pos}{r1:Bool}(hc:X.calm=true)(hg:Gl X "range")(hm:X.mg "range" = none)(hg2:Gl X "list")(hm2:X.mg "list" = none)(hv2:xj "list" = some (.type "list"))(ha:PD X G r1 a f)
  (hs:xh [a] X.env=[(false,eval a X.env)]:=by rfl)
  (he:xh [.Call (.Name "range" p1) [a] [] pos1] X.env=(false,eval (.Call (.Name "range" p1) [a] [] pos1) X.env)::xh [] X.env:=by rfl):PD X G true (.Call (.Name "list" p2) [.Call (.Name "range" p1) [a] [] pos1] [] pos) (JI f):=by
 obtain⟨t,pa,qa⟩:=ha.drop;refine⟨_,Zbj (Zd0 hc) hg2 hm2 hv2 (Y5 (Zib hg hm (Y5 pa Xv (by rw[hs];rfl)) hs) Xv he) (by decide) (by decide) he rfl,fun σ Hf H ρ s d s' Q e1 e2 e3 e4 k=>?_⟩;obtain⟨dj,s1,a1,a2⟩:=ZE e4
 cases dj with
 | int j=>
  obtain⟨c,a3⟩:=YW a2;obtain⟨rfl,rfl⟩:=ZL a3;refine qa σ Hf H ρ s _ _ _ e1 e2 e3 a1 λv jW H1 g st r=>?_;rw[ja.mp r];refine⟨j,rfl,λp hp=>⟨p,j,rfl,ZM,c.1,c.2,λl hl=>?_⟩⟩;have hlp:l≠p:=λz=>by rw[z,ZM]at hl;cases hl
  have hl1:H1 l=none:=by rw[Zq hlp]at hl;exact hl
  have jV:G.st s' (Zj H1 p (.rng 0 j)):=Gh.grow st hp;have nf:=Gh.nofp jV hl;have fp:jW p=none:=by
   cases q:jW p with
   | none=>rfl
   | some o=>rw[g.fh p o (Gh.nofp st hp) q]at hp;cases hp
  have gA:Gr G jW H1 jW (Zj H1 p (.rng 0 j)):=⟨λb o n q=>by rw[Zq (ZW q hp)];exact q,.refl _ _,λb o n q=>by rw[Zq (ZW q fp)];exact g.fh b o n q,λb n h1 h2=>h1⟩;have gB:=Gr.new (o:=.lst ((qm j.toNat).map λ(i:Nat)=>V.int (0+i))) gA.fh hl nf;have rr:Zf G jW (Z9 0 j.toNat) ((qm j.toNat).map λ(i:Nat)=>V.int (0+i)):=Zcp 0 _;refine k (.ref l) _ _ ((g.trans gA).trans gB) (Gh.grow jV hl) (jb.mpr ⟨l,_,rfl,nf,ZM,rr.ext gB.ff⟩) λ_=>?_;exact jn (g.trans gA).hh (λa ea _=>by cases ea;exact nf) (Yh.mk gA.fh hl nf rr)
 | _=>cases a2
noncomputable def Js (i:Nat)(f:Za->M D):Za->M Out:=fun ρ=>Zo (f ρ) λd=>match d,(ρ[i]?).bind id with
 | .lst es,some (.lst ds)=>if ds.length+es.length<=xg then ZI (.nx (ρ.set i (some (.lst (ds++es)))))else ZO
 | _,_=>ZO
theorem Zlh {i:Nat}{te:TE}{r1:Bool}(hi:i∈own)(hy:VE G own r1 te f):BN G ob own own fr (VY (Ua X.K "list" ZbX (Z3 i) (Vz te VB))) (Js i f):=λkn jP H0 σ H ρ s out s' E ⟨Hf,j⟩ st e po=>by
 obtain⟨d,s1,a1,a2⟩:=ZE e
 match d,hb:(ρ[i]?).bind id,a2 with
 | .lst es,some (.lst ds),a2=>
  have a2':(if ds.length+es.length<=xg then ZI (.nx (ρ.set i (some (.lst (ds++es)))))else ZO) s1=some (out,s'):=a2;obtain⟨c2,a3⟩:=YW a2';obtain⟨rfl,rfl⟩:=ZL a3;have ei:=ZbY hb;obtain⟨a,vs,h1,h2,h3,h4⟩:=Vq j hi ei;refine⟨_,h1,.inl ⟨rfl,vs,Zy.of h3⟩,?_⟩;refine hy kn jP H0 σ Hf H ρ s _ s' _ j st a1 λv Hf' H' j' e1 e2 st' r fz=>?_;obtain⟨a',vs',h1',h2',h3',h4'⟩:=Vq j' hi ei;rw[h1]at h1';cases h1';obtain⟨b,ws,rfl,nb,hb2,rb⟩:=jb.mp r;refine⟨a,b,vs',ws,rfl,rfl,h3',j'.gr.fh _ _ nb hb2,by rw[<-h4'.length,<-rb.length];exact c2,?_⟩;exact po σ _ ⟨Hf',j'.put hi ei h1 ⟨vs'++ws,ZM,h4'.append rb⟩⟩ (jz st' h2)
 | .lst _,none,a2=>cases a2
 | .lst _,some .non,a2=>cases a2
 | .lst _,some (.bl _),a2=>cases a2
 | .lst _,some (.int _),a2=>cases a2
 | .lst _,some (.str _),a2=>cases a2
 | .lst _,some (.tup _),a2=>cases a2
 | .lst _,some (.dk _),a2=>cases a2
 | .lst _,some (.dt _),a2=>cases a2
 | .lst _,some (.du _),a2=>cases a2
 | .lst _,some (.df _),a2=>cases a2
 | .lst _,some .pen,a2=>cases a2
 | .lst _,some (.ty _),a2=>cases a2
 | .lst _,some (.clo _ _),a2=>cases a2
theorem Zic {i:Nat}{x:Str}{e:Expr}{pos p1 p2 p3:Pos}{te:TE}(hv:PE X (.Name x p1) (Z3 i))(p:PE X e te)
  (hbase:xq (.Name x p1) "extend" X.env (eval (.Name x p1) X.env)=eval (.Name x p1) X.env:=by rfl)
  (hfew:((backTo p3 (xh [e] X.env)).all (λx=>!x.1)&&(xp p3 (xi [] X.env)).all (λx=>x.1.isSome)
   && decide ([e].length+([]:List Keyword).length+(if ([]:List Keyword).isEmpty then 0 else 1)<30))=true:=by rfl)
  (hline:(p2.endLine==p3.line)=true:=by rfl) (hs:xh [e] X.env=(false,eval e X.env)::xh [] X.env:=by rfl)
  (hsw:xr (.Call (.Attribute (.Name x p1) "extend" p2) [e] [] p3) none pos.line X.env=pure false:=by rfl) :
  PS X (.Expr (.Call (.Attribute (.Name x p1) "extend" p2) [e] [] p3) pos) (VY (Ua X.K "list" ZbX (Z3 i) (Vz te VB))):=
 ZdS (Zjo qbv PySem.F.slot_list_extend PySem.F.type_list_extend ZhV hv (Y5 p Xv hs) hbase hfew hline hs rfl) hsw
theorem ZjJ {i:Nat}{e:Expr}{r1:Bool}{st:Stmt}(hi:i∈own)(he:PD X G r1 e f)(hp:∀te,PE X e te->PS X st (VY (Ua X.K "list" ZbX (Z3 i) (Vz te VB)))):YA X G ob own own fr st (Js i (fun ρ=>f (ZU own ρ))):=by
 obtain⟨t,p,q⟩:=he;exact⟨_,hp t p,Zlh hi (X3.a q)⟩
end
structure BlkS (X:Cx)(XN:List Str)(NS:List (Str×NameKind))(N':List Str)(src:List (Option Nat))(scope:Scope):Prop where
 xn:X.N=XN
 ns:X.env.scope.names=NS
 nocell:∀y∈scope.names,y.2≠.cell
 kind:scope.kind=.function
 names:∀y∈scope.names,y.2=.local->scope.names.lookup y.1=some .local
 len:src.length=N'.length
 free:∀y∈scope.names,y.2=.free->NS.lookup y.1=some .cell∨NS.lookup y.1=some .free
 from_:(src.zip N').all (λp=>match p.1 with | some j=>decide (XN[j]?=some p.2)&&(decide (NS.lookup p.2=some .cell)||decide (NS.lookup p.2=some .free))&&decide (scope.names.lookup p.2=some .free) | none=>true)=true
theorem Zab {env:Env}:∀{names:List (Str×NameKind)} {x:Str},names.lookup x=some .free->
  (names.map λ(n,k)=>if (k==yo&&env.scope.kind == .function&&env.kindOf n==some .cell)then (n,qbe)else (n,k)).lookup x=some .cell∨
  (names.map λ(n,k)=>if (k==yo&&env.scope.kind == .function&&env.kindOf n==some .cell)then (n,qbe)else (n,k)).lookup x=some .free
 | [],_,h=>by simp at h
 | (n,k)::r,x,h=>by
  have ih:=@Zab env r x;show qc6 x ((if (k==yo&&env.scope.kind == .function&&env.kindOf n==some .cell)=true then (n,qbe)else (n,k))::_)=_∨qc6 x ((if (k==yo&&env.scope.kind == .function&&env.kindOf n==some .cell)=true then (n,qbe)else (n,k))::_)=_
  cases hx:x==n with
  | true=>
   simp only[zy,hx]at h
   cases h
   by_cases hc:(yo==yo&&env.scope.kind == .function&&env.kindOf n==some .cell)=true
   ·rw[if_pos hc];left;simp[zy,hx]
   ·rw[if_neg hc];right;simp[zy,hx]
  | false=>
   simp only[zy,hx]at h;by_cases hc:(k==yo&&env.scope.kind == .function&&env.kindOf n==some .cell)=true
   ·rw[if_pos hc];simp only[zy,hx];exact ih h
   ·rw[if_neg hc];simp only[zy,hx];exact ih h
theorem Zaa {env:Env}:∀{names:List (Str×NameKind)} {x:Str} {k':NameKind},(∀y∈names,y.2≠.cell)->(k'=.cell∨k'=.free)->
  (names.map λ(n,k)=>if (k==yo&&env.scope.kind == .function&&env.kindOf n==some .cell)then (n,qbe)else (n,k)).lookup x=some k'->names.lookup x=some .free
 | [],_,_,_,_,h=>by simp at h
 | (n,k)::r,x,k',nc,hk,h=>by
  have ih:=@Zaa env r x k' (λy hy=>nc y (qM _ hy)) hk;have h:qc6 x ((if (k==yo&&env.scope.kind == .function&&env.kindOf n==some .cell)=true then (n,qbe)else (n,k))::_)=_:=h
  cases hx:x==n with
  | true=>
   by_cases hc:(k==yo&&env.scope.kind == .function&&env.kindOf n==some .cell)=true
   ·have:k=.free:=by
     simp only[zF,beq_iff_eq]at hc;exact hc.1.1
    subst this;simp[zy,hx]
   ·rw[if_neg hc]at h
    simp only[zy,hx]at h⊢
    cases h
    rcases hk with rfl | rfl
    ·exact absurd rfl (nc _ zK)
    ·rfl
  | false=>
   by_cases hc:(k==yo&&env.scope.kind == .function&&env.kindOf n==some .cell)=true
   ·rw[if_pos hc]at h;simp only[zy,hx]at h⊢;exact ih h
   ·rw[if_neg hc]at h;simp only[zy,hx]at h⊢;exact ih h
theorem BS {env:Env}:∀(names:List (Str×NameKind)) (j6:List (Str×Addr)),(∀y∈names,y.2=.free->∃c,env.cells.lookup y.1=some c)->
  (∀x c,j6.lookup x=some c->env.cells.lookup x=some c)->
  ∃cl,(forIn names j6 λ(p:Str×NameKind) (cs:List (Str×Addr))=>(if (p.2==yo)=true then do let a<-cellOf env p.1;pure (qaq ((p.1,a)::cs))else pure (qaq cs):Sem (ForInStep (List (Str×Addr)))))=pure cl/\
   (∀x c,cl.lookup x=some c->env.cells.lookup x=some c)/\(∀x c,j6.lookup x=some c->∃c',cl.lookup x=some c')/\∀y∈names,y.2=.free->∃c,cl.lookup y.1=some c
 | [],j6,_,h2=>⟨j6,by simp,h2,λx c h=>⟨c,h⟩,λy hy=>by simp at hy⟩
 | (n,k)::r,j6,h1,h2=>by
  by_cases hk:k=.free
  ·subst hk
   obtain⟨c,hc⟩:=h1 (n,.free) zK rfl;have hcell:cellOf env n=pure c:=by unfold cellOf;rw[hc]
   obtain⟨cl,q1,q2,q3,q4⟩:=BS (env:=env) r ((n,c)::j6) (λy hy=>h1 y (qM _ hy)) λx c' h=>by
    cases hx:x==n with
    | true=>
     simp only[zy,hx]at h
     cases h
     have:x=n:=by simpa using hx
     rw[this];exact hc
    | false=>simp only[zy,hx]at h;exact h2 x c' h
   refine⟨cl,?_,q2,λx c' h=>?_,λy hy hf=>?_⟩
   ·rw[qbN]
    simp only[beq_self_eq_true,if_true,hcell,pure_bind];exact q1
   ·cases hx:x==n with
    | true=>exact q3 x c (by simp[zy,hx])
    | false=>exact q3 x c' (by simp only[zy,hx];exact h)
   ·rcases qp.mp hy with e | hy
    ·subst e;exact q3 n c (by simp[zy])
    ·exact q4 y hy hf
  ·obtain⟨cl,q1,q2,q3,q4⟩:=BS (env:=env) r j6 (λy hy=>h1 y (qM _ hy)) h2
   refine⟨cl,?_,q2,q3,λy hy hf=>?_⟩
   ·rw[qbN]
    have:(k==yo)=false:=by simpa using hk
    simp only[this,qR,if_false,pure_bind];exact q1
   ·rcases qp.mp hy with e | hy
    ·subst e;exact absurd hf hk
    ·exact q4 y hy hf
theorem BlkS.ok {X:Cx}{XN:List Str}{NS:List (Str×NameKind)}{N':List Str}{src:List (Option Nat)}{scope:Scope}(B:BlkS X XN NS N' src scope)(ok:X.Ok):∃cl,BlkOk X N' src scope cl:=by
 have hcells:∀y∈scope.names,y.2=.free->∃c,X.env.cells.lookup y.1=some c:=λy hy hf=>ok.has y.1 (by
  have:=B.free y hy hf;rw[<-B.ns]at this;exact this)
 obtain⟨cl,q1,q2,q3,q4⟩:=BS (env:=X.env) scope.names [] hcells (λx c h=>by simp at h);refine⟨cl,?_,B.nocell,B.kind,B.names,B.len,q2,λx hx=>?_,λi j x e1 e2=>?_⟩
 ·unfold closureFor
  show(forIn scope.names [] _ >>= _)=_;rw[show(forIn scope.names ([]:List (Str×Addr)) λ(x:Str×NameKind) (r:List (Str×Addr))=>_)=_ from q1];rfl
 ·have hf:scope.names.lookup x=some .free:=by
   rcases hx with h | h
   ·exact Zaa B.nocell (.inl rfl) h
   ·exact Zaa B.nocell (.inr rfl) h
  exact q4 (x,.free) (zZ hf) rfl
 ·have hm:(some j,x)∈src.zip N':=by
   have:(src.zip N')[i]?=some (some j,x):=by
    rw[yF];exact⟨e1,e2⟩
   exact zq this
  have q:=yk.mp B.from_ _ hm;simp only[zF,Bool.or_eq_true,decide_eq_true_eq]at q;obtain⟨⟨p1,p2⟩,p3⟩:=q;refine⟨by rw[B.xn];exact p1,?_,Zab p3⟩;show X.env.scope.names.lookup x=_∨X.env.scope.names.lookup x=_;rw[B.ns];exact p2
section
variable {X:Cx}{G:Gh}{elt tg iter:Expr}{ifs:List Expr}{scope:Scope}{pos pos' spos:Pos}{XN:List Str}{NS:List (Str×NameKind)}{N':List Str}{src:List (Option Nat)}{fi:Za->M (List D)}{τ:D->Za->Option Za}{ft:Za->M Bool}{fe:Za->M D}{r1:Bool}{i:Nat}{x:Str}
theorem ZjK (hc:X.calm=true)(B:BlkS X XN NS N' src scope)(hi:WM X G tg iter fi)
  (hg:∀cl jH C s H fp,Vj (blk X jH N' scope cl C s H fp) G tg (λi=>src[i]?=some none) τ) (ht:∀cl jH C s H fp,VD (blk X jH N' scope cl C s H fp) ifs (Jr G ft)) (he:∀cl jH C s H fp,PD (blk X jH N' scope cl C s H fp) G r1 elt fe)
  (hs:∀x,foldedSetIterable iter X.env x=pure x:=by intro _;rfl):PD X G true (.ListComp elt [⟨tg,iter,ifs,0⟩] scope pos) (YC src fi τ ft fe):=by
 obtain⟨wi,pi,qi⟩:=hi;refine⟨_,λjH s σ H Q I h=>?_,ZjA (r1:=r1) qi⟩;obtain⟨cl,B'⟩:=B.ok I.ok;exact Zg1 hc B' pi (λjH C s H fp=>(hg cl jH C s H fp).canon) (ht cl) (λjH C s H fp=>(he cl jH C s H fp).canon) hs jH s σ H Q I h
end
noncomputable def ZY (P:xC)(w:World)(K:qj)(mg:Str->Option Value)(base:Heap)(k:Nat)(x:Str)(n:Nat)(fr:Bool)(GG:Gh->Prop)(F:List D->M D):Prop:=
 ∃f fd ps,FnOk P w K mg base ZQ k f fd ps (Yw n fr GG F)/\mg x=some (.ref f)/\yW K (.ref f)=true/\Wd K fd ps []
theorem ZY.mono {P:xC}{w:World}{K:qj}{mg:Str->Option Value}{base:Heap}{j k:Nat}{x:Str}{n:Nat}{fr:Bool}{GG:Gh->Prop}{F:List D->M D}(c:ZY P w K mg base j x n fr GG F)(h:j<=k:=by decide):ZY P w K mg base k x n fr GG F:=
 let ⟨f,fd,ps,a,b,c,d⟩:=c
 ⟨f,fd,ps,a.mono h,b,c,d⟩
theorem Znh {X:Cx}{G:Gh}{k:Nat}{x:Str}{n:Nat}{fr:Bool}{GG:Gh->Prop}{F:List D->M D}{p pos:Pos}{e:Expr}{es:List Expr}{fs:Za->M (List D)}(c:ZY X.prog X.w X.K X.mg X.base k x n fr GG F)(hG:GG G)(hr:Room k X.A)(hg:Gl X x)
  (ha:WA X G (e::es) fs) (hal:∀ρ s ds s',fs ρ s=some (ds,s')->ds.length=(e::es).length) (jQ:(e::es).length=n:=by rfl)
  (hdb:(x==("__debug__" : Str))=false:=by decide) (he:xh (e::es) X.env=(false,eval e X.env)::xh es X.env:=by rfl) (hpl:(backTo pos (xh es X.env)).any (·.1)=false:=by rfl) :
  PD X G fr (.Call (.Name x p) (e::es) [] pos) (ZA F fs):=by
 obtain⟨f,fd,ps,a,b,c,d⟩:=c;exact Zlc a hG hr hg b c d Zju ha jQ hal hdb he hpl
noncomputable def W1 (h base:Heap)(as:List Addr):Heap:=PySem.W.hideAll h ((qm h.objs.size).filter λa=>!((base.get? a).isSome||decide (a∈as)))
theorem Zid {h base:Heap}{as:List Addr}:(W1 h base as).objs.size=h.objs.size:=qcI _ _
theorem ZeQ {h base:Heap}{as:List Addr}{b:Addr}{o:Obj}(e:h.get? b=some o)(n:(∃u,base.get? b=some u)∨b∈as):(W1 h base as).get? b=some o:=
 qcT _ e λhm=>by
  have q:=(qA.mp hm).2;rcases n with⟨u,n⟩ | n
  ·simp[n]at q
  ·simp[n]at q
theorem Zg8 {h base:Heap}{as:List Addr}{b:Addr}{o:Obj}(e:(W1 h base as).get? b=some o):h.get? b=some o/\((∃u,base.get? b=some u)∨b∈as):=by
 have e':h.get? b=some o:=PySem.W.of_hideAll _ e;refine⟨e',?_⟩;by_cases c:((base.get? b).isSome||decide (b∈as))=true
 ·rcases qcU.mp c with c | c
  ·exact .inl (yI.mp c)
  ·exact .inr (of_decide_eq_true c)
 ·have z:(W1 h base as).get? b=none:=qcJ _ (qA.mpr ⟨qQ.mpr (qH e'),by simpa using c⟩)
  rw[z]at e;cases e
theorem Env0.more {P:xC}{w:World}{K:qj}{mg:Str->Option Value}{base:Heap}{A:xD}{outer:List Env}{s:Shared}{H:Hp}{as:List Addr}(e:Env0 P w K mg base A outer s H)(ha:∀b∈as,H b=none)(hf:∀b∈as,b∉Xy outer) :
  Env0 P w K mg (W1 s.heap base as) A outer s H:=by
 have up:∀b o,base.get? b=some o->(W1 s.heap base as).get? b=some o:=λb o q=>ZeQ (e.bs b o q).1 (.inl ⟨o,q⟩);refine⟨e.frames,⟨e.mod.kin.keeps up,e.mod.glob.keeps up,let ⟨mb,h1,h2⟩:=e.mod.blt;⟨mb,h1.keeps up,h2⟩,e.mod.nolimit.keeps up⟩,λb o q=>?_,Nat.le_of_eq Zid,?_,e.frf,e.hok,e.bare⟩
 ·obtain⟨q1,q2⟩:=Zg8 q
  refine⟨q1,?_⟩;rcases q2 with⟨u,q2⟩ | q2
  ·exact(e.bs b u q2).2
  ·exact ha b q2
 ·have all:∀l:List Env,(∀b∈Xy l,b∈Xy outer)->s.heap.FunFrames base l->s.heap.FunFrames (W1 s.heap base as) l:=by
   intro l
   induction l with
   | nil=>intro _ _;trivial
   | cons env r ih=>
    intro hs hl;obtain⟨hk,⟨L,o,hf',hn,ho,hd⟩,hr⟩:=hl;have hL:L∈Xy outer:=hs L (by unfold Xy;rw[yP,hf'];exact zK);refine⟨hk,⟨L,o,hf',?_,ho,hd⟩,ih (λb hb=>hs b (by unfold Xy;rw[yP,hf'];exact qM _ hb)) hr⟩
    cases q:(W1 s.heap base as).get? L with
    | none=>rfl
    | some u=>
     rcases (Zg8 q).2 with⟨u',q'⟩ | q'
     ·rw[hn]at q';cases q'
     ·exact absurd hL (hf L q')
  exact all outer (λ_ h=>h) e.funs
noncomputable def fnφ (p:Addr)(fd:xB):Heap->Prop:=λh=>∃oc od sl,h.get? p=some ⟨oc,od,.func fd,sl⟩
noncomputable def codeφ (c:Addr)(q:Str):Heap->Prop:=λh=>h.CodeRec (.ref c) q
theorem fnφ_at {P:xC}{w:World}{H:Hp}{h:Heap}{p:Addr}{fd:xB}(ok:Yg P w H h)(e:H p=some (.ext (fnφ p fd))):fnφ p fd h:=(ok p _ e).1
theorem codeφ_at {P:xC}{w:World}{H:Hp}{h:Heap}{c:Addr}{q:Str}(ok:Yg P w H h)(e:H c=some (.ext (codeφ c q))):h.CodeRec (.ref c) q:=(ok c _ e).1
structure CloScope (N ps:List Str)(sc:Scope):Prop where
 kind:sc.kind=.function
 co:sc.isCoroutine=false
 gen:sc.isGenerator=false
 nd:N.Nodup
 pre:N.take ps.length=ps
 par:∀x∈ps,sc.names.lookup x=some .local
 nocell:∀y∈sc.names,y.2≠.cell
noncomputable def Ub (CX:Xo)(P:xC)(w:World)(K:qj)(mg:Str->Option Value)(base:Heap)(N:List Str)(qual:Str)(scope:Scope)(f:Addr)(cd:Value)(cl:List (Str×Addr))(A:xD)(outer:List Env)(s:Shared)(H:Hp)(E:XK):Cx where
 prog:=P
 w:=w
 K:=K
 mg:=mg
 base:=base
 A:=A.deeper (yy qual scope s.heap.objs.size f cd cl)
 N:=N
 s₀:=s
 H₀:=H
 env:=yy qual scope s.heap.objs.size f cd cl
 outer:=outer
 stack:=yy qual scope s.heap.objs.size f cd cl::outer
 ex:=[]
 calm:=true
 fn:=λ_=>false
 pn:=[]
 xe:=λe s'=>xf (xA P w) (A.deeper (yy qual scope s.heap.objs.size f cd cl)) (leaving (yy qual scope s.heap.objs.size f cd cl) e) (λ_ s''=>CX outer H s E e s'') (λe' s''=>CX outer H s E e' s'') s'
structure CloAt (base:Heap)(cl:List (Str×Addr))(sc:Scope)(N ps:List Str)(cvs:List V):Prop where
 inj:∀x y c,cl.lookup x=some c->cl.lookup y=some c->x=y
 cell:∀x c,cl.lookup x=some c->∃v,base.IsCell c v
 has:∀x,sc.names.lookup x=some .free->∃c,cl.lookup x=some c
 cap:∀(i:Nat) (x:Str) (v:V),N[ps.length+i]?=some x->cvs[i]?=some v->sc.names.lookup x=some .free/\∃c u,cl.lookup x=some c/\base.IsCell c (some u)/\ZC v u
 len:N.length=ps.length+cvs.length
theorem ZaX {α:Type}:∀{l:List (Str×α)} {x:Str} {u:α},(l.map (·.1)).Nodup->(x,u)∈l->l.lookup x=some u
 | [],_,_,_,h=>by simp at h
 | (y,w)::l,x,u,nd,h=>by
  rw[qY,zV]at nd;rcases qp.mp h with e | hm
  ·cases e;simp[zy]
  ·have hne:(x==y)=false:=by
    simp only[beq_eq_false_iff_ne];rintro rfl;exact nd.1 (qaf (f:=(·.1)) hm)
   rw[zy,hne];exact ZaX nd.2 hm
theorem ZbF:∀(ps:List Str) (us:List Value),((ps.zip us).map (·.1)).Sublist ps
 | [],_=>by simp
 | _::_,[]=>by simp
 | p::ps,u::us=>by simpa using ZbF ps us
theorem Zcq {ps:List Str}{us:List Value}{i:Nat}{x:Str}{u:Value}(nd:ps.Nodup)(h1:ps[i]?=some x)(h2:us[i]?=some u):(ps.zip us).reverse.lookup x=some u:=by
 refine ZaX ?_ ?_
 ·rw[List.map_reverse]
  refine qcE.mpr ?_;exact(nd.sublist (ZbF _ _)).imp zD
 ·rw[qa8]
  exact zq (i:=i) (yF.mpr ⟨h1,h2⟩)
theorem Zg9 {CX:Xo}{P:xC}{w:World}{K:qj}{mg:Str->Option Value}{base:Heap}{N ps:List Str}{qual:Str}{scope:Scope}{f:Addr}{cd:Value}{cl:List (Str×Addr)}{A:xD}{outer:List Env}{s:Shared}{H:Hp}{E:XK}{us:List Value}{vs cvs:List V}{h':Heap}{tk:Nat}
  (S:CloScope N ps scope) (C:CloAt base cl scope N ps cvs) (hd:A.handled=none) (e0:Env0 P w K mg base A outer s H) (hl:vs.length=ps.length) (r:Zu vs us)
  (hns:h'.Ns s.heap.objs.size (λx=>(ps.zip us).reverse.lookup x)) (hk:∀b o,s.heap.get? b=some o->h'.get? b=some o) :
  Inv (Ub CX P w K mg base N qual scope f cd cl A outer s H E) [] (vs.map some++cvs.map some) H { s with heap:=h',toks:=tk }:=by
 have noA:∀b:Addr,b∉(Ub CX P w K mg base N qual scope f cd cl A outer s H E).ex:=λb z=>absurd (show b∈([]:List Addr)from z) (by simp);have up:∀b o,base.get? b=some o->h'.get? b=some o:=λb o q=>hk b o (e0.bs b o q).1;have cellAt:∀x c,cl.lookup x=some c->∃v,base.IsCell c v:=C.cell;refine⟨⟨e0.mod,S.kind,rfl,rfl,qk _,λy z c h1 h2=>C.inj y z c h1 h2,λy hy=>?_,λy c z _=>(by cases z),λ_=>hd,qcK e0.frames,.inr ⟨rfl,rfl⟩,λb z=>absurd z (noA b),e0.bs,e0.bsz,λb _ _=>noA b,λb z=>absurd z (noA b),e0.funs,e0.frf⟩,
  rfl,e0.bare,Un.kept hk,⟨_,hns,λi y v h1 h2 h3=>?_⟩,λy c h=>?_,e0.hok.fresh (qk _),λy c h=>?_,λp hp=>absurd (show p∈([]:Qb)from hp) (by simp),e0.hok.kept hk,?_⟩
 ·have hy:scope.names.lookup y=some .cell∨scope.names.lookup y=some .free:=hy
  rcases hy with hy | hy
  ·exact absurd rfl (S.nocell _ (zZ hy))
  ·exact C.has y hy
 ·have h1:N[i]?=some y:=h1
  by_cases hi:i<vs.length
  ·have ha:vs[i]?=some v:=by
    rw[zw (by simpa using hi),qu]at h2
    cases e:vs[i]? with
    | none=>rw[e]at h2;cases h2
    | some a=>rw[e]at h2;cases h2;rfl
   obtain⟨u,hu,rv⟩:=r.get ha;have hp:ps[i]?=some y:=by
    rw[<-S.pre,zX (by omega)];exact h1
   have ndP:ps.Nodup:=by rw[<-S.pre];exact S.nd.sublist (yB _ _)
   exact⟨u,rv,.inl ⟨S.par y (zq hp),Zcq ndP hp hu⟩⟩
  ·rw[zM (by simpa using hi),qu,qf]at h2
   have hc:cvs[i-vs.length]?=some v:=by
    cases e:cvs[i-vs.length]? with
    | none=>rw[e]at h2;cases h2
    | some a=>rw[e]at h2;cases h2;rfl
   obtain⟨q1,c,u,q2,q3,q4⟩:=C.cap (i-vs.length) y v (by rw[show ps.length+(i-vs.length)=i by omega];exact h1) hc;exact⟨u,q4,.inr ⟨.inr q1,c,q2,q3.keeps up⟩⟩
 ·obtain⟨v,q⟩:=C.cell y c h
  exact⟨v,q.keeps up⟩
 ·obtain⟨v,o,q,_⟩:=C.cell y c h
  exact(e0.bs c o q).2
 ·show _=N.length
  rw[C.len];simp[hl]
theorem Zli {CX:Xo}{P:xC}{w:World}{K:qj}{mg:Str->Option Value}{base:Heap}{k:Nat}{f:Addr}{name qual:Str}{params:Arguments}{body:Expr}{scope:Scope}{cl:List (Str×Addr)}{pm ct:Value}{c':Addr}{N ps:List Str}{cvs:List V}{sp:Sp}
  (S:CloScope N ps scope) (C:CloAt base cl scope N ps cvs) (len:∀vs H Q E,sp vs H Q E->vs.length=ps.length)
  (at_:∀vs H Q E,sp vs H Q E->H f=some (.ext (fnφ f (qah name qual params body scope cl pm (.ref c') ct)))/\H c'=some (.ext (codeφ c' qual)))
  (hbody:∀(A:xD) (outer:List Env) (s:Shared) (H:Hp) (vs:List V) (Q:VK) (E:XK),Room k (A.deeper (yy qual scope s.heap.objs.size f (.ref c') cl))->sp vs H Q E->
   ∃t,PE (Ub CX P w K mg base N qual scope f (.ref c') cl A outer s H E) body t/\t (vs.map some++cvs.map some) H Q) :
  FnOk P w K mg base CX (k+1) f (qah name qual params body scope cl pm (.ref c') ct) ps sp:=by
 refine⟨len,λA outer s H args us vs Q E hr e0 hb r hsp=>?_⟩;have hl:=len _ _ _ _ hsp;obtain⟨a1,a2⟩:=at_ _ _ _ _ hsp;obtain⟨oc,od,sl,ho⟩:=fnφ_at e0.hok a1;have lim:s.heap.NoLimit:=e0.mod.nolimit.keeps λb o e=>(e0.bs b o e).1;have hkind:∀y∈ps.zip us,scope.names.lookup y.1=some .local:=λ⟨n,v⟩ hy=>S.par n (qao hy).1;refine PySem.W.kla_callFunE hr.depth ho rfl S.co S.gen rfl (codeφ_at e0.hok a2) (hb _ _ _ _ ?_);refine wpAny_newFunctionEnv S.nocell hkind (λh' hns hsb=>?_) S.kind;have hk:∀b o,s.heap.get? b=some o->h'.get? b=some o:=λb o e=>hsb.extBut b o (qT (qH e)) (qd _ e);refine⟨lim.keeps hk,?_⟩;show xo _ _ (.expr body (yy qual scope s.heap.objs.size f (.ref c') cl)) _ _;obtain⟨t,ht,hq⟩:=hbody A outer s H vs Q E (hr.deeper _) hsp;refine PySem.W.kla_codeExpr (xc (ht [] _ _ H Q (Zg9 S C hr.hd e0 hl r hns hk) hq) (λu s' hs=>?_) λe s' hs=>hs);obtain⟨v,H',J,rv,q⟩:=hs;exact⟨v,H',J.os,J.bare,J.base,J.hok,rv,q⟩
theorem Zlj {CX:Xo}{P:xC}{w:World}{K:qj}{mg:Str->Option Value}{base:Heap}{k:Nat}{f:Addr}{name qual:Str}{params:Arguments}{body:List Stmt}{scope:Scope}{cl:List (Str×Addr)}{doc pm ct:Value}{c':Addr}{N ps:List Str}{cvs:List V}{sp:Sp}
  (S:CloScope N ps scope) (C:CloAt base cl scope N ps cvs) (len:∀vs H Q E,sp vs H Q E->vs.length=ps.length)
  (at_:∀vs H Q E,sp vs H Q E->H f=some (.ext (fnφ f (yR name qual params body scope cl .none .none doc pm none (.ref c') ct)))/\H c'=some (.ext (codeφ c' qual)))
  (hbody:∀(A:xD) (outer:List Env) (s:Shared) (H:Hp) (vs:List V) (Q:VK) (E:XK),Room k (A.deeper (yy qual scope s.heap.objs.size f (.ref c') cl))->sp vs H Q E->
   ∃t,X2 (Ub CX P w K mg base N qual scope f (.ref c') cl A outer s H E) body t/\t { nx:=λ_ H'=>Q .non H',rt:=Q } (vs.map some++cvs.map some) H) :
  FnOk P w K mg base CX (k+1) f (yR name qual params body scope cl .none .none doc pm none (.ref c') ct) ps sp:=by
 refine⟨len,λA outer s H args us vs Q E hr e0 hb r hsp=>?_⟩;have hl:=len _ _ _ _ hsp;obtain⟨a1,a2⟩:=at_ _ _ _ _ hsp;obtain⟨oc,od,sl,ho⟩:=fnφ_at e0.hok a1;have lim:s.heap.NoLimit:=e0.mod.nolimit.keeps λb o e=>(e0.bs b o e).1;have hkind:∀y∈ps.zip us,scope.names.lookup y.1=some .local:=λ⟨n,v⟩ hy=>S.par n (qao hy).1;refine codeAny_call_function hr.depth ho rfl S.co S.gen rfl (codeφ_at e0.hok a2) (hb _ _ _ _ ?_);refine wpAny_newFunctionEnv S.nocell hkind (λh' hns hsb=>?_) S.kind;have hk:∀b o,s.heap.get? b=some o->h'.get? b=some o:=λb o e=>hsb.extBut b o (qT (qH e)) (qd _ e);refine⟨lim.keeps hk,?_⟩;show xo _ _ (.func body (yy qual scope s.heap.objs.size f (.ref c') cl)) _ _;obtain⟨t,ht,hq⟩:=hbody A outer s H vs Q E (hr.deeper _) hsp;refine codeAny_func (xc (ht [] _ _ H _ (Zg9 S C hr.hd e0 hl r hns hk) hq) (λfl s' hs=>?_) λe s' hs=>hs)
 cases fl with
 | ret u=>
  obtain⟨v,σ',H',J,rv,q⟩:=hs;exact⟨v,H',J.os,J.bare,J.base,J.hok,rv,q⟩
 | next=>
  obtain⟨σ',H',J,q⟩:=hs;exact⟨.non,H',J.os,J.bare,J.base,J.hok,rfl,q⟩
 | brk=>
  obtain⟨_,_,_,q⟩:=hs;exact yw q
 | cont=>
  obtain⟨_,_,_,q⟩:=hs;exact yw q
structure Mk0 (X:Cx)(c P:Addr):Prop where
 code:X.env.code=.ref c
 hd:yp X.base c P
 bm:∃bm o,X.mg "__builtins__" = some (.ref bm)/\bm≠builtinsNs/\bm≠mainGlobals/\X.base.get? bm=some o/\o.cls=.type "module"/\o.dict=some builtinsNs/\o.data=.plain
noncomputable def Slot (P:Addr)(q:Str)(lpos:Pos)(ps:Array Value)(H Hm:Hp)(c':Addr):Prop:=
 (Hm=H/\codeAmong lpos ps.toList=some (.ref c')/\H c'=some (.ext (codeφ c' q)))∨(codeAmong lpos ps.toList=none/\H c'=none/\c'≠P/\Hm=Zj (Zj H P (.tbl (ps ++ #[rawInt lpos.line,rawInt lpos.col,.ref c']))) c' (.ext (codeφ c' q)))
noncomputable def Zml (P:Addr)(q:Str)(lpos:Pos)(isFd:xB->Addr->Prop)(H:Hp)(R:Addr->Addr->xB->Hp->Prop):Prop:=
 ∃ps,H P=some (.tbl ps)/\TriplesOk ps.toList/\(∀cv,codeAmong lpos ps.toList=some cv->∃c',cv=.ref c'/\H c'=some (.ext (codeφ c' q)))/\
  ∀p c' fd Hm,isFd fd c'->Slot P q lpos ps H Hm c'->Hm p=none->R p c' fd (Zj Hm p (.ext (fnφ p fd)))
section
variable {X:Cx}{jH:Qb}{σ:St}{H:Hp}{s:Shared}{c P:Addr}{ps:Array Value}
theorem Mk0.bat (M:Mk0 X c P)(I:Inv X jH σ H s)(hP:H P=some (.tbl ps)):s.heap.BuiltinsAt X.mg P:=by
 obtain⟨bm,o,e1,e2,e3,e4,e5⟩:=M.bm;refine⟨bm,o,e1,e2,e3,λz=>?_,I.bk _ _ e4,e5⟩;have:=(I.bs _ _ e4).2;rw[z,hP]at this;cases this
theorem gne (I:Inv X jH σ H s)(hP:H P=some (.tbl ps)):mainGlobals≠P:=λz=>by
 obtain⟨o,es,ep,e,_⟩:=I.mod.glob;have:=(I.bs _ _ e).2;rw[z,hP]at this;cases this
theorem Bm {P0:xC}{w:World}{H':Hp}{h:Heap}{a:Addr}{φ:Heap->Prop}(h1:φ h)(h2:∃o,h.get? a=some o)(h3:∀h1 h2:Heap,φ h1->(∀o,h1.get? a=some o->h2.get? a=some o)->φ h2):YI P0 w H' h a (.ext φ):=⟨h1,h2,h3⟩
theorem fnφ_keep {p:Addr}{fd:xB}:∀h1 h2:Heap,fnφ p fd h1->(∀o,h1.get? p=some o->h2.get? p=some o)->fnφ p fd h2:=λh1 h2 ⟨oc,od,sl,e⟩ k=>⟨oc,od,sl,k _ e⟩
theorem codeφ_keep {p:Addr}{q:Str}:∀h1 h2:Heap,codeφ p q h1->(∀o,h1.get? p=some o->h2.get? p=some o)->codeφ p q h2:=λh1 h2 ⟨a,o,vs,t,e,e1,r⟩ k=>by
 cases e
 exact⟨p,o,vs,t,rfl,k _ e1,r⟩
theorem codeφ_there {p:Addr}{q:Str}{h:Heap}(x:codeφ p q h):∃o,h.get? p=some o:=by
 obtain⟨a,o,vs,t,e,e1,r⟩:=x
 cases e
 exact⟨o,e1⟩
theorem Zha {h':Heap}{tk:Nat}{c':Addr}{more:Array Value}{q:Str}(I:Inv X jH σ H s)(hP:H P=some (.tbl ps))(hx:qbg P s.heap h')(hge:s.heap.objs.size<=c')(hc:h'.CodeRec (.ref c') q)(ht:h'.get? P=some (qa0 (ps++more))) :
  Inv X jH σ (Zj (Zj H P (.tbl (ps++more))) c' (.ext (codeφ c' q))) { s with heap:=h',toks:=tk }/\H c'=none/\c'≠P:=by
 have hc0:H c'=none:=I.hok.fresh hge;have hcP:c'≠P:=λz=>by rw[z,hP]at hc0;cases hc0
 have old:∀{b:Addr} {u:HO},H b=some u->b≠c':=λe z=>by rw[z,hc0]at e;cases e
 have get:∀{b:Addr} {u:HO},H b=some u->b≠P->Zj (Zj H P (.tbl (ps++more))) c' (.ext (codeφ c' q)) b=some u:=λ{b u} e n=>by rw[Zq (old e),Zq n];exact e
 refine⟨I.call (g':=s.gens) (d':=s.drawn) (ch:=[]) ?_ ?_ I.bare (λb hb=>absurd hb (by simp)),hc0,hcP⟩
 ·refine⟨λb o e n _ _=>hx b o (λz=>by rw[z,hP]at n;cases n) e,λb o e n _ _=>⟨o.slots,hx b o (λz=>by rw[z,hP]at n;cases n) e⟩,λb o e n _=>?_,λb o e _=>?_,λb xs e=>get e (λz=>by rw[z,hP]at e;cases e),λb o u e=>get e (λz=>by rw[z,hP]at e;cases e),λb ps' e=>?_⟩
  ·rw[Zq (qT (zh (qH e) hge)),Zq (λz=>by rw[z,hP]at n;cases n)];exact n
  ·by_cases hb:b=P
   ·exact⟨_,hb▸ht⟩
   ·exact⟨o,hx b o hb e⟩
  ·by_cases hb:b=P
   ·subst hb
    rw[hP]at e;cases e;exact⟨more,by rw[Zq (old hP),ZM]⟩
   ·exact⟨#[],by rw[get e hb];simp⟩
 ·intro a o e
  by_cases ha:a=c'
  ·subst ha
   rw[ZM]at e;cases e;exact Bm hc (codeφ_there hc) codeφ_keep
  ·rw[Zq ha]at e
   by_cases hb:a=P
   ·subst hb
    rw[ZM]at e;cases e;exact ht
   ·rw[Zq hb]at e
    refine(I.hok a o e).stay (λb u hb' r=>hx b u ?_ r) (λb r=>get r (λz=>by rw[z,hP]at r;cases r)) λb xs r=>get r (λz=>by rw[z,hP]at r;cases r);rcases hb' with rfl | hb'
    ·exact hb
    ·intro z;rw[z,hP]at hb';cases hb'
structure CloOf (X:Cx)(scope:Scope)(cl:List (Str×Addr)):Prop where
 of:∀x c,cl.lookup x=some c->X.env.cells.lookup x=some c
 has:∀y∈scope.names,y.2=.free->∃c,cl.lookup y.1=some c
theorem Zhb {scope:Scope}(ok:X.Ok)(hfree:∀y∈scope.names,y.2=.free->X.env.kindOf y.1=some .cell∨X.env.kindOf y.1=some .free):∃cl,closureFor scope X.env=pure cl/\CloOf X scope cl:=by
 obtain⟨cl,q1,q2,q3,q4⟩:=BS (env:=X.env) scope.names [] (λy hy hf=>ok.has y.1 (hfree y hy hf)) (λx c h=>by simp at h);refine⟨cl,?_,q2,q4⟩;unfold closureFor;show(forIn scope.names [] _ >>= _)=_;rw[show(forIn scope.names ([]:List (Str×Addr)) λ(x:Str×NameKind) (r:List (Str×Addr))=>_)=_ from q1];rfl
theorem Zni {params:Arguments}{body:Expr}{scope:Scope}{lpos:Pos}{q:Str}(M:Mk0 X c P)(hq:X.env.qual ++ "<lambda>" = q)(hfree:∀y∈scope.names,y.2=.free->X.env.kindOf y.1=some .cell∨X.env.kindOf y.1=some .free)(hdef:defaultsOf params X.env=([],[]):=by rfl) :
  PE X (.Lambda params body scope lpos) (fun σ H Q=>Zml P q lpos (λfd c'=>∃cl pm ctv,CloOf X scope cl/\fd=qah "<lambda>" q params body scope cl pm (.ref c') ctv) H λp _ _ H'=>Q (.ref p) H'):=by
 intro jH s σ H Q I ⟨ps,hP,ht,hhit,h⟩;obtain⟨cl,hcl,co⟩:=Zhb I.ok hfree;have hP':s.heap.get? P=some (qa0 ps):=I.hok P _ hP;have hg:s.heap.Ns mainGlobals X.mg:=I.mod.glob.keeps I.bk;have hb:=M.bat I hP;refine PySem.W.kla_eval hdef ?_;rw[hq]
 cases hc:codeAmong lpos ps.toList with
 | some cv=>
  obtain⟨c',rfl,hc'⟩:=hhit cv hc;refine PySem.W.kla_makeFunctionHit hcl I.ok.glob hg M.code (M.hd.keeps I.bk) hP' ht hc hb λctv h' tk hk hsz=>?_;refine⟨.ref h'.objs.size,Zj H h'.objs.size (.ext (fnφ _ _)),I.laid (t':=tk) (λb u e=>qd _ (hk b u e)) hsz (Bm ⟨_,_,_,qw _ rfl⟩ ⟨_,qw _ rfl⟩ fnφ_keep),rfl,h _ c' _ H ⟨cl,_,_,co,rfl⟩ (.inl ⟨rfl,hc,hc'⟩) (I.hok.fresh hsz)⟩
 | none=>
  refine PySem.W.kla_makeFunction hcl I.ok.glob hg M.code (M.hd.keeps I.bk) hP' ht hc (gne I hP) hb λc' ctv h' tk hx hge hlt hrec htb=>?_;obtain⟨I1,hc0,hcP⟩:=Zha (tk:=tk) I hP hx hge hrec htb;refine⟨.ref h'.objs.size,Zj _ h'.objs.size (.ext (fnφ _ _)),I1.laid (t':=tk) (λb u e=>qd _ e) (qk _) (Bm ⟨_,_,_,qw _ rfl⟩ ⟨_,qw _ rfl⟩ fnφ_keep),rfl,h _ c' _ _ ⟨cl,_,_,co,rfl⟩ (.inr ⟨hc,hc0,hcP,rfl⟩) (I1.hok.fresh (qk _))⟩
theorem Znj {name:Str}{params:Arguments}{body:List Stmt}{scope:Scope}{lpos:Pos}{q:Str}{i:Nat}(M:Mk0 X c P)(hN:X.N.Nodup)(hi:X.N[i]?=some name)(hx:W6 X.env.scope name)(hq:qualnameIn X.env name name=q)(hfree:∀y∈scope.names,y.2=.free->X.env.kindOf y.1=some .cell∨X.env.kindOf y.1=some .free)
  (hd0:params.defaults=[]:=by rfl) (hk0:params.kw_defaults=[]:=by rfl) (ha:annTrees params none X.env=[]:=by rfl)
  (hf:X.fn name=true∨X.env.scope.names.lookup name=some .local:=by first | exact .inl rfl | exact .inr rfl | assumption) :
  PS X (.FunctionDef name params body [] none [] scope none name lpos) (λD σ H=>Zml P q lpos (λfd c'=>∃cl doc pm ctv,CloOf X scope cl/\fd=yR name q params body scope cl .none .none doc pm none (.ref c') ctv) H λp _ _ H'=>D.nx (σ.set i (some (.ref p))) H'):=by
 intro jH s σ H D I ⟨ps,hP,ht,hhit,h⟩;obtain⟨cl,hcl,co⟩:=Zhb I.ok hfree;have hP':s.heap.get? P=some (qa0 ps):=I.hok P _ hP;have hg:s.heap.Ns mainGlobals X.mg:=I.mod.glob.keeps I.bk;have hb:=M.bat I hP;refine PySem.W.nestDef_K hd0 hk0 ha ?_;rw[hq]
 cases hc:codeAmong lpos ps.toList with
 | some cv=>
  obtain⟨c',rfl,hc'⟩:=hhit cv hc;refine PySem.W.makeFunction_hit hcl I.ok.glob hg M.code (M.hd.keeps I.bk) hP' ht hc hb λctv doc h' tk hk hsz=>?_;have I1:=I.laid (t':=tk) (o:=.ext (fnφ h'.objs.size (yR name q params body scope cl .none .none doc ((X.mg "__name__").getD .none) none (.ref c') ctv))) (h':=h'.push { cls:=.type "function",data:=.func (yR name q params body scope cl .none .none doc ((X.mg "__name__").getD .none) none (.ref c') ctv) }) (λb u e=>qd _ (hk b u e)) hsz (Bm ⟨_,_,_,qw _ rfl⟩ ⟨_,qw _ rfl⟩ fnφ_keep);exact Zbi I1 hN hi hx (v:=.ref h'.objs.size) rfl (λs' I' _=>⟨_,_,I',h _ c' _ H ⟨cl,_,_,_,co,rfl⟩ (.inl ⟨rfl,hc,hc'⟩) (I.hok.fresh hsz)⟩) hf
 | none=>
  refine PySem.W.makeFunction_K hcl I.ok.glob hg M.code (M.hd.keeps I.bk) hP' ht hc (gne I hP) hb λc' ctv doc h' tk hx' hge hlt hrec htb=>?_;obtain⟨I1,hc0,hcP⟩:=Zha (tk:=tk) I hP hx' hge hrec htb;have I2:=I1.laid (t':=tk) (o:=.ext (fnφ h'.objs.size (yR name q params body scope cl .none .none doc ((X.mg "__name__").getD .none) none (.ref c') ctv))) (h':=h'.push (PySem.W.fnMade name q params body scope cl doc ((X.mg "__name__").getD .none) c' ctv)) (λb u e=>qd _ e) (qk _) (Bm ⟨_,_,_,qw _ rfl⟩ ⟨_,qw _ rfl⟩ fnφ_keep);exact Zbi I2 hN hi hx (v:=.ref h'.objs.size) rfl (λs' I' _=>⟨_,_,I',h _ c' _ _ ⟨cl,_,_,_,co,rfl⟩ (.inr ⟨hc,hc0,hcP,rfl⟩) (I1.hok.fresh (qk _))⟩) hf
end
structure Cells (X:Cx)(σ:St)(base':Heap):Prop where
 inj:∀x y c,X.env.cells.lookup x=some c->X.env.cells.lookup y=some c->x=y
 cell:∀x c,X.env.cells.lookup x=some c->∃v,base'.IsCell c v
 has:∀x,(X.env.kindOf x=some .cell∨X.env.kindOf x=some .free)->∃c,X.env.cells.lookup x=some c
 val:∀(i:Nat) (x:Str) (v:V),X.N[i]?=some x->σ[i]?=some (some v)->X.env.kindOf x=some .cell->∃c u,X.env.cells.lookup x=some c/\base'.IsCell c (some u)/\ZC v u
section
variable {X:Cx}{jH:Qb}{σ:St}{H:Hp}{s:Shared}
noncomputable def Bt (X:Cx):List Addr:=X.env.cells.filterMap λp=>X.env.cells.lookup p.1
theorem Zie {x:Str}{c:Addr}(e:X.env.cells.lookup x=some c):c∈Bt X:=qaP.mpr ⟨(x,c),zZ e,e⟩
theorem ZeR {c:Addr}(h:c∈Bt X):∃x,X.env.cells.lookup x=some c:=by
 obtain⟨p,_,e⟩:=qaP.mp h;exact⟨p.1,e⟩
theorem Zif (I:Inv X jH σ H s)(hfn:∀x,X.fn x=true):Env0 X.prog X.w X.K X.mg (W1 s.heap X.base (Bt X)) X.A X.stack s H/\Cells X σ (W1 s.heap X.base (Bt X)):=by
 have cellK:∀x c v,X.env.cells.lookup x=some c->s.heap.IsCell c v->(W1 s.heap X.base (Bt X)).IsCell c v:=λx c v e ⟨o,ho,hd⟩=>⟨o,ZeQ ho (.inr (Zie e)),hd⟩;refine⟨Env0.more I.env0 (λb hb=>?_) λb hb hf=>?_,⟨I.ok.inj,λx c e=>?_,I.ok.has,λi x v h1 h2 h3=>?_⟩⟩
 ·obtain⟨x,e⟩:=ZeR hb
  exact I.freeC x b e
 ·obtain⟨x,e⟩:=ZeR hb
  rcases qp.mp (I.stkSub b hf)with z | z
  ·exact I.cne x b e z
  ·obtain⟨_,o,ho,_⟩:=I.ok.funs.mem z
   exact absurd (zh (qH ho) (I.ok.cab x b (hfn x) e)) (yL _)
 ·obtain⟨v,q⟩:=I.cell x c e
  exact⟨v,cellK x c v e q⟩
 ·obtain⟨m,_,hl⟩:=I.loc
  obtain⟨u,r,l⟩:=hl i x v h1 h2 (.inr (.inl h3));rcases l with⟨hk,_⟩ | ⟨_,c,hc,hcell⟩
  ·rw[h3]at hk;cases hk
  ·exact⟨c,u,hc,cellK x c _ hc hcell,r⟩
theorem ZeS {x:Str}{p pos:Pos}{e:Expr}{es:List Expr}{t:TA}{k:Nat}{f:Addr}{fd:xB}{ps:List Str}{sp:Heap->Sp}(F:∀base,FnOk X.prog X.w X.K X.mg base ZQ k f fd ps (sp base))(hfn:∀x,X.fn x=true)(hr:Room k X.A)(hg:Gl X x)(hm:X.mg x=some (.ref f))(hk:yW X.K (.ref f)=true)(hb:Wd X.K fd ps [])
  (ha:PA X (e::es) t) (hdb:(x==("__debug__" : Str))=false:=by decide) (he:xh (e::es) X.env=(false,eval e X.env)::xh es X.env:=by rfl) (hpl:(backTo pos (xh es X.env)).any (·.1)=false:=by rfl) :
  PE X (.Call (.Name x p) (e::es) [] pos) (fun σ H Q=>t σ H λvs H1=>∀base',Cells X σ base'->sp base' vs H1 Q E0):=by
 intro jH s σ H Q I h;refine wpAny_Call_Name_kw (ZgN I hg hm ?_ hdb);refine PySem.W.callWith_K (h₀:=X.base) I.ok.mod.kin hk (ZD (ha pos jH s σ H _ I h) λus s1 ⟨vs,H1,I1,r,q⟩=>⟨I1.kIn,?_⟩) he hpl;obtain⟨e0,cs⟩:=Zif I1 hfn;have q':=q _ cs;have hl:(us ++ []).length=ps.length:=by rw[zB,<-r.length];exact(F _).len _ _ _ _ q'
 refine xz (codeAny_mono ((F _).run X.A X.stack s1 H1 ⟨us,[]⟩ us vs Q E0 hr e0 (by have:=hb s1 us I1.kIn hl;rw[zB]at this;exact this) r q') λr s' hq=>?_)
 cases r with
 | error e=>exact hq.elim
 | ok fl=>
  cases fl with
  | ret u=>exact I1.after hq
  | next=>exact yw hq
  | brk=>exact yw hq
  | cont=>exact yw hq
theorem ZjL {x:Str}{p pos:Pos}{e:Expr}{es:List Expr}{t:TA}{k i:Nat}(hf:PE X (.Name x p) (Z3 i))(hr:Room k X.A)(ha:PA X (e::es) t)
  (he:xh (e::es) X.env=(false,eval e X.env)::xh es X.env:=by rfl) (hpl:(backTo pos (xh es X.env)).any (·.1)=false:=by rfl) :
  PE X (.Call (.Name x p) (e::es) [] pos) (fun σ H Q=>∃f fd ps sp,σ[i]?=some (some (.ref f))/\Wd X.K fd ps []/\FnOk X.prog X.w X.K X.mg X.base ZQ k f fd ps sp/\(∀h:Heap,Yg X.prog X.w H h->X.K.In h->fnφ f fd h)/\
   t σ H λvs H1=>(∀h:Heap,Yg X.prog X.w H1 h->X.K.In h->fnφ f fd h)/\sp vs H1 Q E0):=by
 intro jH s σ H Q I ⟨f,fd,ps,sp,e,hb,F,h0,h⟩;refine wpAny_Call_Name_kw (ZD (hf jH s σ H (λv H'=>v=.ref f/\H'=H) I ⟨_,e,rfl,rfl⟩) λu s1 ⟨v,H1,I1,rv,ev,eH⟩=>?_);subst ev eH
 cases (show u=ze f from rv)
 have at1:∀{jH σ H s},Inv X jH σ H s->(∀h:Heap,Yg X.prog X.w H h->X.K.In h->fnφ f fd h)->PySem.W.FnAt f s.heap:=λI z=>by
  obtain⟨oc,od,sl,q⟩:=z _ I.hok I.kIn;exact⟨oc,od,fd,sl,q⟩
 refine PySem.W.callWith_F (at1 I1 h0) (ZD (ha pos jH s1 σ _ _ I1 h) λus s2 ⟨vs,H2,I2,r,h2,q⟩=>⟨at1 I2 h2,?_⟩) he hpl;exact Zjj F hr hb .nil Zju I2 r (by rw[zB];exact q)
end
mutual
noncomputable def Yq:D->Bool
 | .tup ds=>YX ds
 | .lst ds=>YX ds
 | .clo _ _=>false
 | _=>true
noncomputable def YX:List D->Bool
 | []=>true
 | d::ds=>Yq d&&YX ds
end
mutual
theorem Zi.re {G G':Gh}{H:Hp}(hf:G'.fp=G.fp)(hp:G'.pen=G.pen):∀{d:D} {v:V},Yq d=true->Zi G H d v->Zi G' H d v
 | .non,_,_,h=>jg.mpr (jg.mp h)
 | .bl _,_,_,h=>je.mpr (je.mp h)
 | .int _,_,_,h=>ja.mpr (ja.mp h)
 | .str _,_,_,h=>jh.mpr (jh.mp h)
 | .tup ds,v,n,h=>by
  obtain⟨a,vs,e1,nf,e2,r⟩:=jc.mp h;exact jc.mpr ⟨a,vs,e1,by rw[hf];exact nf,e2,Zf.re hf hp (by simpa[Yq]using n) r⟩
 | .lst ds,v,n,h=>by
  obtain⟨a,vs,e1,nf,e2,r⟩:=jb.mp h;exact jb.mpr ⟨a,vs,e1,by rw[hf];exact nf,e2,Zf.re hf hp (by simpa[Yq]using n) r⟩
 | .dk _,_,_,h=>by
  obtain⟨a,e1,nf,e2⟩:=jl.mp h;exact jl.mpr ⟨a,e1,by rw[hf];exact nf,e2⟩
 | .dt _,_,_,h=>by
  obtain⟨a,o,e1,nf,e2⟩:=jk.mp h;exact jk.mpr ⟨a,o,e1,by rw[hf];exact nf,e2⟩
 | .du _,_,_,h=>by
  obtain⟨a,e1,nf,e2⟩:=jm.mp h;exact jm.mpr ⟨a,e1,by rw[hf];exact nf,e2⟩
 | .df _,_,_,h=>by
  obtain⟨a,o,e1,nf,e2⟩:=jt.mp h;exact jt.mpr ⟨a,o,e1,by rw[hf];exact nf,e2⟩
 | .pen,_,_,h=>jp.mpr ((jp.mp h).trans hp.symm)
 | .ty _,_,_,h=>ju.mpr (ju.mp h)
 | .clo _ _,_,n,_=>by simp[Yq]at n
theorem Zf.re {G G':Gh}{H:Hp}(hf:G'.fp=G.fp)(hp:G'.pen=G.pen):∀{ds:List D} {vs:List V},YX ds=true->Zf G H ds vs->Zf G' H ds vs
 | [],_,_,h=>Zf.nil_iff.mpr (Zf.nil_iff.mp h)
 | d::ds,vs,n,h=>by
  obtain⟨v,r,e,h1,h2⟩:=jd.mp h;have n':Yq d=true/\YX ds=true:=by simpa[YX]using n
  exact jd.mpr ⟨v,r,e,Zi.re hf hp n'.1 h1,Zf.re hf hp n'.2 h2⟩
end
theorem Gr.re {G G':Gh}{Hf H Hf' H':Hp}(hf:G'.fp=G.fp)(g:Gr G Hf H Hf' H'):Gr G' Hf H Hf' H':=
 ⟨λb o n=>g.hh b o (by rw[<-hf];exact n),λb o n=>g.ff b o (by rw[<-hf];exact n),λb o n=>g.fh b o (by rw[<-hf];exact n),λb n=>g.nw b (by rw[<-hf];exact n)⟩
theorem Zz.re {G G':Gh}{H H':Hp}(hf:G'.fp=G.fp)(g:Zz G H H'):Zz G' H H':=λb o n=>g b o (by rw[<-hf];exact n)
theorem Yh.re {G G':Gh}{H Hf':Hp}{d:D}{v:V}(hf:G'.fp=G.fp)(hp:G'.pen=G.pen)(n:Yq d=true)(h:Yh G H Hf' d v):Yh G' H Hf' d v:=λa e m=>by
 obtain⟨h1,h2⟩:=h a e m;refine⟨h1,λds ed=>?_⟩;obtain⟨vs,Hm,q1,q2,q3,q4⟩:=h2 ds ed;subst ed;exact⟨vs,Hm,q1,q2,q3.re hf,q4.re hf hp (by simpa[Yq]using n)⟩
noncomputable def spK (n:Nat)(G:Gh)(cvs:List V)(F:List D->M D):Sp:=λus H Q _=>∃(Hf:Hp) (ds cds:List D) (s:Pn) (d:D) (s':Pn),us.length=n/\Zz G Hf H/\Zf G Hf ds us/\Zf G Hf cds cvs/\G.st s H/\F (ds++cds) s=some (d,s')/\
 ∀v Hf' H',Gr G Hf H Hf' H'->G.st s' H'->Zi G Hf' d v->Q v H'
noncomputable def VH (P:xC)(w:World)(K:qj)(mg:Str->Option Value)(k n:Nat)(T:Nat->List D->M D)(base:Heap)(G:Gh):Prop:=
 ∀t v cvs,G.clo t v cvs->∃f fd ps,v=.ref f/\ps.length=n/\Wd K fd ps []/\(∀s H,G.st s H->∀h:Heap,Yg P w H h->K.In h->fnφ f fd h)/\FnOk P w K mg base ZQ k f fd ps (spK n G cvs (T t))
noncomputable def BE (T:Nat->List D->M D)(i:Nat)(fs:Za->M (List D)):Za->M D:=fun ρ=>Zo (Zb i ρ) λc=>Zo (fs ρ) λds=>match c with | .clo t cds=>T t (ds++cds) | _=>ZO
theorem Zig {i:Nat}{ρ:Za}{s s':Pn}{d:D}(h:Zb i ρ s=some (d,s')):ρ[i]?=some (some d)/\s'=s:=by
 obtain⟨e,rfl⟩:=WR h;refine⟨?_,rfl⟩
 cases q:ρ[i]? with
 | none=>rw[q]at e;cases e
 | some o=>rw[q]at e;simp at e;rw[e]
section
variable {X:Cx}{G:Gh}
theorem ZjM {T:Nat->List D->M D}{k n i:Nat}{x:Str}{p pos:Pos}{e:Expr}{es:List Expr}{fs:Za->M (List D)}(hG:VH X.prog X.w X.K X.mg k n T X.base G)(hr:Room k X.A)(hf:PE X (.Name x p) (Z3 i))(ha:WA X G (e::es) fs)
  (hal:∀ρ s ds s',fs ρ s=some (ds,s')->ds.length=(e::es).length) (jQ:(e::es).length=n:=by rfl)
  (he:xh (e::es) X.env=(false,eval e X.env)::xh es X.env:=by rfl) (hpl:(backTo pos (xh es X.env)).any (·.1)=false:=by rfl) :
  PD X G false (.Call (.Name x p) (e::es) [] pos) (BE T i fs):=by
 obtain⟨t,pa,qa⟩:=ha;refine⟨_,ZjL hf hr pa he hpl,fun σ Hf H ρ s d s' Q e1 e2 e3 e4 k=>?_⟩;obtain⟨c,s0,b0,b1⟩:=ZE e4;obtain⟨a0,rfl⟩:=Zig b0;obtain⟨ds,s1,a1,a2⟩:=ZE b1
 cases c with
 | clo t cds=>
  obtain⟨v,hσ,r⟩:=e2 i _ a0;obtain⟨cvs,hc,rc⟩:=jw.mp r;obtain⟨f,fd,ps,rfl,hl,hb,hat,F⟩:=hG t v cvs hc;refine⟨f,fd,ps,_,hσ,hb,F,hat _ H e3,qa σ Hf H ρ _ ds s1 _ e1 e2 e3 a1 λvs jW H1 g1 j8 r1=>⟨hat _ H1 j8,jW,ds,cds,s1,d,s',?_,g1.fh,r1,rc.ext g1.ff,j8,a2,λv kd H2 g2 jV r2=>k v kd H2 (g1.trans g2) jV r2 (λz=>by cases z)⟩⟩;rw[<-r1.length,hal _ _ _ _ a1];exact jQ
 | _=>cases a2
end
noncomputable def VI (n:Nat)(f:Za->M D):List D->M D:=λds=>if ds.length=n then f (ds.map some)else ZO
theorem Zhc {G:Gh}{Hf:Hp}{ds:List D}{vs:List V}(r:Zf G Hf ds vs):Yx G Hf (vs.map some) (ds.map some):=λi d e=>by
 rw[qu]at e
 cases q:ds[i]? with
 | none=>rw[q]at e;cases e
 | some d'=>
  rw[q]at e;cases e;obtain⟨v,h1,h2⟩:=r.get q;exact⟨v,by rw[qu,h1];rfl,h2⟩
theorem fnKE {P:xC}{w:World}{K:qj}{mg:Str->Option Value}{base:Heap}{k:Nat}{f:Addr}{name qual:Str}{params:Arguments}{body:Expr}{scope:Scope}{cl:List (Str×Addr)}{pm ct:Value}{c':Addr}{N ps:List Str}{cvs:List V}{G:Gh}{fr:Bool}{fe:Za->M D}
  (S:CloScope N ps scope) (C:CloAt base cl scope N ps cvs) (hG:∀s H,G.st s H->H f=some (.ext (fnφ f (qah name qual params body scope cl pm (.ref c') ct)))/\H c'=some (.ext (codeφ c' qual)))
  (hb:∀(A:xD) (outer:List Env) (s:Shared) (H:Hp) (E:XK),Room k (A.deeper (yy qual scope s.heap.objs.size f (.ref c') cl))->PD (Ub ZQ P w K mg base N qual scope f (.ref c') cl A outer s H E).nox G fr body fe) :
  FnOk P w K mg base ZQ (k+1) f (qah name qual params body scope cl pm (.ref c') ct) ps (spK ps.length G cvs (VI N.length fe)):=by
 refine Zli (cvs:=cvs) S C (λvs H Q E ⟨_,_,_,_,_,_,h,_⟩=>h) (λvs H Q E ⟨_,_,_,s,_,_,_,_,_,_,st,_⟩=>hG s H st) λA outer s H vs Q E hr h=>?_;obtain⟨Hf,ds,cds,pn,d,pn',el,e1,r1,r2,st,eF,k'⟩:=h;obtain⟨t,p,q⟩:=hb A outer s H E hr;refine⟨t,p.nox,?_⟩;obtain⟨hl,a0⟩:=YW eF;have env:=Zhc (r1.append r2);rw[zf]at env;exact q _ Hf H _ pn d pn' Q e1 env st a0 λv Hf' H' g st' r _=>k' v Hf' H' g st' r
theorem fnKS {P:xC}{w:World}{K:qj}{mg:Str->Option Value}{base:Heap}{k:Nat}{f:Addr}{name qual:Str}{params:Arguments}{body:List Stmt}{scope:Scope}{cl:List (Str×Addr)}{doc pm ct:Value}{c':Addr}{N ps:List Str}{cvs:List V}{G:Gh}{fr:Bool}{g:Za->M Out}
  (S:CloScope N ps scope) (C:CloAt base cl scope N ps cvs) (hG:∀s H,G.st s H->H f=some (.ext (fnφ f (yR name qual params body scope cl .none .none doc pm none (.ref c') ct)))/\H c'=some (.ext (codeφ c' qual)))
  (hb:∀(A:xD) (outer:List Env) (s:Shared) (H:Hp) (E:XK),Room k (A.deeper (yy qual scope s.heap.objs.size f (.ref c') cl))->Xl (Ub ZQ P w K mg base N qual scope f (.ref c') cl A outer s H E).nox G [] [] [] fr body g) :
  FnOk P w K mg base ZQ (k+1) f (yR name qual params body scope cl .none .none doc pm none (.ref c') ct) ps (spK ps.length G cvs (runB N.length N.length g)):=by
 refine Zlj (cvs:=cvs) S C (λvs H Q E ⟨_,_,_,_,_,_,h,_⟩=>h) (λvs H Q E ⟨_,_,_,s,_,_,_,_,_,_,st,_⟩=>hG s H st) λA outer s H vs Q E hr h=>?_;obtain⟨Hf,ds,cds,pn,d,pn',el,e1,r1,r2,st,eF,k'⟩:=h;obtain⟨t,p,q⟩:=hb A outer s H E hr;refine⟨t,p.nox,?_⟩;obtain⟨hl,a0⟩:=YW eF;obtain⟨o,s1,a1,a2⟩:=ZE a0;have env:=Zhc (r1.append r2);rw[zf,zf]at env;rw[qc0,List.replicate_zero,zB,zf]at a1;have j0:Jf G [] Hf Hf H (vs.map some++cvs.map some) Hf H (ds.map some++cds.map some):=by
  refine⟨?_,.refl _ _,.refl e1,λi d n e=>env i d e,λi d m e=>absurd m (by simp),λi j a di dj mi mj n e=>absurd mi (by simp)⟩;simp[r1.length,r2.length]
 refine q Hf Hf H _ H _ pn o s1 _ ⟨Hf,j0⟩ st a1 ?_
 cases o with
 | rt c=>
  obtain⟨rfl,rfl⟩:=ZL a2;exact λv Hf' H' g' jV r2 fz=>k' v Hf' H' g' jV r2
 | nx ρ'=>
  obtain⟨rfl,rfl⟩:=ZL a2;exact fun σ' H' ⟨Hf',j'⟩ jV=>k' .non Hf' H' j'.gr jV (jg.mpr rfl)
 | bk ρ'=>cases a2
 | ct ρ'=>cases a2
structure TabG (P:Addr)(q:Str)(G:Gh):Prop where
 get:∀s H,G.st s H->∃ps,H P=some (.tbl ps)/\TriplesOk ps.toList/\∀pos cv,codeAmong pos ps.toList=some cv->∃c',cv=.ref c'/\H c'=some (.ext (codeφ c' q))/\¬G.fp c'
 fp:G.fp P
 put:∀s H ps (pos:Pos) c',G.st s H->H P=some (.tbl ps)->H c'=none->codeAmong pos ps.toList=none->G.st s (Zj (Zj H P (.tbl (ps ++ #[rawInt pos.line,rawInt pos.col,.ref c']))) c' (.ext (codeφ c' q)))
noncomputable def Wh (G:Gh)(t:Nat)(p c':Addr)(fd:xB)(q:Str)(cvs:List V):Gh where
 fp:=G.fp
 rd:=G.rd
 pen:=G.pen
 st:=λs H=>G.st s H/\H p=some (.ext (fnφ p fd))/\H c'=some (.ext (codeφ c' q))
 mono:=λs H H' ⟨h1,h2,h3⟩ k1 k2=>⟨G.mono s H H' h1 k1 k2,k2 _ _ h2,k2 _ _ h3⟩
 sub:=G.sub
 dom:=λs H b h=>G.dom s H b h.1
 ntp:=λs H b vs h=>G.ntp s H b vs h.1
 clo:=λt' v cs=>t'=t/\v=.ref p/\cs=cvs
noncomputable def VJ (P:xC)(w:World)(K:qj)(mg:Str->Option Value)(k:Nat)(x:Str)(n:Nat)(fr:Bool)(GG:Heap->Gh->Prop)(F:List D->M D):Prop:=
 ∃f fd ps,(∀base,FnOk P w K mg base ZQ k f fd ps (Yw n fr (GG base) F))/\mg x=some (.ref f)/\yW K (.ref f)=true/\Wd K fd ps []
theorem VJ.mono {P:xC}{w:World}{K:qj}{mg:Str->Option Value}{j k:Nat}{x:Str}{n:Nat}{fr:Bool}{GG:Heap->Gh->Prop}{F:List D->M D}(c:VJ P w K mg j x n fr GG F)(h:j<=k:=by decide):VJ P w K mg k x n fr GG F:=
 let ⟨f,fd,ps,a,b,c,d⟩:=c
 ⟨f,fd,ps,λbase=>(a base).mono h,b,c,d⟩
structure CapS (X:Cx)(XN:List Str)(NS:List (Str×NameKind))(N ps:List Str)(cix:List Nat)(scope:Scope):Prop where
 xn:X.N=XN
 ns:X.env.scope.names=NS
 len:N.length=ps.length+cix.length
 at_:(cix.zip (N.drop ps.length)).all (λp=>decide (XN[p.1]?=some p.2)&&decide (NS.lookup p.2=some .cell)&&decide (scope.names.lookup p.2=some .free))=true
 free:∀y∈scope.names,y.2=.free->NS.lookup y.1=some .cell∨NS.lookup y.1=some .free
theorem CapS.hfree {X:Cx}{XN:List Str}{NS:List (Str×NameKind)}{N ps:List Str}{cix:List Nat}{scope:Scope}(B:CapS X XN NS N ps cix scope):∀y∈scope.names,y.2=.free->X.env.kindOf y.1=some .cell∨X.env.kindOf y.1=some .free:=λy hy hf=>by
 have:=B.free y hy hf;rw[<-B.ns]at this;exact this
theorem CapS.cloAt {X:Cx}{XN:List Str}{NS:List (Str×NameKind)}{N ps:List Str}{cix:List Nat}{scope:Scope}{σ:St}{base':Heap}{cl:List (Str×Addr)}{cvs:List V}(B:CapS X XN NS N ps cix scope)(cs:Cells X σ base')(co:CloOf X scope cl)(hl:cvs.length=cix.length)
  (hv:∀(i j:Nat) (v:V),cix[i]?=some j->cvs[i]?=some v->σ[j]?=some (some v)):CloAt base' cl scope N ps cvs:=by
 refine⟨λx y c h1 h2=>cs.inj x y c (co.of x c h1) (co.of y c h2),λx c h=>cs.cell x c (co.of x c h),λx h=>co.has (x,.free) (zZ h) rfl,λi x v h1 h2=>?_,by rw[B.len,hl]⟩;have hi:i<cix.length:=by rw[<-hl];exact(qq.mp h2).1
 have hj:cix[i]?=some cix[i]:=qI hi;have hx:(N.drop ps.length)[i]?=some x:=by rw[yh];exact h1
 have q:=yk.mp B.at_ (cix[i],x) (zq (i:=i) (yF.mpr ⟨hj,hx⟩));simp only[zF,decide_eq_true_eq]at q;obtain⟨⟨q1,q2⟩,q3⟩:=q;refine⟨q3,?_⟩;obtain⟨c,u,e1,e2,e3⟩:=cs.val cix[i] x v (by rw[B.xn];exact q1) (hv i _ v hj h2) (by show X.env.scope.names.lookup x=_;rw[B.ns];exact q2);obtain⟨c2,e4⟩:=co.has (x,.free) (zZ q3) rfl;have e5:=co.of x c2 e4;rw[e1]at e5;cases e5;exact⟨c,u,e4,e2,e3⟩
noncomputable def Jl (ρ:Za):List Nat->Option (List D)
 | []=>some []
 | i::r=>((ρ[i]?).bind id).bind λd=>(Jl ρ r).map (d :: ·)
theorem Zcr {G:Gh}{Hf:Hp}{σ:St}{ρ:Za}(e:Yx G Hf σ ρ):∀{cix:List Nat} {cds:List D},Jl ρ cix=some cds->∃cvs,cvs.length=cix.length/\Zf G Hf cds cvs/\∀(i j:Nat) (v:V),cix[i]?=some j->cvs[i]?=some v->σ[j]?=some (some v)
 | [],cds,h=>by cases h;exact⟨[],rfl,Zf.nil_iff.mpr rfl,λi j v h1=>by simp at h1⟩
 | a::r,cds,h=>by
  unfold Jl at h
  cases q:(ρ[a]?).bind id with
  | none=>rw[q]at h;cases h
  | some d=>
   rw[q]at h
   cases q2:Jl ρ r with
   | none=>rw[q2]at h;cases h
   | some ds=>
    rw[q2]at h;cases h;obtain⟨v,h1,h2⟩:=e a d (by
     cases q3:ρ[a]? with
     | none=>rw[q3]at q;cases q
     | some o=>rw[q3]at q;simp at q;rw[q])
    obtain⟨cvs,l1,l2,l3⟩:=Zcr e q2;refine⟨v::cvs,by simp[l1],Zf.cons h2 l2,λi j u e1 e2=>?_⟩
    cases i with
    | zero=>simp at e1 e2;subst e1;subst e2;exact h1
    | succ i=>exact l3 i j u (by simpa using e1) (by simpa using e2)
noncomputable def UJ (F:List D->M D)(t:Nat)(cix:List Nat)(f:Za->M D):Za->M D:=fun ρ=>Zo (f ρ) λd=>Zo (Xp (Jl ρ cix)) λcds=>if (Yq d&&YX cds)=true then Zo (F [d,.clo t cds]) λc=>if Yq c=true then ZI c else ZO else ZO
section
variable {X:Cx}{G:Gh}{P c:Addr}{q:Str}
theorem Zhd {lpos:Pos}{ps:Array Value}{H Hm:Hp}{c':Addr}{s:Pn}(TG:TabG P q G)(st:G.st s H)(hP:H P=some (.tbl ps))(sl:Slot P q lpos ps H Hm c'):G.st s Hm/\Hm c'=some (.ext (codeφ c' q))/\Zz G H Hm:=by
 rcases sl with⟨rfl,h1,h2⟩ | ⟨h1,h2,h3,rfl⟩
 ·exact⟨st,h2,.refl _ _⟩
 ·refine⟨TG.put s H ps lpos c' st hP h2 h1,ZM,λb o n e=>?_⟩
  rw[Zq (ZW e h2),Zq (λz=>n (by rw[z];exact TG.fp))];exact e
theorem Zhe {Hf H Hm:Hp}{p:Addr}{o:HO}(e1:Zz G Hf H)(ex:Zz G H Hm)(hp:Hm p=none):Gr G Hf H Hf (Zj Hm p o):=by
 have hh:Zz G H (Zj Hm p o):=λb u n e=>by
  have:=ex b u n e;rw[Zq (ZW this hp)];exact this
 exact⟨hh,.refl _ _,e1.trans hh,λ_ _ h _=>h⟩
theorem ZjN {base':Heap}{k:Nat}{T:Nat->List D->M D}{t:Nat}{p c':Addr}{fd:xB}{cvs:List V}{ps:List Str}{F:List D->M D}(hb:Wd X.K fd ps [])(hF:FnOk X.prog X.w X.K X.mg base' ZQ k p fd ps (spK ps.length (Wh G t p c' fd q cvs) cvs F))(hT:T t=F) :
  VH X.prog X.w X.K X.mg k ps.length T base' (Wh G t p c' fd q cvs):=by
 rintro t' v cs ⟨rfl,rfl,rfl⟩;exact⟨p,fd,ps,rfl,rfl,hb,λs H st h ok _=>fnφ_at ok st.2.1,by rw[hT];exact hF⟩
variable {k kl:Nat}{x:Str}{fr frb:Bool}{F:List D->M D}{T:Nat->List D->M D}{t:Nat}{e1:Expr}{f1:Za->M D}{r1:Bool}{params:Arguments}{scope:Scope}{lpos ppos pos:Pos}{XN N ps:List Str}{NS:List (Str×NameKind)}{cix:List Nat}
theorem ofC {t:Nat}{p c':Addr}{fd:xB}{cvs:List V}{H:Hp}{d:D}{v:V}(n:Yq d=true)(r:Zi (Wh G t p c' fd q cvs) H d v):Zi G H d v:=Zi.re (G:=Wh G t p c' fd q cvs) (G':=G) rfl rfl n r
theorem toC {t:Nat}{p c':Addr}{fd:xB}{cvs:List V}{H:Hp}{d:D}{v:V}(n:Yq d=true)(r:Zi G H d v):Zi (Wh G t p c' fd q cvs) H d v:=Zi.re (G:=G) (G':=Wh G t p c' fd q cvs) rfl rfl n r
theorem toCL {t:Nat}{p c':Addr}{fd:xB}{cvs:List V}{H:Hp}{d:List D}{v:List V}(n:YX d=true)(r:Zf G H d v):Zf (Wh G t p c' fd q cvs) H d v:=Zf.re (G:=G) (G':=Wh G t p c' fd q cvs) rfl rfl n r
theorem grC {t:Nat}{p c':Addr}{fd:xB}{cvs:List V}{Hf H Hf' H':Hp}(g:Gr (Wh G t p c' fd q cvs) Hf H Hf' H'):Gr G Hf H Hf' H':=Gr.re (G:=Wh G t p c' fd q cvs) (G':=G) rfl g
theorem frC {t:Nat}{p c':Addr}{fd:xB}{cvs:List V}{H Hf':Hp}{d:D}{v:V}(n:Yq d=true)(h:Yh (Wh G t p c' fd q cvs) H Hf' d v):Yh G H Hf' d v:=Yh.re (G:=Wh G t p c' fd q cvs) (G':=G) rfl rfl n h
theorem Zf5 {body:Expr}{fe:Za->M D}(M:Mk0 X c P)(TG:TabG P q G)(hW:VJ X.prog X.w X.K X.mg k x 2 fr (VH X.prog X.w X.K X.mg (kl+1) ps.length T) F)(hfn:∀x,X.fn x=true)(hr:Room k X.A)(hg:Gl X x)(h1:PD X G r1 e1 f1)
  (hq:X.env.qual ++ "<lambda>" = q) (S:CloScope N ps scope) (B:CapS X XN NS N ps cix scope) (hT:T t=VI N.length fe)
  (hbind:∀(cl:List (Str×Addr)) (pm cd ct:Value) (us:List Value),us.length=ps.length->bindArgs (qah "<lambda>" q params body scope cl pm cd ct) ⟨us,[]⟩=pure (ps.zip us))
  (hb:∀(base:Heap) (f c':Addr) (cl:List (Str×Addr)) (G:Gh) (A:xD) (outer:List Env) (s:Shared) (H:Hp) (E:XK),Room kl (A.deeper (yy q scope s.heap.objs.size f (.ref c') cl))->PD (Ub ZQ X.prog X.w X.K X.mg base N q scope f (.ref c') cl A outer s H E).nox G frb body fe)
  (hdef:defaultsOf params X.env=([],[]):=by rfl) (hdb:(x==("__debug__" : Str))=false:=by decide)
  (he:xh [e1,.Lambda params body scope lpos] X.env=(false,eval e1 X.env)::xh [.Lambda params body scope lpos] X.env:=by rfl) (he2:xh [Expr.Lambda params body scope lpos] X.env=(false,eval (.Lambda params body scope lpos) X.env)::xh [] X.env:=by rfl)
  (hpl:(backTo pos (xh [Expr.Lambda params body scope lpos] X.env)).any (·.1)=false:=by rfl) :
  PD X G fr (.Call (.Name x ppos) [e1,.Lambda params body scope lpos] [] pos) (UJ F t cix f1):=by
 obtain⟨t1,p1,q1⟩:=h1.drop;obtain⟨f,fd0,ps0,FN,hm,hk,hbd⟩:=hW;refine⟨_,ZeS FN hfn hr hg hm hk hbd (Y5 p1 (Y5 (Zni M hq B.hfree hdef) Xv he2) he) hdb he hpl,fun σ Hf H ρ s d s' Q x1 x2 x3 x4 k=>?_⟩;obtain⟨d1,s1,a1,a2⟩:=ZE x4;obtain⟨cds,s2,b3,a4⟩:=ZE a2;obtain⟨a3,rfl⟩:=WR b3;obtain⟨hn,a5⟩:=YW a4;obtain⟨cc,s3,a6,a7⟩:=ZE a5;obtain⟨hn2,a8⟩:=YW a7;obtain⟨rfl,rfl⟩:=ZL a8;obtain⟨hn0,hn1⟩:=qaz.mp hn;refine q1 σ Hf H ρ s d1 _ _ x1 x2 x3 a1 λv1 jW H1 g1 j8 rv1=>?_;obtain⟨tp,hP,htr,hhit⟩:=TG.get _ H1 j8;refine⟨tp,hP,htr,λcv h=>let ⟨c',z1,z2,_⟩:=hhit lpos cv h;⟨c',z1,z2⟩,λp c' fd Hm ⟨cl,pm,ctv,co,efd⟩ sl hp=>?_⟩;subst efd;obtain⟨stm,hc',ex⟩:=Zhd TG j8 hP sl;have gr:=Zhe (o:=.ext (fnφ p (qah "<lambda>" q params body scope cl pm (.ref c') ctv))) g1.fh ex hp;have hcp:c'≠p:=λz=>by rw[z,hp]at hc';cases hc'
 obtain⟨cvs,l1,l2,l3⟩:=Zcr (x2.ext g1.ff) a3;intro base' cs;have C:CloAt base' cl scope N ps cvs:=B.cloAt cs co l1 l3;refine⟨Wh G t p c' (qah "<lambda>" q params body scope cl pm (.ref c') ctv) q cvs,jW,[d1,.clo t cds],_,d,_,ZjN (X:=X) (.all (hbind cl pm (.ref c') ctv)) (fnKE S C (λs H st=>st.2) λA outer s H E hr=>hb base' p c' cl _ A outer s H E hr) hT,rfl,gr.fh,?_,⟨Gh.grow stm hp,ZM,by rw[Zq hcp];exact hc'⟩,a6,λv Hf3 H3 g3 st3 r3 fz=>?_⟩
 ·refine .cons (toC hn0 rv1) (.one (jw.mpr ⟨cvs,⟨rfl,rfl,rfl⟩,toCL hn1 l2⟩))
 ·have g3':Gr G jW _ Hf3 H3:=grC g3
  have gg:=(g1.trans gr).trans g3';have rr:Zi G Hf3 d v:=ofC hn2 r3;refine k v Hf3 H3 gg st3.1 rr λz=>?_;exact jn (g1.hh.trans gr.hh) rr.nofp (frC hn2 (fz z))
end
theorem boot_len:xj "len" = some (.builtin "len"):=by decide +kernel
theorem boot_all:xj "all" = some (.builtin "all"):=by decide +kernel
theorem boot_any:xj "any" = some (.builtin "any"):=by decide +kernel
theorem boot_max:xj "max" = some (.builtin "max"):=by decide +kernel
theorem boot_min:xj "min" = some (.builtin "min"):=by decide +kernel
theorem boot_set:xj "set" = some (.type "set"):=by decide +kernel
theorem boot_sorted:xj "sorted" = some (.builtin "sorted"):=by decide +kernel
theorem boot_tuple:xj "tuple" = some (.type "tuple"):=by decide +kernel
theorem boot_list:xj "list" = some (.type "list"):=by decide +kernel
theorem boot_dict:xj "dict" = some (.type "dict"):=by decide +kernel
noncomputable abbrev Z6:Gh->Prop:=λ_=>True
noncomputable def Zmm (G:Gh)(ob own own':List Nat)(fr:Bool)(g:Za->M Out):TS:=λE σ H=>∃kn jP H0 ρ s out s',J G own kn jP H0 σ H ρ/\G.st s H/\g ρ s=some (out,s')/\Post G ob own' kn jP H0 fr out s' E
noncomputable def Ok {α:Type}(m:M α)(s:Pn)(Q:α->Pn->Prop):Prop:=∃a s',m s=some (a,s')/\Q a s'
theorem Ok.bind {α β:Type}{m:M α}{k:α->M β}{s:Pn}{Q:β->Pn->Prop}(h:Ok m s λa s1=>Ok (k a) s1 Q):Ok (Zo m k) s Q:=by
 obtain⟨a,s1,e,b,s2,e2,q⟩:=h;exact⟨b,s2,by unfold Zo;rw[e];exact e2,q⟩
theorem Ok.ret {α:Type}{a:α}{s:Pn}{Q:α->Pn->Prop}(h:Q a s):Ok (ZI a) s Q:=⟨a,s,rfl,h⟩
theorem Ok.eq {α:Type}{m:M α}{s s':Pn}{a:α}{Q:α->Pn->Prop}(e:m s=some (a,s'))(h:Q a s'):Ok m s Q:=⟨a,s',e,h⟩
theorem Ok.mono {α:Type}{m:M α}{s:Pn}{Q Q':α->Pn->Prop}(h:Ok m s Q)(k:∀a s',Q a s'->Q' a s'):Ok m s Q':=let ⟨a,s',e,q⟩:=h;⟨a,s',e,k a s' q⟩
theorem Ok.of {α:Type}{o:Option α}{a:α}{s:Pn}{Q:α->Pn->Prop}(e:o=some a)(h:Q a s):Ok (Xp o) s Q:=⟨a,s,by unfold Xp;rw[e],h⟩
theorem Ok.ite {α:Type}{c:Prop}[Decidable c]{m:M α}{s:Pn}{Q:α->Pn->Prop}(hc:c)(h:Ok m s Q):Ok (if c then m else ZO) s Q:=by rw[if_pos hc];exact h
section
variable {ρ:Za}{s:Pn}{Q:Out->Pn->Prop}{f:Za->M D}{g1 g2:Za->M Out}
theorem Ok.seq (h:Ok (g1 ρ) s λo s1=>match o with | .nx ρ'=>Ok (g2 ρ') s1 Q | .rt d=>Q (.rt d) s1 | .bk ρ'=>Q (.bk ρ') s1 | .ct ρ'=>Q (.ct ρ') s1):Ok (Zn g1 g2 ρ) s Q:=by
 refine Ok.bind (h.mono λo s1 q=>?_)
 cases o with
 | nx ρ'=>exact q
 | rt d=>exact .ret q
 | bk ρ'=>exact .ret q
 | ct ρ'=>exact .ret q
theorem Ok.next (h:Q (.nx ρ) s):Ok (ZJ ρ) s Q:=.ret h
theorem Ok.sset {i:Nat}(h:Ok (f ρ) s λd s1=>Q (.nx (ρ.set i (some d))) s1):Ok (YE i f ρ) s Q:=.bind (h.mono λ_ _ q=>.ret q)
theorem Ok.sown {i:Nat}(h:Ok (f ρ) s λd s1=>Bj d=true/\Q (.nx (ρ.set i (some d))) s1):Ok (Wx i f ρ) s Q:=.bind (h.mono λ_ _ q=>.ite q.1 (.ret q.2))
theorem Ok.sret (h:Ok (f ρ) s λd s1=>Q (.rt d) s1):Ok (Z2 f ρ) s Q:=.bind (h.mono λ_ _ q=>.ret q)
theorem Ok.sif {c:Za->M Bool}(h:Ok (c ρ) s λb s1=>if b=true then Ok (g1 ρ) s1 Q else Ok (g2 ρ) s1 Q):Ok (XV c g1 g2 ρ) s Q:=by
 refine .bind (h.mono λb s1 q=>?_)
 cases b with
 | true=>simpa using q
 | false=>simpa using q
theorem Ok.sapp {i:Nat}{ds:List D}(hi:(ρ[i]?).bind id=some (.lst ds))(hl:ds.length<xg)(h:Ok (f ρ) s λd s1=>Q (.nx (ρ.set i (some (.lst (ds ++ [d]))))) s1):Ok (VF i f ρ) s Q:=by
 refine .bind (h.mono λd s1 q=>?_);simp only[hi];exact .ite hl (.ret q)
theorem Ok.sext {i:Nat}{ds:List D}(hi:(ρ[i]?).bind id=some (.lst ds))(h:Ok (f ρ) s λd s1=>∃es,d=.lst es/\ds.length+es.length<=xg/\Q (.nx (ρ.set i (some (.lst (ds++es))))) s1):Ok (Js i f ρ) s Q:=by
 refine .bind (h.mono λd s1 q=>?_);obtain⟨es,rfl,hl,q⟩:=q;simp only[hi];exact .ite hl (.ret q)
theorem Ok.loop {τ:D->Za->Option Za}{body:Za->M Out}(I:Nat->Za->Pn->Prop):∀(ds:List D) (k:Nat) (ρ:Za) (s:Pn),I k ρ s->
  (∀i d ρ s,ds[i]?=some d->I (k+i) ρ s->∃ρ1,τ d ρ=some ρ1/\Ok (body ρ1) s λo s'=>∃ρ',o=.nx ρ'/\I (k+i+1) ρ' s')->Ok (Jq τ body ds ρ) s λo s'=>∃ρ',o=.nx ρ'/\I (k+ds.length) ρ' s'
 | [],k,ρ,s,h0,_=>.ret ⟨ρ,rfl,h0⟩
 | d::ds,k,ρ,s,h0,h=>by
  obtain⟨ρ1,e1,ok⟩:=h 0 d ρ s rfl h0;refine Ok.bind (.of e1 (.bind (ok.mono λo s' q=>?_)));obtain⟨ρ',rfl,q⟩:=q;refine(Ok.loop I ds (k+1) ρ' s' q λi d' ρ2 s2 e2 q2=>?_).mono λo s2 q2=>?_
  ·have:=h (i+1) d' ρ2 s2 (by simpa using e2) (by rw[show k+(i+1)=k+1+i by omega];exact q2)
   rw[show k+(i+1)+1=k+1+i+1 by omega]at this;exact this
  ·rw[show k+(d::ds).length=k+1+ds.length by simp;omega]
   exact q2
theorem Ok.sfor {fi:Za->M (List D)}{τ:D->Za->Option Za}{body:Za->M Out}(I:Nat->Za->Pn->Prop)(h:Ok (fi ρ) s λds s1=>I 0 ρ s1/\(∀i d ρ s,ds[i]?=some d->I i ρ s->∃ρ1,τ d ρ=some ρ1/\Ok (body ρ1) s λo s'=>∃ρ',o=.nx ρ'/\I (i+1) ρ' s')/\
  ∀ρ' s',I ds.length ρ' s'->Q (.nx ρ') s'):Ok (XS fi τ body ρ) s Q:=by
 refine .bind (h.mono λds s1 q=>?_);obtain⟨q0,q1,q2⟩:=q;refine(Ok.loop I ds 0 ρ s1 q0 λi d ρ s e=>?_).mono λo s' q=>?_
 ·rw[yS];exact q1 i d ρ s e
 ·obtain⟨ρ',rfl,q⟩:=q
  rw[yS]at q;exact q2 ρ' s' q
end
section
variable {ρ ρ':Za}{s s1 s2:Pn}{f f2:Za->M D}{g1 g2:Za->M Out}{d e c:D}{r:Option (Out×Pn)}
theorem Xd {n k:Nat}{g:Za->M Out}{ds:List D}(hl:ds.length=k)(h:g (ds.map some++qB (n-k) none) s=some (.rt d,s1)):runB n k g ds s=some (d,s1):=by
 unfold runB;rw[if_pos hl];unfold Zo;rw[h];rfl
theorem Xi (h:f ρ s=some (d,s1)):Z2 f ρ s=some (.rt d,s1):=by unfold Z2 Zo;rw[h];rfl
theorem Xt (h:g1 ρ s=some (.rt d,s1)):Zn g1 g2 ρ s=some (.rt d,s1):=by unfold Zn Zo;rw[h];rfl
theorem Wo (h:g1 ρ s=some (.nx ρ',s1))(h2:g2 ρ' s1=r):Zn g1 g2 ρ s=r:=by unfold Zn Zo;rw[h];exact h2
theorem WH {i:Nat}(h:f ρ s=some (d,s1)):YE i f ρ s=some (.nx (ρ.set i (some d)),s1):=by unfold YE Zo;rw[h];rfl
theorem Zw {g:D->D->Option D}(h1:f ρ s=some (d,s1))(h2:f2 ρ s1=some (e,s2))(h:g d e=some c):Ze g f f2 ρ s=some (c,s2):=by
 unfold Ze Zo;rw[h1];simp only;rw[h2];simp only;unfold Xp;rw[h]
theorem YB {g:List D->Option D}{fs:Za->M (List D)}{ds:List D}(h1:fs ρ s=some (ds,s1))(h:g ds=some c):ZN g fs ρ s=some (c,s1):=by
 unfold ZN Zo;rw[h1];simp only;unfold Xp;rw[h]
theorem ZR {F:List D->M D}{fs:Za->M (List D)}{ds:List D}{q:Option (D×Pn)}(h1:fs ρ s=some (ds,s1))(h:F ds s1=q):ZA F fs ρ s=q:=by
 unfold ZA Zo;rw[h1];exact h
theorem Zh {fs:Za->M (List D)}{ds:List D}(h1:f ρ s=some (d,s1))(h2:fs ρ s1=some (ds,s2)):Zc f fs ρ s=some (d::ds,s2):=by
 unfold Zc Zo;rw[h1];simp only;rw[h2];rfl
theorem Zf6:Zd ρ s=some ([],s):=rfl
theorem Wr {fs:Za->M (List D)}{ds:List D}(h1:fs ρ s=some (ds,s1))(hl:ds.length<=xg):Yk fs ρ s=some (.tup ds,s1):=by
 unfold Yk Zo;rw[h1];simp only;rw[if_pos hl];rfl
theorem Zd1 {fs:Za->M (List D)}{ds:List D}(h1:fs ρ s=some (ds,s1))(hl:ds.length<=xg):Yy fs ρ s=some (.lst ds,s1):=by
 unfold Yy Zo;rw[h1];simp only;rw[if_pos hl];rfl
theorem Ws {b:Bool}(h:f ρ s=some (.bl b,s1)):YN f ρ s=some (b,s1):=by unfold YN Zo;rw[h];rfl
end
theorem Zdp {τ:D->Za->Option Za}{ft:Za->M Bool}{fe:Za->M D}{ρ:Za}{s:Pn}(r:D->Za)(b:D->Bool)(c:D->D):∀(ds:List D),(∀d∈ds,τ d ρ=some (r d)/\ft (r d) s=some (b d,s)/\(b d=true->fe (r d) s=some (c d,s)))->
  UA τ ft fe ρ ds s=some ((ds.filter b).map c,s)
 | [],_=>rfl
 | d::ds,h=>by
  obtain⟨h1,h2,h3⟩:=h d (by simp);have ih:=Zdp r b c ds λd' m=>h d' (by simp[m]);unfold UA;simp only[Zo,Xp,h1,h2]
  cases hb:b d with
  | true=>simp[Zo,h3 hb,ih,hb,ZI]
  | false=>simp[ih,hb]
end TF
namespace TP
open L2 TF
noncomputable def Zf7:Za->M Out:=(Zn (Wx 1 (Yy Zd))
 (Zn (XS (YZ (ZN Ye (Zc (Zb 0) Zd))) (ZP 2)
 (Zn (XS (J6 (Ze Z4 (Zb 2) (dC (.int 1))) (ZN Ye (Zc (Zb 0) Zd))) (ZP 3)
 (Zn (VF 1 (fun ρ=>(Yk (Zc (Ze Zx (Zb 0) (Zb 2)) (Zc (Ze Zx (Zb 0) (Zb 3)) Zd))) (ZU [1] ρ)))
 ZJ))
 ZJ))
 (Zn (Z2 (Zb 1))
 ZJ)))
noncomputable def JJ:List D->M D:=runB 4 1 Zf7
noncomputable def ZaL:Za->M Out:=(Zn (Z2 (Ze Xq (Yk (Zc (ZN UB (Zc (Zb 1) (Zc (Zb 2) Zd))) (Zc (ZN Jj (Zc (Zb 1) (Zc (Zb 2) Zd))) Zd))) (Zb 0)))
 ZJ)
noncomputable def XE:List D->M D:=runB 3 3 ZaL
noncomputable def Znk:Za->M Out:=(Zn (Z2 (YC [none,some 0,some 1] (YZ (Ze Zx (Zb 0) (dC (.int 0)))) (ZP 0) (YN (ZA XE (Zc (Ze Zx (Zb 1) (dC (.int 1))) (Zc (Zb 2) (Zc (Zb 0) Zd))))) (Zb 0)))
 ZJ)
noncomputable def Vw:List D->M D:=runB 2 2 Znk
noncomputable def Zc4:Za->M Out:=(Zn (Z2 (ZN ZjI (Zc (YC [none] (X0 (Ze Zx (Zb 0) (dC (.int 1)))) (ZP 0) Yu (Yk (Zc (Zb 0) (Zc (dC (.bl true)) Zd)))) Zd)))
 ZJ)
noncomputable def X6:List D->M D:=runB 1 1 Zc4
local macro_rules | `(tactic| walk_at "ev")=>`(tactic| simp[runB,Zn,Z2,YE,ZJ,XV,YN,Ze,ZN,Zc,Zd,Yk,Yy,Zb,dC,ZA,Zo,ZI,Xp,Z4,Vg,dI,ZU,Wq,JB,Vf,Jp,UG,bOr,bNot])
noncomputable def Zs (p:Nat×Nat):D:=.tup [.int p.1,.int p.2]
noncomputable def Zp (n:Nat)(jI:Qa):D:=.tup [.int n,.tup (jI.map Zs)]
noncomputable def tied (jI:Qa)(a b:Nat):Bool:=decide ((min a b,max a b)∈jI)
theorem ZjO (p q:Nat×Nat):ZB (Zs p) (Zs q)=decide (p=q):=by
 obtain⟨a,b⟩:=p;obtain⟨c,d⟩:=q;simp only[Zs,ZB,Y8,Bool.and_true];by_cases h1:a=c
 ·by_cases h2:b=d
  ·subst h1 h2;simp
  ·have:((b:Int)==(d:Int))=false:=by simp;omega
   simp[this,h2]
 ·have:((a:Int)==(c:Int))=false:=by simp;omega
  simp[this,h1]
theorem Zih (p:Nat×Nat)(jI:Qa):X4 (Zs p) (jI.map Zs)=decide (p∈jI):=by
 unfold X4
 induction jI with
 | nil=>simp
 | cons t ts ih=>
  rw[qY,qaM,ih,ZjO];by_cases h:t=p
  ·subst h;simp
  ·have:¬p=t:=λz=>h z.symm
   simp[h,this]
theorem ZbG:∀jI:Qa,Yp (jI.map Zs)=true
 | []=>by simp[Yp]
 | t::ts=>by simp[Yp,Zs,Zk,ZbG ts]
theorem Zcs:∀jI:Qa,Y2 (jI.map Zs)<=1
 | []=>by simp[Y2]
 | t::ts=>by
  have:=Zcs ts;simp only[qY,Y2,Zs,ZX];omega
theorem ZjP (p:Nat×Nat):ZX (Zs p)=1:=by simp[Zs,ZX,Y2]
theorem Zf8 (p:Nat×Nat):Zk (Zs p)=true:=by simp[Zs,Zk,Yp]
theorem Zf9 (p:Nat×Nat)(jI:Qa):XT (Zs p) (jI.map Zs)=true:=by
 have:=Zcs jI;simp[XT,Zf8,ZbG,ZjP];omega
theorem Zii (p:Nat×Nat)(jI:Qa):Xq (Zs p) (.tup (jI.map Zs))=some (.bl (decide (p∈jI))):=by
 have:UI (Zs p) (.tup (jI.map Zs))=some (decide (p∈jI)):=by
  show(if XT (Zs p) (jI.map Zs)=true then some (X4 (Zs p) (jI.map Zs))else none)=_;rw[if_pos (Zf9 p jI),Zih]
 unfold Xq;rw[this];rfl
theorem Znl (a b:Nat):(if (b:Int) > a then (b:Int)else a)=((max a b:Nat):Int):=by split <;> omega
theorem WZ {α:Type}(x:α)(xs:List α):XA (x::xs) 0=some x:=Vp (j:=0) rfl
theorem V0 {α:Type}(x y:α)(xs:List α):XA (x::y::xs) 1=some y:=Vp (j:=1) rfl
theorem two_le:2<=xg:=by decide
theorem Zct (a b:Nat):D.tup [.int (if b<a then (b:Int)else a),.int (if a<b then (b:Int)else a)]=Zs (min a b,max a b):=by
 unfold Zs;congr 2
 ·congr 1;split <;> omega
 ·congr 2;split <;> omega
theorem ZeT (jI:Qa)(a b:Nat)(s:Pn):XE [.tup (jI.map Zs),.int a,.int b] s=some (.bl (tied jI a b),s):=by
 simp[XE,ZaL,runB,Zn,Z2,ZJ,Ze,ZN,Zc,Zd,Yk,Zb,Zo,ZI,Xp,UB,Jj,two_le,Zct,Zii,tied]
theorem Xu {src:List (Option Nat)}{fi:Za->M (List D)}{τ:D->Za->Option Za}{ft:Za->M Bool}{fe:Za->M D}{ρ:Za}{s:Pn}{ds:List D}(r:D->Za)(b:D->Bool)(c:D->D)(hi:fi ρ s=some (ds,s))(hl:ds.length<=xg)
  (h:∀d∈ds,τ d (Wq src ρ)=some (r d)/\ft (r d) s=some (b d,s)/\(b d=true->fe (r d) s=some (c d,s))):YC src fi τ ft fe ρ s=some (.lst ((ds.filter b).map c),s):=by
 unfold YC;simp only[Zo,hi,hl,if_true,Zdp r b c ds h,ZI]
theorem Zij (n:Nat)(h:n<=100000):-(2 ^ 62)<=(n:Int)/\(n:Int)<2 ^ 62:=by omega
theorem YO:xg=16777216:=by decide
theorem Wm {f:Za->M D}{ρ:Za}{s:Pn}{n:Nat}(h:f ρ s=some (.int n,s))(hn:n<=100000):YZ f ρ s=some (Z9 0 n,s):=by
 unfold YZ;simp only[Zo,h];show(if -(2 ^ 62)<=(n:Int)/\(n:Int)<2 ^ 62 then ZI (Z9 0 (n:Int).toNat)else ZO) s=_;rw[if_pos (Zij n hn)];rfl
theorem Zdq {f g:Za->M D}{ρ:Za}{s:Pn}{a n:Nat}(h:f ρ s=some (.int a,s))(h2:g ρ s=some (.int n,s))(ha:a<=100000)(hn:n<=100000):J6 f g ρ s=some (Z9 a (n-a),s):=by
 unfold J6;simp only[Zo,h,h2];show(if -(2 ^ 62)<=(a:Int)/\(a:Int)<2 ^ 62/\-(2 ^ 62)<=(n:Int)/\(n:Int)<2 ^ 62 then ZI (Z9 a ((n:Int)-a).toNat)else ZO) s=_;rw[if_pos (by omega),show((n:Int)-(a:Int)).toNat=n-a by omega];rfl
theorem XW (lo:Int)(n:Nat):(Z9 lo n).length=n:=by simp[Z9]
theorem B2 {lo n i:Nat}{d:D}(h:(Z9 lo n)[i]?=some d):i<n/\d=.int ((lo+i:Nat):Int):=by
 have hi:i<n:=by
  have:=(qq.mp h).1;simpa[Z9]using this
 refine⟨hi,?_⟩;unfold Z9 at h;rw[qu,zI hi]at h;simp at h;rw[<-h];simp
theorem UT {n:Nat}{d:D}(h:d∈Z9 0 n):∃i:Nat,i<n/\d=.int (i:Int):=by
 unfold Z9 at h;obtain⟨i,hi,e⟩:=qt.mp h;exact⟨i,by simpa using hi,by rw[<-e];simp⟩
theorem Us (n:Nat):Z9 0 n=(qm n).map λ(i:Nat)=>D.int (i:Int):=by
 unfold Z9;simp
noncomputable def Yz:D->Nat
 | .int i=>i.toNat
 | _=>0
theorem ZbH (n:Nat)(p:Nat->Bool):((Z9 0 n).filter λd=>p (Yz d)).map (λd=>d)=((qm n).filter p).map λ(i:Nat)=>D.int (i:Int):=by
 rw[Us,qbO];simp only[qc1];congr 1
theorem jy {α:Type}{m:M α}{s s':Pn}{a:α}(h:Ok m s λb t=>b=a/\t=s'):m s=some (a,s'):=by
 obtain⟨b,t,e,rfl,rfl⟩:=h;exact e
theorem J8 {n:Nat}(hn:n<=100000):(Z9 0 n).length<=xg:=by rw[XW,YO];omega
theorem Znm (n:Nat)(jI:Qa)(p:Nat)(s:Pn)(hn:n<=100000):YC [none,some 0,some 1] (YZ (Ze Zx (Zb 0) (dC (.int 0)))) (ZP 0) (YN (ZA XE (Zc (Ze Zx (Zb 1) (dC (.int 1))) (Zc (Zb 2) (Zc (Zb 0) Zd))))) (Zb 0) [some (Zp n jI),some (.int p)] s
   = some (.lst (((qm n).filter λo=>tied jI p o).map λ(i:Nat)=>D.int (i:Int)),s):=by
 rw[<-ZbH];refine Xu (ds:=Z9 0 n) (λd=>[some d,some (Zp n jI),some (.int p)]) (λd=>tied jI p (Yz d)) (λd=>d) (Wm (Zw (d:=Zp n jI) (e:=.int 0) rfl rfl (by unfold Zp;exact WZ _ _)) hn) (J8 hn) ?_;intro d hd;obtain⟨i,hi,rfl⟩:=UT hd;refine⟨rfl,Ws (ZR (Zh (Zw (d:=Zp n jI) (e:=.int 1) rfl rfl (by unfold Zp;exact V0 _ _ _)) (Zh rfl (Zh rfl rfl))) ?_),λ_=>rfl⟩;exact ZeT jI p i s
theorem Zlk (n:Nat)(jI:Qa)(p:Nat)(s:Pn)(hn:n<=100000):Vw [Zp n jI,.int p] s=some (.lst (((qm n).filter λo=>tied jI p o).map λ(i:Nat)=>D.int (i:Int)),s):=
 Xd rfl (Xt (Xi (Znm n jI p s hn)))
noncomputable def Ju (row:D)(ds:List D):Prop:=row=.lst ds∨row=.tup ds
theorem Ju.len {row:D}{ds:List D}(h:Ju row ds):Ye [row]=some (.int ds.length):=by
 rcases h with rfl | rfl <;> rfl
theorem Ju.ix {row:D}{ds:List D}(h:Ju row ds){i:Nat}(hi:i<ds.length):Zx row (.int (i:Int))=some (ds.getD i .non):=by
 have e:ds[i]?=some (ds.getD i .non):=by simp[qbI,hi]
 rcases h with rfl | rfl <;> exact Vp e
noncomputable def Xx (n i:Nat):Qa:=(qm i).flatMap λa=>(qm (n-(a+1))).map λk=>(a,a+1+k)
noncomputable def Yv (n:Nat):Qa:=Xx n n
theorem Zbn (n i:Nat):Xx n (i+1)=Xx n i++(qm (n-(i+1))).map λk=>(i,i+1+k):=by
 unfold Xx;rw[qar,qbh];simp
theorem JS (n:Nat):∀i,(Xx n i).length<=i*n
 | 0=>by simp[Xx]
 | i+1=>by
  have:=JS n i;rw[Zbn,qJ,qf,qW];have e:(i+1)*n=i*n+n:=qal i n;omega
noncomputable def Uc (ds:List D)(p:Nat×Nat):D:=.tup [ds.getD p.1 .non,ds.getD p.2 .non]
theorem Zhf (n i j:Nat)(hn:n<=1000)(hi:i<n)(hj:j<=n):(Xx n i).length+j<xg:=by
 have h1:=JS n i;have h2:i*n<=1000*1000:=qai (by omega) hn;rw[YO];omega
theorem ZeU (row:D)(ds:List D)(h:Ju row ds)(hn:ds.length<=1000)(s:Pn):JJ [row] s=some (.lst ((Yv ds.length).map (Uc ds)),s):=by
 refine Xd rfl (jy ?_);refine Ok.seq (.sown (.eq (a:=.lst []) rfl ⟨rfl,?_⟩));show Ok _ s _;refine Ok.seq (.sfor (λi ρ s'=>s=s'/\∃o2 o3,ρ=[some row,some (.lst ((Xx ds.length i).map (Uc ds))),o2,o3]) (.eq (Wm (YB (Zh rfl rfl) h.len) (by omega)) ⟨⟨rfl,none,none,rfl⟩,λi d ρ s' hd hI=>?_,fun ρ' s' hI=>?_⟩))
 ·obtain⟨rfl,o2,o3,rfl⟩:=hI
  obtain⟨hi,rfl⟩:=B2 hd;refine⟨_,rfl,?_⟩;refine Ok.seq (.sfor (λj ρ s'=>s=s'/\∃o3,ρ=[some row,some (.lst ((Xx ds.length i).map (Uc ds)++(qm j).map λk=>Uc ds (i,i+1+k))),some (.int ((0+i:Nat):Int)),o3]) (.eq (Zdq (a:=i+1) (Zw (d:=.int ((0+i:Nat):Int)) (e:=.int 1) (c:=.int ((i+1:Nat):Int)) rfl rfl (by simp[Z4])) (YB (Zh rfl rfl) h.len) (by omega) (by omega)) ⟨⟨rfl,o3,by simp⟩,λj d ρ s' hd hJ=>?_,fun ρ' s' hJ=>?_⟩))
  ·obtain⟨rfl,o3,rfl⟩:=hJ
   obtain⟨hj,rfl⟩:=B2 hd;refine⟨_,rfl,?_⟩;refine Ok.seq (.sapp (ds:=(Xx ds.length i).map (Uc ds)++(qm j).map λk=>Uc ds (i,i+1+k)) rfl (by simp only[qJ,qf,qW];exact Zhf _ _ _ hn hi (by omega)) (.eq (Wr (Zh (Zw (d:=row) (e:=.int ((0+i:Nat):Int)) rfl rfl (by rw[yS];exact h.ix hi)) (Zh (Zw (d:=row) (e:=.int ((i+1+j:Nat):Int)) rfl rfl (h.ix (by omega))) rfl)) two_le) ?_));refine Ok.next ⟨_,rfl,rfl,some (.int ((i+1+j:Nat):Int)),?_⟩;rw[qar,zf,<-qK];rfl
  ·obtain⟨rfl,o3',rfl⟩:=hJ
   refine Ok.next ⟨_,rfl,rfl,some (.int ((0+i:Nat):Int)),o3',?_⟩;rw[Zbn,zf,qC,XW];rfl
 ·obtain⟨rfl,o2,o3,rfl⟩:=hI
  refine Ok.seq (.sret (.eq rfl ⟨?_,rfl⟩));rw[XW];rfl
noncomputable def WL (p:Nat×Nat):List Zt:=[.inl (p.1:Int),.inl (p.2:Int)]
theorem ZjQ {p q:Nat×Nat}(h:WL p=WL q):p=q:=by
 simp only[WL,List.cons.injEq,qbG.injEq,and_true]at h;obtain⟨a,b⟩:=p;obtain⟨c,d⟩:=q;simp only at h;have h1:a=c:=by omega
 have h2:b=d:=by omega
 rw[h1,h2]
noncomputable def ZT (j6:List (List Zt×V))(jI:Qa):List (List Zt×V):=jI.foldl (λj6 p=>YD j6 (WL p) (.bl true)) j6
theorem Zll (p:Nat×Nat):pairT (.tup [Zs p,.bl true])=some (WL p,.bl true):=rfl
theorem Zdr:∀(jI:Qa) (j6:List (List Zt×V)),WY j6 (jI.map λp=>D.tup [Zs p,.bl true])=some (ZT j6 jI)
 | [],j6=>rfl
 | t::ts,j6=>by
  rw[qY];unfold WY;rw[Zll];exact Zdr ts _
theorem ZeV (p:Nat×Nat):∀(jI:Qa) (j6:List (List Zt×V)),(Yd (ZT j6 jI) (WL p)).isSome=(decide (p∈jI)||(Yd j6 (WL p)).isSome)
 | [],j6=>by simp[ZT]
 | t::ts,j6=>by
  have ih:=ZeV p ts (YD j6 (WL t) (.bl true));have e:ZT j6 (t::ts)=ZT (YD j6 (WL t) (.bl true)) ts:=rfl;rw[e,ih,Zjr];by_cases h:p=t
  ·subst h;simp
  ·have hk:¬WL p=WL t:=λz=>h (ZjQ z)
   rw[if_neg hk];simp[h]
theorem UV (n:Nat)(jI:Qa)(s:Pn)(hl:jI.length<=100000):X6 [Zp n jI] s=some (.dt (ZT [] jI),s):=by
 have hc:YC [none] (X0 (Ze Zx (Zb 0) (dC (.int 1)))) (ZP 0) Yu (Yk (Zc (Zb 0) (Zc (dC (.bl true)) Zd))) [some (Zp n jI)] s=some (.lst ((jI.map Zs).map λd=>D.tup [d,.bl true]),s):=by
  have q:=Xu (src:=[none]) (fi:=X0 (Ze Zx (Zb 0) (dC (.int 1)))) (τ:=ZP 0) (ft:=Yu) (fe:=Yk (Zc (Zb 0) (Zc (dC (.bl true)) Zd))) (ρ:=[some (Zp n jI)]) (s:=s) (ds:=jI.map Zs) (λd=>[some d]) (λ_=>true) (λd=>D.tup [d,.bl true])
   (by unfold X0 Zo;rw[Zw (d:=Zp n jI) (e:=.int 1) (c:=.tup (jI.map Zs)) rfl rfl (by unfold Zp;exact V0 _ _ _)];rfl) (by rw[qf,YO];omega)
   (λd hd=>⟨rfl,rfl,λ_=>Wr (Zh rfl (Zh rfl rfl)) two_le⟩)
  have q2:(jI.map Zs).filter (λ_=>true)=jI.map Zs:=qaL.mpr (by simp);rw[q,q2]
 refine Xd rfl (Xt (Xi (YB (Zh hc rfl) ?_)));rw[qC];show(if ((jI.map ((λd=>D.tup [d,.bl true])∘Zs)).length<=xg)then (WY [] _).map D.dt else none)=_;rw[if_pos (by rw[qf,YO];omega)];have e:=Zdr jI [];show(WY [] (jI.map λp=>D.tup [Zs p,.bl true])).map D.dt=_;rw[e];rfl
theorem ZeW {n i:Nat}{p:Nat×Nat}(h:p∈Xx n i):p.1<i/\p.1<p.2/\p.2<n:=by
 unfold Xx at h;obtain⟨a,ha,h⟩:=yV.mp h;obtain⟨k,hk,rfl⟩:=qt.mp h;simp at ha hk;exact⟨ha,by simp;omega,by simp;omega⟩
theorem Zik {n:Nat}{p:Nat×Nat}(h:p∈Yv n):Uc (Z9 0 n) p=Zs p:=by
 obtain⟨h1,h2,h3⟩:=ZeW h;have g:∀i,i<n->(Z9 0 n).getD i .non=.int (i:Int):=λi hi=>by
  rw[Us];simp[qbI,hi]
 unfold Uc Zs;rw[g _ h1,g _ h3]
theorem ZeX {n:Nat}(s:Pn)(hn:n<=1000):JJ [.lst (Z9 0 n)] s=some (.lst ((Yv n).map Zs),s):=by
 rw[ZeU _ _ (.inl rfl) (by rw[XW];exact hn) s,XW];congr 3;exact qX λp hp=>Zik hp
theorem ZaY {f:Za->M D}{ρ:Za}{s:Pn}{n:Nat}(h:f ρ s=some (.int n,s))(hn:n<=1000):JI f ρ s=some (.lst (Z9 0 n),s):=by
 unfold JI Zo;rw[h];show(if -(2 ^ 62)<=(n:Int)/\(n:Int)<=2 ^ 24 then ZI (D.lst (Z9 0 (n:Int).toNat))else ZO) s=_;rw[if_pos (by omega)];rfl
theorem ZjR (n:Nat)(hn:n<=1000):(Yv n).length<=1000000:=by
 have h1:=JS n n;have h2:n*n<=1000*1000:=qai hn hn;unfold Yv;omega
theorem Zd2 (l:Qa)(b:D->Bool)(q:Nat×Nat->Bool)(h:∀p,b (Zs p)=q p):((l.map Zs).filter b).map (λd=>d)=(l.filter q).map Zs:=by
 rw[qbO,qc1];congr 1;exact List.filter_congr λp _=>h p
noncomputable def V7:D->Nat×Nat
 | .tup [a,b]=>(Yz a,Yz b)
 | _=>(0,0)
theorem Zil (p:Nat×Nat):V7 (Zs p)=p:=rfl
end TP
namespace TF
open L2
theorem Zd3 {n:Nat}:∀(l:List D),(∀d∈l,ZX d<=n)->Y2 l<=n
 | [],_=>by simp[Y2]
 | d::l,h=>by
  have:=h d (by simp);have:=Zd3 l λx m=>h x (by simp[m]);simp only[Y2];omega
theorem Ok.runB {n k:Nat}{g:Za->M Out}{ds:List D}{s:Pn}{Q:D->Pn->Prop}(hl:ds.length=k)(h:Ok (g (ds.map some++qB (n-k) none)) s λo s'=>match o with | .rt d=>Q d s' | .nx _=>Q .non s' | _=>False):Ok (runB n k g ds) s Q:=by
 unfold TF.runB;rw[if_pos hl];refine .bind (h.mono λo s' q=>?_)
 cases o with
 | rt d=>exact .ret q
 | nx ρ=>exact .ret q
 | bk ρ=>exact q.elim
 | ct ρ=>exact q.elim
theorem Ok.fn {F:List D->M D}{fs:Za->M (List D)}{ρ:Za}{s s1:Pn}{ds:List D}{Q:D->Pn->Prop}(h1:fs ρ s=some (ds,s1))(h:Ok (F ds) s1 Q):Ok (ZA F fs ρ) s Q:=by
 obtain⟨a,s',e,q⟩:=h;exact⟨a,s',ZR h1 e,q⟩
theorem Ok.op {g:D->D->Option D}{f f2:Za->M D}{ρ:Za}{s:Pn}{Q:D->Pn->Prop}(h:Ok (f ρ) s λd s1=>Ok (f2 ρ) s1 λe s2=>∃c,g d e=some c/\Q c s2):Ok (Ze g f f2 ρ) s Q:=
 .bind (h.mono λd s1 q=>.bind (q.mono λe s2 q=>let ⟨c,e1,q⟩:=q;.of e1 q))
end TF
namespace TP
open L2 TF
theorem U0 {n:Nat}{p:Nat×Nat}:p∈Yv n↔p.1<p.2/\p.2<n:=by
 constructor
 ·intro h;exact(ZeW h).2
 ·intro ⟨h1,h2⟩
  unfold Yv Xx;refine yV.mpr ⟨p.1,by simp;omega,qt.mpr ⟨p.2-(p.1+1),by simp;omega,?_⟩⟩;obtain⟨a,b⟩:=p;simp only at h1 h2⊢;rw[show a+1+(b-(a+1))=b by omega]
theorem UR {n i:Nat}{d:D}(h:(Z9 0 n)[i]?=some d):i<n/\d=.int (i:Int):=by
 have:=B2 (lo:=0) h;rw[yS]at this;exact this
noncomputable def IsWeb (n:Nat)(jI:Qa):Prop:=jI.Sublist (Yv n)
theorem IsWeb.mem {n:Nat}{jI:Qa}(h:IsWeb n jI){p:Nat×Nat}(hp:p∈jI):p.1<p.2/\p.2<n:=U0.mp (h.subset hp)
theorem IsWeb.len {n:Nat}{jI:Qa}(h:IsWeb n jI)(hn:n<=24):jI.length<=576:=by
 have h1:=h.length_le;have h2:=JS n n;have h3:n*n<=24*24:=qai hn hn;unfold Yv at h1;omega
theorem IsWeb.filter {n:Nat}(f:Nat×Nat->Bool):IsWeb n ((Yv n).filter f):=za
theorem WI {jI:Qa}{a b:Nat}(h:a<b):tied jI a b=decide ((a,b)∈jI):=by
 unfold tied;rw[show min a b=a by omega,show max a b=b by omega]
theorem XX (jI:Qa)(a b:Nat):tied jI a b=tied jI b a:=by
 unfold tied;rw[show min a b=min b a by omega,show max a b=max b a by omega]
theorem W2 {n:Nat}{jI:Qa}:Zx (Zp n jI) (.int 0)=some (.int n):=by unfold Zp;exact WZ _ _
theorem Zlm {n i j:Nat}{l:Qa}(h:l.Sublist (Xx n i++(qm j).map λk=>(i,i+1+k)))(hn:n<=1000)(hi:i<n)(hj:j<=n):(l.map Zs).length<xg:=by
 have h1:=h.length_le;rw[qJ,qf,qW]at h1;have h2:=Zhf n i j hn hi hj;rw[qf];omega
end TP
namespace HT
section
variable {prog:xC}{w:World}{A:xD}{E:xE}{s:Shared}
theorem getItem_tuple_whole {t sl:Addr}{items:Array Value}{vl vu:Value}{lo hi:Option Int}{Q:xE}(ht:IsTup s.heap t items)(hs:s.heap.IsSliceOf sl vl vu .none)(pl:IsPart vl lo)(pu:IsPart vu hi)
  (hw:sIx items.size 0 lo=0/\sIx items.size items.size hi=items.size)
  (h:Q (.ref t) s)
  (hsz:items.size<=xg):xf (xA prog w) A (getItem (.ref t) (.ref sl)) Q E s:=by
 obtain⟨os,hos,hcs,hds⟩:=id hs;have hTs:s.TypeIs (.ref sl) "slice":=⟨os,hos,hcs⟩;unfold getItem
 try with_reducible refine xu ?_
 first | refine xa (xb ?_) | skip
 refine xa (wpAny_sequenceKey ht.typeIs (by decide) ?_);refine xa (wpAny_callSpecial?_slot (name:=qy "__getitem__") ht.typeIs yd
  (wpAny_call_entry yd ht.typeIs entry_tuple_getitem ?_ (args_tuple_getitem _ _)))
 show xf _ _ (qb7 (.ref t) >>= _) _ _ s;refine xa (tupleItemsOf_ ht ?_);refine xa (wpAny_typeOf hTs ?_);rw[if_pos (by decide)];refine xa (Zai hs pl pu ?_);have hyes:((((sIx items.size 0 lo:Nat):Int)==0&&(1:Int)==1&&(sIx items.size items.size hi-sIx items.size 0 lo)==items.size)=true):=by
  rw[hw.1,hw.2];simp
 show xf _ _ (if (((sIx items.size 0 lo:Nat):Int)==0&&(1:Int)==1&&(sIx items.size items.size hi-sIx items.size 0 lo)==items.size)=true then _ else _) _ _ s;rw[if_pos hyes];unfold Builtin.Tuple.tupleIsExact;refine xa (xa (wpAny_typeOf ht.typeIs ?_));refine xb ?_;rw[if_pos (by decide)];refine xa (wpAny_rule ?_)
 first
  | exact xa (xb ⟨_,rfl,xb h⟩)
  | exact xa (xb (xb ⟨_,rfl,xb h⟩))
end
end HT
namespace TF
open L2
noncomputable def Zoa (K:qj):V->Option Int->Option Int->Hp->VK->Prop:=λx lo hi H Q=>∃a xs,x=.ref a/\ZK K H a xs/\
 (HT.sIx xs.length 0 lo=0/\HT.sIx xs.length xs.length hi=xs.length)/\Q (.ref a) H
section
variable {X:Cx}{G:Gh}
theorem Zln:V8 X (Zoa X.K):=by
 intro jH s σ H x v vl vu lo hi sl Q I rx hs pl pu h;obtain⟨a,xs,rfl,hx,hw,q⟩:=h
 cases rx
 obtain⟨jJ,r,ht,hz⟩:=I.tuple hx;have jQ:jJ.toArray.size=xs.length:=by rw[qD];exact r.length.symm
 refine⟨"tuple",_,yd.lookup,ht.typeIs,?_⟩;exact HT.getItem_tuple_whole ht hs pl pu (by rw[jQ];exact hw) ⟨.ref a,H,I,rfl,q⟩ (by rw[jQ];exact hz)
noncomputable def W3 (ds:List D)(lo hi:Option Int):List D:=(ds.drop (HT.sIx ds.length 0 lo)).take (HT.sIx ds.length ds.length hi-HT.sIx ds.length 0 lo)
noncomputable def POD (X:Cx)(G:Gh)(e:Option Expr)(f:Za->M (Option Int)):Prop:=
 ∃t,PO X e t/\∀(σ:St) (Hf H:Hp) (ρ:Za) (s:Pn) (o:Option Int) (s':Pn) (Q:Option Int->Hp->Prop),Zz G Hf H->Yx G Hf σ ρ->G.st s H->f ρ s=some (o,s')->
  (∀Hf' H',Gr G Hf H Hf' H'->G.st s' H'->Q o H')->t σ H Q
noncomputable def Zhg:Za->M (Option Int):=λ_=>ZI none
noncomputable def Jn (f:Za->M D):Za->M (Option Int):=fun ρ=>Zo (f ρ) λd=>match d with | .int i=>ZI (some i) | _=>ZO
theorem ZeY:POD X G none Zhg:=⟨_,Zk2,fun σ Hf H ρ s o s' Q e1 e2 e3 e4 k=>by
 obtain⟨rfl,rfl⟩:=ZL e4;exact k Hf H (.refl e1) e3⟩
theorem ZeZ {e:Expr}{f:Za->M D}{r1:Bool}(h:PD X G r1 e f):POD X G (some e) (Jn f):=by
 obtain⟨t,p,q⟩:=h.drop;refine⟨_,Zk3 p,fun σ Hf H ρ s o s' Q e1 e2 e3 e4 k=>?_⟩;obtain⟨d,s1,a1,a2⟩:=ZE e4;refine q σ Hf H ρ s d s1 _ e1 e2 e3 a1 λv jW H1 g1 j8 r1=>?_
 match d,a2,r1 with
 | .int i,a2,r1=>
  obtain⟨rfl,rfl⟩:=ZL a2;exact⟨i,ja.mp r1,k jW H1 g1 j8⟩
noncomputable def Bn (f:Za->M D)(fl fh:Za->M (Option Int)):Za->M D:=fun ρ=>Zo (f ρ) λd=>Zo (fl ρ) λlo=>Zo (fh ρ) λhi=>match d with
 | .tup ds=>ZI (.tup (W3 ds lo hi))
 | .lst ds=>ZI (.lst (W3 ds lo hi))
 | _=>ZO
theorem Zhh {Hf:Hp}{ds:List D}{vs:List V}(r:Zf G Hf ds vs)(lo hi:Option Int):Zf G Hf (W3 ds lo hi) (Ve vs lo hi):=by
 unfold W3 Ve;rw[r.length];exact(r.drop _).take _
theorem Zga {ds:List D}{lo hi:Option Int}(h:HT.sIx ds.length 0 lo=0/\HT.sIx ds.length ds.length hi=ds.length):W3 ds lo hi=ds:=by
 unfold W3;rw[h.1,h.2];simp
theorem Ze0 {e:Expr}{lo hi:Option Expr}{p2 pos:Pos}{f:Za->M D}{fl fh:Za->M (Option Int)}{r1:Bool}(he:PD X G r1 e f)(hl:POD X G lo fl)(hh:POD X G hi fh):PD X G true (.Subscript e (.Slice lo hi none p2) pos) (Bn f fl fh):=by
 obtain⟨t,p,q⟩:=he.drop;obtain⟨tl,pl,ql⟩:=hl;obtain⟨th,ph,qh⟩:=hh;refine⟨_,Zjn (Zk5.or (ZmZ.or Zln)) p pl ph,fun σ Hf H ρ s d s' Q e1 e2 e3 e4 k=>?_⟩;obtain⟨d0,s1,a1,a2⟩:=ZE e4;obtain⟨lo',s2,a3,a4⟩:=ZE a2;obtain⟨hi',s3,a5,a6⟩:=ZE a4;refine q σ Hf H ρ s d0 s1 _ e1 e2 e3 a1 λv jW H1 g1 j8 r1=>?_;refine ql σ jW H1 ρ s1 lo' s2 _ g1.fh (e2.ext g1.ff) j8 a3 λkd H2 g2 jV=>?_;refine qh σ kd H2 ρ s2 hi' s3 _ g2.fh ((e2.ext g1.ff).ext g2.ff) jV a5 λHf3 H3 g3 st3=>?_;have rr:=(r1.ext g2.ff).ext g3.ff;have g:=(g1.trans g2).trans g3
 match d0,a6,rr with
 | .lst ds,a6,rr=>
  obtain⟨rfl,rfl⟩:=ZL a6;obtain⟨a,vs,rfl,na,ha,ra⟩:=jb.mp rr;refine .inl ⟨a,vs,rfl,Zy.of (g.fh _ _ na ha),λl hl=>?_⟩;have nf:=Gh.nofp st3 hl;have g2:=Gr.new (o:=.lst (Ve vs lo' hi')) g.fh hl nf;have rr:=Zhh ra lo' hi';exact k (.ref l) _ _ (g.trans g2) (Gh.grow st3 hl) (jb.mpr ⟨l,_,rfl,nf,ZM,rr.ext g2.ff⟩) λ_=>jn g.hh (λa ea _=>by cases ea;exact nf) (Yh.mk g.fh hl nf rr)
 | .tup ds,a6,rr=>
  obtain⟨rfl,rfl⟩:=ZL a6;obtain⟨a,vs,rfl,na,ha,ra⟩:=jc.mp rr;by_cases hw:HT.sIx vs.length 0 lo'=0/\HT.sIx vs.length vs.length hi'=vs.length
  ·refine .inr (.inr ⟨a,vs,rfl,ZK.of (g.fh _ _ na ha),hw,?_⟩)
   rw[<-ra.length]at hw;exact k (.ref a) _ _ g st3 (by rw[Zga hw];exact rr) λ_=>.scal λz=>z
  ·refine .inr (.inl ⟨a,vs,rfl,ZK.of (g.fh _ _ na ha),hw,λl hl=>?_⟩)
   have nf:=Gh.nofp st3 hl;have g2:=Gr.new (o:=.tup (Ve vs lo' hi')) g.fh hl nf;exact k (.ref l) _ _ (g.trans g2) (Gh.grow st3 hl) (jc.mpr ⟨l,_,rfl,nf,ZM,(Zhh ra lo' hi').ext g2.ff⟩) λ_=>.scal λz=>z
noncomputable def sUnp (τ:D->Za->Option Za)(f:Za->M D):Za->M Out:=fun ρ=>Zo (f ρ) λd=>match τ d ρ with | some ρ'=>ZI (.nx ρ') | none=>ZO
theorem Zlo {ob own:List Nat}{fr r1:Bool}{tg e:Expr}{pos:Pos}{τ:D->Za->Option Za}{f:Za->M D}(he:PD X G r1 e f)(hg:Vj X G tg (λi=>i∉own) τ)(hs:swapsWithSole [tg] e pos.line X.env=pure false:=by rfl)(hw:swappedStores [tg] e X.env=pure none:=by rfl)
  (h1:(assignEach [tg] X.env).map (·.2)=[assign tg X.env]:=by rfl):YA X G ob own own fr (.Assign [tg] e pos) (sUnp τ (fun ρ=>f (ZU own ρ))):=by
 obtain⟨t,p,q⟩:=he;obtain⟨g,pg,qg⟩:=hg;have hy:X3 G r1 t f:=q;refine⟨_,ZfO p pg hs hw h1,λkn jP H0 σ H ρ s out s' E ⟨Hf,j⟩ st e po=>?_⟩;obtain⟨d,s1,a1,a2⟩:=ZE e;refine hy.a kn jP H0 σ Hf H ρ s d s1 _ j st a1 λv Hf' H' j' e1 e2 st' r fz=>?_
 cases eq:τ d ρ with
 | none=>rw[eq]at a2;cases a2
 | some ρ'=>
  rw[eq]at a2;obtain⟨rfl,rfl⟩:=ZL a2;exact qg v σ Hf' H' d ρ ρ' _ j'.gr.fh r eq fun σ' hs'=>po σ' H' ⟨Hf',hs'.jf j'⟩ st'
theorem ZjS {ob:List Nat}{fr r1:Bool}{tg e:Expr}{pos:Pos}{τ:D->Za->Option Za}{f:Za->M D}(he:PD X G r1 e f)(hg:Vj X G tg (λi=>i∉([]:List Nat)) τ)(hs:swapsWithSole [tg] e pos.line X.env=pure false:=by rfl)(hw:swappedStores [tg] e X.env=pure none:=by rfl)
  (h1:(assignEach [tg] X.env).map (·.2)=[assign tg X.env]:=by rfl):YA X G ob [] [] fr (.Assign [tg] e pos) (sUnp τ f):=by
 have h:=Zlo (ob:=ob) (fr:=fr) he hg hs hw h1;have e:(fun ρ=>f (ZU [] ρ))=f:=by funext ρ;rw[Zcf]
 rw[e]at h;exact h
end
open PySem.SeqAt
open AutoSeq1 (wpAny_loadPart')
theorem Zgb (l:Addr)(items:Array Value)(n:Nat)(dd:Option Addr)(sl:Array (Option Value))(x:Int)(u:Tok)(hc0:¬((x < -(2 ^ 63):Bool)||(x≥2 ^ 63:Bool))=true)(hc1:¬(items.isEmpty||x==1)=true)(hc2:¬((x<=0:Bool)||items.isEmpty)=true)
  (hc3:¬((items.size:Int)*x > (2 ^ 63-1) / 8)) (hc4:¬qb8 ((items.size:Int)*x)=true) (hsz:(qbL (λx1 x2=>x1++x2) #[] (qB x.toNat items)).size<=xg) :
  Meets (Builtin.«tuple.__mul__» ⟨[.ref l,.int x u],[]⟩) (λ_ R s=>s.heap.get? l=some { cls:=.type "tuple",dict:=dd,data:=.seq items n,slots:=sl }/\R (.ok (.ret (ze s.heap.objs.size))) { s with heap:=s.heap.push { cls:=y6 "tuple",data:=Data.seq (qbL (λx1 x2=>x1++x2) #[] (qB x.toNat items)) },toks:=s.toks }):=
 .of_wp λprog w A R s h=>by
  obtain⟨hp,g,d,tk,os⟩:=s;obtain⟨hl,h⟩:=h;have f1:=AutoSeq1.idx_int;have f2:=qcj;have f3:=AutoSeq1.sub_list_list;have f4:=AutoSeq1.sub_tuple_list;have f5:=AutoSeq1.sub_list_tuple;wp_walk using wpAny_loadPart' hl;rw[if_neg hc0];wp_walk using wpAny_loadPart' hl;rw[if_neg hc3];wp_walk using wpAny_loadPart' hl
  try (refine wpAny_ite_false (decide_eq_false (Nat.not_lt.mpr hsz)) ?_;wp_walk)
  exact⟨_,rfl,h⟩
theorem Zbo:fillsNumberSlot (.type "tuple") "mul" = pure false:=
 PySem.fillsNumberSlot_seq (id:="tuple.__mul__") (r:=some (.builtin "tuple.__rmul__")) qbC.lookup (by decide +kernel) qcv.lookup (by decide +kernel)
theorem Zd4:seqRepeat? (.type "tuple")=pure (some (.builtin "tuple.__mul__")):=by
 unfold seqRepeat?;rw[PySem.seqSlot_of (T:="tuple") (name:="__mul__") (id:="tuple.__mul__") qbC.lookup (by decide +kernel),PySem.seqSlot_of (T:="tuple") (name:="__rmul__") (id:="tuple.__rmul__") qcv.lookup (by decide +kernel)];rfl
theorem Zcu (a:Int)(t:Tok)(l:Addr)(items:Array Value)(n:Nat)(dd:Option Addr)(sl:Array (Option Value)) :
  Meets (Builtin.«int.__rmul__» ⟨[.int a t,.ref l],[]⟩) (λ_ R s=>s.heap.get? l=some { cls:=.type "tuple",dict:=dd,data:=.seq items n,slots:=sl }/\R (.ok (.ret qcL)) s):=
 .of_wp λprog w A R s h=>by obtain⟨hp,g,d,tk,os⟩:=s;obtain⟨hl,h⟩:=h;wp_walk;exact⟨_,rfl,h⟩
section
variable {X:Cx}{G:Gh}
noncomputable def Zob (K:qj):R2:=λx y H Q=>∃l k xs,x=.ref l/\y=.int k/\ZK K H l xs/\xs≠[]/\2<=k/\k<2 ^ 62/\xs.length*k.toNat<=xg/\
 ∀p,H p=none->Q (.ref p) (Zj H p (.tup (qB k.toNat xs).flatten))
theorem Zlp:Yj X (binaryOp .Mult) (Zob X.K):=by
 intro jH s σ H x y v u Q I rx ry h;obtain⟨l,k,xs,rfl,rfl,hH,hne,h1,h2,hz,q⟩:=h
 cases rx
 obtain⟨t,rfl⟩:=ry;obtain⟨jJ,r,p1,_⟩:=I.tuple hH;obtain⟨⟨cls,dd,data,sl⟩,ho,hc,n,hd⟩:=id p1;simp only at hc hd;subst hc hd;have hl:=r.length;have hsz:jJ.toArray.size=xs.length:=by rw[qD];exact hl.symm
 have hne':jJ≠[]:=λz=>hne (r.nil_iff.mp z);have hemp:jJ.toArray.isEmpty=false:=by cases jJ with | nil=>exact absurd rfl hne' | cons a b=>rfl
 have e0:((k.toNat:Nat):Int)=k:=by omega
 have hcap:((jJ.toArray.size:Int)*k)=((xs.length*k.toNat:Nat):Int):=by rw[hsz,Int.natCast_mul,e0]
 have sl2:(xg:Nat)=16777216:=sizeLine_eq;have hnew:qbL (λx1 x2=>x1++x2) #[] (qB k.toNat jJ.toArray)=(qB k.toNat jJ).flatten.toArray:=by
  have:=Zbk jJ k.toNat [];rw[qap]at this;exact this
 have hfl:(qB k.toNat jJ).flatten.length<=xg:=by rw[ZdW,qaZ,<-hl];exact hz
 refine wpAny_binaryOp_repeat_ref (T:="tuple") (U:="int") (by decide) ⟨_,ho,rfl⟩ (λs'=>typeIs_int s' k t) Zbo F.fills_int_mul qbM Zd4 F.slot_int_index.lookup
  (call_meets qbM (typeIs_int s k t) F.entry_int_rmul (F.args_int_rmul_2 _ _) (Zcu k t l jJ.toArray n dd sl)
   ⟨ho,rfl,⟨_,ho,rfl⟩,call_meets qbC ⟨_,ho,rfl⟩ PySem.F.entry_tuple_mul (PySem.F.args_tuple_mul_2 _ _) (Zgb l jJ.toArray n dd sl k t ?_ ?_ ?_ ?_ ?_ ?_) ⟨ho,?_⟩⟩)
 ·simp;omega
 ·rw[hemp];simp;omega
 ·rw[hemp];simp;omega
 ·rw[hcap];omega
 ·unfold qb8
  rw[hcap,decide_eq_true_eq];omega
 ·rw[hnew,qD];exact hfl
 ·rw[hnew]
  exact⟨.ref s.heap.objs.size,_,I.laid (t':=s.toks) (o:=.tup (qB k.toNat xs).flatten) (λb ob q=>qd _ q) (qk _) ⟨by rw[ZdW,qaZ];exact hz,_,r.rep k.toNat,qcz _ _⟩,rfl,q _ (I.hok.fresh (qk _))⟩
theorem Zf.rep {Hf:Hp}{ds:List D}{vs:List V}(r:Zf G Hf ds vs):∀k:Nat,Zf G Hf (qB k ds).flatten (qB k vs).flatten
 | 0=>Zf.nil_iff.mpr rfl
 | k+1=>by
  rw[ya,ya,zJ,zJ];exact r.append (Zf.rep r k)
noncomputable def XR:D->D->Option D
 | .int i,.int j=>if Bq i j=true then some (.int (i*j))else none
 | .tup ds,.int k=>if ds≠[]/\2<=k/\k<2 ^ 62/\ds.length*k.toNat<=xg then some (.tup (qB k.toNat ds).flatten)else none
 | .lst ds,.int k=>if -(2 ^ 63)<=k/\k<2 ^ 63/\ds.length*k.toNat<=xg then some (.lst (qB k.toNat ds).flatten)else none
 | _,_=>none
theorem JT:XB X G (binaryOp .Mult) XR:=by
 obtain⟨r0,po,qo⟩:=ZbZ (X:=X) (G:=G);refine⟨_,po.or (Zlp.or Zm4),λHf H s x y d e c Q e1 st rx ry q k=>?_⟩
 match d,e,q,rx,ry with
 | .int i,.int j,q,rx,ry=>exact .inl (qo Hf H s x y _ _ c Q e1 st rx ry q k)
 | .tup ds,.int j,q,rx,ry=>
  have q:(if ds≠[]/\2<=j/\j<2 ^ 62/\ds.length*j.toNat<=xg then some (D.tup (qB j.toNat ds).flatten)else none)=some c:=q;split at q
  ·rename_i hz
   cases q
   obtain⟨p,vs,rfl,np,hp,rp⟩:=jc.mp rx;refine .inr (.inl ⟨p,j,vs,rfl,ja.mp ry,ZK.of (e1 _ _ np hp),λz=>hz.1 (yt.mp (by rw[rp.length,z];rfl)),hz.2.1,hz.2.2.1,by rw[<-rp.length];exact hz.2.2.2,λl hl=>?_⟩);have nf:=Gh.nofp st hl;have g2:=Gr.new (o:=.tup (qB j.toNat vs).flatten) e1 hl nf;exact k (.ref l) _ _ g2 (Gh.grow st hl) (jc.mpr ⟨l,_,rfl,nf,ZM,(rp.rep _).ext g2.ff⟩) (.scal λz=>z)
  ·cases q
 | .lst ds,.int j,q,rx,ry=>
  have q:(if -(2 ^ 63)<=j/\j<2 ^ 63/\ds.length*j.toNat<=xg then some (D.lst (qB j.toNat ds).flatten)else none)=some c:=q;split at q
  ·rename_i hz
   cases q
   obtain⟨p,vs,rfl,np,hp,rp⟩:=jb.mp rx;refine .inr (.inr ⟨p,j,vs,rfl,ja.mp ry,e1 _ _ np hp,hz.1,hz.2.1,by rw[<-rp.length];exact hz.2.2,λl hl=>?_⟩);have nf:=Gh.nofp st hl;have g2:=Gr.new (o:=.lst (qB j.toNat vs).flatten) e1 hl nf;exact k (.ref l) _ _ g2 (Gh.grow st hl) (jb.mpr ⟨l,_,rfl,nf,ZM,(rp.rep _).ext g2.ff⟩) (Yh.mk e1 hl nf (rp.rep _))
  ·cases q
end
end TF
namespace TF
open L2
section
variable {X:Cx}{G:Gh}
end
section
variable {f g:Za->M D}{ρ:Za}{s s1:Pn}{a b:Bool}{r:Option (D×Pn)}
theorem Znn (h:f ρ s=some (.bl true,s1))(h2:g ρ s1=r):Vf f g ρ s=r:=by unfold Vf Zo;rw[h];exact h2
theorem Zno (h:f ρ s=some (.bl false,s1)):Vf f g ρ s=some (.bl false,s1):=by unfold Vf Zo;rw[h];rfl
theorem Zlq (h:f ρ s=some (.bl a,s))(h2:a=true->g ρ s=some (.bl b,s)):Vf f g ρ s=some (.bl (a&&b),s):=by
 cases a with
 | false=>exact Zno h
 | true=>rw[Bool.true_and];exact Znn h (h2 rfl)
theorem Zhi (h:f ρ s=some (.bl a,s1)):Jp f ρ s=some (.bl (!a),s1):=by unfold Jp Zo;rw[h];rfl
end
section
variable {f g:Za->M Bool}{ρ:Za}{s s1:Pn}{a b:Bool}{r:Option (Bool×Pn)}
theorem Znp (h:f ρ s=some (false,s1)):UG f g ρ s=some (false,s1):=by unfold UG Zo;rw[h];rfl
theorem Znq (h:f ρ s=some (true,s1))(h2:g ρ s1=r):UG f g ρ s=r:=by unfold UG Zo;rw[h];exact h2
end
section
variable {c:Za->M Bool}{g1 g2:Za->M Out}{ρ:Za}{s s1:Pn}{r:Option (Out×Pn)}
theorem Zoc (h:c ρ s=some (true,s1))(h2:g1 ρ s1=r):XV c g1 g2 ρ s=r:=by unfold XV Zo;rw[h];exact h2
theorem Zod (h:c ρ s=some (false,s1))(h2:g2 ρ s1=r):XV c g1 g2 ρ s=r:=by unfold XV Zo;rw[h];exact h2
end
section
variable {fa fb:Za->M D}{f:D->Za->M Bool}{g:D->D->Option D}{ρ:Za}{s s1 s2:Pn}{d e:D}{k:Bool}{r:Option (Bool×Pn)}
end
theorem eqi (a b:Int):V6 (.int a) (.int b)=some (.bl (a==b)):=by
 unfold V6;rw[if_pos (by simp[V5,Zk,ZX])];simp[ZB]
theorem nei (a b:Int):Wz (.int a) (.int b)=some (.bl (!(a==b))):=by
 unfold Wz;rw[if_pos (by simp[V5,Zk,ZX])];simp[ZB]
theorem Zlr {ds:List D}{r:Nat}(h:r<ds.length):∃d∈ds,Zx (.lst ds) (.int (r:Int))=some d:=
 ⟨ds[r],qcm h,Vp (qI h)⟩
theorem Zb1 {f:Za->M D}{ρ:Za}{s s1:Pn}{ds:List D}(h:f ρ s=some (.tup ds,s1)):X0 f ρ s=some (ds,s1):=by unfold X0 Zo;rw[h];rfl
theorem Vr {f:Za->M D}{ρ:Za}{s s1:Pn}{ds:List D}(h:f ρ s=some (.lst ds,s1)):YU f ρ s=some (ds,s1):=by unfold YU Zo;rw[h];rfl
end TF
namespace TP
open L2 TF
theorem WQ {α:Type}(l:List α):l.filter (λ_=>true)=l:=qaL.mpr (by simp)
end TP
namespace TF
open L2
section
variable {f:Za->M D}{fs:Za->M (List D)}{ρ:Za}{s:Pn}
theorem Ok.sunp {τ:D->Za->Option Za}{Q:Out->Pn->Prop}(h:Ok (f ρ) s λd s1=>∃ρ',τ d ρ=some ρ'/\Q (.nx ρ') s1):Ok (sUnp τ f ρ) s Q:=
 .bind (h.mono λd s1 q=>by obtain⟨ρ',e,q⟩:=q;rw[e];exact .ret q)
end
theorem Zls {f:Za->M D}{ρ:Za}{s:Pn}{x:D}(h1:f ρ s=some (x,s)):Yk (Zc f Zd) ρ s=some (.tup [x],s):=Wr (Zh h1 rfl) (by show 1<=xg;decide)
theorem Zlt {f g:Za->M D}{ρ:Za}{s:Pn}{x y:D}(h1:f ρ s=some (x,s))(h2:g ρ s=some (y,s)):Yk (Zc f (Zc g Zd)) ρ s=some (.tup [x,y],s):=Wr (Zh h1 (Zh h2 rfl)) TP.two_le
theorem J9 {f:Za->M D}{ρ:Za}{s:Pn}{x:D}(h1:f ρ s=some (x,s)):Yy (Zc f Zd) ρ s=some (.lst [x],s):=Zd1 (Zh h1 rfl) (by show 1<=xg;decide)
noncomputable def LT (P:D->Prop)(m:Nat)(d:D):Prop:=∃L,d=.lst L/\L.length=m/\∀x∈L,P x
theorem LT.pick {P:D->Prop}{m r:Nat}{d:D}(h:LT P m d)(hr:r<m):∃x,Zx d (.int (r:Int))=some x/\P x:=by
 obtain⟨L,rfl,l1,p1⟩:=h;obtain⟨x,hx,e⟩:=Zlr (ds:=L) (r:=r) (by omega);exact⟨x,e,p1 x hx⟩
theorem LT.nil (P:D->Prop):LT P 0 (.lst []):=⟨[],rfl,rfl,by simp⟩
theorem LT.cons {P:D->Prop}{m:Nat}{x:D}{L:List D}(hx:P x)(h:LT P m (.lst L)):LT P (m+1) (.lst (x::L)):=by
 obtain⟨L',e,l1,p1⟩:=h
 cases e
 exact⟨x::L,rfl,by simp[l1],λy hy=>by
  rcases qp.mp hy with h | h
  ·rw[h];exact hx
  ·exact p1 y h⟩
noncomputable def YR (m t:Int)(wa:Addr):List (Zt×V):=[(.inr (qy "mixed"),.int m),(.inr (qy "turn"),.int t),(.inr (qy "wide"),.ref wa)]
theorem k_mt:¬((qag (qy "mixed"):Zt)=qag (qy "turn")):=by decide
theorem k_mw:¬((qag (qy "mixed"):Zt)=qag (qy "wide")):=by decide
theorem k_tw:¬((qag (qy "turn"):Zt)=qag (qy "wide")):=by decide
theorem Zoe (m t:Int)(wa:Addr):Yd (YR m t wa) (.inr (qy "mixed"))=some (.int m):=X7 rfl
theorem Zof (m t:Int)(wa:Addr):Yd (YR m t wa) (.inr (qy "turn"))=some (.int t):=(X8 k_mt).trans (X7 rfl)
theorem Zog (m t:Int)(wa:Addr):Yd (YR m t wa) (.inr (qy "wide"))=some (.ref wa):=(X8 k_mw).trans ((X8 k_tw).trans (X7 rfl))
theorem Zlu (m t t':Int)(wa:Addr):YD (YR m t wa) (.inr (qy "turn")) (.int t')=YR m t' wa:=by
 have h2:¬((qag (qy "wide"):Zt)=qag (qy "turn")):=λz=>k_tw z.symm;unfold YD YR;rw[if_pos (by simp)];have h3:¬(qy "mixed" = qy "turn"):=by decide
 have h4:¬(qy "wide" = qy "turn"):=by decide
 simp[h3,h4]
noncomputable def W7 (p wa:Addr)(s:Pn)(H:Hp):Prop:=∃m t,s.1=[m,t]/\H p=some (.dK (YR m t wa))/\H wa=some (.lst (s.2.map V.int))/\p≠wa
noncomputable def Jv (p wa:Addr):Gh where
 fp:=λb=>b=p∨b=wa
 rd:=λb=>b=p∨b=wa
 pen:=.ref p
 st:=W7 p wa
 mono:=λs H H' ⟨m,t,e0,e1,e2,ne⟩ k _=>⟨m,t,e0,k p _ (.inl rfl) e1,k wa _ (.inr rfl) e2,ne⟩
 sub:=λb h=>h
 dom:=λs H b ⟨m,t,e0,e1,e2,ne⟩ hb=>by
  rcases hb with rfl | rfl
  ·exact⟨_,e1⟩
  ·exact⟨_,e2⟩
 ntp:=λs H b vs ⟨m,t,e0,e1,e2,ne⟩ hb z=>by
  rcases hb with r | r
  ·rw[r,e1]at z;cases z
  ·rw[r,e2]at z;cases z
noncomputable def Vh:Gh->Prop:=λG=>∃p wa,G=Jv p wa
noncomputable def Zmn (k:Int):List Int->List Int
 | c::r=>if c<k then r else c::r
 | []=>[]
noncomputable def Zhj (m t:Int):Int:=
 let one:=(m+7919*t*t) % 2147483629
 let two:=(one*one+40692*t+3) % 998244353
 (two*two+one) % 2147483587 / 16
noncomputable def Vc (k m t:Int)(w:List Int):D×Pn:=match Zmn k w with
 | c::r=>(.int (c % k),([m,t],(c / k)::r))
 | []=>(.int (Zhj m (t+1) % k),([m,t+1],[]))
noncomputable def We:List D->M D:=λds s=>match ds,s with
 | [.pen,.int k],([m,t],w)=>if 0<k/\k<1073741824/\0<=t/\t<2 ^ 60 then some (Vc k m t w)else none
 | _,_=>none
theorem Zcv {ds:List D}{s s':Pn}{d:D}(h:We ds s=some (d,s')):∃k m t w,ds=[.pen,.int k]/\s=([m,t],w)/\0<k/\k<1073741824/\0<=t/\t<2 ^ 60/\Vc k m t w=(d,s'):=by
 unfold We at h;split at h
 ·split at h
  ·rename_i k m t w c
   exact⟨k,m,t,w,rfl,rfl,c.1,c.2.1,c.2.2.1,c.2.2.2,zv h⟩
  ·cases h
 ·cases h
noncomputable def X5 (T:Nat)(s:Pn):Prop:=∃m t:Int,s.1=[m,t]/\0<=t/\t<=T
theorem X5.mono {T T':Nat}{s:Pn}(h:X5 T s)(hT:T<=T'):X5 T' s:=by
 obtain⟨m,t,e,h1,h2⟩:=h;exact⟨m,t,e,h1,by omega⟩
theorem Zlv {T:Nat}{s:Pn}{k:Int}(ok:X5 T s)(hT:T<1000000000)(h1:0<k)(h2:k<1073741824):∃r s',We [.pen,.int k] s=some (.int r,s')/\0<=r/\r<k/\X5 (T+1) s':=by
 obtain⟨l,w⟩:=s;obtain⟨m,t,e,t0,tT⟩:=ok;simp only at e;subst e;have hd:We [.pen,.int k] ([m,t],w)=some (Vc k m t w):=if_pos ⟨h1,h2,t0,by omega⟩;unfold Vc at hd;split at hd
 ·exact⟨_,_,hd,qbk _ (by omega),qaR _ h1,m,t,rfl,t0,by omega⟩
 ·exact⟨_,_,hd,qbk _ (by omega),qaR _ h1,m,t+1,rfl,by omega,by omega⟩
theorem Ok.drawD {fs:Za->M (List D)}{ρ:Za}{s:Pn}{m T:Nat}{Q:D->Pn->Prop}(ok:X5 T s)(hT:T<1000000000)(h1:fs ρ s=some ([.pen,.int (m:Int)],s))(hm:0<m)(hm2:m<1073741824)(h:∀(r:Nat) s',r<m->X5 (T+1) s'->Q (.int (r:Int)) s'):Ok (ZA We fs ρ) s Q:=by
 obtain⟨r,s1,e,r0,r1,ok1⟩:=Zlv ok hT (show 0<(m:Int) by omega) (show(m:Int)<1073741824 by omega);obtain⟨n,rfl⟩:=Int.eq_ofNat_of_zero_le r0;exact .fn h1 (.eq e (h n s1 (by omega) ok1))
theorem ZjT {X:Cx}{GG:Gh->Prop}{ob own own':List Nat}{fr:Bool}{sts:List Stmt}{g:Za->M Out}(h:∀G,GG G->Xl X G ob own own' fr sts g):X2 X sts (λE σ H=>∃G,GG G/\Zmm G ob own own' fr g E σ H):=by
 intro jH s σ H D I ⟨G,hG,kn,jP,H0,ρ,pn,out,pn',j,st,e,po⟩;obtain⟨t,p,q⟩:=h G hG;exact p jH s σ H D I (q kn jP H0 σ H ρ pn out pn' D j st e po)
noncomputable def WT (ns:List Int):List Int:=ns.filter λc=>decide (10 ^ 15<=c)
noncomputable def Zmo (K:qj):Sp:=λvs H Q _=>∃(a:Addr) (ns:List Int),vs=[.ref a]/\Zy K H a (ns.map V.int)/\ns.length<=63/\
 ∀(p wa:Addr) (m:Int) (H':Hp),W7 p wa ([m,0],WT ns) H'->(∀b u,H b=some u->H' b=some u)->H p=none->H wa=none->Q (.ref p) H'
noncomputable def tW:TE:=ZgZ (Z3 0) (tC (.str (qy "wide")))
noncomputable def tTn:TE:=ZgZ (Z3 0) (tC (.str (qy "turn")))
noncomputable def tMx:TE:=ZgZ (Z3 0) (tC (.str (qy "mixed")))
noncomputable def Zmp (K:qj):TE:=tCB (λxs H Q=>∃p ys,xs=[.ref p]/\(Zy K H p ys∨ZK K H p ys)/\Q (.int ys.length) H) (Vz tW VB)
noncomputable def tW0 (K:qj):TE:=Yn (rIxL K) tW (tC (.int 0))
noncomputable def Zmq:TS:=Vd (Zmi (Z3 0) (tC (.str (qy "turn"))) (Yn (Y9 λi j=>.int (i+j)) tTn (tC (.int 1))))
 (Vd (V2 (Yn (rI (λ_ j=>0<j) λi j=>.int (i % j)) (Yn (Y9 λi j=>.int (i+j)) tMx (Yn (rI VA λi j=>.int (i*j)) (Yn (rI VA λi j=>.int (i*j)) (tC (.int 7919)) tTn) tTn)) (tC (.int 2147483629))) (WV 3))
 (Vd (V2 (Yn (rI (λ_ j=>0<j) λi j=>.int (i % j)) (Yn (Y9 λi j=>.int (i+j)) (Yn (Y9 λi j=>.int (i+j)) (Yn (rI VA λi j=>.int (i*j)) (Z3 3) (Z3 3)) (Yn (rI VA λi j=>.int (i*j)) (tC (.int 40692)) tTn)) (tC (.int 3))) (tC (.int 998244353))) (WV 4))
 (tRet (Yn (rI (λ_ j=>0<j) λi j=>.int (i % j)) (Yn (rI CDiv λi j=>.int (i / j)) (Yn (rI (λ_ j=>0<j) λi j=>.int (i % j)) (Yn (Y9 λi j=>.int (i+j)) (Yn (rI VA λi j=>.int (i*j)) (Z3 4) (Z3 4)) (Z3 3)) (tC (.int 2147483587))) (tC (.int 16))) (Z3 1)))))
noncomputable def ZjU (K : qj) : TS := Vd (tIfS (Bp (Yn (Y9 λi j => .bl (decide (j < i))) (Zmp K) (tC (.int 0))))
    (Vd (V2 (Yn (rI (λ_ j => 0 < j) λi j => .int (i % j)) (tW0 K) (Z3 1)) (WV 2)) (Vd (V2 (Yn (rI CDiv λi j => .int (i / j)) (tW0 K) (Z3 1)) (gSub tW (tC (.int 0)) Zmf)) (tRet (Z3 2)))) Zjb) Zmq
noncomputable def ZjV (K : qj) : TS := Vd (tIfS (tAnd (Bp (Yn (Y9 λi j => .bl (decide (j < i))) (Zmp K) (tC (.int 0)))) (Bp (Yn (Y9 λi j => .bl (decide (i < j))) (tW0 K) (Z3 1))))
    (VY (Ua K "list" Zjp tW (Vz (tC (.int 0)) VB))) Zjb) (ZjU K)
theorem UK {H:Hp}{p wa:Addr}{m t:Int}(h:H p=some (.dK (YR m t wa))):Xk H p (.str (qy "wide")) (some (.ref wa)):=by have:=Xk.k (k:=.inr (qy "wide")) h;rwa[Zog]at this
theorem dg_t {H:Hp}{p wa:Addr}{m t:Int}(h:H p=some (.dK (YR m t wa))):Xk H p (.str (qy "turn")) (some (.int t)):=by have:=Xk.k (k:=.inr (qy "turn")) h;rwa[Zof]at this
theorem dg_m {H:Hp}{p wa:Addr}{m t:Int}(h:H p=some (.dK (YR m t wa))):Xk H p (.str (qy "mixed")) (some (.int m)):=by have:=Xk.k (k:=.inr (qy "mixed")) h;rwa[Zoe]at this
theorem dp_t {H:Hp}{p wa:Addr}{m t t':Int}(h:H p=some (.dK (YR m t wa))):WK H p (.str (qy "turn")) (.int t') (Zj H p (.dK (YR m t' wa))):=by
 have:=WK.k (k:=.inr (qy "turn")) (v:=.int t') h (by show 3<xg;decide)
 rwa[Zlu]at this
theorem Zim {p wa:Addr}{m x t:Int}{Q:VK}{N:St->Hp->Prop}{H:Hp}{o2:Option V}(m0:0<m)(m1:m<1073741824)(t0:0<=t)(t1:t<2 ^ 60)(hp:H p=some (.dK (YR x t wa)))
  (k:Q (.int (Zhj x (t+1) % m)) (Zj H p (.dK (YR x (t+1) wa)))):Zmq { nx:=N,rt:=Q } [some (.ref p),some (.int m),o2,none,none] H:=by
 have hp2:Zj H p (.dK (YR x (t+1) wa)) p=some (.dK (YR x (t+1) wa)):=ZM;generalize hT:t+1=T at hp2 k;have b1:∀z:Int,0<=z % 2147483629/\z % 2147483629<2147483629:=λz=>⟨qbk _ (by decide),qaR _ (by decide)⟩;have b2:∀z:Int,0<=z % 998244353/\z % 998244353<998244353:=λz=>⟨qbk _ (by decide),qaR _ (by decide)⟩;refine⟨.ref p,rfl,p,.int t,rfl,dg_t hp,t,1,rfl,rfl,.ref p,rfl,p,Zj H p (.dK (YR x T wa)),rfl,by rw[<-hT];exact dp_t hp,?_⟩;refine⟨.ref p,rfl,p,.int x,rfl,dg_m hp2,.ref p,rfl,p,.int T,rfl,dg_t hp2,7919,T,rfl,rfl,.inl ⟨by decide,by decide⟩,.ref p,rfl,p,.int T,rfl,dg_t hp2,7919*T,T,rfl,rfl,.inr ⟨by omega,by omega⟩,x,7919*T*T,rfl,rfl,x+7919*T*T,2147483629,rfl,rfl,(by show(0:Int)<2147483629;decide),?_⟩;have h1:=b1 (x+7919*T*T);have h2:=b2 (((x+7919*T*T) % 2147483629)*((x+7919*T*T) % 2147483629)+40692*T+3);refine⟨.int ((x+7919*T*T) % 2147483629),rfl,.int ((x+7919*T*T) % 2147483629),rfl,((x+7919*T*T) % 2147483629),((x+7919*T*T) % 2147483629),rfl,rfl,.inl ⟨by omega,by omega⟩,.ref p,rfl,p,.int T,rfl,dg_t hp2,40692,T,rfl,rfl,.inl ⟨by decide,by decide⟩,((x+7919*T*T) % 2147483629)*((x+7919*T*T) % 2147483629),40692*T,rfl,rfl,((x+7919*T*T) % 2147483629)*((x+7919*T*T) % 2147483629)+40692*T,3,rfl,rfl,((x+7919*T*T) % 2147483629)*((x+7919*T*T) % 2147483629)+40692*T+3,998244353,rfl,rfl,(by show(0:Int)<998244353;decide),?_⟩;refine⟨.int ((((x+7919*T*T) % 2147483629)*((x+7919*T*T) % 2147483629)+40692*T+3) % 998244353),rfl,.int ((((x+7919*T*T) % 2147483629)*((x+7919*T*T) % 2147483629)+40692*T+3) % 998244353),rfl,((((x+7919*T*T) % 2147483629)*((x+7919*T*T) % 2147483629)+40692*T+3) % 998244353),((((x+7919*T*T) % 2147483629)*((x+7919*T*T) % 2147483629)+40692*T+3) % 998244353),rfl,rfl,.inl ⟨by omega,by omega⟩,.int ((x+7919*T*T) % 2147483629),rfl,((((x+7919*T*T) % 2147483629)*((x+7919*T*T) % 2147483629)+40692*T+3) % 998244353)*((((x+7919*T*T) % 2147483629)*((x+7919*T*T) % 2147483629)+40692*T+3) % 998244353),((x+7919*T*T) % 2147483629),rfl,rfl,((((x+7919*T*T) % 2147483629)*((x+7919*T*T) % 2147483629)+40692*T+3) % 998244353)*((((x+7919*T*T) % 2147483629)*((x+7919*T*T) % 2147483629)+40692*T+3) % 998244353)+((x+7919*T*T) % 2147483629),2147483587,rfl,rfl,(by show(0:Int)<2147483587;decide),(((((x+7919*T*T) % 2147483629)*((x+7919*T*T) % 2147483629)+40692*T+3) % 998244353)*((((x+7919*T*T) % 2147483629)*((x+7919*T*T) % 2147483629)+40692*T+3) % 998244353)+((x+7919*T*T) % 2147483629)) % 2147483587,16,rfl,rfl,(by show(0:Int)<16/\(16:Int)<1073741824;decide),.int m,rfl,(((((x+7919*T*T) % 2147483629)*((x+7919*T*T) % 2147483629)+40692*T+3) % 998244353)*((((x+7919*T*T) % 2147483629)*((x+7919*T*T) % 2147483629)+40692*T+3) % 998244353)+((x+7919*T*T) % 2147483629)) % 2147483587 / 16,m,rfl,rfl,m0,?_⟩;exact k
theorem BV (w:List Int):((w.map V.int).length:Int)=(w.length:Int):=by simp
theorem ix0 (c:Int)(r:List Int):Xz ((c::r).map V.int).length 0=some 0:=by
 unfold Xz;rw[if_pos (by decide),if_pos (by rw[BV];simp)];rfl
theorem Zin {K:qj}{p wa:Addr}{m x t:Int}{w1:List Int}{Q:VK}{N:St->Hp->Prop}{H:Hp}(m0:0<m)(m1:m<1073741824)(t0:0<=t)(t1:t<2 ^ 60)(hp:H p=some (.dK (YR x t wa)))(hw:H wa=some (.lst (w1.map V.int)))(ne:p≠wa)
  (k1:∀c r,w1=c::r->Q (.int (c % m)) (Zj H wa (.lst (((c / m)::r).map V.int)))) (k2:w1=[]->Q (.int (Zhj x (t+1) % m)) (Zj H p (.dK (YR x (t+1) wa)))) :
  ZjU K { nx:=N,rt:=Q } [some (.ref p),some (.int m),none,none,none] H:=by
 refine⟨.ref p,rfl,p,.ref wa,rfl,UK hp,wa,w1.map V.int,rfl,.inl (Zy.of hw),_,0,rfl,rfl,_,rfl,?_⟩
 cases w1 with
 | nil=>
  refine VC ?_;exact Zim m0 m1 t0 t1 hp (k2 rfl)
 | cons c r=>
  have e:decide ((0:Int)<(((c::r).map V.int).length:Int))=true:=by rw[decide_eq_true_eq,BV];simp
  rw[e];refine V3 ?_;have hi:XA ((c::r).map V.int) 0=some (.int c):=Vp (j:=0) rfl;refine⟨.ref p,rfl,p,.ref wa,rfl,UK hp,wa,_,0,.int c,rfl,rfl,Zy.of hw,hi,.int m,rfl,c,m,rfl,rfl,m0,?_⟩;refine⟨.ref p,rfl,p,.ref wa,rfl,UK hp,wa,_,0,.int c,rfl,rfl,Zy.of hw,hi,.int m,rfl,c,m,rfl,rfl,⟨m0,m1⟩,.ref p,rfl,p,.ref wa,rfl,UK hp,wa,(c::r).map V.int,0,0,rfl,rfl,hw,ix0 c r,?_⟩;exact⟨_,rfl,k1 c r rfl⟩
theorem ZjW {K:qj}{p wa:Addr}{m x t:Int}{ww:List Int}{d:D}{pn':Pn}{Q:VK}{N:St->Hp->Prop}{H:Hp}(m0:0<m)(m1:m<1073741824)(t0:0<=t)(t1:t<2 ^ 60)(eS:Vc m x t ww=(d,pn'))(hp:H p=some (.dK (YR x t wa)))(hw:H wa=some (.lst (ww.map V.int)))(ne:p≠wa)
  (k:∀(i:Int) (H':Hp),d=.int i->(∀b,b≠p->b≠wa->H' b=H b)->W7 p wa pn' H'->Q (.int i) H') :
  ZjV K { nx:=N,rt:=Q } [some (.ref p),some (.int m),none,none,none] H:=by
 have fin:∀(H1:Hp) (w1:List Int),w1=Zmn m ww->H1 p=some (.dK (YR x t wa))->H1 wa=some (.lst (w1.map V.int))->(∀b,b≠p->b≠wa->H1 b=H b)->ZjU K { nx:=N,rt:=Q } [some (.ref p),some (.int m),none,none,none] H1:=by
  intro H1 w1 e1 hp1 hw1 ag;refine Zin m0 m1 t0 t1 hp1 hw1 ne (λc r ec=>?_) λec=>?_
  ·have:Vc m x t ww=(.int (c % m),([x,t],(c / m)::r)):=by unfold Vc;rw[<-e1,ec]
   rw[this]at eS
   cases eS
   refine k _ _ rfl (λb h1 h2=>by rw[Zq h2];exact ag b h1 h2) ⟨x,t,rfl,by rw[Zq ne];exact hp1,ZM,ne⟩
  ·have:Vc m x t ww=(.int (Zhj x (t+1) % m),([x,t+1],[])):=by unfold Vc;rw[<-e1,ec]
   rw[this]at eS
   cases eS
   subst ec;refine k _ _ rfl (λb h1 h2=>by rw[Zq h1];exact ag b h1 h2) ⟨x,t+1,rfl,ZM,by rw[Zq (zD ne)];exact hw1,ne⟩
 refine⟨.ref p,rfl,p,.ref wa,rfl,UK hp,wa,ww.map V.int,rfl,.inl (Zy.of hw),_,0,rfl,rfl,_,rfl,?_⟩
 cases ww with
 | nil=>
  refine VC ?_;refine VC ?_;exact fin H [] rfl hp hw λ_ _ _=>rfl
 | cons c r=>
  have e:decide ((0:Int)<(((c::r).map V.int).length:Int))=true:=by rw[decide_eq_true_eq,BV];simp
  rw[e];refine V3 ?_;have hi:XA ((c::r).map V.int) 0=some (.int c):=Vp (j:=0) rfl;refine⟨.ref p,rfl,p,.ref wa,rfl,UK hp,wa,_,0,.int c,rfl,rfl,Zy.of hw,hi,.int m,rfl,c,m,rfl,rfl,_,rfl,?_⟩;by_cases hc:c<m
  ·rw[decide_eq_true hc]
   refine V3 ?_;refine⟨.ref p,rfl,p,.ref wa,rfl,UK hp,.inl ⟨rfl,_,Zy.of hw⟩,wa,(c::r).map V.int,0,0,.int c,rfl,rfl,hw,by decide,by decide,seqIndex_of (by decide) (by rw[BV];simp),rfl,?_⟩;refine fin _ r (by show r=if c<m then r else c::r;rw[if_pos hc]) (by rw[Zq ne];exact hp) (by rw[ZM];rfl) λb h1 h2=>by rw[Zq h2]
  ·rw[decide_eq_false hc]
   refine VC ?_;exact fin H (c::r) (by show c::r=if c<m then r else c::r;rw[if_neg hc]) hp hw λ_ _ _=>rfl
theorem Znr {p wa:Addr}{Hf H H':Hp}(e1:Zz (Jv p wa) Hf H)(ag:∀b,b≠p->b≠wa->H' b=H b):Gr (Jv p wa) Hf H Hf H':=
 have no:∀b,¬(Jv p wa).fp b->b≠p/\b≠wa:=λb n=>⟨λz=>n (.inl z),λz=>n (.inr z)⟩
 ⟨λb u n q=>by rw[ag b (no b n).1 (no b n).2];exact q,.refl _ _,λb u n q=>by rw[ag b (no b n).1 (no b n).2];exact e1 b u n q,λb n h1 h2=>h1⟩
theorem Zio {K:qj}{vs:List V}{H:Hp}{Q:VK}{E:XK}{N:St->Hp->Prop}(h:Yw 2 true Vh We vs H Q E):∃p m,vs=[.ref p,.int m]/\ZjV K { nx:=N,rt:=Q } [some (.ref p),some (.int m),none,none,none] H:=by
 obtain⟨G,Hf,ds,pn,d,pn',hG,el,e1,r,st',eF,k'⟩:=h;obtain⟨p,wa,rfl⟩:=hG;obtain⟨m,x,t,ww,rfl,rfl,m0,m1,t0,t1,eS⟩:=Zcv eF;obtain⟨v1,v2,rfl,r1,r2⟩:=js r
 cases (jp.mp r1)
 cases (ja.mp r2)
 obtain⟨x',t',ea,hp,hw,ne⟩:=st';simp only[List.cons.injEq,and_true]at ea;obtain⟨rfl,rfl⟩:=ea;refine⟨p,m,rfl,ZjW m0 m1 t0 t1 eS hp hw ne λi H' ed ag st=>?_⟩;exact k' _ Hf H' (Znr e1 ag) st (by rw[ed];exact ja.mpr rfl) λ_=>.scal λz=>by rw[ed]at z;exact z
theorem ZjX {X:Cx}{XN:List Str}{NS:List (Str×NameKind)}{elt tg iter:Expr}{ifs:List Expr}{scope:Scope}{pos:Pos}{N':List Str}{src:List (Option Nat)}{wi:TI}{g:TG}{tt:TT}{te:TE}(hc:X.calm=true)(B:BlkS X XN NS N' src scope)(hi:PI X tg iter wi)
  (hg:∀cl jH C s H fp,PG (L2.blk X jH N' scope cl C s H fp) tg g) (ht:∀cl jH C s H fp,VD (L2.blk X jH N' scope cl C s H fp) ifs tt) (he:∀cl jH C s H fp,PE (L2.blk X jH N' scope cl C s H fp) elt te)
  (hs:∀x,foldedSetIterable iter X.env x=pure x:=by intro _;rfl):PE X (.ListComp elt [⟨tg,iter,ifs,0⟩] scope pos) (Zg0 src wi g tt te):=by
 intro jH s σ H Q I h;obtain⟨cl,B'⟩:=B.ok I.ok;exact Zg1 hc B' hi (hg cl) (ht cl) (he cl) hs jH s σ H Q I h
noncomputable def ZjY (K:qj):TE:=Zg0 [none] (Zjg K (Z3 0)) (WV 0) (Bp (Yn (Y9 λi j=>.bl (decide (j<=i))) (Z3 0) (Yn (rI CPow λi j=>.int (i ^ j.toNat)) (tC (.int 10)) (tC (.int 15))))) (Z3 0)
noncomputable def Zoh (K:qj):TS:=Vd (V2 (tC (.int 7)) (WV 1))
 (Vd (tFor (Zjg K (Z3 0)) (WV 2) (V2 (Yn (rI (λ_ j=>0<j) λi j=>.int (i % j)) (Yn (Y9 λi j=>.int (i+j)) (Yn (Y9 λi j=>.int (i+j)) (Yn (rI VA λi j=>.int (i*j)) (Z3 1) (tC (.int 48271))) (Yn (rI (λ_ j=>0<j) λi j=>.int (i % j)) (Z3 2) (tC (.int 1000000007)))) (tC (.int 11))) (tC (.int 2147483629))) (WV 1)))
 (tRet (Zmj [(tC (.str (qy "mixed")),Z3 1),(tC (.str (qy "turn")),tC (.int 0)),(tC (.str (qy "wide")),ZjY K)])))
theorem ZjZ {K:qj}{H:Hp}{a p:Addr}{xs:List V}{o:HO}(sq:Zy K H a xs)(hp:H p=none):Zy K (Zj H p o) a xs:=by
 have hne:∀u,H a=some u->a≠p:=λu e z=>by rw[z,hp]at e;cases e
 rcases sq with(q | ⟨o',q⟩) | q
 ·exact .inl (.inl (by rw[Zq (hne _ q)];exact q))
 ·exact .inl (.inr ⟨o',by rw[Zq (hne _ q)];exact q⟩)
 ·exact .inr q
theorem Zj0 {H:Hp}{p:Addr}{o o':HO}:Zj (Zj H p o) p o'=Zj H p o':=by
 funext b;by_cases h:b=p
 ·subst h;rw[ZM,ZM]
 ·rw[Zq h,Zq h,Zq h]
theorem Zip (m t:Int)(wa:Addr):VW [] (YR m t wa)=YR m t wa:=by
 have h3:¬(qy "mixed" = qy "turn"):=by decide
 have h4:¬(qy "mixed" = qy "wide"):=by decide
 have h5:¬(qy "turn" = qy "wide"):=by decide
 simp[VW,YR,YD,h3,h4,h5]
theorem Ziq (ns:List Int)(i:Nat)(c:Int)(h:ns[i]?=some c):WT (ns.take (i+1))=WT (ns.take i)++(if decide (10 ^ 15<=c)=true then [c]else []):=by
 unfold WT;rw[List.take_succ,h,List.filter_append];congr 1;by_cases hc:(10:Int) ^ 15<=c
 ·rw[if_pos (decide_eq_true hc)]
  exact qbw (decide_eq_true hc)
 ·rw[if_neg (by simpa using hc)]
  exact qbx (by simpa using hc)
theorem Zj1 {K:qj}{a:Addr}{ns:List Int}{H:Hp}{Q:VK}{o1 o2:Option V}(sq:Zy K H a (ns.map V.int))(hl:ns.length<=63)(k:∀p,H p=none->Q (.ref p) (Zj H p (.lst ((WT ns).map V.int)))):ZjY K [some (.ref a),o1,o2] H Q:=by
 refine⟨.ref a,rfl,a,rfl,⟨_,sq⟩,λp hp=>?_⟩;refine⟨λi n σ2 H2=>i<=ns.length/\n=ns.length-i/\(∃o,σ2=[o])/\H2=Zj H p (.lst ((WT (ns.take i)).map V.int)),⟨ns.length,zR _,by omega,⟨none,rfl⟩,rfl⟩,λi n σ2 H2 ⟨hi,hn,⟨o,hσ⟩,hH⟩=>?_⟩;subst hσ hH;have sq2:Zy K (Zj H p (.lst ((WT (ns.take i)).map V.int))) a (ns.map V.int):=ZjZ sq hp;by_cases he:i=ns.length
 ·refine .inl ⟨⟨_,sq2,by rw[qf];omega⟩,?_⟩
  subst he;rw[qa9];exact k p hp
 ·have hlt:i<ns.length:=by omega
  have gi:(ns.map V.int)[i]?=some (.int ns[i]):=by rw[qu,qI hlt];rfl
  refine .inr ⟨⟨_,_,sq2,gi⟩,λx H3 ⟨y1,y2⟩=>?_⟩;subst y1;have ex:=y2 _ sq2;rw[gi]at ex
  cases ex
  refine⟨.int ns[i],rfl,10,15,rfl,rfl,⟨by decide,by decide,by decide⟩,ns[i],10 ^ (15:Int).toNat,rfl,rfl,_,rfl,?_⟩;have ew:=Ziq ns i ns[i] (qI hlt);by_cases hc:(10:Int) ^ 15<=ns[i]
  ·have hd:decide ((10:Int) ^ (15:Int).toNat<=ns[i])=true:=decide_eq_true hc
   rw[hd];refine V3 ?_;refine⟨.int ns[i],rfl,(WT (ns.take i)).map V.int,ZM,?_,n-1,by omega,by omega,by omega,⟨_,rfl⟩,?_⟩
   ·have:(WT (ns.take i)).length<=(ns.take i).length:=qas ..
    rw[qf,sizeLine_eq];have:=qcV i ns;omega
   ·rw[Zj0,ew,if_pos (decide_eq_true hc),zf]
    rfl
  ·have hd:decide ((10:Int) ^ (15:Int).toNat<=ns[i])=false:=decide_eq_false hc
   rw[hd];refine VC ?_;refine⟨n-1,by omega,by omega,by omega,⟨_,rfl⟩,?_⟩;rw[ew,if_neg (by simpa using hc),zB]
theorem Zlw {K:qj}{a:Addr}{ns:List Int}{H:Hp}{Q:VK}{N:St->Hp->Prop}(sq:Zy K H a (ns.map V.int))(hl:ns.length<=63)(k:∀(p wa:Addr) (m:Int) (H':Hp),W7 p wa ([m,0],WT ns) H'->(∀b u,H b=some u->H' b=some u)->H p=none->H wa=none->Q (.ref p) H') :
  Zoh K { nx:=N,rt:=Q } [some (.ref a),none,none] H:=by
 refine⟨.ref a,rfl,a,rfl,⟨_,sq⟩,?_⟩;refine⟨λi n σ2 H2=>i<=ns.length/\n=ns.length-i/\(∃x o2,σ2=[some (.ref a),some (.int x),o2])/\H2=H,⟨ns.length,zR _,by omega,⟨7,none,rfl⟩,rfl⟩,λi n σ2 H2 ⟨hi,hn,⟨x,o2,hσ⟩,hH⟩=>?_⟩;subst hσ hH;by_cases he:i=ns.length
 ·refine .inl ⟨⟨_,sq,by rw[qf];omega⟩,?_⟩
  intro p hp;refine⟨.int x,rfl,?_⟩;have hp2:(Zj H2 p (.dK [])) p=some (.dK []):=ZM;show ZjY K [some (.ref a),some (.int x),o2] (Zj H2 p (.dK [])) (λy H3=>H3 p=some (.dK [])/\∃kvs:List (Zt×V),[(V.str (qy "mixed"),V.int x),(V.str (qy "turn"),V.int 0),(V.str (qy "wide"),y)]=kvs.map (λkv=>(kV kv.1,kv.2))/\kvs.length<=15/\Q (.ref p) (Zj H3 p (.dK (VW [] kvs))));refine Zj1 (ZjZ sq hp) hl λwa hwa=>?_;have ne:p≠wa:=λz=>by rw[<-z,ZM]at hwa;cases hwa
  refine⟨by rw[Zq ne];exact hp2,YR x 0 wa,rfl,by show 3<=15;decide,?_⟩;rw[Zip];have hwa0:H2 wa=none:=by rw[Zq (zD ne)]at hwa;exact hwa
  exact k p wa x _ ⟨x,0,rfl,ZM,by rw[Zq (zD ne)];exact ZM,ne⟩ (λb u e=>by rw[Zq (ZW e hp),Zq (ZW e hwa0),Zq (ZW e hp)];exact e) hp hwa0
 ·have hlt:i<ns.length:=by omega
  have gi:(ns.map V.int)[i]?=some (.int ns[i]):=by rw[qu,qI hlt];rfl
  refine .inr ⟨⟨_,_,sq,gi⟩,fun σ' H'=>(∃x o2,σ'=[some (.ref a),some (.int x),o2])/\H'=H2,fun σ' H' h=>⟨n-1,by omega,by omega,by omega,h.1,h.2⟩,λx' H' ⟨y1,y2⟩=>?_⟩;subst y1;have ex:=y2 _ sq;rw[gi]at ex
  cases ex
  refine⟨.int x,rfl,x,48271,rfl,rfl,.inr ⟨by decide,by decide⟩,.int ns[i],rfl,ns[i],1000000007,rfl,rfl,(by show(0:Int)<1000000007;decide),x*48271,ns[i] % 1000000007,rfl,rfl,x*48271+ns[i] % 1000000007,11,rfl,rfl,x*48271+ns[i] % 1000000007+11,2147483629,rfl,rfl,(by show(0:Int)<2147483629;decide),⟨_,_,rfl⟩,rfl⟩
noncomputable def Xf (L:List (Addr×Str))(b:Addr):Prop:=∃q,(b,q)∈L
noncomputable def Zmr (G0:Gh)(L:List (Addr×Str))(P:Addr)(q:Str)(H:Hp):Prop:=∃ps,H P=some (.tbl ps)/\TriplesOk ps.toList/\∀pos cv,codeAmong pos ps.toList=some cv->∃c',cv=.ref c'/\H c'=some (.ext (codeφ c' q))/\¬G0.fp c'/\¬Xf L c'
noncomputable def UC (G0:Gh)(L:List (Addr×Str)):Gh where
 fp:=λb=>G0.fp b∨Xf L b
 rd:=λb=>G0.rd b∨Xf L b
 pen:=G0.pen
 st:=λs H=>G0.st s H/\∀P q,(P,q)∈L->Zmr G0 L P q H
 mono:=λs H H' ⟨h1,h2⟩ k1 k2=>⟨G0.mono s H H' h1 (λb o r=>k1 b o (.inl r)) k2,λP q m=>by
  obtain⟨ps,e,t,h⟩:=h2 P q m;refine⟨ps,k1 P _ (.inr ⟨q,m⟩) e,t,λpos cv hc=>?_⟩;obtain⟨c',z1,z2,z3⟩:=h pos cv hc;exact⟨c',z1,k2 _ _ z2,z3⟩⟩
 sub:=λb h=>h.elim (λz=>.inl (G0.sub b z)) .inr
 dom:=λs H b ⟨h1,h2⟩ hb=>by
  rcases hb with z | ⟨q,m⟩
  ·exact G0.dom s H b h1 z
  ·obtain⟨ps,e,_⟩:=h2 b q m
   exact⟨_,e⟩
 ntp:=λs H b vs ⟨h1,h2⟩ hb=>by
  rcases hb with z | ⟨q,m⟩
  ·exact G0.ntp s H b vs h1 z
  ·obtain⟨ps,e,_⟩:=h2 b q m
   rw[e];intro z;cases z
theorem Zc5 {pos pos':Pos}{c:Value}(l:List Value)(h:TriplesOk l){cv:Value}(hc:codeAmong pos' (l ++ [rawInt pos.line,rawInt pos.col,c])=some cv):codeAmong pos' l=some cv∨cv=c:=by
 fun_induction TriplesOk l with
 | case1=>
  simp only[qap,rawInt,codeAmong]at hc;split at hc
  ·exact .inr (zv hc).symm
  ·cases hc
 | case2 a b d e f rest ih=>
  simp only[qa5,codeAmong]at hc⊢;split at hc
  ·rename_i h1;rw[if_pos h1];exact .inl hc
  ·rename_i h1;rw[if_neg h1];exact ih h hc
 | case3=>cases h
theorem Ze1 {pos:Pos}{c:Value}(l:List Value)(h:TriplesOk l):TriplesOk (l ++ [rawInt pos.line,rawInt pos.col,c]):=by
 fun_induction TriplesOk l with
 | case1=>simp[TriplesOk,rawInt]
 | case2 a b d e f rest ih=>simp only[qa5,TriplesOk];exact ih h
 | case3=>cases h
noncomputable def WN (L:List (Addr×Str)):Prop:=∀P q q',(P,q)∈L->(P,q')∈L->q=q'
noncomputable def W4 (GG0:Gh->Prop)(L:List (Addr×Str))(G:Gh):Prop:=∃G0,GG0 G0/\(∀b,Xf L b->¬G0.rd b)/\G=UC G0 L
theorem Zlx {G0:Gh}{L:List (Addr×Str)}{P:Addr}{q:Str}(lo:WN L)(hrd:∀b,Xf L b->¬G0.rd b)(m:(P,q)∈L):TabG P q (UC G0 L):=by
 refine⟨λs H st=>?_,.inr ⟨q,m⟩,λs H ps pos c' st hP hc hn=>?_⟩
 ·obtain⟨ps,e,t,h⟩:=st.2 P q m
  refine⟨ps,e,t,λpos cv hc=>?_⟩;obtain⟨c',z1,z2,z3,z4⟩:=h pos cv hc;exact⟨c',z1,z2,λz=>z.elim z3 z4⟩
 ·have hcP:c'≠P:=λz=>by rw[z,hP]at hc;cases hc
  have notL:¬Xf L c':=λ⟨q',m'⟩=>by
   obtain⟨_,e,_⟩:=st.2 c' q' m';rw[hc]at e;cases e
  have k2:∀b φ,H b=some (.ext φ)->Zj (Zj H P (.tbl (ps ++ #[rawInt pos.line,rawInt pos.col,.ref c']))) c' (.ext (codeφ c' q)) b=some (.ext φ):=λb φ e=>by
   rw[Zq (ZW e hc),Zq (λz=>by rw[z,hP]at e;cases e)];exact e
  refine⟨G0.mono s H _ st.1 (λb o r e=>?_) k2,λP' q' m'=>?_⟩
  ·rw[Zq (ZW e hc),Zq (λz=>hrd P ⟨q,m⟩ (by rw[<-z];exact r))];exact e
  ·by_cases hb:P'=P
   ·subst hb
    have:=lo P' q q' m m';subst this;obtain⟨ps',e,t,h⟩:=st.2 P' q m;rw[hP]at e;cases e;refine⟨_,by rw[Zq (zD hcP),ZM],?_,λpos' cv hcv=>?_⟩
    ·rw[zb];exact Ze1 _ t
    ·rw[zb]at hcv
     rcases Zc5 (pos:=pos) _ t hcv with z | z
     ·obtain⟨c2,z1,z2,z3⟩:=h pos' cv z
      exact⟨c2,z1,k2 _ _ z2,z3⟩
     ·exact⟨c',z,ZM,Gh.nofp st.1 hc,notL⟩
   ·obtain⟨ps',e,t,h⟩:=st.2 P' q' m'
    refine⟨ps',by rw[Zq (ZW e hc),Zq hb];exact e,t,λpos' cv hcv=>?_⟩;obtain⟨c2,z1,z2,z3⟩:=h pos' cv hcv;exact⟨c2,z1,k2 _ _ z2,z3⟩
noncomputable def Y0 (L:List (Addr×Str))(G:Gh):Prop:=∀P q,(P,q)∈L->TabG P q G
theorem jC {GG0:Gh->Prop}{L:List (Addr×Str)}{G:Gh}(lo:WN L)(h:W4 GG0 L G):Y0 L G:=by
 obtain⟨G0,_,hrd,rfl⟩:=h;exact λP q m=>Zlx lo hrd m
mutual
theorem Zi.tr {G G':Gh}{H H':Hp}(h:∀a o,¬G.fp a->H a=some o->(∀ps,o≠.tbl ps)->¬G'.fp a/\H' a=some o)(hp:G'.pen=G.pen):∀{d:D} {v:V},Yq d=true->Zi G H d v->Zi G' H' d v
 | .non,_,_,r=>jg.mpr (jg.mp r)
 | .bl _,_,_,r=>je.mpr (je.mp r)
 | .int _,_,_,r=>ja.mpr (ja.mp r)
 | .str _,_,_,r=>jh.mpr (jh.mp r)
 | .tup ds,v,n,r=>by
  obtain⟨a,vs,e1,nf,e2,r⟩:=jc.mp r;obtain⟨z1,z2⟩:=h a _ nf e2 (λ_ z=>by cases z);exact jc.mpr ⟨a,vs,e1,z1,z2,Zf.tr h hp (by simpa[Yq]using n) r⟩
 | .lst ds,v,n,r=>by
  obtain⟨a,vs,e1,nf,e2,r⟩:=jb.mp r;obtain⟨z1,z2⟩:=h a _ nf e2 (λ_ z=>by cases z);exact jb.mpr ⟨a,vs,e1,z1,z2,Zf.tr h hp (by simpa[Yq]using n) r⟩
 | .dk _,_,_,r=>by
  obtain⟨a,e1,nf,e2⟩:=jl.mp r;obtain⟨z1,z2⟩:=h a _ nf e2 (λ_ z=>by cases z);exact jl.mpr ⟨a,e1,z1,z2⟩
 | .dt _,_,_,r=>by
  obtain⟨a,o,e1,nf,e2⟩:=jk.mp r;obtain⟨z1,z2⟩:=h a _ nf e2 (λ_ z=>by cases z);exact jk.mpr ⟨a,o,e1,z1,z2⟩
 | .du _,_,_,r=>by
  obtain⟨a,e1,nf,e2⟩:=jm.mp r;obtain⟨z1,z2⟩:=h a _ nf e2 (λ_ z=>by cases z);exact jm.mpr ⟨a,e1,z1,z2⟩
 | .df _,_,_,r=>by
  obtain⟨a,o,e1,nf,e2⟩:=jt.mp r;obtain⟨z1,z2⟩:=h a _ nf e2 (λ_ z=>by cases z);exact jt.mpr ⟨a,o,e1,z1,z2⟩
 | .pen,_,_,r=>jp.mpr ((jp.mp r).trans hp.symm)
 | .ty _,_,_,r=>ju.mpr (ju.mp r)
 | .clo _ _,_,n,_=>by simp[Yq]at n
theorem Zf.tr {G G':Gh}{H H':Hp}(h:∀a o,¬G.fp a->H a=some o->(∀ps,o≠.tbl ps)->¬G'.fp a/\H' a=some o)(hp:G'.pen=G.pen):∀{ds:List D} {vs:List V},YX ds=true->Zf G H ds vs->Zf G' H' ds vs
 | [],_,_,r=>Zf.nil_iff.mpr (Zf.nil_iff.mp r)
 | d::ds,vs,n,r=>by
  obtain⟨v,rr,e,h1,h2⟩:=jd.mp r;have n':Yq d=true/\YX ds=true:=by simpa[YX]using n
  exact jd.mpr ⟨v,rr,e,Zi.tr h hp n'.1 h1,Zf.tr h hp n'.2 h2⟩
end
open Classical in
noncomputable def VL (L:List (Addr×Str))(H H2:Hp):Hp:=λb=>if Xf L b then H2 b else H b
theorem Zly {L:List (Addr×Str)}{H H2:Hp}{b:Addr}(h:Xf L b):VL L H H2 b=H2 b:=by unfold VL;rw[if_pos h]
theorem WE {L:List (Addr×Str)}{H H2:Hp}{b:Addr}(h:¬Xf L b):VL L H H2 b=H b:=by unfold VL;rw[if_neg h]
theorem Zlz {P:xC}{w:World}{K:qj}{mg:Str->Option Value}{base:Heap}{k:Nat}{f:Addr}{fd:xB}{ps:List Str}{n:Nat}{fr:Bool}{GG0:Gh->Prop}{L:List (Addr×Str)}{F:List D->M D}(FN:FnOk P w K mg base ZQ k f fd ps (Yw n fr GG0 F))
  (hF:∀ds s d s',F ds s=some (d,s')->YX ds=true/\Yq d=true):FnOk P w K mg base ZQ k f fd ps (Yw n fr (W4 GG0 L) F):=by
 refine FN.imp λvs H Q E h=>?_;obtain⟨G,Hf,ds,s,d,s',⟨G0,hG0,hrd,rfl⟩,hl,e1,r,st,eF,k⟩:=h;obtain⟨n1,n2⟩:=hF _ _ _ _ eF;have nfp:∀b,Xf L b->¬G0.fp b:=λb m z=>hrd b m (G0.sub b z);have e1':Zz G0 (VL L Hf λ_=>none) H:=λb o nb q=>by
  by_cases m:Xf L b
  ·rw[Zly m]at q;cases q
  ·rw[WE m]at q;exact e1 b o (λz=>z.elim nb m) q
 refine⟨G0,VL L Hf λ_=>none,ds,s,d,s',hG0,hl,e1',Zf.tr (G:=UC G0 L) (G':=G0) (λa o na q _=>?_) rfl n1 r,st.1,eF,λv Hf' H' g st' r' fz=>?_⟩
 ·have m:¬Xf L a:=λz=>na (.inr z)
  exact⟨λz=>na (.inl z),by rw[WE m];exact q⟩
 ·have tab:∀b,Xf L b->∃ps,H' b=some (.tbl ps):=λb ⟨q,m⟩=>by
   obtain⟨ps,e,_⟩:=st.2 b q m;exact⟨ps,g.hh b _ (nfp b ⟨q,m⟩) e⟩
  have out:∀a o,¬G0.fp a->Hf' a=some o->(∀ps,o≠.tbl ps)->¬Xf L a:=λa o na q no m=>by
   obtain⟨ps,e⟩:=tab a m;rw[g.fh a o na q]at e;exact no ps (zv e)
  have tr:∀a o,¬G0.fp a->Hf' a=some o->(∀ps,o≠.tbl ps)->¬(UC G0 L).fp a/\VL L Hf' Hf a=some o:=λa o na q no=>by
   have m:=out a o na q no;exact⟨λz=>z.elim na m,by rw[WE m];exact q⟩
  refine k v (VL L Hf' Hf) H' ⟨λb o nb q=>g.hh b o (λz=>nb (.inl z)) q,λb o nb q=>?_,λb o nb q=>?_,λb nb q1 q2=>?_⟩ ⟨st',λP q m=>?_⟩ (Zi.tr (G:=G0) (G':=UC G0 L) tr rfl n2 r') λz a ea mu=>?_
  ·have m:¬Xf L b:=λz=>nb (.inr z)
   rw[WE m];exact g.ff b o (λz=>nb (.inl z)) (by rw[WE m];exact q)
  ·have m:¬Xf L b:=λz=>nb (.inr z)
   rw[WE m]at q;exact g.fh b o (λz=>nb (.inl z)) q
  ·have m:¬Xf L b:=λz=>nb (.inr z)
   rw[WE m];exact g.nw b (λz=>nb (.inl z)) (by rw[WE m];exact q1) q2
  ·obtain⟨ps,e,t,h⟩:=st.2 P q m
   refine⟨ps,g.hh P _ (nfp P ⟨q,m⟩) e,t,λpos cv hc=>?_⟩;obtain⟨c',z1,z2,z3,z4⟩:=h pos cv hc;exact⟨c',z1,g.hh c' _ z3 z2,z3,z4⟩
  ·obtain⟨h1,h2⟩:=fz z a ea mu
   refine⟨h1,λxs ed=>?_⟩;obtain⟨us,Hm,q1,q2,q3,q4⟩:=h2 xs ed;have na:¬Xf L a:=λm=>by
    obtain⟨q,m⟩:=m;obtain⟨ps,e,_⟩:=st.2 a q m;rw[h1]at e;cases e
   refine⟨us,VL L Hm λ_=>none,by rw[WE na];exact q1,by rw[WE na];exact q2,λb o nb q=>?_,?_⟩
   ·have m:¬Xf L b:=λz=>nb (.inr z)
    rw[WE m]at q⊢;exact q3 b o (λz=>nb (.inl z)) q
   ·subst ed
    refine Zf.tr (G:=G0) (G':=UC G0 L) (λb o nb q no=>?_) rfl (by simpa[Yq]using n2) q4;have m:=out b o nb (q3 b o nb q) no;exact⟨λz=>z.elim nb m,by rw[WE m];exact q⟩
theorem Zj2 {P:xC}{w:World}{K:qj}{mg:Str->Option Value}{base:Heap}{k:Nat}{x:Str}{n:Nat}{fr:Bool}{GG0:Gh->Prop}{L:List (Addr×Str)}{F:List D->M D}(c:ZY P w K mg base k x n fr GG0 F)(hF:∀ds s d s',F ds s=some (d,s')->YX ds=true/\Yq d=true):ZY P w K mg base k x n fr (W4 GG0 L) F:=
 let ⟨f,fd,ps,a,b,c,d⟩:=c
 ⟨f,fd,ps,Zlz a hF,b,c,d⟩
theorem Zj3:∀ds s d s',We ds s=some (d,s')->YX ds=true/\Yq d=true:=λds s d s' h=>by
 obtain⟨k,m,t,w,rfl,rfl,_,_,_,_,e⟩:=Zcv h;refine⟨rfl,?_⟩;unfold Vc at e;split at e <;> (cases e;rfl)
theorem Zj4 {N ps:List Str}{own:List Nat}{fr:Bool}{G:Gh}{t:TS}{g:Za->M Out}{vs:List V}{ds:List D}{Hf H:Hp}{pn pn':Pn}{d:D}{Q:VK}(hpl:ps.length<=N.length)(q:BN G [] [] own fr t g)(e1:Zz G Hf H)(r:Zf G Hf ds vs)(st':G.st pn H)(eF:runB N.length ps.length g ds pn=some (d,pn'))
  (k':∀v Hf' H',Gr G Hf H Hf' H'->G.st pn' H'->Zi G Hf' d v->(fr=true->Yh G H Hf' d v)->Q v H'):t { nx:=λ_ H'=>Q .non H',rt:=Q } (L2.start N vs) H:=by
 obtain⟨hl,a0⟩:=YW eF;obtain⟨o,s1,a1,a2⟩:=ZE a0;have j0:Jf G [] Hf Hf H (L2.start N vs) Hf H (ds.map some++qB (N.length-ps.length) none):=by
  refine⟨?_,.refl _ _,.refl e1,λi d n e=>?_,λi d m e=>absurd m (by simp),λi j a di dj mi mj n e=>absurd mi (by simp)⟩
  ·have:=r.length
   unfold L2.start;simp;omega
  ·have hi:i<ds.length:=by
    by_cases hi:i<ds.length
    ·exact hi
    ·rw[zM (by simpa using hi),yr]at e
     split at e <;> cases e
   have e':ds[i]?=some d:=by
    rw[zw (by simpa using hi),qu]at e
    cases q:ds[i]? with
    | none=>rw[q]at e;cases e
    | some c=>rw[q]at e;simp at e;rw[e]
   obtain⟨v,h1,h2⟩:=r.get e';refine⟨v,?_,h2⟩;unfold L2.start;rw[zw (by simp;rw[<-r.length];exact hi),qu,h1];rfl
 refine q Hf Hf H (L2.start N vs) H _ pn o s1 _ ⟨Hf,j0⟩ st' a1 ?_
 cases o with
 | rt c=>
  obtain⟨rfl,rfl⟩:=ZL a2;exact λv Hf' H' g' jV r2 fz=>k' v Hf' H' g' jV r2 fz
 | nx ρ'=>
  obtain⟨rfl,rfl⟩:=ZL a2;exact fun σ' H' ⟨Hf',j'⟩ jV=>k' .non Hf' H' j'.gr jV (jg.mpr rfl) λ_=>.scal λz=>z
 | bk ρ'=>cases a2
 | ct ρ'=>cases a2
theorem fnDC {P:xC}{w:World}{K:qj}{mg:Str->Option Value}{base:Heap}{x qual:Str}{st:Stmt}{f:Addr}{fd:xB}{N ps:List Str}{k:Nat}{own:List Nat}{fr:Bool}{GG:Gh->Prop}{g:Za->M Out}
  (F:Fun K x qual st f fd) (S:FnScope N ps (ZH st))
  (hb:∀(A:xD) (outer:List Env) (s:Shared) (H:Hp) (E:XK),Room k (A.deeper (envOfC qual (ZH st) s.heap.objs.size f fd.code))->∀G,GG G->Xl (WJ ZQ P w K mg base N qual (ZH st) f fd.code A outer s H E).nox G [] [] own fr (Wa st) g) :
  FnOk P w K mg base ZQ (k+1) f fd ps (Yw ps.length fr GG (runB N.length ps.length g)):=by
 obtain⟨oc,od,kV,doc,pm,an,cdv,ct,osl,rfl,lk,hcd⟩:=F.ex;refine Zme lk hcd S (λvs H Q E ⟨_,_,_,_,_,_,_,e,_⟩=>e) λA outer s H vs Q E hr h=>?_;obtain⟨G,Hf,ds,pn,d,pn',hG,el,e1,r,st',eF,k'⟩:=h;obtain⟨t,p,q⟩:=hb A outer s H E hr G hG;exact⟨t,p.nox,Zj4 (by have:=congrArg qak S.pre;rw[qV]at this;omega) q e1 r st' eF k'⟩
section
variable {X:Cx}{G:Gh}{P c:Addr}{q:Str}{k kl n:Nat}{x:Str}{fr frb:Bool}{F:List D->M D}{T:Nat->List D->M D}{t:Nat}{e1:Expr}{f1:Za->M D}{r1:Bool}{params:Arguments}{scope:Scope}{lpos ppos pos:Pos}{XN N ps:List Str}{NS:List (Str×NameKind)}{cix:List Nat}
noncomputable def Ba (i:Nat)(f:Za->M D):Za->M Out:=fun ρ=>if i < ρ.length then Z2 f (ρ.set i none)else ZO
theorem ZbI {name:Str}{body:List Stmt}{ob own own':List Nat}{i:Nat}{g:Za->M Out}{npos rpos:Pos}(M:Mk0 X c P)(TG:TabG P q G)(hW:VJ X.prog X.w X.K X.mg k x 2 fr (VH X.prog X.w X.K X.mg (kl+1) ps.length T) F)(hfn:∀x,X.fn x=true)(hr:Room k X.A)(hg:Gl X x)
  (hN:X.N.Nodup) (hi:X.N[i]?=some name) (hx:W6 X.env.scope name) (hpv:PE X (.Name name npos) (Z3 i)) (h1:PD X G r1 e1 f1)
  (hq:qualnameIn X.env name name=q) (S:CloScope N ps scope) (B:CapS X XN NS N ps cix scope) (hT:T t=runB N.length N.length g)
  (hbind:∀(cl:List (Str×Addr)) (doc pm cd ct:Value) (us:List Value),us.length=ps.length->bindArgs (yR name q params body scope cl .none .none doc pm none cd ct) ⟨us,[]⟩=pure (ps.zip us))
  (hb:∀(base:Heap) (f c':Addr) (cl:List (Str×Addr)) (G:Gh) (A:xD) (outer:List Env) (s:Shared) (H:Hp) (E:XK),Room kl (A.deeper (yy q scope s.heap.objs.size f (.ref c') cl))->Xl (Ub ZQ X.prog X.w X.K X.mg base N q scope f (.ref c') cl A outer s H E).nox G [] [] [] frb body g)
  (hd0:params.defaults=[]:=by rfl) (hk0:params.kw_defaults=[]:=by rfl) (ha:annTrees params none X.env=[]:=by rfl) (hdb:(x==("__debug__" : Str))=false:=by decide)
  (he:xh [e1,.Name name npos] X.env=(false,eval e1 X.env)::xh [.Name name npos] X.env:=by rfl) (he2:xh [Expr.Name name npos] X.env=(false,eval (.Name name npos) X.env)::xh [] X.env:=by rfl)
  (hpl:(backTo pos (xh [Expr.Name name npos] X.env)).any (·.1)=false:=by rfl) :
  Xl X G ob own own' fr [.FunctionDef name params body [] none [] scope none name lpos,.Return (some (.Call (.Name x ppos) [e1,.Name name npos] [] pos)) rpos] (Ba i (UJ F t cix f1)):=by
 obtain⟨t1,p1,q1⟩:=h1.drop;obtain⟨f,fd0,ps0,FN,hm,hk,hbd⟩:=hW;refine⟨_,WD (Znj M hN hi hx hq B.hfree hd0 hk0 ha (.inl (hfn name))) (U2 (U9 (ZeS FN hfn hr hg hm hk hbd (Y5 p1 (Y5 hpv Xv he2) he) hdb he hpl))),λkn jP H0 σ H ρ s out s' E ⟨Hf,j⟩ st e po=>?_⟩;obtain⟨hilt,e⟩:=YW e;obtain⟨d,s9,x4,x5⟩:=ZE e;obtain⟨rfl,rfl⟩:=ZL x5;obtain⟨d1,s1,a1,a2⟩:=ZE x4;obtain⟨cds,s2,b3,a4⟩:=ZE a2;obtain⟨a3,rfl⟩:=WR b3;obtain⟨hn,a5⟩:=YW a4;obtain⟨cc,s3,a6,a7⟩:=ZE a5;obtain⟨hn2,a8⟩:=YW a7;obtain⟨rfl,rfl⟩:=ZL a8;obtain⟨hn0,hn1⟩:=qaz.mp hn;obtain⟨tp,hP,htr,hhit⟩:=TG.get _ H st;refine⟨tp,hP,htr,λcv h=>let ⟨c',z1,z2,_⟩:=hhit lpos cv h;⟨c',z1,z2⟩,λp c' fd Hm ⟨cl,doc,pm,ctv,co,efd⟩ sl hp=>?_⟩;subst efd;obtain⟨stm,hc',ex⟩:=Zhd TG st hP sl;have nfc:¬G.fp c':=by
  rcases sl with⟨_,z1,_⟩ | ⟨_,z2,_⟩
  ·obtain⟨c2,e1,_,e3⟩:=hhit lpos _ z1
   cases e1;exact e3
  ·exact Gh.nofp st z2
 have nfp:¬G.fp p:=Gh.nofp stm hp;have hcp:c'≠p:=λz=>by rw[z,hp]at hc';cases hc'
 have gr:=Zhe (Hf:=wide jP H0 H) (o:=.ext (fnφ p (yR name q params body scope cl .none .none doc pm none (.ref c') ctv))) Um ex hp;have env:Yx G (wide jP H0 H) (σ.set i (some (.ref p))) (ρ.set i none):=λl d' e'=>by
  by_cases hl:l=i
  ·subst hl
   rw[zu hilt]at e';cases e'
  ·rw[qZ (zD hl)]at e'⊢
   exact j.envB l d' e'
 refine q1 (σ.set i (some (.ref p))) _ _ (ρ.set i none) s d1 _ _ gr.fh env (Gh.grow stm hp) a1 λv1 jW H1 g1 j8 rv1=>?_;refine⟨.ref p,by rw[zu (by rw[j.len];exact hilt)],?_⟩;obtain⟨cvs,l1,l2,l3⟩:=Zcr (env.ext g1.ff) a3;intro base' cs;have C:CloAt base' cl scope N ps cvs:=B.cloAt cs co l1 l3;have hp1:H1 p=some (.ext (fnφ p (yR name q params body scope cl .none .none doc pm none (.ref c') ctv))):=g1.hh p _ nfp ZM;have hc1:H1 c'=some (.ext (codeφ c' q)):=g1.hh c' _ nfc (by rw[Zq hcp];exact hc');refine⟨Wh G t p c' (yR name q params body scope cl .none .none doc pm none (.ref c') ctv) q cvs,jW,[d1,.clo t cds],_,d,_,ZjN (X:=X) (.all (hbind cl doc pm (.ref c') ctv)) (fnKS S C (λs H st=>st.2) λA outer s H E hr=>hb base' p c' cl _ A outer s H E hr) hT,rfl,g1.fh,?_,⟨j8,hp1,hc1⟩,a6,λv Hf3 H3 g3 st3 r3 fz=>?_⟩
 ·exact .cons (toC hn0 rv1) (.one (jw.mpr ⟨cvs,⟨rfl,rfl,rfl⟩,toCL hn1 l2⟩))
 ·have gg:=(gr.trans g1).trans (grC g3)
  have rr:Zi G Hf3 d v:=ofC hn2 r3;exact po v Hf3 H3 (j.grW gg) st3.1 rr λz=>jn ((j.gr.hh.trans gr.hh).trans g1.hh) rr.nofp (frC hn2 (fz z))
end
noncomputable def Ud (mg:Str->Option Value)(h:Heap):Prop:=∃bm o,mg "__builtins__" = some (.ref bm)/\bm≠builtinsNs/\bm≠mainGlobals/\h.get? bm=some o/\o.cls=.type "module"/\o.dict=some builtinsNs/\o.data=.plain
theorem Zir {P:xC}{w:World}{K:qj}{mg mb:Str->Option Value}{CX:Xo}{k:Nat}{fa a:Addr}{fd:xB}{x:Str}{sp:Sp}{s₁:Shared}{vs:List Value}{ns:List Int}{tb:List (Addr×Addr)}
  (KX:K.In s₁.heap) (hns:s₁.heap.Ns mainGlobals mg) (hb:s₁.heap.Ns builtinsNs mb) (hbb:∀x:Str,x≠"__name__"->mb x=xj x) (hlim:s₁.heap.NoLimit) (hg:s₁.gens = #[])
  (hT:∀e∈tb,yp s₁.heap e.1 e.2/\s₁.heap.get? e.2=some (qa0 #[])) (hKt:PySem.W.noTabs K=true) (hbm:Ud mg s₁.heap)
  (ha:s₁.heap.get? a=some { cls:=.type "list",data:=.seq vs.toArray }) (hi:IntsAre vs ns) (hl:ns.length<=xg) (hr:Room k callerA)
  (F:∀base:Heap,K.In base->base.Ns mainGlobals mg->(∀e∈tb,yp base e.1 e.2)->Ud mg base->FnOk P w K mg base CX k fa fd [x] sp) (hbind:∀(s:Shared) (u:Value),BindsTo s fd ⟨[u],[]⟩ [(x,u)])
  (hsp:∀H:Hp,Zy K H a (ns.map V.int)->(∀e∈tb,H e.2=some (.tbl #[]))->sp [.ref a] H (λv _=>v=.bl true) λ_ _ _=>False)
  (hCX:∀H e s',CX [] H s₁ (λ_ _ _=>False) e s'->False) :
  xo (xA P w) callerA (.call (.ref fa) ⟨[.ref a],[]⟩) (λr s'=>r=.ok (.ret (.bool true))/\OldK s₁.heap s'.heap/\s'.os=s₁.os/\AllBare s'.gens) s₁:=by
 have rv:=Zdm hi;have lenV:=hi.length;have tabne:∀e∈tb,e.2≠a:=λe he z=>by
  have:=(hT e he).2;rw[z,ha]at this;cases this
 have noK:∀e∈tb,K.lookup e.2=none:=λe he=>by
  cases q:K.lookup e.2 with
  | none=>rfl
  | some o=>
   have h2:=yk.mp hKt (e.2,o) (PySem.W.mem_of_lookupK q);have e1:=KX _ _ q;rw[(hT e he).2]at e1
   cases e1
   exact absurd (show false=true from h2) yJ
 have core:∀H:Hp,(∀b u,H b=some u->(b=a/\u=.frz { cls:=.type "list",data:=.seq vs.toArray } (.lst (ns.map V.int))/\K.lookup a=none)∨(u=.tbl #[]/\∃e∈tb,e.2=b))->Zy K H a (ns.map V.int)->(∀e∈tb,H e.2=some (.tbl #[]))->
   xo (xA P w) callerA (.call (.ref fa) ⟨[.ref a],[]⟩) (λr s'=>r=.ok (.ret (.bool true))/\OldK s₁.heap s'.heap/\s'.os=s₁.os/\AllBare s'.gens) s₁:=by
  intro H hO hS hTb;have hok:Yg P w H s₁.heap:=λb u e=>by
   rcases hO b u e with⟨rfl,rfl,_⟩ | ⟨rfl,e',he,rfl⟩
   ·exact⟨ha,by rw[qf];exact hl,vs,_,rv,ha⟩
   ·exact(hT e' he).2
  have base_of:∀{b:Addr} {o:Obj},s₁.heap.get? b=some o->H b=none->(W0 s₁.heap H).get? b=some o:=λe n=>Zi9 e n;have noA:∀{b:Addr} {o:Obj},s₁.heap.get? b=some o->(∀vs n,o.data≠.seq vs n)->(∀vs,o.data≠.fields vs∨o.cls≠.none)->H b=none:=λ{b o} e d1 d2=>by
   cases q:H b with
   | none=>rfl
   | some u=>
    rcases hO b u q with⟨rfl,_,_⟩ | ⟨_,e',he,rfl⟩
    ·rw[ha]at e;cases e;exact absurd rfl (d1 _ _)
    ·rw[(hT e' he).2]at e;cases e
     rcases d2 #[]with z | z
     ·exact absurd rfl z
     ·exact absurd rfl z
  have nsK:∀{b:Addr} {m:Str->Option Value},s₁.heap.Ns b m->(W0 s₁.heap H).Ns b m:=λ{b m} ⟨o,es,ep,e,d,r⟩=>⟨o,es,ep,base_of e (noA e (λ_ _ z=>by rw[d]at z;cases z) λ_=>.inl λz=>by rw[d]at z;cases z),d,r⟩;have hKb:K.In (W0 s₁.heap H):=λb o e=>base_of (KX b o e) (by
   cases q:H b with
   | none=>rfl
   | some u=>
    rcases hO b u q with⟨rfl,_,z⟩ | ⟨_,e',he,rfl⟩
    ·rw[z]at e;cases e
    ·rw[noK e' he]at e;cases e)
  have hM:Mod K mg (W0 s₁.heap H):=⟨hKb,nsK hns,⟨mb,nsK hb,hbb⟩,let ⟨mc,h1,h2⟩:=hlim;⟨mc,nsK h1,h2⟩⟩;have e0:Env0 P w K mg (W0 s₁.heap H) callerA [] s₁ H:=⟨rfl,hM,λb o e=>ZkY e,Nat.le_of_eq (ZhO _ _),trivial,λb hb=>absurd (show b∈([]:List Addr)from hb) (by simp),hok,.of_eq hg⟩;have hCd:∀e∈tb,yp (W0 s₁.heap H) e.1 e.2:=λe he=>by
   obtain⟨o,vs',file,tf,flags,tg,inF,text,tt,e1,r1,r2,r3⟩:=(hT e he).1;exact⟨o,vs',file,tf,flags,tg,inF,text,tt,base_of e1 (noA e1 (λ_ _ z=>by rw[r2]at z;cases z) λ_=>.inr (by rw[r1];nofun)),r1,r2,r3⟩
  have hBm:Ud mg (W0 s₁.heap H):=by
   obtain⟨bm,o,e1,e2,e3,e4,e5,e6,e7⟩:=hbm;exact⟨bm,o,e1,e2,e3,base_of e4 (noA e4 (λ_ _ z=>by rw[e7]at z;cases z) λ_=>.inl λz=>by rw[e7]at z;cases z),e5,e6,e7⟩
  refine codeAny_mono ((F _ hKb (nsK hns) hCd hBm).run callerA [] s₁ H ⟨[.ref a],[]⟩ [.ref a] [.ref a] _ _ hr e0 (hbind s₁ (.ref a)) (.cons rfl .nil) (hsp H hS hTb)) λr s' h=>?_
  cases r with
  | error e=>exact(hCX H e s' h).elim
  | ok fl=>
   cases fl with
   | next=>exact yw h
   | brk=>exact yw h
   | cont=>exact yw h
   | ret u=>
    obtain⟨v,H',os,bare,un,hok',r',q⟩:=h;have q':v=.bl true:=q;subst q';obtain rfl:u=yn true:=r';refine⟨rfl,⟨λb o e=>?_,λb o e=>un.there b o e (by simp)⟩,os,bare⟩
    cases q:H b with
    | none=>exact .inl (un.keep b o e q (by intro z;exact absurd (show b∈([]:List Addr)from z) (by simp)) (by simp))
    | some u=>
     rcases hO b u q with⟨rfl,rfl,_⟩ | ⟨rfl,e',he,rfl⟩
     ·have z2:=un.frzs b _ _ q
      obtain⟨e1,_⟩:=hok b _ q;obtain⟨e2,_⟩:=hok' b _ z2;rw[e]at e1;cases e1;exact .inl e2
     ·obtain⟨more,z⟩:=un.tbls _ _ q
      have z2:s'.heap.get? e'.2=some (qa0 (#[]++more)):=hok' _ _ z;have e1:=(hT e' he).2;rw[e]at e1;cases e1;exact .inr (.inl ⟨((hT e' he).1.tab (hT e' he).2).isCodeTable,rfl,#[],more,rfl,z2⟩)
 cases hk:K.lookup a with
 | some o=>
  have e:=KX a o hk;rw[ha]at e
  cases e
  refine core (λb=>open Classical in if ∃e∈tb,e.2=b then some (.tbl #[])else none) (λb u z=>?_) (.inr ⟨_,vs.toArray,_,hk,rfl,rfl,rfl,by rw[qD,lenV];exact hl,by simpa using rv⟩) (λe he=>if_pos ⟨e,he,rfl⟩);by_cases h:∃e∈tb,e.2=b
  ·rw[if_pos h]at z;cases z;exact .inr ⟨rfl,h⟩
  ·rw[if_neg h]at z;cases z
 | none=>
  refine core (λb=>open Classical in if ∃e∈tb,e.2=b then some (.tbl #[])else if b=a then some (.frz { cls:=.type "list",data:=.seq vs.toArray } (.lst (ns.map V.int)))else none) (λb u z=>?_) (.inl (.inr ⟨{ cls:=.type "list",data:=.seq vs.toArray },?_⟩)) (λe he=>if_pos ⟨e,he,rfl⟩)
  ·by_cases h:∃e∈tb,e.2=b
   ·rw[if_pos h]at z;cases z;exact .inr ⟨rfl,h⟩
   ·rw[if_neg h]at z
    by_cases hb:b=a
    ·rw[if_pos hb]at z;cases z;exact .inl ⟨hb,rfl,hk⟩
    ·rw[if_neg hb]at z;cases z
  ·show(if ∃e∈tb,e.2=a then _ else _)=_
   rw[if_neg (λ⟨e,he,z⟩=>tabne e he z),if_pos rfl]
theorem Zj5 {l : PySem.W.OpenLaw}{n k : Nat}{q : xC}{loose : List Str}{XP : (Str -> Option Value) -> Heap -> Prop}{YP : World -> Heap -> Prop}{d : DefRec}{K : Params -> qj}{CX : World -> Xo}{sp : World -> Sp}{x : Str}{tb : List (Str × Addr × Addr)}
    (hn : l.most = some n) (hn2 : n <= xg) (hdf : d.params.defaults = []) (hr : Room k callerA)
    (hY : ∀ (w : World) (h : Heap), YP w h -> (K w.params).In h)
    (hrec : ∀ e ∈ tb, ∃ d, (recsOf q).find? (λr => r.name == e.1) = some d) (htab : ∀ w : World, ∀ e ∈ tb, PySem.W.tabIn (K w.params) e.1 = some e.2) (hno : ∀ w : World, PySem.W.noTabs (K w.params) = true)
    (F : ∀ (w : World) (mg : Str -> Option Value) (fa : Addr) (h : Heap), (K w.params).In h -> h.Ns mainGlobals mg -> mg d.name = some (.ref fa) ->
      ∃ fd : xB, (∀ (s : Shared) (u : Value), BindsTo s fd ⟨[u], []⟩ [(x, u)]) /\
        ∀ base : Heap, (K w.params).In base -> base.Ns mainGlobals mg -> (∀ e ∈ tb, yp base e.2.1 e.2.2) -> Ud mg base -> FnOk l.prog w (K w.params) mg base (CX w) k fa fd [x] (sp w))
    (hsp : ∀ (w : World) (H : Hp) (a : Addr) (ns : List Int), ns.length <= n -> Zy (K w.params) H a (ns.map V.int) -> (∀ e ∈ tb, H e.2.2 = some (.tbl #[])) -> sp w [.ref a] H (λv _ => v = .bl true) λ_ _ _ => False)
    (hCX : ∀ (w : World) (H : Hp) (s : Shared) (e : Value) (s' : Shared), CX w [] H s (λ_ _ _ => False) e s' -> False) :
    qcP q loose XP YP l.row.toRowW d [] (λf vs => qcM f vs) := by
  refine Att.attach_call hn hdf λw s₀ s₁ mg mb fa o pm cd doc a vs ns G Y ho hd hcd hmg hobj hints jQ hg => ?_;have KX := hY w _ Y;obtain⟨fd, hb, hF⟩ := F w mg fa _ KX G.T.g hmg;have hT : ∀ e ∈ tb.map (·.2), yp s₁.heap e.1 e.2 /\ s₁.heap.get? e.2 = some (qa0 #[]) := λe he => by
    obtain⟨e', he', rfl⟩ := qt.mp he;obtain⟨d', hd'⟩ := hrec e' he';exact PySem.W.tab_of G.T KX hd' (htab w e' he')
  exact Zir (tb := tb.map (·.2)) KX G.T.g G.T.b G.T.builtins G.T.nolimit hg hT (hno w) (let ⟨bm, ob, a, b, c, d, e, f⟩ := G.T.bmain; ⟨bm, ob, a, b, (λz => by
      obtain⟨o, es, ep, e', hd', _⟩ := G.T.g;rw[z, e'] at c; cases c; rw[hd'] at f; cases f), c, d, e, f⟩) hobj hints (zC jQ hn2) hr
    (λbase h1 h2 h3 h4 => hF base h1 h2 (λe he => h3 e.2 (qaf (f := (·.2)) he)) h4) hb (λH hS hTb => hsp w H a ns jQ hS λe he => hTb e.2 (qaf (f := (·.2)) he)) λH e s' => hCX w H s₁ e s'
end TF
namespace L2
section
variable {X:Cx}{jH:Qb}{σ:St}{H:Hp}{s:Shared}{h':Heap}
theorem Inv.turnedN {t':Nat}{fp:List Addr}(I:Inv X jH σ H s)(k:∀b o,b∉fp->s.heap.get? b=some o->h'.get? b=some o)(hf:∀b∈fp,Wg X jH H b):Inv X jH σ H { s with heap:=h',toks:=t' }:=by
 have nit:∀b u,H b=some u->b∉fp:=λb u e z=>by rw[(hf b z).1]at e;cases e
 refine I.step (g':=s.gens) (d':=s.drawn) (ch:=fp) (λb hb=>?_) (λb o _ _ hc e _=>k b o hc e) (λb o _ _ hc e _=>⟨o.slots,k b o hc e⟩) (λ_ _ _ _ n=>n)
  (λb o hc e=>⟨o,k b o hc e⟩) (λ_ _ e=>e) (λ_ _ _ e=>e) (λb ps e=>⟨#[],by rw[e];simp⟩) (λm hm=>?_) (λb u e=>?_) I.bare
 ·obtain⟨f0,f1,f2,f3,f4,f5⟩:=hf b hb
  exact⟨f3,f1,f4,f5⟩
 ·obtain⟨o,es,ep,ho,r⟩:=hm
  exact⟨o,es,ep,k _ o (λz=>(hf _ z).2.1 rfl) ho,r⟩
 ·refine(I.hok b u e).stay (λc v hc q=>k c v ?_ q) (λ_ q=>q) λ_ _ q=>q
  rcases hc with z | z
  ·rw[z];exact nit b u e
  ·exact nit c _ z
theorem Inv.turnedT {t':Nat}{fp:List Addr}{T:Addr}{o:HO}(I:Inv X jH σ H s)(k:∀b o,b∉fp->s.heap.get? b=some o->h'.get? b=some o)(hf:∀b∈fp,Wg X jH H b)(hT:s.heap.objs.size<=T)(new:YI X.prog X.w (Zj H T o) h' T o):Inv X jH σ (Zj H T o) { s with heap:=h',toks:=t' }:=by
 have hn:=I.hok.fresh hT;have nit:∀b u,H b=some u->b∉fp:=λb u e z=>by rw[(hf b z).1]at e;cases e
 refine I.step (g':=s.gens) (d':=s.drawn) (ch:=fp) (λb hb=>?_) (λb o _ _ hc e _=>k b o hc e) (λb o _ _ hc e _=>⟨o.slots,k b o hc e⟩) (λb u _ q n=>by rw[Zq (qT (zh (qH q) hT))];exact n)
  (λb o hc e=>⟨o,k b o hc e⟩) (λb xs q=>by rw[Zq (ZW q hn)];exact q) (λb u xs q=>by rw[Zq (ZW q hn)];exact q) (λb ps q=>⟨#[],by rw[Zq (ZW q hn),q];simp⟩) (λm hm=>?_) (λb u e=>?_) I.bare
 ·obtain⟨f0,f1,f2,f3,f4,f5⟩:=hf b hb
  exact⟨f3,f1,f4,f5⟩
 ·obtain⟨o,es,ep,ho,r⟩:=hm
  exact⟨o,es,ep,k _ o (λz=>(hf _ z).2.1 rfl) ho,r⟩
 ·by_cases hb:b=T
  ·subst hb;rw[ZM]at e;cases e;exact new
  ·rw[Zq hb]at e
   refine(I.hok b u e).stay (λc v hc q=>k c v ?_ q) (λc q=>by rw[Zq (ZW q hn)];exact q) λc xs q=>by rw[Zq (ZW q hn)];exact q
   rcases hc with z | z
   ·rw[z];exact nit b u e
   ·exact nit c _ z
end
noncomputable def Itz (K:qj)(a b:Addr):It where
 go:=λi H=>∃xs ys x y,Zy K H a xs/\Zy K H b ys/\xs[i]?=some x/\ys[i]?=some y
 yld:=λi H v H'=>∃T x y,H T=none/\v=.ref T/\H'=Zj H T (.tup [x,y])/\(∀xs,Zy K H a xs->xs[i]?=some x)/\(∀ys,Zy K H b ys->ys[i]?=some y)
 stop:=λi H=>∃xs ys,Zy K H a xs/\Zy K H b ys/\i=min xs.length ys.length
structure ZDist (z TI TO i1 i2:Addr):Prop where
 TIz:TI≠z
 TOz:TO≠z
 i1z:i1≠z
 i2z:i2≠z
 TITO:TI≠TO
 TIi1:TI≠i1
 TIi2:TI≠i2
 TOi1:TO≠i1
 TOi2:TO≠i2
 i12:i1≠i2
theorem Zms (n:Nat):ZDist (n+4) (n+2) (n+3) n (n+1):=by
 have h:∀a b:Nat,a≠b->(a:Addr)≠(b:Addr):=λ_ _ h=>h;exact⟨h _ _ (by omega),h _ _ (by omega),h _ _ (by omega),h _ _ (by omega),h _ _ (by omega),h _ _ (by omega),h _ _ (by omega),h _ _ (by omega),h _ _ (by omega),h _ _ (by omega)⟩
noncomputable def Zmt (z TI TO i1 i2 a b:Addr)(i:Nat)(h:Heap):Prop:=IsZip h z TI TO .none/\IsPair h TI (.ref i1) (.ref i2)/\(∃x y,IsPair h TO x y)/\h.IsListIter i1 a i/\h.IsListIter i2 b i
theorem VX {h:Heap}{a b:Addr}{o:Obj}{T:String}(ha:∃oa,h.get? a=some oa/\oa.cls=.type "list")(hb:h.get? b=some o)(hc:o.cls=.type T)(hT:T≠"list"):a≠b:=λz=>by
 obtain⟨oa,e,c⟩:=ha;rw[z,hb]at e
 cases e
 rw[hc]at c;exact hT (qbX c)
theorem Zds {h:Heap}{z TI TO i1 i2 a b:Addr}{i:Nat}{xs ys:Array Value}(D:ZDist z TI TO i1 i2)(st:Zmt z TI TO i1 i2 a b i h)(ha:h.IsList a xs)(hb:h.IsList b ys):ZipApart z TI TO i1 i2 a b:=by
 obtain⟨hz,hTI,⟨x,y,hTO⟩,h1,h2⟩:=st;obtain⟨o1,e1,c1,d1⟩:=h1;obtain⟨o2,e2,c2,d2⟩:=h2;have la:∃oa,h.get? a=some oa/\oa.cls=.type "list":=let ⟨o,e,c,_⟩:=ha;⟨o,e,c⟩;have lb:∃oa,h.get? b=some oa/\oa.cls=.type "list":=let ⟨o,e,c,_⟩:=hb;⟨o,e,c⟩;exact⟨D.TIz,D.TOz,D.i1z,D.i2z,D.TITO,D.TIi1,D.TIi2,D.TOi1,D.TOi2,D.i12,VX la hz rfl (by decide),VX la hTO rfl (by decide),VX la e1 c1 (by decide),VX la e2 c2 (by decide),VX lb hz rfl (by decide),VX lb hTO rfl (by decide),VX lb e1 c1 (by decide),VX lb e2 c2 (by decide)⟩
theorem Zj6 {P:xC}{w:World}{K:qj}{elts:List Expr}{k:Nat}{pos:Pos}(a b z TI TO i1 i2:Addr)(D:ZDist z TI TO i1 i2):Turn P w K (.Tuple elts k pos) (Itz K a b) [z,TI,TO,i1,i2] z (Zmt z TI TO i1 i2 a b) where
 mem:=by simp
 obj:=λi h st c hc=>by
  obtain⟨hz,hTI,⟨x,y,hTO⟩,⟨o1,e1,c1,d1⟩,⟨o2,e2,c2,d2⟩⟩:=st;simp only[qp,zp,or_false]at hc;rcases hc with rfl | rfl | rfl | rfl | rfl
  ·exact⟨_,hz,λv q=>by cases q⟩
  ·exact⟨_,hTI,λv q=>by cases q⟩
  ·exact⟨_,hTO,λv q=>by cases q⟩
  ·exact⟨_,e1,λv q=>by rw[d1]at q;cases q⟩
  ·exact⟨_,e2,λv q=>by rw[d2]at q;cases q⟩
 keep:=λi h h' st kk=>by
  obtain⟨hz,hTI,⟨x,y,hTO⟩,h1,h2⟩:=st;exact⟨kk z (by simp) _ hz,kk TI (by simp) _ hTI,⟨x,y,kk TO (by simp) _ hTO⟩,h1.at λo e=>kk i1 (by simp) o e,h2.at λo e=>kk i2 (by simp) o e⟩
 item:=by
  intro X hP hw hK hc i jH s σ H E I hf st hg;subst hP hw hK;obtain⟨xs,ys,x,y,hq,hq2,hx,hy⟩:=hg;obtain⟨jJ,rv,p,hz⟩:=I.list hq;obtain⟨jO,rv2,p2,hz2⟩:=I.list hq2;obtain⟨u,hu,ru⟩:=rv.get hx;obtain⟨u2,hu2,ru2⟩:=rv2.get hy;have A:=Zds D st p.isList p2.isList;have W:=WalksT.zip2 (prog:=X.prog) (w:=X.w) (I.ok.hd hc) z TI TO i1 i2 a b A jJ.toArray jO.toArray;obtain⟨t1,t2,t3,t4,t5⟩:=st;have hl1:i<jJ.length:=(qq.mp hu).1;have hl2:i<jO.length:=(qq.mp hu2).1;refine W.item i s _ _ (by simp only[qD];omega) ⟨t1,t2,t3,t4,t5,p.isList,p2.isList⟩ λT vals h1 tk hp hT hI hM kk=>⟨_,rfl,?_⟩;obtain⟨v1,v2,g1,g2,rfl⟩:=hp;have e1:v1=u:=by simpa[hu]using g1.symm
  have e2:v2=u2:=by simpa[hu2]using g2.symm
  subst e1 e2;have hap:=W.apart i T h1 hM;refine W.go elts k pos i T _ _ _ hM λh2 hS kk2=>?_;have hI2:h2.IsTuple T #[v1,v2]:=hI.at λo e=>kk2 T o hap e;have hfw:∀c,c∉[z,TI,TO,i1,i2]->c∉[z,TO,i1,i2]:=λc hc hm=>hc (by
   simp only[qp,zp,or_false]at hm⊢;rcases hm with r | r | r | r <;> simp[r])
  have I1:Inv X jH σ (Zj H T (.tup [x,y])) { s with heap:=h2,toks:=tk }:=I.turnedT (fp:=[z,TI,TO,i1,i2]) (λc o hc e=>kk2 c o (hfw c hc) (kk c o (hfw c hc) e)) hf hT ⟨by show 2<=xg;decide,[v1,v2],.cons ru (.cons ru2 .nil),hI2⟩;have hTn:H T=none:=I.hok.fresh hT;refine⟨.ref T,_,I1,rfl,⟨T,x,y,hTn,rfl,rfl,λxs' h=>by rw[I.list_inj h hq];exact hx,λys' h=>by rw[I.list_inj h hq2];exact hy⟩,⟨hS.1,hS.2.1,hS.2.2.1,hS.2.2.2.1,hS.2.2.2.2.1⟩,λc hc=>?_⟩;rw[Zq ?_]
  ·exact(hf c hc).1
  ·intro zc
   subst zc;have old:∃o,s.heap.get? c=some o:=by
    obtain⟨o1,e1,_⟩:=t4;obtain⟨o2,e2,_⟩:=t5;obtain⟨q1,q2,q3⟩:=t3;simp only[qp,zp,or_false]at hc;rcases hc with r | r | r | r | r
    ·rw[r];exact⟨_,t1⟩
    ·rw[r];exact⟨_,t2⟩
    ·rw[r];exact⟨_,q3⟩
    ·rw[r];exact⟨_,e1⟩
    ·rw[r];exact⟨_,e2⟩
   obtain⟨o,e⟩:=old;exact absurd (qH e) (Nat.not_lt.mpr hT)
 done:=by
  intro X hP hw hK hc i jH s σ H E I hf st hg;subst hP hw hK;obtain⟨xs,ys,hq,hq2,rfl⟩:=hg;obtain⟨jJ,rv,p,hz⟩:=I.list hq;obtain⟨jO,rv2,p2,hz2⟩:=I.list hq2;have A:=Zds D st p.isList p2.isList;have W:=WalksT.zip2 (prog:=X.prog) (w:=X.w) (I.ok.hd hc) z TI TO i1 i2 a b A jJ.toArray jO.toArray;obtain⟨t1,t2,t3,t4,t5⟩:=st;have e:min jJ.toArray.size jO.toArray.size=min xs.length ys.length:=by rw[qD,qD,rv.length,rv2.length]
  refine W.done s _ _ (by rw[e];exact⟨t1,t2,t3,t4,t5,p.isList,p2.isList⟩) λh1 tk kk=>⟨rfl,?_⟩;exact I.turnedN (fp:=[z,TI,TO,i1,i2]) (λc o hc e=>kk c o (λhm=>hc (by
   simp only[qp,zp,or_false]at hm⊢;rcases hm with r | r | r | r <;> simp[r])) e) hf
 self:=λA i s Q E st h=>wpAny_pyIter_zip st.1 h
noncomputable def iZip (K:qj)(ta:TA):TI:=fun σ H R=>ta σ H λvs H1=>∃a b,vs=[.ref a,.ref b]/\(∃xs,Zy K H1 a xs)/\(∃ys,Zy K H1 b ys)/\R (Itz K a b) H1
theorem Ze2:xj "zip" = some (.type "zip"):=by decide +kernel
theorem Zns {X:Cx}{elts:List Expr}{k:Nat}{tp:Pos}{a b:Expr}{ta:TA}{p pos:Pos}(hg:Gl X "zip")(hm:X.mg "zip" = none)(ha:PA X [a,b] ta)(hs:xh [a,b] X.env=[(false,eval a X.env),(false,eval b X.env)]:=by rfl)(hs2:xh [b] X.env=[(false,eval b X.env)]:=by rfl) :
  PI X (.Tuple elts k tp) (.Call (.Name "zip" p) [a,b] [] pos) (iZip X.K ta):=by
 intro jH s σ H R I h;refine Call_ (Uv I hg hm Ze2 (yq (ZD (ha pos jH s σ H _ I h) λus s1 ⟨vs,H1,I1,r1,q1⟩=>?_) (by rw[hs,hs2]) (by rw[hs2];rfl)));obtain⟨a',b',e,⟨xs,hq⟩,⟨ys,hq2⟩,q⟩:=q1;subst e
 cases r1 with
 | cons r rr=>
  cases rr with
  | cons r' rr=>
   cases rr
   cases r
   cases r'
   obtain⟨jJ,rv,p1,hz⟩:=I1.list hq;obtain⟨jO,rv2,p2,hz2⟩:=I1.list hq2;refine call_zip_2 p1.isList p2.isList λh' g1 g2 g3 g4 g5 g6 g7=>?_;refine wpAny_pyIter_zip g1 ?_;have I2:Inv X jH σ H1 { s1 with heap:=h' }:=I1.kept (t':=s1.toks) g7;refine⟨s1.heap.objs.size+4,[s1.heap.objs.size+4,s1.heap.objs.size+2,s1.heap.objs.size+3,s1.heap.objs.size,s1.heap.objs.size+1],_,_,H1,rfl,I2,Zj6 a' b' (s1.heap.objs.size+4) (s1.heap.objs.size+2) (s1.heap.objs.size+3) s1.heap.objs.size (s1.heap.objs.size+1) (Zms _),⟨g1,g2,⟨_,_,g3⟩,g4,g5⟩,λc hc=>?_,q⟩;simp only[qp,zp,or_false]at hc;have hle:s1.heap.objs.size<=c:=by rcases hc with r | r | r | r | r <;> rw[r] <;> first | exact qk _ | exact qba _ _
   exact I1.fpOk hle (I1.hok.fresh hle)
end L2
namespace TF
open L2
section
variable {X:Cx}{G:Gh}
noncomputable def Wi (xs ys:List D):List D:=List.zipWith (λx y=>D.tup [x,y]) xs ys
theorem Wy.zip {K:qj}{a b:Addr}{vs us:List V}{Hf:Hp}{ds es:List D}(na:¬G.fp a)(h:Hf a=some (.lst vs))(r:Zf G Hf ds vs)(nb:¬G.fp b)(h':Hf b=some (.lst us))(r':Zf G Hf es us):Wy G (Itz K a b) Hf (Wi ds es):=λi kd H2 s e1 e2 st=>by
 have h2:Zy K H2 a vs:=Zy.of (e2 _ _ na (e1 _ _ na h));have h3:Zy K H2 b us:=Zy.of (e2 _ _ nb (e1 _ _ nb h'));refine⟨λd q=>?_,λq=>⟨vs,us,h2,h3,by rw[q];unfold Wi;rw[qbV,r.length,r'.length]⟩⟩;unfold Wi at q;rw[qa1]at q
 cases qa:ds[i]? with
 | none=>rw[qa]at q;simp at q
 | some x=>
  cases qb:es[i]? with
  | none=>rw[qa,qb]at q;simp at q
  | some y=>
   rw[qa,qb]at q;simp at q;subst q;obtain⟨v,q1,q2⟩:=r.get qa;obtain⟨u,q3,q4⟩:=r'.get qb;refine⟨⟨vs,us,v,u,h2,h3,q1,q3⟩,λz H3 ⟨T,v',u',hT,y0,y1,y2,y3⟩=>?_⟩;have ev:=y2 vs h2;have eu:=y3 us h3;rw[q1]at ev;cases ev;rw[q3]at eu;cases eu;subst y0 y1;have nf:=Gh.nofp st hT;have g2:=Gr.new (o:=.tup [v,u]) e2 hT nf;refine⟨Zj kd T (.tup [v,u]),g2,Gh.grow st hT,jc.mpr ⟨T,_,rfl,nf,ZM,?_⟩⟩;exact .cons ((q2.ext e1).ext g2.ff) (.one ((q4.ext e1).ext g2.ff))
end
section
variable {X:Cx}{G:Gh}
noncomputable def Xm (n:Int)(r:List Int):Int:=r.foldl max n
theorem ZlA (r:List Int):∀n,n<=Xm n r/\∀a∈r,a<=Xm n r:=by
 induction r with
 | nil=>intro n;exact⟨y4 _,by simp⟩
 | cons b r ih=>
  intro n;obtain⟨h1,h2⟩:=ih (max n b);refine⟨?_,λa ha=>?_⟩
  ·show n<=Xm (max n b) r;omega
  ·show a<=Xm (max n b) r
   rcases qp.mp ha with rfl | ha
   ·omega
   ·exact h2 a ha
theorem Zj7 (r:List Int):∀n,Xm n r∈n::r:=by
 induction r with
 | nil=>intro n;simp[Xm]
 | cons b r ih=>
  intro n;have h:=ih (max n b);show Xm (max n b) r∈n::b::r;rcases qp.mp h with h | h
  ·rw[h]
   rcases Int.le_total n b with z | z
   ·rw[Int.max_eq_right z];simp
   ·rw[Int.max_eq_left z];simp
  ·exact qM _ (qM _ h)
theorem Zj8 {n M:Int}{r:List Int}(h1:M∈n::r)(h2:∀a∈n::r,a<=M):M=Xm n r:=by
 obtain⟨g1,g2⟩:=ZlA r n;have g3:=h2 _ (Zj7 r n);have g4:M<=Xm n r:=by
  rcases qp.mp h1 with h | h
  ·rw[h];exact g1
  ·exact g2 M h
 omega
noncomputable def Bu:List D->Option D
 | [.lst ds]=>match Yi ds with | some (n::r)=>some (.int (Xm n r)) | _=>none
 | _=>none
theorem Zis (hc:X.calm=true):XO X (.builtin "max") (λxs H Q=>∃p n r,xs=[.ref p]/\Zy X.K H p ((n::r).map V.int)/\Q (.int (Xm n r)) H):=by
 intro jH s σ H xs us Q I r h;obtain⟨p,n,rr,rfl,hp,q⟩:=h;obtain⟨u,rfl,ru⟩:=Va r
 cases ru
 obtain⟨jJ,rv,pl,hz⟩:=I.list hp;have hi:IntsAre jJ (n::rr):=JH rv;obtain⟨xs,e⟩:=hi.allInts.items;have hns:n::rr=xs.toList.map (·.1):=by rw[<-hi.numsOf,<-nums_intItems,<-e]
 have hl:=pl.isList;rw[e]at hl;have hsz:0<xs.size:=by
  have h3:0<(n::rr).length:=by simp
  rw[hns,qf,qE]at h3;exact h3
 refine max_intList (I.ok.hd hc) hl hsz λv h' tk hv hk=>?_;obtain⟨t,rfl⟩:=intItems_at hv;obtain⟨h1,h2⟩:=argBest_gt (numAt xs) (xs.size-1);have e2:numAt xs (argBest (λi j=>decide (numAt xs i > numAt xs j)) (xs.size-1))=Xm n rr:=by
  refine Zj8 ?_ λa ha=>?_
  ·rw[hns,numAt_eq];exact getD_mem (by rw[qf,qE];omega)
  ·rw[hns]at ha
   obtain⟨j,hj,rfl⟩:=mem_getD ha;rw[qf,qE]at hj;rw[<-numAt_eq];exact h2 j (by omega)
 rw[e2];exact⟨.int (Xm n rr),H,I.kept (t':=tk) hk,⟨_,rfl⟩,q⟩
theorem Zgc (hc:X.calm=true):WW X G (.builtin "max") Bu:=
 ⟨_,Zis hc,λHf H s xs ds c Q e1 st r q k=>by
  match ds,q,r with
  | [.lst es],q,r=>
   have q:(match Yi es with | some (n::r)=>some (D.int (Xm n r)) | _=>none)=some c:=q
   cases he:Yi es with
   | none=>rw[he]at q;cases q
   | some ns=>
    cases ns with
    | nil=>rw[he]at q;cases q
    | cons n rr=>
     rw[he]at q
     cases q
     obtain⟨v,rfl,rv⟩:=ji r;obtain⟨p,vs,rfl,np,hp,rp⟩:=jb.mp rv;rw[JP he]at rp;rw[jr rp]at hp;exact⟨p,n,rr,rfl,Zy.of (e1 _ _ np hp),k _ Hf H (.refl e1) st (ja.mpr rfl) (.scal λz=>z)⟩⟩
noncomputable def Bv (i:Nat)(fx fv:Za->M D):Za->M Out:=fun ρ=>Zo (fv ρ) λv=>Zo (fx ρ) λx=>match x,(ρ[i]?).bind id with
 | .int k,some (.lst ds)=>match Xz ds.length k with | some j=>ZI (.nx (ρ.set i (some (.lst (ds.set j v))))) | none=>ZO
 | _,_=>ZO
noncomputable def Zoi (K:qj):V->V->Hp->VK->Prop:=λx y H Q=>∃(p:Addr) (xs:List V) (i:Int) (v:V),x=.ref p/\y=.int i/\Zy K H p xs/\0<=i/\xs[i.toNat]?=some v/\Q v H
theorem Zit:PGet X (Zoi X.K):=by
 intro jH s σ H x y v u Q I rx ry h;obtain⟨p,xs,i,z,rfl,rfl,hq,h0,he,q⟩:=h
 cases rx
 obtain⟨t,rfl⟩:=ry;obtain⟨jJ,r,pl,hz⟩:=I.list hq;obtain⟨w,ew,rw'⟩:=r.get he;have hl:=r.length;have hn:=Bh;have hlt:i.toNat<xs.length:=(qq.mp he).1;exact wpAny_getItem_list pl.isList h0 (by omega) (by simpa using ew) ⟨z,H,I,rw',q⟩
noncomputable def Jo (i:Nat)(fx fv:Za->M D):Za->M Out:=fun ρ=>Zo (fx ρ) λx=>Zo (fv ρ) λv=>match x,v,(ρ[i]?).bind id with
 | .int k,.int b,some (.lst ds)=>if 0<=k then match ds[k.toNat]? with | some (.int a)=>ZI (.nx (ρ.set i (some (.lst (ds.set k.toNat (.int (a+b))))))) | _=>ZO else ZO
 | _,_,_=>ZO
theorem Zj9 {ob own:List Nat}{fr r1 r2:Bool}{i:Nat}{x:Str}{ex ev:Expr}{p1 p2 pos:Pos}{fx fv:Za->M D}(hi:i∈own)(hn:PE X (.Name x p1) (Z3 i))(hx:PD X G r1 ex fx)(hv:PD X G r2 ev fv)
  (ha:∀ov iv new,augStore ex ov iv new=(do holding [new,ov,iv] (setItem ov iv new);release [new,ov,iv] [];pure .next):=by intros;rfl) :
  YA X G ob own own fr (.AugAssign (.Subscript (.Name x p1) ex p2) .Add ev pos) (Jo i (fun ρ=>fx (ZU own ρ)) (fun ρ=>fv (ZU own ρ))):=by
 obtain⟨tv,pv',qv⟩:=hv;obtain⟨tx,px,qx⟩:=hx;have yv:X3 G r2 tv fv:=qv;have yx:X3 G r1 tx fx:=qx;refine⟨_,ZkZ hn px Zit pv' ZmS Zcc ha,λkn jP H0 σ H ρ s out s' E ⟨Hf,j⟩ st e po=>?_⟩;obtain⟨xx,s1,a1,a2⟩:=ZE e;obtain⟨v,s2,a3,a4⟩:=ZE a2
 match xx,v,a4,a1,a3 with
 | .int k,.int b,a4,a1,a3=>
  cases hb:(ρ[i]?).bind id with
  | none=>rw[hb]at a4;cases a4
  | some c=>
   rw[hb]at a4
   cases c with
   | lst ds=>
    have a4':(if 0<=k then match ds[k.toNat]? with | some (.int a)=>ZI (Out.nx (ρ.set i (some (.lst (ds.set k.toNat (.int (a+b))))))) | _=>ZO else ZO) s2=some (out,s'):=a4;obtain⟨k0,a5⟩:=YW a4'
    cases hd:ds[k.toNat]? with
    | none=>rw[hd]at a5;cases a5
    | some da=>
     rw[hd]at a5
     cases da with
     | int aa=>
      obtain⟨rfl,rfl⟩:=ZL a5;have ei:=ZbY hb;obtain⟨a,vs,h1,h2,h3,h4⟩:=Vq j hi ei;refine⟨_,h1,?_⟩;refine yx.a kn jP H0 σ Hf H ρ s _ _ _ j st a1 λw jW H1 j1 e1 e2 j8 r1 _=>?_;rw[ja.mp r1];obtain⟨a',vs',h1',h2',h3',h4'⟩:=Vq j1 hi ei;rw[h1]at h1';cases h1';obtain⟨w0,g1,g2⟩:=h4'.get hd;rw[ja.mp g2]at g1;refine⟨a,vs',k,.int aa,rfl,rfl,Zy.of h3',k0,g1,?_⟩;refine yv.a kn jP H0 σ jW H1 ρ s1 _ _ _ j1 j8 a3 λw2 kd H2 j2 e3 e4 jV r2 _=>?_;rw[ja.mp r2];obtain⟨a'',vs'',h1'',h2'',h3'',h4''⟩:=Vq j2 hi ei;rw[h1]at h1'';cases h1'';have hlt:k.toNat<vs''.length:=by rw[<-h4''.length];exact(qq.mp hd).1
      have hix:Xz vs''.length k=some k.toNat:=by unfold Xz;rw[if_pos k0,if_pos (by omega)]
      refine⟨aa,b,rfl,rfl,a,vs'',k,k.toNat,rfl,rfl,h3'',hix,?_⟩;exact po σ _ ⟨kd,j2.put hi ei h1 ⟨vs''.set k.toNat (.int (aa+b)),ZM,h4''.set k.toNat (ja.mpr rfl)⟩⟩ (jz jV h2)
     | _=>cases a5
   | _=>cases a4
end
section
variable {X:Cx}{G:Gh}
end
end TF
namespace HT
section
variable {prog:xC}{w:World}{A:xD}{E:xE}{s:Shared}
end
end HT
namespace TF
open L2
section
variable {X:Cx}{G:Gh}
end
end TF
namespace L2
open AutoSeq1 (wpAny_loadPart')
section
variable {prog:xC}{w:World}{A:xD}{E:xE}{s:Shared}
theorem Zgd {q t:Addr}{i:Nat}{ys:Array Value}{x:Value}{Q:xE}(hq:s.heap.IsTupleIter q t i)(ht:s.heap.IsTuple t ys)(hx:ys[i]?=some x)
  (k:∀h',h'.IsTupleIter q t (i+1)->zW q s.heap h'->Q x { s with heap:=h' }):xf (xA prog w) A (zQ (.ref q)) Q E s:=by
 obtain⟨o,ho,hc,hd⟩:=id hq;obtain⟨ol,hol,_,nl,hdl⟩:=ht;unfold zQ;refine xa (wpAny_callSpecial?_slot (name:=qy "__next__") hq.typeIs qau (wpAny_call_entry qau hq.typeIs qb0 ?_ (qbY _)));show xf _ _ (field (.ref q) 0 >>= _) _ _ s;refine xa (wpAny_field ho hd (x:=.ref t) rfl ?_);show xf _ _ (if (ze t==zd)=true then _ else _) _ _ s;rw[if_neg (show ¬((ze t==zd)=true)from yJ)];show xf _ _ (field (.ref q) 1 >>= _) _ _ s;refine xa (wpAny_field ho hd (x:=.int i 0) rfl ?_);show xf _ _ (seqItems? (.ref t) >>= _) _ _ s;refine xa (xt hol hdl ?_);simp only[yO,hx];exact xa (wpAny_setField ho hd (by simp) (xb ⟨x,rfl,xb (k _ ⟨_,yb _ ho (Obj.isFreed_of_fields (Obj.data_mapFields hd _)),(Obj.cls_mapFields ..).trans hc,by rw[Obj.data_mapFields hd];simp[rawInt]⟩ (yQ ..))⟩))
theorem Ziu {q t:Addr}{i:Nat}{ys:Array Value}{Q:xE}(hh:A.handled=none)(hq:s.heap.IsTupleIter q t i)(ht:s.heap.IsTuple t ys)(hx:ys[i]?=none)
  (hE:∀h' e,qbg q s.heap h'->(∃o,h'.get? e=some o/\o.cls=.type "StopIteration")->E (.ref e) { s with heap:=h' }):xf (xA prog w) A (zQ (.ref q)) Q E s:=by
 obtain⟨o,ho,hc,hd⟩:=id hq;obtain⟨ol,hol,_,nl,hdl⟩:=ht;unfold zQ;refine xa (wpAny_callSpecial?_slot (name:=qy "__next__") hq.typeIs qau (wpAny_call_entry qau hq.typeIs qb0 ?_ (qbY _)));show xf _ _ (field (.ref q) 0 >>= _) _ _ s;refine xa (wpAny_field ho hd (x:=.ref t) rfl ?_);show xf _ _ (if (ze t==zd)=true then _ else _) _ _ s;rw[if_neg (show ¬((ze t==zd)=true)from yJ)];show xf _ _ (field (.ref q) 1 >>= _) _ _ s;refine xa (wpAny_field ho hd (x:=.int i 0) rfl ?_);show xf _ _ (seqItems? (.ref t) >>= _) _ _ s;refine xa (xt hol hdl ?_);simp only[yO,hx];refine xa (wpAny_rule (xa (wpAny_setField ho hd (by simp) ?_)));show xf _ _ (newExc (.type "StopIteration") [] >>= _) _ _ _;refine xa ?_;simp only[newExc,newTuple];refine xa (xl ?_ (by size_fits));refine xa (m:=firstArgMember _ _) (wpAny_of_eq (a:=zd) (by first | rfl | (simp only[firstArgMember];rfl)) ?_);refine xl ?_ (by size_fits);simp only[raiseNew];refine xa (wpAny_handled ?_)
 first | rw[show A.in1.handled=none from hh];refine xa (xb (wpAny_throw ?_)) | rw[hh];refine xa (xb (wpAny_throw ?_))
 exact hE _ _ (((yQ ..).extBut.push _).push _) ⟨_,qw _ rfl,rfl⟩
end
theorem Zd5 {prog:xC}{w:World}{A:xD}(hh:A.handled=none)(q t:Addr)(hne:t≠q)(ys:Array Value):Draws prog w A q [q,t] ys.size (λi v=>ys[i]?=some v) (λi h=>h.IsTupleIter q t i/\h.IsTuple t ys) where
 live:=λ_ _ st=>let ⟨o,ho,_⟩:=st.1;⟨o,ho⟩
 frame:=λ_ _ _ st k=>⟨st.1.at λo e=>k q (by simp) o e,st.2.at λo e=>k t (by simp) o e⟩
 item:=λi s Q E hi st k=>Zgd st.1 st.2 (x:=ys[i]) (by simp[hi]) λh' g sb=>k _ h' s.toks (by simp[hi]) ⟨g,st.2.at λo e=>(sb.2 t hne).trans e⟩ sb
 done:=λs Q E st hE=>Ziu hh st.1 st.2 (by simp) hE
end L2
namespace TF
open L2
section
variable {X:Cx}{G:Gh}
end
section
variable {X:Cx}{G:Gh}
theorem Ze3 {i:Nat}{x:Str}{e:Expr}{pos p1 p2 p3:Pos}{r1 fr:Bool}{ob own:List Nat}{f:Za->M D}(hi:i∈own)(hv:PE X (.Name x p1) (Z3 i))(he:PD X G r1 e f)
  (hbase:xq (.Name x p1) "append" X.env (eval (.Name x p1) X.env)=eval (.Name x p1) X.env:=by rfl)
  (hfew:((backTo p3 (xh [e] X.env)).all (λx=>!x.1)&&(xp p3 (xi [] X.env)).all (λx=>x.1.isSome)
   && decide ([e].length+([]:List Keyword).length+(if ([]:List Keyword).isEmpty then 0 else 1)<30))=true:=by rfl)
  (hline:(p2.endLine==p3.line)=true:=by rfl) (hs:xh [e] X.env=(false,eval e X.env)::xh [] X.env:=by rfl)
  (hsw:xr (.Call (.Attribute (.Name x p1) "append" p2) [e] [] p3) none pos.line X.env=pure false:=by rfl) :
  YA X G ob own own fr (.Expr (.Call (.Attribute (.Name x p1) "append" p2) [e] [] p3) pos) (VF i (fun ρ=>f (ZU own ρ))):=
 Zcg hi he λte p=>Zbl hv p hbase hfew hline hs hsw
end
end TF
namespace L2
section
variable {prog:xC}{w:World}{A:xD}{E:xE}{s:Shared}
end
end L2
namespace TF
open L2
section
variable {X:Cx}{G:Gh}
end
end TF
namespace L2
end L2
namespace TF
open L2
section
variable {X:Cx}{G:Gh}
end
end TF
namespace L2
section
variable {prog:xC}{w:World}{A:xD}{E:xE}{s:Shared}{o:Obj}{es:Array DictEntry}{d it:Addr}{ep i:Nat}
end
section
variable {X:Cx}{tg:Expr}
end
end L2
namespace TF
open L2
section
variable {X:Cx}{G:Gh}
end
end TF
namespace L2
structure ZG (z TI TO i1 i2:Addr)(f1 f2:List Addr):Prop extends ZDist z TI TO i1 i2 where
 f1n:∀c∈f1,c≠z/\c≠TO/\c≠i2
 f2n:∀c∈f2,c≠z/\c≠TO/\c≠i1
section
variable {prog:xC}{w:World}{A:xD}{E:xE}{s:Shared}{z TI TO i1 i2:Addr}{f1 f2:List Addr}{n1 n2 k:Nat}{P1 P2:Nat->Value->Prop}{S1 S2:Nat->Heap->Prop}{a b:Value}
theorem Ziv {Q:xE}(D1:Draws prog w A i1 f1 n1 P1 S1)(D2:Draws prog w A i2 f2 n2 P2 S2)(Z:ZG z TI TO i1 i2 f1 f2)(hz:IsZip s.heap z TI TO .none)(hTI:IsPair s.heap TI (.ref i1) (.ref i2))(hTO:IsPair s.heap TO a b)(h1:S1 k s.heap)(h2:S2 k s.heap)(k1:k<n1)(k2:k<n2)
  (hQ:∀h' tk x y,P1 k x->P2 k y->IsZip h' z TI TO (rawInt s.heap.objs.size)->IsPair h' TO x y->S1 (k+1) h'->S2 (k+1) h'->IsPair h' s.heap.objs.size x y->
   (∀c o,c≠z->c≠TO->c≠i1->c≠i2->s.heap.get? c=some o->h'.get? c=some o)->Q (.ref s.heap.objs.size) { s with heap:=h',toks:=tk }) :
  xf (xA prog w) A (Builtin.«zip.__next__» ⟨[.ref z],[]⟩) (λfin s'=>∃v,fin=.done (.ret v)/\Q v s') E s:=by
 show xf _ _ (field (.ref z) 2 >>= _) _ _ _;refine xa (wpAny_field hz rfl (x:=.bool false) rfl ?_);show xf _ _ (field (.ref z) 3 >>= _) _ _ _;refine xa (wpAny_field hz rfl (x:=.ref TI) rfl ?_);refine xa (xt hTI rfl ?_);show xf _ _ (yN (.ref z) >>= _) _ _ _;refine xa ?_;unfold yN;refine xa (wpAny_field hz rfl (x:=.none) rfl (xb ?_));simp only[if_true];refine xa (wpAny_rule ?_);refine xa (wpAny_field hz rfl (x:=.ref TO) rfl ?_);refine xa (wpAny_setField_rec hz (by simp) λg1 q1 b1=>?_);replace q1:IsZip g1 z TI TO .ellipsis:=q1;refine xa ?_;simp only[qcn,List.zipIdx_nil,qbN,List.forIn_nil];refine xa (xa (wpAny_onRaise ?_));show xf _ _ (zQ (.ref i1) >>= _) _ _ _;have s1:S1 k g1:=D1.frame _ _ _ h1 λc m o e=>b1.extBut _ _ (Z.f1n c m).1 e;refine xa (D1.item k { s with heap:=g1 } _ _ k1 s1 λx g2 t2 px s1' b2=>xb ?_);have c2:IsPair g2 TO a b:=b2.extBut _ _ Z.TOi1 (b1.extBut _ _ Z.TOz hTO);refine xa (xt c2 rfl ?_);refine xa (wpAny_updateSeq_pair c2 λg3 c3 b3=>?_);replace c3:IsPair g3 TO x b:=c3;refine xa (xw (xb ?_));refine xa (xa (wpAny_onRaise ?_));show xf _ _ (zQ (.ref i2) >>= _) _ _ _;have s2:S2 k g3:=D2.frame _ _ _ h2 λc m o e=>b3.extBut _ _ (Z.f2n c m).2.1 (b2.extBut _ _ (Z.f2n c m).2.2 (b1.extBut _ _ (Z.f2n c m).1 e));refine xa (D2.item k { s with heap:=g3,toks:=t2 } _ _ k2 s2 λy g4 t4 py s2' b4=>xb ?_);have c4:IsPair g4 TO x b:=b4.extBut _ _ Z.TOi2 c3;refine xa (xt c4 rfl ?_);refine xa (wpAny_updateSeq_pair c4 λg5 c5 b5=>?_);replace c5:IsPair g5 TO x y:=c5;refine xa (xw (xb (xb ?_)));refine xa (xt c5 rfl ?_);refine xa (wpAny_newTuple ?_);have hsz:g5.objs.size=s.heap.objs.size:=by rw[b5.1,b4.1,b3.1,b2.1,b1.1]
 have q5:IsZip g5 z TI TO .ellipsis:=b5.extBut _ _ Z.TOz.symm (b4.extBut _ _ Z.i2z.symm (b3.extBut _ _ Z.TOz.symm (b2.extBut _ _ Z.i1z.symm q1)));have keep5:∀c o,c≠z->c≠TO->c≠i1->c≠i2->s.heap.get? c=some o->g5.get? c=some o:=λc o u1 u2 u3 u4 e=>b5.extBut _ _ u2 (b4.extBut _ _ u4 (b3.extBut _ _ u2 (b2.extBut _ _ u3 (b1.extBut _ _ u1 e))));have s15:S1 (k+1) g5:=D1.frame _ _ _ s1' λc m o e=>b5.extBut _ _ (Z.f1n c m).2.1 (b4.extBut _ _ (Z.f1n c m).2.2 (b3.extBut _ _ (Z.f1n c m).2.1 e));have s25:S2 (k+1) g5:=D2.frame _ _ _ s2' λc m o e=>b5.extBut _ _ (Z.f2n c m).2.1 e;have zlt:z<g5.objs.size:=qH q5;show xf _ _ (qbo (.ref z) (.ref g5.objs.size) >>= _) _ _ _;refine xa ?_;unfold qbo;have q6:IsZip (g5.push { cls:=.type "tuple",data:=.seq #[x,y] }) z TI TO .ellipsis:=qd _ q5;refine xa (wpAny_setField_rec q6 (by simp) λg7 q7 b7=>?_);replace q7:IsZip g7 z TI TO (rawInt g5.objs.size):=q7;refine wpAny_setField_rec q7 (by simp) λg8 q8 b8=>?_;replace q8:IsZip g8 z TI TO (rawInt g5.objs.size):=q8;have up:∀c o,c≠z->g5.get? c=some o->g8.get? c=some o:=λc o u e=>b8.extBut _ _ u (b7.extBut _ _ u (qd _ e));have hT:IsPair g8 g5.objs.size x y:=b8.extBut _ _ (qaY zlt) (b7.extBut _ _ (qaY zlt) (qw _ rfl));rw[hsz]at q8 hT;refine xb ⟨_,rfl,?_⟩;show Q (.ref g5.objs.size) _;rw[hsz];exact hQ g8 t4 x y px py q8 (up _ _ Z.TOz c5) (D1.frame _ _ _ s15 λc m o e=>up c o (Z.f1n c m).1 e) (D2.frame _ _ _ s25 λc m o e=>up c o (Z.f2n c m).1 e) hT λc o u1 u2 u3 u4 e=>up c o u1 (keep5 c o u1 u2 u3 u4 e)
theorem Zka {Q:qc2->Shared->Prop}(D1:Draws prog w A i1 f1 n1 P1 S1)(D2:Draws prog w A i2 f2 n2 P2 S2)(Z:ZG z TI TO i1 i2 f1 f2)(hz:IsZip s.heap z TI TO .none)(hTI:IsPair s.heap TI (.ref i1) (.ref i2))(hTO:IsPair s.heap TO a b)(h1:S1 k s.heap)(h2:S2 k s.heap)(hk:k=n1∨(k<n1/\k=n2))
  (hE:∀h' tk e,(∀c o,c≠z->c≠TO->c≠i1->c≠i2->s.heap.get? c=some o->h'.get? c=some o)->(∃o,h'.get? e=some o/\o.cls=.type "StopIteration")->E (.ref e) { s with heap:=h',toks:=tk }) :
  xf (xA prog w) A (Builtin.«zip.__next__» ⟨[.ref z],[]⟩) Q E s:=by
 show xf _ _ (field (.ref z) 2 >>= _) _ _ _;refine xa (wpAny_field hz rfl (x:=.bool false) rfl ?_);show xf _ _ (field (.ref z) 3 >>= _) _ _ _;refine xa (wpAny_field hz rfl (x:=.ref TI) rfl ?_);refine xa (xt hTI rfl ?_);show xf _ _ (yN (.ref z) >>= _) _ _ _;refine xa ?_;unfold yN;refine xa (wpAny_field hz rfl (x:=.none) rfl (xb ?_));simp only[if_true];refine xa (wpAny_rule ?_);refine xa (wpAny_field hz rfl (x:=.ref TO) rfl ?_);refine xa (wpAny_setField_rec hz (by simp) λg1 q1 b1=>?_);replace q1:IsZip g1 z TI TO .ellipsis:=q1;refine xa ?_;simp only[qcn,List.zipIdx_nil,qbN,List.forIn_nil];refine xa (xa (wpAny_onRaise ?_));show xf _ _ (zQ (.ref i1) >>= _) _ _ _;have s1:S1 k g1:=D1.frame _ _ _ h1 λc m o e=>b1.extBut _ _ (Z.f1n c m).1 e;rcases hk with hk | ⟨hk1,hk⟩
 ·subst hk
  refine xa (D1.done { s with heap:=g1 } _ _ s1 λg2 e b2 he=>?_);obtain⟨oe,hoe,hce⟩:=he;have q2:IsZip g2 z TI TO .ellipsis:=b2 _ _ Z.i1z.symm q1;have hez:e≠z:=λx=>by rw[x,q2]at hoe;cases hoe;exact absurd (qbX hce) (by decide)
  exact wpAny_setField_rec q2 (by simp) λg3 _ b3=>hE g3 s.toks e (λc o u1 _ u3 _ x=>b3.extBut _ _ u1 (b2 _ _ u3 (b1.extBut _ _ u1 x))) ⟨oe,b3.extBut _ _ hez hoe,hce⟩
 ·subst hk
  refine xa (D1.item k { s with heap:=g1 } _ _ hk1 s1 λx g2 t2 px s1' b2=>xb ?_);have c2:IsPair g2 TO a b:=b2.extBut _ _ Z.TOi1 (b1.extBut _ _ Z.TOz hTO);refine xa (xt c2 rfl ?_);refine xa (wpAny_updateSeq_pair c2 λg3 c3 b3=>?_);refine xa (xw (xb ?_));refine xa (xa (wpAny_onRaise ?_));show xf _ _ (zQ (.ref i2) >>= _) _ _ _;have s2:S2 k g3:=D2.frame _ _ _ h2 λc m o e=>b3.extBut _ _ (Z.f2n c m).2.1 (b2.extBut _ _ (Z.f2n c m).2.2 (b1.extBut _ _ (Z.f2n c m).1 e));refine xa (D2.done { s with heap:=g3,toks:=t2 } _ _ s2 λg4 e b4 he=>?_);obtain⟨oe,hoe,hce⟩:=he;have q4:IsZip g4 z TI TO .ellipsis:=b4 _ _ Z.i2z.symm (b3.extBut _ _ Z.TOz.symm (b2.extBut _ _ Z.i1z.symm q1));have hez:e≠z:=λx=>by rw[x,q4]at hoe;cases hoe;exact absurd (qbX hce) (by decide)
  exact wpAny_setField_rec q4 (by simp) λg5 _ b5=>hE g5 t2 e (λc o u1 u2 u3 u4 x=>b5.extBut _ _ u1 (b4 _ _ u4 (b3.extBut _ _ u2 (b2.extBut _ _ u3 (b1.extBut _ _ u1 x))))) ⟨oe,b5.extBut _ _ hez hoe,hce⟩
theorem Zge {Q:Option Value->Shared->Prop}(D1:Draws prog w A.in1 i1 f1 n1 P1 S1)(D2:Draws prog w A.in1 i2 f2 n2 P2 S2)(Z:ZG z TI TO i1 i2 f1 f2)(hz:IsZip s.heap z TI TO .none)(hTI:IsPair s.heap TI (.ref i1) (.ref i2))(hTO:IsPair s.heap TO a b)(h1:S1 k s.heap)(h2:S2 k s.heap)(k1:k<n1)(k2:k<n2)
  (hQ:∀h' tk x y,P1 k x->P2 k y->IsZip h' z TI TO (rawInt s.heap.objs.size)->IsPair h' TO x y->S1 (k+1) h'->S2 (k+1) h'->IsPair h' s.heap.objs.size x y->
   (∀c o,c≠z->c≠TO->c≠i1->c≠i2->s.heap.get? c=some o->h'.get? c=some o)->Q (some (.ref s.heap.objs.size)) { s with heap:=h',toks:=tk }):xf (xA prog w) A (pyNext (.ref z)) Q E s:=by
 have hT:s.TypeIs (.ref z) "zip":=⟨_,hz,rfl⟩;unfold pyNext;exact xa (wpAny_attempt (wpAny_callSpecial?_slot (name:=qy "__next__") hT qbP (wpAny_call_entry qbP hT F.entry_zip_next (Ziv D1 D2 Z hz hTI hTO h1 h2 k1 k2 λh' tk x y a0 a1 a2 a3 a4 a5 a6 a7=>xb (hQ h' tk x y a0 a1 a2 a3 a4 a5 a6 a7)) (F.args_zip_next_1 _))))
theorem Ziw {Q:Option Value->Shared->Prop}(D1:Draws prog w A.in1 i1 f1 n1 P1 S1)(D2:Draws prog w A.in1 i2 f2 n2 P2 S2)(Z:ZG z TI TO i1 i2 f1 f2)(hz:IsZip s.heap z TI TO .none)(hTI:IsPair s.heap TI (.ref i1) (.ref i2))(hTO:IsPair s.heap TO a b)(h1:S1 k s.heap)(h2:S2 k s.heap)(hk:k=n1∨(k<n1/\k=n2))
  (hQ:∀h' tk,(∀c o,c≠z->c≠TO->c≠i1->c≠i2->s.heap.get? c=some o->h'.get? c=some o)->Q none { s with heap:=h',toks:=tk }):xf (xA prog w) A (pyNext (.ref z)) Q E s:=by
 have hT:s.TypeIs (.ref z) "zip":=⟨_,hz,rfl⟩;unfold pyNext;refine xa (wpAny_attempt (wpAny_callSpecial?_slot (name:=qy "__next__") hT qbP (wpAny_call_entry qbP hT F.entry_zip_next (Zka D1 D2 Z hz hTI hTO h1 h2 hk λh' tk e kk he=>?_) (F.args_zip_next_1 _))));obtain⟨o,ho,hc⟩:=he;refine xa (wpAny_isInstance (T:="StopIteration") (b:=true) ⟨o,ho,hc⟩ isSubtype_stop ?_);exact xb (hQ _ _ kk)
end
noncomputable def YF (l:Addr):Obj:={ cls:=.type "tuple_iterator",data:=.fields #[.ref l,.int 0 0] }
noncomputable def Ww (x y:Value):Obj:={ cls:=.type "tuple",data:=.seq #[x,y] }
noncomputable def zipO (a b:Addr):Obj:={ cls:=.type "zip",data:=.fields #[.none,.bool false,.bool false,.ref a,.ref b] }
noncomputable def V1 (h:Heap)(l1 l2:Addr):Heap:=((((h.push (YF l1)).push (YF l2)).push (Ww (.ref h.objs.size) (.ref (h.push (YF l1)).objs.size))).push (Ww .none .none)).push (zipO ((h.push (YF l1)).push (YF l2)).objs.size (((h.push (YF l1)).push (YF l2)).push (Ww (.ref h.objs.size) (.ref (h.push (YF l1)).objs.size))).objs.size)
theorem Zoj (l1 l2:Addr)(xs ys:Array Value) :
  Meets (Builtin.«zip.__new__» ⟨[.type "zip",.ref l1,.ref l2],[]⟩) (λ_ R s=>s.heap.IsTuple l1 xs/\s.heap.IsTuple l2 ys/\
   R (.ok (.ret (.ref ((((s.heap.push (YF l1)).push (YF l2)).push (Ww (.ref s.heap.objs.size) (.ref (s.heap.push (YF l1)).objs.size))).push (Ww .none .none)).objs.size))) { s with heap:=V1 s.heap l1 l2 }):=
 .of_wp λprog w A R s h=>by
  obtain⟨hp,g,d,tk,os⟩:=s;obtain⟨hl1,hl2,h⟩:=h;have hsub:=sub_zip;have hT1:Heap.IsTuple (Shared.heap ⟨hp,g,d,tk,os⟩) l1 xs:=hl1;have hT2:Heap.IsTuple (Shared.heap ⟨hp.push { cls:=.type "tuple_iterator",data:=.fields #[.ref l1,.int 0 0] },g,d,tk,os⟩) l2 ys:=hl2.at λo e=>qd _ e
  wp_walk using wpAny_pyIter_tuple hT1,wpAny_pyIter_tuple hT2
  exact⟨_,rfl,h⟩
section
variable {prog:xC}{w:World}{A:xD}{E:xE}{s:Shared}
theorem Zix {l1 l2:Addr}{xs ys:Array Value}{Q:xE}(hl1:s.heap.IsTuple l1 xs)(hl2:s.heap.IsTuple l2 ys)
  (h:∀h',IsZip h' (s.heap.objs.size+4) (s.heap.objs.size+2) (s.heap.objs.size+3) .none->IsPair h' (s.heap.objs.size+2) (.ref s.heap.objs.size) (.ref (s.heap.objs.size+1))->IsPair h' (s.heap.objs.size+3) .none .none->
   h'.IsTupleIter s.heap.objs.size l1 0->h'.IsTupleIter (s.heap.objs.size+1) l2 0->(∀c o,s.heap.get? c=some o->h'.get? c=some o)->Q (.ref (s.heap.objs.size+4)) { s with heap:=h' }):xf (xA prog w) A (call (.type "zip") [.ref l1,.ref l2]) Q E s:=by
 refine callType_new F.called_zip (by decide) (F.typeCall_zip_2 _ _) (F.newCall_zip_2 _ _) (λobj=>F.args_object_init_3 obj _ _) F.entry_zip_new (Zoj l1 l2 xs ys) ⟨hl1,hl2,?_⟩;have z1:(s.heap.push (YF l1)).objs.size=s.heap.objs.size+1:=yf ..;have z2:((s.heap.push (YF l1)).push (YF l2)).objs.size=s.heap.objs.size+2:=by rw[yf,z1]
 have z3:(((s.heap.push (YF l1)).push (YF l2)).push (Ww (.ref s.heap.objs.size) (.ref (s.heap.push (YF l1)).objs.size))).objs.size=s.heap.objs.size+3:=by rw[yf,z2]
 have z4:((((s.heap.push (YF l1)).push (YF l2)).push (Ww (.ref s.heap.objs.size) (.ref (s.heap.push (YF l1)).objs.size))).push (Ww .none .none)).objs.size=s.heap.objs.size+4:=by rw[yf,z3]
 have g5:(V1 s.heap l1 l2).get? (s.heap.objs.size+4)=some (zipO (s.heap.objs.size+2) (s.heap.objs.size+3)):=by
  unfold V1;have e:=qw ((((s.heap.push (YF l1)).push (YF l2)).push (Ww (.ref s.heap.objs.size) (.ref (s.heap.push (YF l1)).objs.size))).push (Ww .none .none)) (o:=zipO (s.heap.objs.size+2) (s.heap.objs.size+3)) rfl;rw[z4]at e;rw[z3,z2];exact e
 have g4:(V1 s.heap l1 l2).get? (s.heap.objs.size+3)=some (Ww .none .none):=by
  rw[<-z3];exact qd _ (qw _ rfl)
 have g3:(V1 s.heap l1 l2).get? (s.heap.objs.size+2)=some (Ww (.ref s.heap.objs.size) (.ref (s.heap.objs.size+1))):=by
  have e:=qw ((s.heap.push (YF l1)).push (YF l2)) (o:=Ww (.ref s.heap.objs.size) (.ref (s.heap.push (YF l1)).objs.size)) rfl;rw[z2]at e;unfold V1;rw[qd _ (qd _ e),z1]
 have g2:(V1 s.heap l1 l2).get? (s.heap.objs.size+1)=some (YF l2):=by
  rw[<-z1];exact qd _ (qd _ (qd _ (qw _ rfl)))
 have g1:(V1 s.heap l1 l2).get? s.heap.objs.size=some (YF l1):=qd _ (qd _ (qd _ (qd _ (qw _ rfl))));show _/\_;rw[z4];exact⟨⟨_,g5,rfl⟩,h _ g5 g3 g4 ⟨_,g1,rfl,rfl⟩ ⟨_,g2,rfl,rfl⟩ λc o x=>qd _ (qd _ (qd _ (qd _ (qd _ x))))⟩
end
noncomputable def Itzt (a b:Addr):It where
 go:=λi H=>∃xs ys x y,H a=some (.tup xs)/\H b=some (.tup ys)/\xs[i]?=some x/\ys[i]?=some y
 yld:=λi H v H'=>∃T x y,H T=none/\v=.ref T/\H'=Zj H T (.tup [x,y])/\(∀xs,H a=some (.tup xs)->xs[i]?=some x)/\(∀ys,H b=some (.tup ys)->ys[i]?=some y)
 stop:=λi H=>∃xs ys,H a=some (.tup xs)/\H b=some (.tup ys)/\i=min xs.length ys.length
noncomputable def Zok (z TI TO i1 i2 a b:Addr)(i:Nat)(h:Heap):Prop:=IsZip h z TI TO .none/\IsPair h TI (.ref i1) (.ref i2)/\(∃x y,IsPair h TO x y)/\h.IsTupleIter i1 a i/\h.IsTupleIter i2 b i
theorem Zmu {z TI TO i1 i2 a b:Addr}{H:Hp}{xs ys:List V}(D:ZDist z TI TO i1 i2)(hf:∀c∈[z,TI,TO,i1,i2],H c=none)(ha:H a=some (.tup xs))(hb:H b=some (.tup ys)):ZG z TI TO i1 i2 [i1,a] [i2,b] where
 toZDist:=D
 f1n:=λc m=>by
  simp only[qp,zp,or_false]at m;rcases m with r | r
  ·rw[r];exact⟨D.i1z,D.TOi1.symm,D.i12⟩
  ·rw[r];exact⟨ZW ha (hf _ (by simp)),ZW ha (hf _ (by simp)),ZW ha (hf _ (by simp))⟩
 f2n:=λc m=>by
  simp only[qp,zp,or_false]at m;rcases m with r | r
  ·rw[r];exact⟨D.i2z,D.TOi2.symm,D.i12.symm⟩
  ·rw[r];exact⟨ZW hb (hf _ (by simp)),ZW hb (hf _ (by simp)),ZW hb (hf _ (by simp))⟩
theorem Ziy {P:xC}{w:World}{K:qj}{elts:List Expr}{k:Nat}{pos:Pos}(a b z TI TO i1 i2:Addr)(D:ZDist z TI TO i1 i2):Turn P w K (.Tuple elts k pos) (Itzt a b) [z,TI,TO,i1,i2] z (Zok z TI TO i1 i2 a b) where
 mem:=by simp
 obj:=λi h st c hc=>by
  obtain⟨hz,hTI,⟨x,y,hTO⟩,⟨o1,e1,c1,d1⟩,⟨o2,e2,c2,d2⟩⟩:=st;simp only[qp,zp,or_false]at hc;rcases hc with rfl | rfl | rfl | rfl | rfl
  ·exact⟨_,hz,λv q=>by cases q⟩
  ·exact⟨_,hTI,λv q=>by cases q⟩
  ·exact⟨_,hTO,λv q=>by cases q⟩
  ·exact⟨_,e1,λv q=>by rw[d1]at q;cases q⟩
  ·exact⟨_,e2,λv q=>by rw[d2]at q;cases q⟩
 keep:=λi h h' st kk=>by
  obtain⟨hz,hTI,⟨x,y,hTO⟩,h1,h2⟩:=st;exact⟨kk z (by simp) _ hz,kk TI (by simp) _ hTI,⟨x,y,kk TO (by simp) _ hTO⟩,h1.at λo e=>kk i1 (by simp) o e,h2.at λo e=>kk i2 (by simp) o e⟩
 item:=by
  intro X hP hw hK hc i jH s σ H E I hf st hg;subst hP hw hK;obtain⟨xs,ys,x,y,hq,hq2,hx,hy⟩:=hg;obtain⟨jJ,rv,p,hz⟩:=I.tuple (ZK.of hq);obtain⟨jO,rv2,p2,hz2⟩:=I.tuple (ZK.of hq2);obtain⟨u,hu,ru⟩:=rv.get hx;obtain⟨u2,hu2,ru2⟩:=rv2.get hy;have hn:∀c∈[z,TI,TO,i1,i2],H c=none:=λc m=>(hf c m).1;have Z:=Zmu D hn hq hq2;have hh:=I.ok.hd hc;obtain⟨t1,t2,⟨p1,q1,t3⟩,t4,t5⟩:=id st;have hl1:i<jJ.length:=(qq.mp hu).1;have hl2:i<jO.length:=(qq.mp hu2).1;have D1:=Zd5 (prog:=X.prog) (w:=X.w) (A:=X.A.in1) (show X.A.in1.handled=none from hh) i1 a (ZW hq (hn i1 (by simp))) jJ.toArray;have D2:=Zd5 (prog:=X.prog) (w:=X.w) (A:=X.A.in1) (show X.A.in1.handled=none from hh) i2 b (ZW hq2 (hn i2 (by simp))) jO.toArray;refine Zge D1 D2 Z t1 t2 t3 ⟨t4,show s.heap.IsTuple a jJ.toArray from p⟩ ⟨t5,show s.heap.IsTuple b jO.toArray from p2⟩ (by simpa using hl1) (by simpa using hl2) λh' tk v1 v2 g1 g2 a1 a2 a3 a4 a5 kk=>⟨_,rfl,?_⟩;have e1:v1=u:=by simpa[hu]using g1.symm
  have e2:v2=u2:=by simpa[hu2]using g2.symm
  subst e1 e2;have hT:s.heap.objs.size<=s.heap.objs.size:=qk _;refine wpAny_letOwnedTupleGo_zip a1 λh2 hz' hs'=>?_;have ltz:z<s.heap.objs.size:=qH t1;have hI2:h2.IsTuple s.heap.objs.size #[v1,v2]:=⟨_,hs'.extBut _ _ (qaY ltz) a5,rfl,_,rfl⟩;have kp:∀c o,c∉[z,TI,TO,i1,i2]->s.heap.get? c=some o->h2.get? c=some o:=λc o hm e=>by
   simp only[qp,zp,or_false,not_or]at hm;exact hs'.extBut _ _ hm.1 (kk c o hm.1 hm.2.2.1 hm.2.2.2.1 hm.2.2.2.2 e)
  have I1:Inv X jH σ (Zj H s.heap.objs.size (.tup [x,y])) { s with heap:=h2,toks:=tk }:=I.turnedT (fp:=[z,TI,TO,i1,i2]) kp hf hT ⟨by show 2<=xg;decide,[v1,v2],.cons ru (.cons ru2 .nil),hI2⟩;have up:∀c o,c≠z->h'.get? c=some o->h2.get? c=some o:=λc o n e=>hs'.extBut _ _ n e;refine⟨.ref s.heap.objs.size,_,I1,rfl,⟨s.heap.objs.size,x,y,I.hok.fresh hT,rfl,rfl,λxs' h=>by rw[hq]at h;cases h;exact hx,λys' h=>by rw[hq2]at h;cases h;exact hy⟩,⟨hz',up _ _ D.TIz (kk _ _ D.TIz D.TITO D.TIi1 D.TIi2 t2),⟨_,_,up _ _ D.TOz a2⟩,a3.1.at λo e=>up _ o D.i1z e,a4.1.at λo e=>up _ o D.i2z e⟩,λc hc=>?_⟩;rw[Zq ?_]
  ·exact hn c hc
  ·intro zc
   subst zc;have old:∃o,s.heap.get? s.heap.objs.size=some o:=by
    obtain⟨o1,e1,_⟩:=t4;obtain⟨o2,e2,_⟩:=t5;generalize s.heap.objs.size=c at hc;simp only[qp,zp,or_false]at hc;rcases hc with r | r | r | r | r
    ·rw[r];exact⟨_,t1⟩
    ·rw[r];exact⟨_,t2⟩
    ·rw[r];exact⟨_,t3⟩
    ·rw[r];exact⟨_,e1⟩
    ·rw[r];exact⟨_,e2⟩
   obtain⟨o,e⟩:=old;exact absurd (qH e) (yL _)
 done:=by
  intro X hP hw hK hc i jH s σ H E I hf st hg;subst hP hw hK;obtain⟨xs,ys,hq,hq2,hi⟩:=hg;obtain⟨jJ,rv,p,hz⟩:=I.tuple (ZK.of hq);obtain⟨jO,rv2,p2,hz2⟩:=I.tuple (ZK.of hq2);have hn:∀c∈[z,TI,TO,i1,i2],H c=none:=λc m=>(hf c m).1;have Z:=Zmu D hn hq hq2;have hh:=I.ok.hd hc;obtain⟨t1,t2,⟨p1,q1,t3⟩,t4,t5⟩:=id st;have D1:=Zd5 (prog:=X.prog) (w:=X.w) (A:=X.A.in1) (show X.A.in1.handled=none from hh) i1 a (ZW hq (hn i1 (by simp))) jJ.toArray;have D2:=Zd5 (prog:=X.prog) (w:=X.w) (A:=X.A.in1) (show X.A.in1.handled=none from hh) i2 b (ZW hq2 (hn i2 (by simp))) jO.toArray;have l1:=rv.length;have l2:=rv2.length;refine Ziw D1 D2 Z t1 t2 t3 ⟨t4,show s.heap.IsTuple a jJ.toArray from p⟩ ⟨t5,show s.heap.IsTuple b jO.toArray from p2⟩ (by rw[qD,qD];omega) λh' tk kk=>⟨rfl,I.turnedN (fp:=[z,TI,TO,i1,i2]) (λc o hm e=>?_) hf⟩;simp only[qp,zp,or_false,not_or]at hm;exact kk c o hm.1 hm.2.2.1 hm.2.2.2.1 hm.2.2.2.2 e
 self:=λA i s Q E st h=>wpAny_pyIter_zip st.1 h
noncomputable def Zol (ta:TA):TI:=fun σ H R=>ta σ H λvs H1=>∃a b,vs=[.ref a,.ref b]/\(∃xs,H1 a=some (.tup xs))/\(∃ys,H1 b=some (.tup ys))/\R (Itzt a b) H1
theorem ZlB {X:Cx}{elts:List Expr}{k:Nat}{tp:Pos}{a b:Expr}{ta:TA}{p pos:Pos}(hg:Gl X "zip")(hm:X.mg "zip" = none)(ha:PA X [a,b] ta)(hs:xh [a,b] X.env=[(false,eval a X.env),(false,eval b X.env)]:=by rfl)(hs2:xh [b] X.env=[(false,eval b X.env)]:=by rfl) :
  PI X (.Tuple elts k tp) (.Call (.Name "zip" p) [a,b] [] pos) (Zol ta):=by
 intro jH s σ H R I h;refine Call_ (Uv I hg hm Ze2 (yq (ZD (ha pos jH s σ H _ I h) λus s1 ⟨vs,H1,I1,r1,q1⟩=>?_) (by rw[hs,hs2]) (by rw[hs2];rfl)));obtain⟨a',b',e,⟨xs,hq⟩,⟨ys,hq2⟩,q⟩:=q1;subst e
 cases r1 with
 | cons r rr=>
  cases rr with
  | cons r' rr=>
   cases rr
   cases r
   cases r'
   obtain⟨jJ,rv,p1,hz⟩:=I1.tuple (ZK.of hq);obtain⟨jO,rv2,p2,hz2⟩:=I1.tuple (ZK.of hq2);refine Zix (show s1.heap.IsTuple a' jJ.toArray from p1) (show s1.heap.IsTuple b' jO.toArray from p2) λh' g1 g2 g3 g4 g5 g7=>?_;refine wpAny_pyIter_zip g1 ?_;have I2:Inv X jH σ H1 { s1 with heap:=h' }:=I1.kept (t':=s1.toks) g7;refine⟨s1.heap.objs.size+4,[s1.heap.objs.size+4,s1.heap.objs.size+2,s1.heap.objs.size+3,s1.heap.objs.size,s1.heap.objs.size+1],_,_,H1,rfl,I2,Ziy a' b' (s1.heap.objs.size+4) (s1.heap.objs.size+2) (s1.heap.objs.size+3) s1.heap.objs.size (s1.heap.objs.size+1) (Zms _),⟨g1,g2,⟨_,_,g3⟩,g4,g5⟩,λc hc=>?_,q⟩;simp only[qp,zp,or_false]at hc;have hle:s1.heap.objs.size<=c:=by rcases hc with r | r | r | r | r <;> rw[r] <;> first | exact qk _ | exact qba _ _
   exact I1.fpOk hle (I1.hok.fresh hle)
end L2
namespace TF
open L2
section
variable {X:Cx}{G:Gh}
theorem Wy.zipT {a b:Addr}{vs us:List V}{Hf:Hp}{ds es:List D}(na:¬G.fp a)(h:Hf a=some (.tup vs))(r:Zf G Hf ds vs)(nb:¬G.fp b)(h':Hf b=some (.tup us))(r':Zf G Hf es us):Wy G (Itzt a b) Hf (Wi ds es):=λi kd H2 s e1 e2 st=>by
 have h2:H2 a=some (.tup vs):=e2 _ _ na (e1 _ _ na h);have h3:H2 b=some (.tup us):=e2 _ _ nb (e1 _ _ nb h');refine⟨λd q=>?_,λq=>⟨vs,us,h2,h3,by rw[q];unfold Wi;rw[qbV,r.length,r'.length]⟩⟩;unfold Wi at q;rw[qa1]at q
 cases qa:ds[i]? with
 | none=>rw[qa]at q;simp at q
 | some x=>
  cases qb:es[i]? with
  | none=>rw[qa,qb]at q;simp at q
  | some y=>
   rw[qa,qb]at q;simp at q;subst q;obtain⟨v,q1,q2⟩:=r.get qa;obtain⟨u,q3,q4⟩:=r'.get qb;refine⟨⟨vs,us,v,u,h2,h3,q1,q3⟩,λz H3 ⟨T,v',u',hT,y0,y1,y2,y3⟩=>?_⟩;have ev:=y2 vs h2;have eu:=y3 us h3;rw[q1]at ev;cases ev;rw[q3]at eu;cases eu;subst y0 y1;have nf:=Gh.nofp st hT;have g2:=Gr.new (o:=.tup [v,u]) e2 hT nf;refine⟨Zj kd T (.tup [v,u]),g2,Gh.grow st hT,jc.mpr ⟨T,_,rfl,nf,ZM,?_⟩⟩;exact .cons ((q2.ext e1).ext g2.ff) (.one ((q4.ext e1).ext g2.ff))
theorem PI.or {tg iter:Expr}{w1 w2:TI}(h1:PI X tg iter w1)(h2:PI X tg iter w2):PI X tg iter (fun σ H R=>w1 σ H R∨w2 σ H R):=λjH s σ H R I h=>h.elim (h1 jH s σ H R I) (h2 jH s σ H R I)
noncomputable def Bw (f g:Za->M D):Za->M (List D):=fun ρ=>Zo (f ρ) λd=>Zo (g ρ) λe=>match d,e with | .lst ds,.lst es=>ZI (Wi ds es) | .tup ds,.tup es=>ZI (Wi ds es) | _,_=>ZO
theorem Zkb {elts:List Expr}{k:Nat}{tp:Pos}{a b:Expr}{p pos:Pos}{r1 r2:Bool}{f f2:Za->M D}(hg:Gl X "zip")(hm:X.mg "zip" = none)(ha:PD X G r1 a f)(hb:PD X G r2 b f2)
  (hs:xh [a,b] X.env=[(false,eval a X.env),(false,eval b X.env)]:=by rfl) (hs2:xh [b] X.env=[(false,eval b X.env)]:=by rfl):WM X G (.Tuple elts k tp) (.Call (.Name "zip" p) [a,b] [] pos) (Bw f f2):=by
 obtain⟨t,pa,qa⟩:=ha.drop;obtain⟨u,pb,qb⟩:=hb.drop;have pp:=Y5 pa (Y5 pb Xv (by rw[hs2];rfl)) (by rw[hs,hs2]);refine⟨_,PI.or (Zns hg hm pp hs hs2) (ZlB hg hm pp hs hs2),fun σ Hf H ρ s ds s' R e1 e2 e3 e4 k=>?_⟩;obtain⟨d,s1,a1,a2⟩:=ZE e4;obtain⟨d2,s2,a3,a4⟩:=ZE a2
 match d,d2,a4,a1,a3 with
 | .lst xs,.lst ys,a4,a1,a3=>
  obtain⟨rfl,rfl⟩:=ZL a4;left;refine qa σ Hf H ρ s _ _ _ e1 e2 e3 a1 λv jW H1 g st r=>?_;refine qb σ jW H1 ρ s1 _ _ _ g.fh (e2.ext g.ff) st a3 λv2 kd H2 g2 jV r2=>?_;obtain⟨p1,vs,rfl,n1,h1,rl1⟩:=jb.mp (r.ext g2.ff);obtain⟨p2,us,rfl,n2,h2,rl2⟩:=jb.mp r2;exact⟨p1,p2,rfl,⟨vs,Zy.of (g2.fh _ _ n1 h1)⟩,⟨us,Zy.of (g2.fh _ _ n2 h2)⟩,k _ kd H2 (g.trans g2) jV (.zip n1 h1 rl1 n2 h2 rl2)⟩
 | .tup xs,.tup ys,a4,a1,a3=>
  obtain⟨rfl,rfl⟩:=ZL a4;right;refine qa σ Hf H ρ s _ _ _ e1 e2 e3 a1 λv jW H1 g st r=>?_;refine qb σ jW H1 ρ s1 _ _ _ g.fh (e2.ext g.ff) st a3 λv2 kd H2 g2 jV r2=>?_;obtain⟨p1,vs,rfl,n1,h1,rl1⟩:=jc.mp (r.ext g2.ff);obtain⟨p2,us,rfl,n2,h2,rl2⟩:=jc.mp r2;exact⟨p1,p2,rfl,⟨vs,g2.fh _ _ n1 h1⟩,⟨us,g2.fh _ _ n2 h2⟩,k _ kd H2 (g.trans g2) jV (.zipT n1 h1 rl1 n2 h2 rl2)⟩
end
end TF
namespace TS
open PySem.W
noncomputable def Z7 {α:Type}(lt:Nat->Nat->Bool)(n:Nat):KasT α->(α->Prop)->Prop
 | .ret a,Q=>Q a
 | .ask i j k,Q=>i<n/\j<n/\Z7 lt n (k (lt i j)) Q
theorem Z7.bind {α β:Type}{lt:Nat->Nat->Bool}{n:Nat}{f:α->KasT β}{Q:β->Prop}:∀{t:KasT α},Z7 lt n t (λa=>Z7 lt n (f a) Q)->Z7 lt n (t.bind f) Q
 | .ret _,h=>h
 | .ask i j k,h=>⟨h.1,h.2.1,Z7.bind (t:=k (lt i j)) h.2.2⟩
theorem Z7.mono {α:Type}{lt:Nat->Nat->Bool}{n:Nat}{Q R:α->Prop}(hr:∀a,Q a->R a):∀{t:KasT α},Z7 lt n t Q->Z7 lt n t R
 | .ret _,h=>hr _ h
 | .ask i j k,h=>⟨h.1,h.2.1,Z7.mono hr (t:=k (lt i j)) h.2.2⟩
theorem Z7.wp {α:Type}{lt:Nat->Nat->Bool}{n:Nat}{Q:α->Prop}{R:α->Shared->Prop}{s:Shared}{cmp:Nat->Nat->(Bool->Shared->Prop)->Shared->Prop}(hc:∀i j,i<n->j<n->∀C:Bool->Shared->Prop,C (lt i j) s->cmp i j C s)(hr:∀a,Q a->R a s):∀{t:KasT α},Z7 lt n t Q->t.kasWp cmp R s
 | .ret _,h=>hr _ h
 | .ask i j k,h=>hc i j h.1 h.2.1 _ (Z7.wp hc hr (t:=k (lt i j)) h.2.2)
noncomputable def g (p:Array Nat)(k:Nat):Nat:=p.getD k 0
theorem BF {p q:Array Nat}{i j:Nat}(h:p[i]?=q[j]?):g p i=g q j:=by
 have e:∀(r:Array Nat) (k:Nat),g r k=(r[k]?).getD 0:=λr k=>by unfold g;simp[qP]
 rw[e,e,h]
structure Pm (n:Nat)(p:Array Nat):Prop where
 pos:0<n
 pm:p.toList.Perm (qm n)
section
variable {lt:Nat->Nat->Bool}{n:Nat}{p q:Array Nat}
theorem Pm.size (h:Pm n p):p.size=n:=by
 have:=h.pm.length_eq;simpa using this
theorem Pm.of (h:Pm n p)(e:q.Perm p):Pm n q:=⟨h.pos,(qbf.mp e).trans h.pm⟩
theorem Pm.bd (h:Pm n p)(k:Nat):g p k<n:=by
 unfold g;by_cases hk:k<p.size
 ·have:p.getD k 0=p[k]:=by simp[qbQ,hk]
  rw[this];have m:p[k]∈p.toList:=by simp
  have:=h.pm.mem_iff.mp m;simpa using this
 ·have:p.getD k 0=0:=by simp[qbQ,hk]
  rw[this];exact h.pos
theorem Pm.inj (h:Pm n p){i j:Nat}(hi:i<n)(hj:j<n)(e:g p i=g p j):i=j:=by
 have hi':i<p.size:=by rw[h.size];exact hi
 have hj':j<p.size:=by rw[h.size];exact hj
 have nd:p.toList.Nodup:=h.pm.nodup_iff.mpr qbF;have e1:g p i=p.toList[i]'(by simpa using hi'):=by unfold g;simp[qbQ,hi']
 have e2:g p j=p.toList[j]'(by simpa using hj'):=by unfold g;simp[qbQ,hj']
 rw[e1,e2]at e;have pw:=zE.mp nd;rcases qby i j with z | z | z
 ·exact absurd e (pw i j (by simpa using hi') (by simpa using hj') z)
 ·exact z
 ·exact absurd e.symm (pw j i (by simpa using hj') (by simpa using hi') z)
structure Ord (lt:Nat->Nat->Bool)(n:Nat):Prop where
 tr:∀a b c,lt a b=true->lt b c=true->lt a c=true
 to:∀a b,a<n->b<n->a≠b->lt a b=false->lt b a=true
noncomputable def So (lt:Nat->Nat->Bool)(p:Array Nat)(m:Nat):Prop:=∀i j,i<j->j<m->lt (g p i) (g p j)=true
noncomputable def De (lt:Nat->Nat->Bool)(p:Array Nat)(m:Nat):Prop:=∀i j,i<j->j<m->lt (g p j) (g p i)=true
theorem Pm.to (h:Pm n p)(o:Ord lt n){i j:Nat}(hi:i<n)(hj:j<n)(hij:i≠j)(e:lt (g p i) (g p j)=false):lt (g p j) (g p i)=true:=
 o.to _ _ (h.bd i) (h.bd j) (λz=>hij (h.inj hi hj z)) e
theorem Zgf (o:Ord lt n)(h:Pm n p):∀(f k:Nat),1<=k->k+f=n->So lt p k->Z7 lt n (kas_asc p f k) (λm=>k<=m/\m<=n/\So lt p m/\(m<n->lt (g p m) (g p (m-1))=true))
 | 0,k,h1,h2,hs=>⟨qk _,by omega,hs,λz=>by omega⟩
 | f+1,k,h1,h2,hs=>by
  show g p k<n/\g p (k-1)<n/\Z7 lt n (if lt (g p k) (g p (k-1))=true then .ret k else kas_asc p f (k+1)) _;refine⟨h.bd _,h.bd _,?_⟩
  cases e:lt (g p k) (g p (k-1))with
  | true=>rw[if_pos rfl];exact⟨qk _,by omega,hs,λ_=>e⟩
  | false=>
   rw[if_neg (by simp)];have e2:=h.to o (i:=k) (j:=k-1) (by omega) (by omega) (by omega) e;refine Z7.mono (λm ⟨a,b⟩=>⟨by omega,b⟩) (Zgf o h f (k+1) (by omega) (by omega) λi j hij hj=>?_);by_cases hjk:j<k
   ·exact hs i j hij hjk
   ·have:j=k:=by omega
    subst this;by_cases hi:i=j-1
    ·subst hi;exact e2
    ·exact o.tr _ _ _ (hs i (j-1) (by omega) (by omega)) e2
theorem Zhk (o:Ord lt n)(h:Pm n p):∀(f k:Nat),1<=k->k+f=n->De lt p k->Z7 lt n (kas_desc f p k 0) (λr=>r.1=p/\r.2.2=0/\k<=r.2.1/\r.2.1<=n/\De lt p r.2.1)
 | 0,k,h1,h2,hs=>⟨rfl,rfl,qk _,by show k<=n;omega,hs⟩
 | f+1,k,h1,h2,hs=>by
  show g p k<n/\g p (k-1)<n/\Z7 lt n (if lt (g p k) (g p (k-1))=true then (if 0 > 0 then kas_desc f (kas_rev p (k-(0+1)) k) (k+1) 0 else kas_desc f p (k+1) 0)else .ask (g p (k-1)) (g p k) λd=>if d=true then .ret (p,k,0)else kas_desc f p (k+1) (0+1)) _;refine⟨h.bd _,h.bd _,?_⟩
  cases e:lt (g p k) (g p (k-1))with
  | true=>
   rw[if_pos rfl,if_neg (by omega)];refine Z7.mono (λm ⟨a,b,c,d⟩=>⟨a,b,by omega,d⟩) (Zhk o h f (k+1) (by omega) (by omega) λi j hij hj=>?_);by_cases hjk:j<k
   ·exact hs i j hij hjk
   ·have:j=k:=by omega
    subst this;by_cases hi:i=j-1
    ·subst hi;exact e
    ·exact o.tr _ _ _ e (hs i (j-1) (by omega) (by omega))
  | false=>
   rw[if_neg (by simp)];have e2:=h.to o (i:=k) (j:=k-1) (by omega) (by omega) (by omega) e;refine⟨h.bd _,h.bd _,?_⟩;show Z7 lt n (if lt (g p (k-1)) (g p k)=true then _ else _) _;rw[e2,if_pos rfl];exact⟨rfl,rfl,qk _,by show k<=n;omega,hs⟩
theorem Zmv (hj:q.size=n){m:Nat}(hm:m<=n)(k:Nat):g (kas_rev q 0 m) k=if k<m then g q (m-1-k)else g q k:=by
 have e:=getElem?_mirror_all (xs:=q) (i:=0) (j:=m) (by omega) k;unfold kas_rev;by_cases hk:k<m
 ·rw[if_pos ⟨by omega,hk⟩]at e
  rw[if_pos hk];exact BF (by rw[e];congr 1;omega)
 ·rw[if_neg (λz=>hk z.2)]at e
  rw[if_neg hk];exact BF e
theorem ZlC (o:Ord lt n)(h:Pm n p){k:Nat}(h1:1<=k)(h2:k<=n)(hs:De lt p k):Z7 lt n (kas_tail3 k n p) (λr=>1<=r.1/\r.1<=n/\Pm n r.2/\So lt r.2 r.1):=by
 have h':Pm n (kas_rev p 0 k):=h.of (mirror_perm _ _ _ _);have hs':So lt (kas_rev p 0 k) k:=λi j hij hj=>by
  rw[Zmv h.size h2,Zmv h.size h2,if_pos (by omega),if_pos hj];exact hs _ _ (by omega) (by omega)
 refine Z7.bind (Z7.mono (λm ⟨a,b,c,_⟩=>?_) (Zgf o h' (n-k) k h1 (by omega) hs'));exact⟨by show 1<=m;omega,b,h',c⟩
theorem count_ok (o:Ord lt n)(h:Pm n p):Z7 lt n (kas_count n p) (λr=>1<=r.1/\r.1<=n/\Pm n r.2/\So lt r.2 r.1):=by
 have hn:=h.pos;refine Z7.bind (Z7.mono (λm ⟨a,b,c,d⟩=>?_) (Zgf o h (n-1) 1 (by omega) (by omega) λi j hij hj=>by omega));by_cases hm:m=n
 ·rw[if_pos (by simpa using hm)]
  exact⟨a,b,h,c⟩
 ·rw[if_neg (by simpa using hm)]
  by_cases h1:m > 1
  ·rw[if_pos h1]
   refine⟨h.bd 0,h.bd (m-1),?_⟩;have e:lt (p.getD 0 0) (p.getD (m-1) 0)=true:=c 0 (m-1) (by omega) (by omega);show Z7 lt n (if lt (p.getD 0 0) (p.getD (m-1) 0)=true then _ else _) _;rw[e,if_pos rfl];exact⟨a,b,h,c⟩
  ·rw[if_neg h1]
   have:m=1:=by omega
   subst this;have e:=d (by omega);have hd:De lt p (1+1):=λi j hij hj=>by
    have h1:i=0:=by omega
    have h2:j=1:=by omega
    subst h1 h2;exact e
   refine Z7.bind (Z7.mono (λr ⟨r1,r2,r3,r4,r5⟩=>?_) (Zhk o h (n-(1+1)) (1+1) (by omega) (by omega) hd));rw[if_neg (by omega),r1];exact ZlC o h (by omega) r4 r5
theorem Zcw (o:Ord lt n)(h:Pm n p){k:Nat}(hk:k<n)(hs:So lt p k):∀(f l r:Nat),l<=r->r<=k->r-l<=f->(∀i,i<l->lt (g p i) (g p k)=true)->(∀i,r<=i->i<k->lt (g p k) (g p i)=true)->
  Z7 lt n (kas_place p k f l r) (λm=>m<=k/\(∀i,i<m->lt (g p i) (g p k)=true)/\∀i,m<=i->i<k->lt (g p k) (g p i)=true)
 | 0,l,r,h1,h2,h3,ha,hb=>⟨by omega,ha,λi hi=>hb i (by omega)⟩
 | f+1,l,r,h1,h2,h3,ha,hb=>by
  show Z7 lt n (if l≥r then .ret l else .ask (g p k) (g p ((l+r) / 2)) λc=>if c=true then kas_place p k f l ((l+r) / 2)else kas_place p k f ((l+r) / 2+1) r) _;by_cases hlr:l≥r
  ·rw[if_pos hlr]
   exact⟨by omega,ha,λi hi=>hb i (by omega)⟩
  ·rw[if_neg hlr]
   refine⟨h.bd _,h.bd _,?_⟩;show Z7 lt n (if lt (g p k) (g p ((l+r) / 2))=true then kas_place p k f l ((l+r) / 2)else kas_place p k f ((l+r) / 2+1) r) _
   cases e:lt (g p k) (g p ((l+r) / 2))with
   | true=>
    rw[if_pos rfl];refine Zcw o h hk hs f l _ (by omega) (by omega) (by omega) ha λi hi hik=>?_;by_cases hq:i=(l+r) / 2
    ·subst hq;exact e
    ·exact o.tr _ _ _ e (hs _ i (by omega) hik)
   | false=>
    rw[if_neg (by simp)];have e2:=h.to o (i:=k) (j:=(l+r) / 2) hk (by omega) (by omega) e;refine Zcw o h hk hs f _ r (by omega) h2 (by omega) (λi hi=>?_) hb;by_cases hq:i=(l+r) / 2
    ·subst hq;exact e2
    ·exact o.tr _ _ _ (hs i _ (by omega) (by omega)) e2
theorem Zkc (o:Ord lt n):∀(f k:Nat) (p:Array Nat),Pm n p->1<=k->k+f=n->So lt p k->Z7 lt n (kas_bin f p k) (λq=>Pm n q/\So lt q n)
 | 0,k,p,h,h1,h2,hs=>⟨h,by have:k=n:=(by omega);subst this;exact hs⟩
 | f+1,k,p,h,h1,h2,hs=>by
  refine Z7.bind (Z7.mono (λm ⟨a,b,c⟩=>?_) (Zcw o h (k:=k) (by omega) hs k 0 k (by omega) (by omega) (by omega) (λi hi=>by omega) λi hi hik=>by omega));have hg:∀i,g (bubble p k (k-m)) i=if i=m then g p k else if m<i/\i<=k then g p (i-1)else g p i:=λi=>by
   have e:=getElem?_bubble (xs:=p) (src:=k) (by rw[h.size];omega) (k-m) (by omega) i;rw[show k-(k-m)=m by omega]at e;by_cases q1:i=m
   ·rw[if_pos q1]at e⊢;exact BF e
   ·rw[if_neg q1]at e⊢
    by_cases q2:m<i/\i<=k
    ·rw[if_pos q2]at e⊢;exact BF e
    ·rw[if_neg q2]at e⊢;exact BF e
  refine Zkc o f (k+1) _ (h.of (bubble_perm _ _ _)) (by omega) (by omega) λi j hij hj=>?_;rw[hg,hg];by_cases i1:i=m
  ·rw[if_pos i1,if_neg (by omega),if_pos (by omega)]
   exact c _ (by omega) (by omega)
  ·rw[if_neg i1]
   by_cases i2:m<i/\i<=k
   ·rw[if_pos i2,if_neg (by omega),if_pos (by omega)]
    exact hs _ _ (by omega) (by omega)
   ·rw[if_neg i2]
    by_cases j1:j=m
    ·rw[if_pos j1];exact b i (by omega)
    ·rw[if_neg j1]
     by_cases j2:m<j/\j<=k
     ·rw[if_pos j2]
      exact hs _ _ (by omega) (by omega)
     ·rw[if_neg j2]
      exact hs _ _ hij (by omega)
theorem ZlD (o:Ord lt n)(hn:0<n):Z7 lt n (kas_sort n) (λq=>Pm n q/\So lt q n):=by
 have h:Pm n (zY (qm n)):=⟨hn,by simp⟩;refine Z7.bind (Z7.mono (λr ⟨a,b,c,d⟩=>?_) (count_ok o h));by_cases hr:r.1<n
 ·rw[if_pos hr]
  have e:max r.1 1=r.1:=by omega
  rw[e];exact Zkc o _ _ _ c a (by omega) d
 ·rw[if_neg hr]
  exact⟨c,by have:r.1=n:=(by omega);rw[this]at d;exact d⟩
end
noncomputable def Yl:List Int->List Int->Bool
 | [],[]=>false
 | [],_::_=>true
 | _::_,[]=>false
 | a::as,b::bs=>if a=b then Yl as bs else decide (a<b)
theorem Zcx:∀a,Yl a a=false
 | []=>rfl
 | a::as=>by unfold Yl;rw[if_pos rfl];exact Zcx as
theorem Bb:∀a b c,Yl a b=true->Yl b c=true->Yl a c=true
 | [],[],_,h,_=>by cases h
 | [],_::_,[],_,h=>by cases h
 | [],_::_,_::_,_,_=>rfl
 | _::_,[],_,h,_=>by cases h
 | _::_,_::_,[],_,h=>by cases h
 | a::as,b::bs,c::cs,h1,h2=>by
  unfold Yl at h1 h2⊢;split at h1
  ·rename_i e;subst e
   split at h2
   ·rename_i e;subst e;rw[if_pos rfl];exact Bb as bs cs h1 h2
   ·rename_i e;rw[if_neg e];exact h2
  ·rename_i e1
   split at h2
   ·rename_i e;subst e;rw[if_neg e1];exact h1
   ·rename_i e2
    simp at h1 h2;rw[if_neg (by omega)];simp;omega
theorem U4:∀a b,a≠b->Yl a b=false->Yl b a=true
 | [],[],n,_=>absurd rfl n
 | [],_::_,_,h=>by cases h
 | _::_,[],_,_=>rfl
 | a::as,b::bs,n,h=>by
  unfold Yl at h⊢;split at h
  ·rename_i e;subst e;rw[if_pos rfl]
   exact U4 as bs (λz=>n (by rw[z])) h
  ·rename_i e
   simp at h;rw[if_neg (zD e)];simp;omega
theorem Zcy {a b:List Int}(h:Yl a b=true):Yl b a=false:=by
 cases e:Yl b a with
 | false=>rfl
 | true=>have:=Bb _ _ _ h e;rw[Zcx]at this;cases this
noncomputable def Xr (a b:List Int):Bool:=!Yl b a
theorem Zkd {a b:List Int}(h1:Xr a b=true)(h2:Xr b a=true):a=b:=by
 unfold Xr at h1 h2;simp at h1 h2;by_cases e:a=b
 ·exact e
 ·rw[U4 a b e h2]at h1;cases h1
theorem Znt (a b c:List Int)(h1:Xr a b=true)(h2:Xr b c=true):Xr a c=true:=by
 unfold Xr at h1 h2⊢;simp at h1 h2⊢;by_cases e1:a=b
 ·subst e1;exact h2
 ·by_cases e2:b=c
  ·subst e2;exact h1
  ·exact Zcy (Bb _ _ _ (U4 b a (zD e1) h1) (U4 c b (zD e2) h2))
theorem Znu (a b:List Int):(Xr a b||Xr b a)=true:=by
 unfold Xr
 cases e:Yl b a with
 | false=>rfl
 | true=>rw[Zcy e];rfl
theorem Zcz:∀{a b:List (List Int)},a.Perm b->a.Pairwise (λx y=>Xr x y=true)->b.Pairwise (λx y=>Xr x y=true)->a=b
 | [],b,p,_,_=>(List.nil_perm.mp p).symm
 | x::a,[],p,_,_=>absurd p.length_eq (by simp)
 | x::a,y::b,p,ha,hb=>by
  have ha':=yi.mp ha;have hb':=yi.mp hb;have e:x=y:=by
   have h1:x∈y::b:=p.mem_iff.mp (by simp);have h2:y∈x::a:=p.mem_iff.mpr (by simp);rcases qp.mp h1 with h1 | h1
   ·exact h1
   ·rcases qp.mp h2 with h2 | h2
    ·exact h2.symm
    ·exact Zkd (ha'.1 y h2) (hb'.1 x h1)
  subst e;rw[Zcz (qa2.cons_inv p) ha'.2 hb'.2]
noncomputable def Yr (jK:List (List Int)):List (List Int):=jK.mergeSort Xr
theorem B3 (jK:List (List Int)):(Yr jK).Perm jK:=List.mergeSort_perm jK _
theorem ZaZ (jK:List (List Int)):(Yr jK).Pairwise (λx y=>Xr x y=true):=List.pairwise_mergeSort Znt Znu jK
theorem JK {a jK:List (List Int)}(p:a.Perm jK)(h:a.Pairwise (λx y=>Xr x y=true)):a=Yr jK:=Zcz (p.trans (B3 jK).symm) h (ZaZ jK)
theorem BW {a b:List (List Int)}(p:a.Perm b):Yr a=Yr b:=JK ((B3 a).trans p) (ZaZ a)
noncomputable def Yc (h:Heap)(v:Value)(ns:List Int):Prop:=∃a xs,v=.ref a/\h.IsTuple a (zY xs)/\IntsAre xs ns
section
variable {prog:xC}{w:World}{A:xD}{E:xE}{s:Shared}
theorem Zmw {fin:Bool}{Q:Bool->Shared->Prop}:∀{as bs:List Int} {xs ys:List Value} (i:Nat),IntsAre xs as->IntsAre ys bs->fin=decide (as.length<bs.length)->Q (Yl as bs) s->KatLex prog w A true fin Q (xs.zip ys) i s
 | [],[],_,_,i,.nil,.nil,e,h=>by subst e;exact kat_nil h
 | [],_::_,_,_,i,.nil,.cons _ _ _,e,h=>by subst e;exact kat_nil h
 | _::_,[],_,_,i,.cons _ _ _,.nil,e,h=>by subst e;exact kat_nil h
 | a::as,b::bs,_,_,i,.cons _ t hx,.cons _ u hy,e,h=>by
  unfold Yl at h;refine kat_cons (wpAny_eqBool_int ?_);by_cases q:a=b
  ·rw[if_pos q]at h
   rw[show(a==b)=true by simp[q]];exact kat_yes (Zmw (i+1) hx hy (by rw[e];simp) h)
  ·rw[if_neg q]at h
   rw[show(a==b)=false by simp[q]];refine kat_no ?_;by_cases hi:i=0
   ·subst hi
    exact oneLt_int h
   ·rw[show(true&&i==0)=false by simp[hi]]
    exact kat_one _ _ (lt_int h)
theorem Zmx {x y:Value}{as bs:List Int}{C:Bool->Shared->Prop}(hx:Yc s.heap x as)(hy:Yc s.heap y bs)(h:C (Yl as bs) s):xf (xA prog w) A (keyLt' (tuples' true) x y) C E s:=by
 obtain⟨a,xs,rfl,⟨o,ho,hc,n,hd⟩,ix⟩:=hx;obtain⟨b,ys,rfl,⟨o',ho',hc',n',hd'⟩,iy⟩:=hy;refine kat_lt ho hd ho' hd' ?_;have e:decide ((zY xs).size<(zY ys).size)=decide (as.length<bs.length):=by rw[qD,qD,ix.length,iy.length]
 exact Zmw 0 ix iy e h
theorem Zke {h:Heap}:∀{vs:List Value} {jK:List (List Int)},Paired (Yc h) vs jK->(∀ns∈jK,ns≠[])->∃fs,KatTups h vs fs/\fs.length=vs.length/\∀v∈fs,∃n t,v=qcX n t
 | _,_,.nil,_=>⟨[],.nil,rfl,λ_ z=>by simp at z⟩
 | _,_,.cons (a:=v) (b:=ns) hv r,hne=>by
  obtain⟨fs,h1,h2,h3⟩:=Zke r λns' m=>hne ns' (qM _ m);obtain⟨a,xs,rfl,⟨o,ho,hc,n,hd⟩,ix⟩:=hv
  cases ix with
  | nil=>exact absurd rfl (hne [] (by simp))
  | cons m t r'=>
   refine⟨.int m t::fs,.cons ho hc hd (by simp) h1,by simp[h2],λv hv=>?_⟩;rcases qp.mp hv with rfl | hv
   ·exact⟨m,t,rfl⟩
   ·exact h3 v hv
theorem Zkf {vs:List Value}{jK:List (List Int)}{Q:SortKind->Shared->Prop}(h:Paired (Yc s.heap) vs jK)(hne:∀ns∈jK,ns≠[])(h0:0<vs.length)(q:Q (tuples' true) s):xf (xA prog w) A (keyKind' vs.toArray) Q E s:=by
 obtain⟨fs,h1,h2,h3⟩:=Zke h hne;refine kat_kind (T:=.type "int") h1 (by omega) (λv hv=>?_) rfl ?_
 ·obtain⟨n,t,rfl⟩:=h3 v hv
  exact Looks.of_pure rfl
 ·exact q
theorem Yc.at {h h':Heap}{v:Value}{ns:List Int}{b:Addr}(k:∀c o,c≠b->h.get? c=some o->h'.get? c=some o)(hb:∃o,h.get? b=some o/\o.cls=.type "list")(x:Yc h v ns):Yc h' v ns:=by
 obtain⟨a,xs,e,⟨o,ho,hc,r⟩,i⟩:=x;refine⟨a,xs,e,⟨o,k a o (λz=>?_) ho,hc,r⟩,i⟩;obtain⟨o',h1,h2⟩:=hb;rw[z,h1]at ho;cases ho;rw[h2]at hc;exact absurd (qbX hc) (by decide)
theorem jq {α β:Type}{F:α->β->Prop}:∀{l:List α} {r:List β} {i:Nat} (d:α) (d':β),Paired F l r->i<l.length->F (l.getD i d) (r.getD i d')
 | _,_,i,_,_,.nil,e=>absurd e (by simp)
 | _,_,0,_,_,.cons h t,e=>h
 | _,_,i+1,d,d',.cons h t,e=>by
  have:=jq d d' t (i:=i) (by simpa using e);simpa using this
theorem range_getD {α:Type}(vs:List α)(d:α):((qm vs.length).map λi=>vs.getD i d)=vs:=by
 refine List.ext_getElem (by simp) λi h1 h2=>?_;simp[h2]
theorem ZlE (vs:List Value)(κ:SortKind):(arrOf (qce κ (vs.toArray.zip vs.toArray) #[] 7 none)).map (·.2)=zY ((zY (qm vs.length)).toList.map λi=>vs.getD i zd):=by
 apply Array.toList_inj.mp;show((vs.toArray.zip vs.toArray).map (·.2)).toList=_;rw[ym,ym,range_getD,Array.toList_map];show(pairsOf vs).toList.map Prod.snd=_;rw[pairsOf_toList];exact List.map_snd_zip (qk _)
theorem Ze4 {a:Addr}{vs:List Value}{jK:List (List Int)}{n:Nat}{P:qc2->Shared->Prop}(ho:s.heap.get? a=some (seqObj "list" vs.toArray n))(ht:Paired (Yc s.heap) vs jK)(h64:vs.length<64)(nd:jK.Nodup)(hne:2<=vs.length->∀ns∈jK,ns≠[])
  (h:∀p:Array Nat,p.toList.Perm (qm vs.length)->(p.toList.map λi=>jK.getD i [])=Yr jK->P (.done (.ret .none)) { s with heap:=sortedHeap s.heap a vs (zY (p.toList.map λi=>vs.getD i zd)) }) :
  xf (xA prog w) A (Builtin.«list.sort» ⟨[.ref a],[]⟩) P E s:=by
 have jQ:vs.length=jK.length:=qad ht;rw[list_sort_plain];have ha:a<s.heap.objs.size:=qH ho;refine xa (listItems_at ho rfl ?_);refine xa (listUpdate_at ho rfl ?_);obtain⟨e1,ho1⟩:∃e1,(s.heap.update a (zk λ_=>#[])).get? a=some (seqObj "list" #[] e1):=⟨_,get?_update_seq ho (λ_=>#[])⟩;refine xa (seqEpoch_at ho1 rfl ?_);refine xa (wpAny_newTuple ?_);refine xa (xy ?_);refine xu ?_;have ho6:(((s.heap.update a (zk λ_=>#[])).push (seqObj "tuple" vs.toArray 0)).push (seqObj "list" #[] 0)).get? a=some (seqObj "list" #[] e1):=qd _ (qd _ ho1);have kk:∀c o,c≠a->s.heap.get? c=some o->(((s.heap.update a (zk λ_=>#[])).push (seqObj "tuple" vs.toArray 0)).push (seqObj "list" #[] 0)).get? c=some o:=λc o hc e=>qd _ (qd _ (by rw[qbW _ _ _ _ hc];exact e));have ht2:Paired (Yc (((s.heap.update a (zk λ_=>#[])).push (seqObj "tuple" vs.toArray 0)).push (seqObj "list" #[] 0))) vs jK:=L2.Paired.mapP ht λv ns x=>x.at kk ⟨_,ho,rfl⟩;show xf (xA prog w) A _ P E { s with heap:=((s.heap.update a (zk λ_=>#[])).push (seqObj "tuple" vs.toArray 0)).push (seqObj "list" #[] 0) };dsimp only;have hsz:vs.toArray.size=vs.length:=by simp
 by_cases h2:vs.toArray.size<2
 ·rw[if_pos h2,if_pos h2];refine xa (xb ?_);rw[StateT.run_pure]
  refine xa (xb ?_);dsimp only;refine xa (seqEpoch_at ho6 rfl ?_);refine xa (listUpdate_at ho6 rfl ?_ (hsz2:=by rw[Array.size_map];show(pairsOf vs).size<=_;rw[pairsOf_size,sizeLine_eq];omega));simp only[bne_self_eq_false,qR,if_false];have eo:(arrOf (qce general' (vs.toArray.zip vs.toArray) #[] 7 none)).map (·.2)=zY ((zY (qm vs.length)).toList.map λi=>vs.getD i zd):=by
   exact ZlE vs general'
  rw[eo];refine xb (h _ (by simp) ?_)
  match jK,(by omega:jK.length<2),jQ with
  | [],_,hl=>
   simp only[y9]at hl;rw[hl];exact JK (by simp) (by simp)
  | [x],_,hl=>
   simp only[qS,y9]at hl;rw[hl];exact JK (by simp) (by simp)
 ·rw[if_neg h2,if_neg h2]
  have h2':2<=vs.length:=by omega
  refine xa (Zkf (s:={ s with heap:=((s.heap.update a (zk λ_=>#[])).push (seqObj "tuple" vs.toArray 0)).push (seqObj "list" #[] 0) }) ht2 (hne h2') (by omega) ?_)
  let lt:Nat->Nat->Bool:=λi j=>Yl (jK.getD i []) (jK.getD j [])
  have hord:Ord lt vs.length:=⟨λx y z=>Bb _ _ _,λx y hx hy hxy=>U4 _ _ λz=>hxy ?_⟩
  ·have wp:=Z7.wp (s:={ s with heap:=((s.heap.update a (zk λ_=>#[])).push (seqObj "tuple" vs.toArray 0)).push (seqObj "list" #[] 0) }) (cmp:=kas_ask prog w A (tuples' true) vs) (R:=λq s'=>(Pm vs.length q/\So lt q vs.length)/\s' = { s with heap:=((s.heap.update a (zk λ_=>#[])).push (seqObj "tuple" vs.toArray 0)).push (seqObj "list" #[] 0) }) (λi j hi hj C hC=>Zmx (jq _ [] ht2 hi) (jq _ [] ht2 hj) hC) (λq hq=>⟨hq,rfl⟩) (ZlD hord (by omega))
   refine xa (xc (kat_run (ks:=vs) (vs:=vs) (Q:=λst' s'=>∃p:Array Nat,(Pm vs.length p/\So lt p vs.length)/\arrOf st'=p.map (kas_item (vs.toArray.zip vs.toArray))/\failedOf st'=none/\s' = { s with heap:=((s.heap.update a (zk λ_=>#[])).push (seqObj "tuple" vs.toArray 0)).push (seqObj "list" #[] 0) }) rfl h2' h64 (λp' st' s' a1 a2 a3 a4=>⟨p',a4.1,a2,a3,a4.2⟩) wp) ?_ λ_ _ e=>e);rintro⟨⟨⟩,st'⟩ s' ⟨p,⟨hpm,hso⟩,har,hf,rfl⟩;dsimp only;have hout:=kat_snds (ks:=vs) (vs:=vs) rfl har;have hps:p.toList.length=vs.length:=by rw[qE];exact hpm.size
   rw[hout];refine xa (seqEpoch_at ho6 rfl ?_);refine xa (listUpdate_at ho6 rfl ?_ (hsz2:=by rw[qD,qf,hps,sizeLine_eq];omega));rw[hf];simp only[bne_self_eq_false,qR,if_false];refine xb (h p hpm.pm (JK ?_ ?_))
   ·have e:=(hpm.pm).map (λi=>jK.getD i [])
    rw[jQ]at e;rw[range_getD]at e;exact e
   ·rw[zE]
    intro i j hi hj hij;have hj':j<vs.length:=by rw[qf,hps]at hj;exact hj
    have:=hso i j hij hj';have e1:g p i=p.toList[i]'(by rw[hps];omega):=by unfold g;simp[qbQ,show i<p.size by rw[hpm.size];omega]
    have e2:g p j=p.toList[j]'(by rw[hps];omega):=by unfold g;simp[qbQ,show j<p.size by rw[hpm.size];omega]
    rw[e1,e2]at this;rw[List.getElem_map,List.getElem_map];unfold Xr;rw[Zcy this];rfl
  ·have hx':x<jK.length:=by omega
   have hy':y<jK.length:=by omega
   have e1:jK.getD x []=jK[x]:=by simp[hx']
   have e2:jK.getD y []=jK[y]:=by simp[hy']
   rw[e1,e2]at z;have pw:=zE.mp nd;rcases qby x y with q | q | q
   ·exact absurd z (pw x y hx' hy' q)
   ·exact q
   ·exact absurd z.symm (pw y x hy' hx' q)
end
section
variable {prog:xC}{w:World}{A:xD}{E:xE}{s:Shared}
theorem Zkg {l:Addr}{vs:List Value}{jK:List (List Int)}{Q:xE}(hl:s.heap.IsList l vs.toArray)(ht:Paired (Yc s.heap) vs jK)(h64:vs.length<64)(nd:jK.Nodup)(hne:2<=vs.length->∀ns∈jK,ns≠[])
  (h:∀p:Array Nat,p.toList.Perm (qm vs.length)->(p.toList.map λi=>jK.getD i [])=Yr jK->Q (.ref (s.heap.objs.size+1)) { s with heap:=sortedAll s.heap vs (zY (p.toList.map λi=>vs.getD i zd)) }):xf (xA prog w) A (call (.builtin "sorted") [.ref l]) Q E s:=by
 refine qcf kind_sorted plain_sorted entry_sorted (args_sorted1 _) ?_;unfold Builtin.«sorted»;refine xa (m:=checkCount "sorted" 1 1 _) (xb ?_);refine xa (collect_list hl ?_ (by rw[sizeLine_eq];omega));refine xa (xy ?_);have z1:((s.heap.push (seqObj "list" #[] 0)).update s.heap.objs.size (zk (· ++ vs.toArray))).objs.size=s.heap.objs.size+1:=by rw[Heap.size_update,size_push']
 have g1:(((s.heap.push (seqObj "list" #[] 0)).update s.heap.objs.size (zk (· ++ vs.toArray))).push (seqObj "list" vs.toArray 0)).get? (s.heap.objs.size+1)=some (seqObj "list" vs.toArray 0):=by rw[<-z1];exact qw _ rfl
 have kp:∀c o,c≠s.heap.objs.size->s.heap.get? c=some o->(((s.heap.push (seqObj "list" #[] 0)).update s.heap.objs.size (zk (· ++ vs.toArray))).push (seqObj "list" vs.toArray 0)).get? c=some o:=λc o hc e=>qd _ (by rw[qbW _ _ _ _ hc];exact qd _ e);have ht2:Paired (Yc (((s.heap.push (seqObj "list" #[] 0)).update s.heap.objs.size (zk (· ++ vs.toArray))).push (seqObj "list" vs.toArray 0))) vs jK:=L2.Paired.mapP ht λv ns ⟨a,xs,e,⟨o,ho,r⟩,i⟩=>⟨a,xs,e,⟨o,kp a o (qT (qH ho)) ho,r⟩,i⟩;show xf _ _ _ _ _ { s with heap:=((s.heap.push (seqObj "list" #[] 0)).update s.heap.objs.size (zk (· ++ vs.toArray))).push (seqObj "list" vs.toArray 0) };rw[z1];refine xa (xu (wpAny_call_entry slot_list_sort ⟨_,g1,rfl⟩ entry_list_sort (Ze4 (s:={ s with heap:=((s.heap.push (seqObj "list" #[] 0)).update s.heap.objs.size (zk (· ++ vs.toArray))).push (seqObj "list" vs.toArray 0) }) g1 ht2 h64 nd hne λp a1 a2=>⟨_,rfl,?_⟩) (args_list_sort _)));exact xb ⟨_,rfl,h p a1 a2⟩
end
theorem Paired.pick {α β:Type}{F:α->β->Prop}{l:List α}{r:List β}(d:α)(d':β)(h:Paired F l r):∀(ix:List Nat),(∀i∈ix,i<l.length)->Paired F (ix.map λi=>l.getD i d) (ix.map λi=>r.getD i d')
 | [],_=>.nil
 | i::ix,hb=>.cons (jq d d' h (hb i (by simp))) (Paired.pick d d' h ix λj m=>hb j (qM _ m))
end TS
namespace TF
open L2 TS
section
variable {X:Cx}{G:Gh}
theorem Zbp {jH:Qb}{s:Shared}{σ:St}{H:Hp}{T:V->List Int->Prop}(I:Inv X jH σ H s)(hT:∀v ns,T v ns->∃a,v=.ref a/\ZK X.K H a (ns.map V.int)):∀{vs:List V} {jJ:List Value} {jK:List (List Int)},Zu vs jJ->Paired T vs jK->Paired (Yc s.heap) jJ jK
 | _,_,_,.nil,.nil=>.nil
 | _,_,_,.cons r rr,.cons t tt=>by
  refine .cons ?_ (Zbp I hT rr tt);obtain⟨a,rfl,hq⟩:=hT _ _ t
  cases r
  obtain⟨xs,rv,pl,hz⟩:=I.tuple hq;exact⟨a,xs,rfl,show s.heap.IsTuple a xs.toArray from pl,JH rv⟩
theorem Ze5:XO X (.builtin "sorted") (λxs H Q=>∃(p:Addr) (vs:List V) (jK:List (List Int)) (T:V->List Int->Prop),xs=[.ref p]/\Zy X.K H p vs/\(∀v ns,T v ns->∃a,v=.ref a/\ZK X.K H a (ns.map V.int))/\Paired T vs jK/\
  jK.length<64/\jK.Nodup/\(2<=jK.length->∀ns∈jK,ns≠[])/\∀l vs',Paired T vs' (Yr jK)->H l=none->Q (.ref l) (Zj H l (.lst vs'))):=by
 intro jH s σ H xs us Q I r h;obtain⟨p,vs,jK,T,rfl,hp,hT,pT,h64,nd,hne,q⟩:=h;obtain⟨u,rfl,ru⟩:=Va r
 cases ru
 obtain⟨jJ,rv,pl,hz⟩:=I.list hp;have hl:=rv.length;have hl2:vs.length=jK.length:=qad pT;refine Zkg pl.isList (Zbp I hT rv pT) (by omega) nd (λz=>hne (by omega)) λpm a1 a2=>?_;obtain⟨e,he⟩:=sortedAll_at s.heap jJ (zY (pm.toList.map λi=>jJ.getD i zd));have hle:s.heap.objs.size<=s.heap.objs.size+1:=Nat.le_succ _;have hb:∀i∈pm.toList,i<jJ.length:=λi m=>by
  have:=a1.mem_iff.mp m;simpa using this
 have pv:Zu (pm.toList.map λi=>vs.getD i V.non) (pm.toList.map λi=>jJ.getD i zd):=TS.Paired.pick _ _ rv _ λi m=>by rw[hl];exact hb i m
 have pt:Paired T (pm.toList.map λi=>vs.getD i V.non) (pm.toList.map λi=>jK.getD i []):=TS.Paired.pick _ _ pT _ λi m=>by rw[hl];exact hb i m
 rw[a2]at pt;refine⟨.ref (s.heap.objs.size+1),_,I.laid (a:=s.heap.objs.size+1) (o:=.lst (pm.toList.map λi=>vs.getD i V.non)) (t':=s.toks) (λ_ _=>sortedAll_old) hle ⟨?_,_,e,pv,he⟩,rfl,q _ _ pt (I.hok.fresh hle)⟩;have:=a1.length_eq;rw[qW]at this;rw[qf,this,sizeLine_eq];omega
noncomputable def Yf (ns:List Int):D:=.tup (ns.map .int)
noncomputable def Wt:List D->Option (List (List Int))
 | []=>some []
 | .tup ds::r=>match Yi ds,Wt r with | some ns,some jK=>some (ns::jK) | _,_=>none
 | _::_=>none
theorem B4:∀jK:List (List Int),Wt (jK.map Yf)=some jK
 | []=>rfl
 | ns::jK=>by
  show(match Yi (ns.map D.int),Wt (jK.map Yf)with | some ns,some jK=>some (ns::jK) | _,_=>none)=_;rw[Zch,B4 jK]
theorem Zbq:∀{ds:List D} {jK:List (List Int)},Wt ds=some jK->ds=jK.map Yf
 | [],jK,h=>by
  have h:some []=some jK:=h
  cases h;rfl
 | d::r,jK,h=>by
  cases d with
  | tup ds=>
   have h:(match Yi ds,Wt r with | some ns,some jK=>some (ns::jK) | _,_=>none)=some jK:=h
   cases e1:Yi ds with
   | none=>rw[e1]at h;cases h
   | some ns=>
    cases e2:Wt r with
    | none=>rw[e1,e2]at h;cases h
    | some ms=>
     rw[e1,e2]at h;cases h;rw[qY,<-Zbq e2];unfold Yf;rw[<-JP e1]
  | _=>cases h
noncomputable def WU (jK:List (List Int)):Prop:=jK.length<64/\jK.Nodup/\(2<=jK.length->∀ns∈jK,ns≠[])
noncomputable instance (jK:List (List Int)):Decidable (WU jK):=by unfold WU;infer_instance
noncomputable def U5:List D->Option D
 | [.lst ds]=>match Wt ds with | some jK=>if WU jK then some (.lst ((Yr jK).map Yf))else none | none=>none
 | _=>none
theorem Zbr {Hf:Hp}:∀{jK:List (List Int)} {vs:List V},Zf G Hf (jK.map Yf) vs->Paired (λv ns=>Zi G Hf (Yf ns) v) vs jK
 | [],vs,h=>by
  rw[Zf.nil_iff.mp h];exact .nil
 | ns::jK,vs,h=>by
  obtain⟨v,r,rfl,h1,h2⟩:=jd.mp h;exact .cons h1 (Zbr h2)
theorem Zbs {Hf:Hp}:∀{jK:List (List Int)} {vs:List V},Paired (λv ns=>Zi G Hf (Yf ns) v) vs jK->Zf G Hf (jK.map Yf) vs
 | _,_,.nil=>Zf.nil_iff.mpr rfl
 | _,_,.cons h t=>.cons h (Zbs t)
theorem ZaD:WW X G (.builtin "sorted") U5:=
 ⟨_,Ze5,λHf H s xs ds c Q e1 st r q k=>by
  match ds,q,r with
  | [.lst es],q,r=>
   have q:(match Wt es with | some jK=>if WU jK then some (D.lst ((Yr jK).map Yf))else none | none=>none)=some c:=q
   cases he:Wt es with
   | none=>rw[he]at q;cases q
   | some jK=>
    rw[he]at q;have q:(if WU jK then some (D.lst ((Yr jK).map Yf))else none)=some c:=q;split at q
    ·rename_i ok
     cases q
     obtain⟨v,rfl,rv⟩:=ji r;obtain⟨p,vs,rfl,np,hp,rp⟩:=jb.mp rv;rw[Zbq he]at rp;refine⟨p,vs,jK,λv ns=>Zi G Hf (Yf ns) v,rfl,Zy.of (e1 _ _ np hp),λv ns h=>?_,Zbr rp,ok.1,ok.2.1,ok.2.2,λl vs' pt hl=>?_⟩
     ·obtain⟨a,us,rfl,na,ha,ra⟩:=jc.mp h
      rw[jr ra]at ha;exact⟨a,rfl,ZK.of (e1 _ _ na ha)⟩
     ·have nf:=Gh.nofp st hl
      have g2:=Gr.new (o:=.lst vs') e1 hl nf;have rl:=Zbs pt;exact k (.ref l) _ _ g2 (Gh.grow st hl) (jb.mpr ⟨l,_,rfl,nf,ZM,rl.ext g2.ff⟩) (Yh.mk e1 hl nf rl)
    ·cases q⟩
end
end TF
namespace TF
open L2
section
variable {X:Cx}{G:Gh}{own:List Nat}{fr:Bool}
end
section
variable {X:Cx}{G:Gh}
end
section
variable {X:Cx}{G:Gh}{ob:List Nat}{fr:Bool}
noncomputable def Zkh (i j:Nat)(fs:Za->M (List D)):Za->M Out:=fun ρ=>Zo (fs ρ) λds=>match ds with | [a,b]=>ZI (.nx ((ρ.set i (some a)).set j (some b))) | _=>ZO
theorem Zki {i j:Nat}{x y:Str}{a b:Expr}{fs:Za->M (List D)}{px py pt pos:Pos}{kt k2 pt2}(hc:X.calm=true)(hN:X.N.Nodup)(hi:X.N[i]?=some x)(hj:X.N[j]?=some y)(hij:i≠j)
  (hx:X.env.scope.names.lookup x=some .local) (hy:X.env.scope.names.lookup y=some .local) (ha:WA X G [a,b] fs)
  (hw:swappedStores [.Tuple [.Name x px,.Name y py] kt pt] (.Tuple [a,b] k2 pt2) X.env=pure (some [x,y]))
  (hs:swapsWithSole [.Tuple [.Name x px,.Name y py] kt pt] (.Tuple [a,b] k2 pt2) pos.line X.env=pure false:=by rfl) :
  YA X G ob [] [] fr (.Assign [.Tuple [.Name x px,.Name y py] kt pt] (.Tuple [a,b] k2 pt2) pos) (Zkh i j fs):=by
 obtain⟨t,p,q⟩:=ha;refine⟨_,ZmR hc hN hi hj hij hx hy p hw hs,λkn jP H0 σ H ρ s out s' E ⟨Hf,j'⟩ st e po=>?_⟩;obtain⟨ds,s1,a1,a2⟩:=ZE e;have env:=j'.envA;rw[Zcf]at env;refine q σ Hf H ρ s ds s1 _ j'.gr.fh env st a1 λvs Hf' H' g st' r=>?_
 match ds,a2,r with
 | [d1,d2],a2,r=>
  obtain⟨rfl,rfl⟩:=ZL a2;obtain⟨v1,r1,rfl,q1,q2⟩:=jd.mp r;obtain⟨v2,r2,rfl,q3,q4⟩:=jd.mp q2;rw[Zf.nil_iff.mp q4];have jF:=j'.grow g;exact⟨v1,v2,rfl,po _ H' ⟨Hf',(jF.setF (by simp) q1).setF (by simp) q3⟩ st'⟩
 | [],a2,_=>cases a2
 | [_],a2,_=>cases a2
 | _::_::_::_,a2,_=>cases a2
theorem jE {ρ:Za}{s:Pn}{Q:Out->Pn->Prop}{i j:Nat}{fs:Za->M (List D)}(h:Ok (fs ρ) s λds s1=>∃a b,ds=[a,b]/\Q (.nx ((ρ.set i (some a)).set j (some b))) s1):Ok (Zkh i j fs ρ) s Q:=by
 refine .bind (h.mono λd s1 q=>?_);obtain⟨a,b,rfl,q⟩:=q;exact .ret q
end
section
variable {X:Cx}{G:Gh}{ob own:List Nat}{fr:Bool}
end
section
variable {X:Cx}{G:Gh}{ob own:List Nat}{fr:Bool}
end
section
variable {X:Cx}{G:Gh}{ob own:List Nat}{fr:Bool}
end
end TF
namespace HT
section
variable {prog:xC}{w:World}{A:xD}{E:xE}{s:Shared}
noncomputable abbrev Wc (led:Bool):Obj:={ cls:=.type "set",dict:=none,data:=.set #[] 0 (.fresh 0 0 led) }
end
end HT
namespace TF
open L2
section
variable {X:Cx}{G:Gh}
end
end TF
namespace HT
section
variable {prog:xC}{w:World}{A:xD}{R:Result->Shared->Prop}{I:Addr}{fp wr:List Addr}{n:Nat}{P:Nat->Value->Prop}{St:Nat->Heap->Prop}
end
section
variable {prog:xC}{w:World}{A:xD}{E:xE}{s:Shared}
end
section
variable {prog:xC}{w:World}{A:xD}{R:Result->Shared->Prop}{I:Addr}{fp wr:List Addr}{n:Nat}{P:Nat->Value->Prop}{St:Nat->Heap->Prop}
end
section
variable {prog:xC}{w:World}{A:xD}{E:xE}{s:Shared}
end
end HT
namespace L2
section
variable {X:Cx}
end
end L2
namespace TF
open L2
section
variable {X:Cx}{G:Gh}
end
end TF
namespace TS
open L2
section
variable {prog:xC}{w:World}{A:xD}{E:xE}{s:Shared}
end
end TS
namespace TF
open L2 TS
section
variable {X:Cx}{G:Gh}
end
end TF
namespace TP2
open L2 TF TP
noncomputable def g_all_near:Za->M Out:=(Zn (Z2 (YC [none,some 0] (YZ (Ze Zx (Zb 0) (dC (.int 0)))) (ZP 0) Yu (ZA Vw (Zc (Zb 1) (Zc (Zb 0) Zd)))))
 ZJ)
noncomputable def F_all_near:List D->M D:=runB 1 1 g_all_near
noncomputable def Zc6:Za->M Out:=(Zn (Z2 (ZN BC (Zc (YC [none,some 0,some 1] (X0 (Zb 2)) (ZP 0) Yu (Ze Xq (Zb 0) (Ze Zx (Zb 1) (Zb 2)))) Zd)))
 ZJ)
noncomputable def VP:List D->M D:=runB 3 3 Zc6
noncomputable def Ze6:Za->M Out:=(Zn (YE 1 (Yy (Zc (Yk Zd) Zd)))
 (Zn (XS (YZ (ZN Ye (Zc (Zb 0) Zd))) (ZP 2)
 (Zn (YE 1 (Ze Z4 (Zb 1) (YC [none,some 2,some 0] (YU (Zb 1)) (ZP 0) (YN (ZA VP (Zc (Zb 2) (Zc (Zb 1) (Zc (Zb 0) Zd))))) (Ze Z4 (Zb 0) (Yk (Zc (Zb 1) Zd))))))
 ZJ))
 (Zn (Z2 (Zb 1))
 ZJ)))
noncomputable def Vm:List D->M D:=runB 3 1 Ze6
noncomputable def g_counted:Za->M Out:=(Zn (YE 1 (ZA Vm (Zc (ZA F_all_near (Zc (Zb 0) Zd)) Zd)))
 (Zn (Wx 2 (Ze XR (Yy (Zc (dC (.int 0)) Zd)) (Ze Z4 (dC (.int 1)) (ZN Bu (Zc (YC [none] (YU (Zb 1)) (ZP 0) Yu (ZN Ye (Zc (Zb 0) Zd))) Zd)))))
 (Zn (XS (fun ρ=>(YU (Zb 1)) (ZU [2] ρ)) (ZP 3)
 (Zn (Jo 2 (fun ρ=>(ZN Ye (Zc (Zb 3) Zd)) (ZU [2] ρ)) (fun ρ=>(dC (.int 1)) (ZU [2] ρ)))
 ZJ))
 (Zn (Z2 (Zb 2))
 ZJ))))
noncomputable def F_counted:List D->M D:=runB 4 1 g_counted
noncomputable def Ze7:Za->M Out:=(Zn (YE 2 (ZA We (Zc (Zb 0) (Zc (Ze Z4 (Zb 1) (dC (.int 1))) Zd))))
 (Zn (YE 3 (ZA We (Zc (Zb 0) (Zc (dC (.int 9)) Zd))))
 (Zn (YE 4 (Ze Z4 (dC (.int 1)) (ZA We (Zc (Zb 0) (Zc (dC (.int 5)) Zd)))))
 (Zn (Wx 5 (Yy Zd))
 (Zn (XS (YZ (Zb 2)) (ZP 6)
 (Zn (XS (J6 (Ze Z4 (Zb 6) (dC (.int 1))) (Zb 2)) (ZP 7)
 (Zn (YE 8 (fun ρ=>(Ze Zx (Yy (Zc (dC (.bl false)) (Zc (dC (.bl true)) (Zc (Ze Xq (Ze Vg (Zb 7) (Zb 6)) (Yk (Zc (dC (.int 1)) (Zc (Ze Vg (Zb 2) (dC (.int 1))) Zd)))) (Zc (Ze Wz (Ze V4 (Zb 6) (Zb 4)) (Ze V4 (Zb 7) (Zb 4))) Zd))))) (ZN UB (Zc (Zb 3) (Zc (dC (.int 3)) Zd)))) (ZU [5] ρ)))
 (Zn (XV (YN (Ze dGt (Zb 3) (dC (.int 3))))
 (Zn (YE 8 (fun ρ=>(Ze dLt (ZA We (Zc (Zb 0) (Zc (dC (.int 6)) Zd))) (Zb 4)) (ZU [5] ρ)))
 ZJ)
 ZJ)
 (Zn (XV (YN (Zb 8))
 (Zn (VF 5 (fun ρ=>(Yk (Zc (Zb 6) (Zc (Zb 7) Zd))) (ZU [5] ρ)))
 ZJ)
 ZJ)
 ZJ))))
 ZJ))
 (Zn (Z2 (Yk (Zc (Zb 2) (Zc (ZN Bk (Zc (Zb 5) Zd)) Zd))))
 ZJ))))))
noncomputable def US:List D->M D:=runB 9 2 Ze7
end TP2
namespace TP3
open L2 TF TP
open TP2
noncomputable def Ziz:Za->M Out:=(Zn (Z2 (Jp (ZN BD (Zc (YC [none,some 0,some 1] (YZ (ZN Ye (Zc (Zb 0) Zd))) (ZP 0) Yu (ZA VP (Zc (Zb 1) (Zc (Zb 0) (Zc (Zb 2) Zd))))) Zd))))
 ZJ)
noncomputable def UW:List D->M D:=runB 2 2 Ziz
noncomputable def g_full_knots:Za->M Out:=(Zn (YE 1 (ZA F_all_near (Zc (Zb 0) Zd)))
 (Zn (Z2 (ZN U5 (Zc (YC [none,some 1] (YU (ZA Vm (Zc (Zb 1) Zd))) (ZP 0) (YN (ZA UW (Zc (Zb 1) (Zc (Zb 0) Zd)))) (Zb 0)) Zd)))
 ZJ))
noncomputable def F_full_knots:List D->M D:=runB 2 1 g_full_knots
end TP3
namespace TQ
open L2 TF TQ
open TP
open TP2
open TP3
noncomputable def ZiA:Za->M Out:=(Zn (Z2 (Vf (Ze dLt (Ze Zx (Zb 0) (dC (.int 0))) (Ze Zx (Zb 1) (dC (.int 1)))) (Ze dLt (Ze Zx (Zb 1) (dC (.int 0))) (Ze Zx (Zb 0) (dC (.int 1))))))
 ZJ)
noncomputable def ZiB:List D->M D:=runB 2 2 ZiA
noncomputable def Za0:Za->M Out:=(Zn (Z2 (JB (Ze V6 (Zb 1) (Zb 2)) (ZA XE (Zc (Zb 0) (Zc (Zb 1) (Zc (Zb 2) Zd))))))
 ZJ)
noncomputable def JE:List D->M D:=runB 3 3 Za0
noncomputable def Za1:List D->M D:=runB 4 4 (Zn (XV (YN (Ze V6 (Ze Zx (Zb 0) (dC (.int 0))) (Ze Zx (Zb 1) (dC (.int 0)))))
 (Zn (Z2 (ZA XE (Zc (Ze Zx (Zb 2) (Ze Zx (Zb 0) (dC (.int 0)))) (Zc (Ze Zx (Zb 0) (dC (.int 1))) (Zc (Ze Zx (Zb 1) (dC (.int 1))) Zd)))))
 ZJ)
 ZJ)
 (Zn (Z2 (ZA XE (Zc (Zb 3) (Zc (Ze Zx (Zb 0) (dC (.int 0))) (Zc (Ze Zx (Zb 1) (dC (.int 0))) Zd)))))
 ZJ))
noncomputable def Za2:List D->M D:=VI 3 (Jp (ZA XE (Zc (Zb 2) (Zc (Zb 0) (Zc (Zb 1) Zd)))))
noncomputable def Zan:List D->M D:=runB 4 4 (Zn (Z2 (Vf (ZA JE (Zc (Zb 2) (Zc (Ze Zx (Zb 0) (dC (.int 0))) (Zc (Ze Zx (Zb 1) (dC (.int 0))) Zd)))) (ZA JE (Zc (Zb 3) (Zc (Ze Zx (Zb 0) (dC (.int 1))) (Zc (Ze Zx (Zb 1) (dC (.int 1))) Zd))))))
 ZJ)
noncomputable def ZaB:List D->M D:=VI 3 (ZA XE (Zc (Zb 2) (Zc (Zb 0) (Zc (Zb 1) Zd))))
noncomputable def ZaM:List D->M D:=VI 3 (JB (Ze Xq (Yk (Zc (Zb 0) (Zc (Zb 1) Zd))) (Zb 2)) (Ze Xq (Yk (Zc (Zb 1) (Zc (Zb 0) Zd))) (Zb 2)))
noncomputable def ZcA:List D->M D:=VI 3 (Ze Wz (Ze V4 (Zb 0) (Zb 2)) (Ze V4 (Zb 1) (Zb 2)))
noncomputable def Za3:List D->M D:=VI 4 (Ze Xq (ZN UB (Zc (Ze Vg (Zb 1) (Zb 0)) (Zc (Ze Z4 (Ze Vg (Zb 2) (Zb 1)) (Zb 0)) Zd))) (Zb 3))
noncomputable def Tl:Nat->List D->M D
 | 0=>Za2
 | 1=>ZaB
 | 2=>ZiB
 | 3=>Za1
 | 4=>Zan
 | 5=>ZaM
 | 6=>ZcA
 | 7=>Za3
 | _=>λ_=>ZO
noncomputable def Ze8:Za->M Out:=(Zn (YE 2 (ZA JJ (Zc (JI (ZN Ye (Zc (Zb 0) Zd))) Zd)))
 (Zn (Z2 (Yk (Zc (ZN Ye (Zc (Zb 0) Zd)) (Zc (ZN Bk (Zc (YC [none,some 1,some 0] (YU (Zb 2)) (ZP 0) (YN (BE Tl 1 (Zc (Ze Zx (Zb 2) (Ze Zx (Zb 0) (dC (.int 0)))) (Zc (Ze Zx (Zb 2) (Ze Zx (Zb 0) (dC (.int 1)))) Zd)))) (Zb 0)) Zd)) Zd))))
 ZJ))
noncomputable def Vn:List D->M D:=runB 3 2 Ze8
noncomputable def ZlF:Za->M Out:=(Zn (Wx 1 (Yy Zd))
 (Zn (XS (YZ (ZN Ye (Zc (Zb 0) Zd))) (ZP 2)
 (Zn (Js 1 (fun ρ=>(YC [none,some 2] (YZ (Ze Zx (Zb 0) (Zb 2))) (ZP 0) Yu (Yk (Zc (Zb 1) (Zc (Zb 0) Zd)))) (ZU [1] ρ)))
 ZJ))
 (Zn (Z2 (Zb 1))
 ZJ)))
noncomputable def VS:List D->M D:=runB 3 1 ZlF
noncomputable def Zkj:Za->M Out:=(Zn (YE 2 (ZA X6 (Zc (Zb 0) Zd)))
 (Zn (YE 3 (YC [none] (YU (Zb 1)) (ZP 0) Yu (ZA X6 (Zc (Zb 0) Zd))))
 (Ba 4 (UJ Vn 3 [3,2] (ZA VS (Zc (YC [none] (YU (Zb 1)) (ZP 0) Yu (Ze Zx (Zb 0) (dC (.int 0)))) Zd))))))
noncomputable def Uo:List D->M D:=runB 5 2 Zkj
noncomputable def Zkk:Za->M Out:=(Zn (YE 1 (ZA X6 (Zc (Zb 0) Zd)))
 (Zn (Z2 (UJ Vn 0 [1] (JI (Ze Zx (Zb 0) (dC (.int 0))))))
 ZJ))
noncomputable def Za4:List D->M D:=runB 2 1 Zkk
noncomputable def Zkl:Za->M Out:=(Zn (Z2 (ZA Uo (Zc (Yk (Zc (ZN Ye (Zc (Zb 0) Zd)) (Zc (Yk Zd) Zd))) (Zc (Zb 0) Zd))))
 ZJ)
noncomputable def JU:List D->M D:=runB 1 1 Zkl
noncomputable def Zc7:Za->M Out:=(Zn (Z2 (ZA Uo (Zc (ZA Za4 (Zc (Yk (Zc (ZN Ye (Zc (Zb 0) Zd)) (Zc (Yk Zd) Zd))) Zd)) (Zc (Zb 0) Zd))))
 ZJ)
noncomputable def Ug:List D->M D:=runB 1 1 Zc7
noncomputable def Zgg:Za->M Out:=(Zn (YE 2 (ZA X6 (Zc (Zb 0) Zd)))
 (Zn (YE 3 (ZA X6 (Zc (Zb 1) Zd)))
 (Ba 4 (UJ Vn 4 [2,3] (ZA VS (Zc (Ze XR (Yy (Zc (Ze Zx (Zb 1) (dC (.int 0))) Zd)) (Ze Zx (Zb 0) (dC (.int 0)))) Zd))))))
noncomputable def JL:List D->M D:=runB 5 2 Zgg
end TQ
namespace TF
open L2
noncomputable def Zgh (K:qj)(L:List (Addr×Str)):Sp:=λvs H Q _=>∃(a:Addr) (ns:List Int),vs=[.ref a]/\Zy K H a (ns.map V.int)/\ns.length<=63/\(∀P q,(P,q)∈L->H P=some (.tbl #[]))/\∀H',Q (.bl true) H'
theorem Zgi {L:List (Addr×Str)}{tb:List (Str×Addr×Addr)}{H:Hp}(h:∀P q,(P,q)∈L->∃x c,(x,c,P)∈tb)(hT:∀e∈tb,H e.2.2=some (.tbl #[])):∀P q,(P,q)∈L->H P=some (.tbl #[]):=λP q m=>by
 obtain⟨x,c,z⟩:=h P q m;exact hT _ z
theorem Zom {G0:Gh}{L:List (Addr×Str)}{H:Hp}(h:∀P q,(P,q)∈L->H P=some (.tbl #[])):∀P q,(P,q)∈L->Zmr G0 L P q H:=λP q m=>⟨#[],h P q m,trivial,λpos cv hc=>by cases hc⟩
theorem ZiC {L:List (Addr×Str)}{H0 H:Hp}{p wa:Addr}{m:Int}{w:List Int}{g:Za->M Out}{Q:VK}{n:Nat}{s':Pn}{x:V}(st:W7 p wa ([m,0],w) H)(hTb:∀P q,(P,q)∈L->H0 P=some (.tbl #[]))(kp:∀b u,H0 b=some u->H b=some u)(hp:H0 p=none)(hw:H0 wa=none)(hQ:∀H',Q (.bl true) H')
  (hg:g (none::some .pen::qB n none) ([m,0],w)=some (.rt (.bl true),s')) :
  ∃G,W4 Vh L G/\Zmm G [] [] [] false g { nx:=λ_ H'=>Q .non H',rt:=Q } (some x::some (.ref p)::qB n none) H:=by
 refine⟨UC (Jv p wa) L,⟨Jv p wa,⟨p,wa,rfl⟩,λb ⟨q,mb⟩ hb=>?_,rfl⟩,λ_=>none,λ_=>none,H,none::some .pen::qB n none,([m,0],w),_,s',⟨λ_=>none,⟨by simp,.refl _ _,.refl (λb o _ e=>by cases e),λi d _ e=>?_,λi d m=>by simp at m,λi j b di dj m=>by simp at m⟩⟩,⟨st,Zom λP q z=>kp _ _ (hTb P q z)⟩,hg,λv Hf' H' g st r _=>?_⟩
 ·have e:=hTb b q mb
  rcases hb with rfl | rfl
  ·rw[hp]at e;cases e
  ·rw[hw]at e;cases e
 ·match i,e with
  | 0,e=>cases e
  | 1,e=>cases e;exact⟨_,rfl,jp.mpr rfl⟩
  | i+2,e=>
   have e':(qB n (none:Option D))[i]?=some (some d):=e;rw[yr]at e';split at e' <;> cases e'
 ·rw[je.mp r]
  exact hQ H'
theorem lok_nd:∀{L:List (Addr×Str)},(L.map (·.1)).Nodup->WN L
 | [],_=>λP q q' h=>by simp at h
 | (a,b)::L,nd=>λP q q' h1 h2=>by
  rw[qY,zV]at nd;rcases qp.mp h1 with e1 | m1
  ·cases e1
   rcases qp.mp h2 with e2 | m2
   ·cases e2;rfl
   ·exact absurd (qaf (f:=(·.1)) m2) nd.1
  ·rcases qp.mp h2 with e2 | m2
   ·cases e2;exact absurd (qaf (f:=(·.1)) m1) nd.1
   ·exact lok_nd nd.2 P q q' m1 m2
end TF
namespace TT
noncomputable def Bc:Bool->Keyed->Array Keyed->Nat->Nat->Nat->StateT SortSt Sem (Option Nat):=sortPriv% PySem.Builtin.gallop
noncomputable def Bd (left:Bool)(key:Keyed)(arr:Array Keyed)(base:Nat)(i:Nat):StateT SortSt Sem (Option Bool):=do
 let x<-elem' arr (base+i)
 if left then lt' x key else return (<-lt' key x).map (!·)
section
variable {M:Model}{A:xD}{E:xE}{s:Shared}
set_option hygiene false in
local macro_rules | `(tactic| walk_at "galBin")=>`(tactic| (
  refine wpS_bind (wpS_mono (wpS_forRange (I:=λx c st'=>st'=st/\∃l h,c=(none,l,h)/\l<=h/\h<=n/\h-l<=n-x/\(∀i,i<l->B i=true)/\(∀i,h<=i->i<n->B i=false))
   (Q:=λc st'=>st'=st/\∃h,c=(none,h,h)/\h<=n/\(∀i,i<h->B i=true)/\(∀i,h<=i->i<n->B i=false)) ?stepB ?finB ⟨rfl,lo,hi,rfl,h1,h2,by omega,h3,h4⟩) ?postB)
  case postB=>
   rintro c st' ⟨rfl,h,rfl,a1,a2,a3⟩;exact wpS_pure (k h a1 a2 a3)
  case finB=>
   rintro c st' ⟨rfl,l,h,rfl,a1,a2,a3,a4,a5⟩;have:l=h:=by omega
   subst this;exact⟨rfl,l,rfl,a2,a4,a5⟩
  case stepB=>
   rintro x c st' _ hx ⟨rfl,l,h,rfl,a1,a2,a3,a4,a5⟩;dsimp only;by_cases e:l≥h
   ·rw[if_pos e]
    have:l=h:=by omega
    subst this;exact wpS_pure ⟨rfl,l,rfl,a2,a4,a5⟩
   ·rw[if_neg e]
    have hm:l+(h-l) / 2<n:=by omega
    refine wpS_bind (hB _ hm _ ?_);dsimp only
    cases q:B (l+(h-l) / 2)with
    | true=>
     rw[if_pos rfl];exact wpS_pure ⟨rfl,_,_,rfl,by omega,a2,by omega,λi hi=>low (by omega) hm q,a5⟩
    | false=>
     rw[if_neg (by decide)];exact wpS_pure ⟨rfl,_,_,rfl,by omega,by omega,by omega,a4,λi hi hn=>upp hi hn q⟩))
theorem Zay {left:Bool}{key:Keyed}{arr:Array Keyed}{base n hint:Nat}{st:SortSt}{Q:Option Nat->SortSt->Prop}(B:Nat->Bool)(hh:hint<n)(mono:∀i j,i<j->j<n->B j=true->B i=true)
  (hB:∀i,i<n->∀F:Option Bool->SortSt->Prop,F (some (B i)) st->wpS M A E s (Bd left key arr base i) F st)
  (k:∀r,r<=n->(∀i,i<r->B i=true)->(∀i,r<=i->i<n->B i=false)->Q (some r) st):wpS M A E s (Bc left key arr base n hint) Q st:=by
 have low:∀{i j:Nat},i<=j->j<n->B j=true->B i=true:=λ{i j} h1 h2 h3=>by
  rcases qb1 h1 with h | h
  ·exact mono i j h h2 h3
  ·rw[h];exact h3
 have upp:∀{i j:Nat},i<=j->j<n->B i=false->B j=false:=λ{i j} h1 h2 h3=>by
  cases e:B j with
  | false=>rfl
  | true=>rw[low h1 h2 e]at h3;cases h3
 refine wpS_bind (hB hint hh _ ?_)
 cases hr:B hint with
 | true=>
  dsimp only;rw[if_pos rfl];refine wpS_bind (wpS_mono (wpS_forRange (I:=λx c st'=>st'=st/\∃l f,c=(none,l,f)/\l<f/\x+1<=f/\hint+l<n/\B (hint+l)=true)
   (Q:=λc st'=>st'=st/\∃l f,c=(none,l,f)/\l<f/\hint+l<n/\B (hint+l)=true/\(f≥n-hint∨hint+f<n/\B (hint+f)=false)) ?step ?fin ⟨rfl,0,1,rfl,by omega,by omega,hh,hr⟩) ?post)
  case post=>
   rintro c jV ⟨e0,l,f,rfl,a1,a2,a3,a4⟩;rw[e0];have h1:hint+l+1<=hint+min f (n-hint):=by omega
   have h2:hint+min f (n-hint)<=n:=by omega
   have h3:∀i,i<hint+l+1->B i=true:=λi hi=>low (by omega) a2 a3;have h4:∀i,hint+min f (n-hint)<=i->i<n->B i=false:=λi hi hn=>by
    rcases a4 with a4 | a4
    ·omega
    ·exact upp (by omega) hn a4.2
   dsimp only;generalize hint+l+1=lo at h1 h3⊢;generalize hint+min f (n-hint)=hi at h1 h2 h4⊢
   walk_at "galBin"
  case fin=>
   rintro c st' ⟨rfl,l,f,rfl,a1,a2,a3,a4⟩;exact⟨rfl,l,f,rfl,a1,a3,a4,.inl (by omega)⟩
  case step=>
   rintro x c st' _ hx ⟨rfl,l,f,rfl,a1,a2,a3,a4⟩;dsimp only;by_cases e:f≥n-hint
   ·rw[if_pos e]
    exact wpS_pure ⟨rfl,l,f,rfl,a1,a3,a4,.inl e⟩
   ·rw[if_neg e]
    refine wpS_bind (hB _ (by omega) _ ?_);dsimp only
    cases q:B (hint+f)with
    | true=>
     rw[if_neg (by decide)];exact wpS_pure ⟨rfl,f,2*f+1,rfl,by omega,by omega,by omega,q⟩
    | false=>
     rw[if_pos (by decide)];exact wpS_pure ⟨rfl,l,f,rfl,a1,a3,a4,.inr ⟨by omega,q⟩⟩
 | false=>
  dsimp only;rw[if_neg (by decide)];refine wpS_bind (wpS_mono (wpS_forRange (I:=λx c st'=>st'=st/\∃l f,c=(none,l,f)/\l<f/\x+1<=f/\l<=hint/\B (hint-l)=false)
   (Q:=λc st'=>st'=st/\∃l f,c=(none,l,f)/\l<f/\l<=hint/\B (hint-l)=false/\(f≥hint+1∨f<=hint/\B (hint-f)=true)) ?step ?fin ⟨rfl,0,1,rfl,by omega,by omega,by omega,hr⟩) ?post)
  case post=>
   rintro c jV ⟨e0,l,f,rfl,a1,a2,a3,a4⟩;rw[e0];have h1:hint+1-min f (hint+1)<=hint-l:=by omega
   have h2:hint-l<=n:=by omega
   have h3:∀i,i<hint+1-min f (hint+1)->B i=true:=λi hi=>by
    rcases a4 with a4 | a4
    ·omega
    ·exact low (j:=hint-f) (by omega) (by omega) a4.2
   have h4:∀i,hint-l<=i->i<n->B i=false:=λi hi hn=>upp hi hn a3;dsimp only;generalize hint+1-min f (hint+1)=lo at h1 h3⊢;generalize hint-l=hi at h1 h2 h4⊢
   walk_at "galBin"
  case fin=>
   rintro c st' ⟨rfl,l,f,rfl,a1,a2,a3,a4⟩;exact⟨rfl,l,f,rfl,a1,a3,a4,.inl (by omega)⟩
  case step=>
   rintro x c st' _ hx ⟨rfl,l,f,rfl,a1,a2,a3,a4⟩;dsimp only;by_cases e:f≥hint+1
   ·rw[if_pos e]
    exact wpS_pure ⟨rfl,l,f,rfl,a1,a3,a4,.inl e⟩
   ·rw[if_neg e]
    refine wpS_bind (hB _ (by omega) _ ?_);dsimp only
    cases q:B (hint-f)with
    | true=>
     rw[if_pos rfl];exact wpS_pure ⟨rfl,l,f,rfl,a1,a3,a4,.inr ⟨by omega,q⟩⟩
    | false=>
     rw[if_neg (by decide)];exact wpS_pure ⟨rfl,f,2*f+1,rfl,by omega,by omega,by omega,q⟩
end
noncomputable abbrev setG (st:SortSt)(g:Nat):SortSt:=qce (kindOf st) (arrOf st) (pendingOf st) g (failedOf st)
noncomputable def Zkm:Array Keyed->Array Keyed->StateT SortSt Sem (Array Keyed):=sortPriv% PySem.Builtin.mergeLo
noncomputable def Zkn:Array Keyed->Array Keyed->StateT SortSt Sem (Array Keyed):=sortPriv% PySem.Builtin.mergeHi
section
variable (rk:Keyed->Int)
noncomputable def SL (l:List Keyed):Prop:=l.Pairwise λx y=>rk x<=rk y
structure Jm (a b out:Array Keyed)(ia ib:Nat):Prop where
 la:ia<=a.size
 lb:ib<=b.size
 pm:out.toList.Perm (a.toList.take ia++b.toList.take ib)
 so:SL rk out.toList
 ga:∀x∈out.toList,∀y∈a.toList.drop ia,rk x<=rk y
 gb:∀x∈out.toList,∀y∈b.toList.drop ib,rk x<=rk y
variable {rk}{a b out:Array Keyed}{ia ib:Nat}
theorem Vs {l:List Keyed}{i:Nat}{x:Keyed}(h:l[i]?=some x):l.drop i=x::l.drop (i+1):=by
 obtain⟨hl,e⟩:=qq.mp h;rw[qaA hl,e]
theorem Vt {l:List Keyed}{i:Nat}{x:Keyed}(h:l[i]?=some x):l.take (i+1)=l.take i ++ [x]:=by
 obtain⟨hl,e⟩:=qq.mp h;rw[List.take_succ_eq_append_getElem hl,e]
theorem SL.drop {l:List Keyed}(h:SL rk l)(i:Nat):SL rk (l.drop i):=h.sublist (List.drop_sublist _ _)
theorem SL.head {l:List Keyed}(h:SL rk l){i:Nat}{x:Keyed}(hx:l[i]?=some x):∀y∈l.drop i,rk x<=rk y:=λy hy=>by
 have:=h.drop i;rw[Vs hx]at this hy;rcases qp.mp hy with rfl | hy
 ·exact y4 _
 ·exact(yi.mp this).1 y hy
theorem WO {l:Array Keyed}{i:Nat}{x:Keyed}(h:l[i]?=some x):l.toList[i]?=some x:=by rw[qz];exact h
theorem Jm.pushB (h:Jm rk a b out ia ib)(hb:SL rk b.toList){x:Keyed}(hx:b[ib]?=some x)(hle:∀y∈a.toList.drop ia,rk x<=rk y):Jm rk a b (out.push x) ia (ib+1):=by
 have hx':=WO hx;have hl:ib<b.size:=by
  have:=(qq.mp hx').1;simpa using this
 have hd:=hb.head hx';refine⟨h.la,hl,?_,?_,λo ho y hy=>?_,λo ho y hy=>?_⟩
 ·rw[zi,Vt hx',<-qK]
  exact h.pm.append_right _
 ·rw[zi]
  refine qN.mpr ⟨h.so,yu _ _,λo ho y hy=>?_⟩;rw[qU.mp hy];exact h.gb o ho x (by rw[Vs hx'];simp)
 ·rw[zi]at ho
  rcases qO.mp ho with ho | ho
  ·exact h.ga o ho y hy
  ·rw[qU.mp ho];exact hle y hy
 ·rw[zi]at ho
  have hy':y∈b.toList.drop ib:=by rw[Vs hx'];exact qM _ hy
  rcases qO.mp ho with ho | ho
  ·exact h.gb o ho y hy'
  ·rw[qU.mp ho];exact hd y hy'
theorem Jm.pushA (h:Jm rk a b out ia ib)(ha:SL rk a.toList){x:Keyed}(hx:a[ia]?=some x)(hle:∀y∈b.toList.drop ib,rk x<=rk y):Jm rk a b (out.push x) (ia+1) ib:=by
 have hx':=WO hx;have hl:ia<a.size:=by
  have:=(qq.mp hx').1;simpa using this
 have hd:=ha.head hx';refine⟨hl,h.lb,?_,?_,λo ho y hy=>?_,λo ho y hy=>?_⟩
 ·rw[zi,Vt hx']
  refine(h.pm.append_right _).trans ?_;rw[qK,qK];exact qbJ _ yH
 ·rw[zi]
  refine qN.mpr ⟨h.so,yu _ _,λo ho y hy=>?_⟩;rw[qU.mp hy];exact h.ga o ho x (by rw[Vs hx'];simp)
 ·rw[zi]at ho
  have hy':y∈a.toList.drop ia:=by rw[Vs hx'];exact qM _ hy
  rcases qO.mp ho with ho | ho
  ·exact h.ga o ho y hy'
  ·rw[qU.mp ho];exact hd y hy'
 ·rw[zi]at ho
  rcases qO.mp ho with ho | ho
  ·exact h.gb o ho y hy
  ·rw[qU.mp ho];exact hle y hy
theorem Ze9 {xs:Array Keyed}{i k:Nat}(h:i+k<xs.size)(out:Array Keyed):out++xs.extract i (i+(k+1))=(out++xs.extract i (i+k)).push xs[i+k]:=by
 apply Array.ext';simp only[zb,qab,zi,yG,qK];congr 1;have e1:i+(k+1)-i=k+1:=by omega
 have e2:i+k-i=k:=by omega
 rw[e1,e2];have hg:(xs.toList.drop i)[k]?=some xs[i+k]:=by rw[yh,qz,qe h]
 exact Vt hg
theorem Jm.bulkA (ha:SL rk a.toList):∀(k:Nat),Jm rk a b out ia ib->ia+k<=a.size->(∀i x,i<k->a[ia+i]?=some x->∀y∈b.toList.drop ib,rk x<=rk y)->Jm rk a b (out++a.extract ia (ia+k)) (ia+k) ib
 | 0,h,_,_=>by
  have:out++a.extract ia (ia+0)=out:=by simp;omega
  rw[this];exact h
 | k+1,h,hk,hle=>by
  have hi:ia+k<a.size:=by omega
  have ih:=Jm.bulkA ha k h (by omega) λi x hi=>hle i x (by omega);rw[Ze9 hi];exact ih.pushA ha (qe hi) (hle k _ (by omega) (qe hi))
theorem Jm.bulkB (hb:SL rk b.toList):∀(k:Nat),Jm rk a b out ia ib->ib+k<=b.size->(∀i x,i<k->b[ib+i]?=some x->∀y∈a.toList.drop ia,rk x<=rk y)->Jm rk a b (out++b.extract ib (ib+k)) ia (ib+k)
 | 0,h,_,_=>by
  have:out++b.extract ib (ib+0)=out:=by simp;omega
  rw[this];exact h
 | k+1,h,hk,hle=>by
  have hi:ib+k<b.size:=by omega
  have ih:=Jm.bulkB hb k h (by omega) λi x hi=>hle i x (by omega);rw[Ze9 hi];exact ih.pushB hb (qe hi) (hle k _ (by omega) (qe hi))
noncomputable def Mg (rk:Keyed->Int)(a b r:Array Keyed):Prop:=r.toList.Perm (a.toList++b.toList)/\SL rk r.toList
theorem VR (xs:Array Keyed)(i:Nat):(xs.extract i xs.size).toList=xs.toList.drop i:=by
 rw[qab,yG,zS];rw[zN,qE];exact qk _
theorem Jm.done (h:Jm rk a b out ia ib)(ha:SL rk a.toList)(hb:SL rk b.toList)(e:ib=b.size∨ia=a.size):Mg rk a b (out++a.extract ia a.size++b.extract ib b.size):=by
 refine⟨?_,?_⟩
 ·rw[zb,zb,VR,VR]
  refine((h.pm.append_right _).append_right _).trans ?_;rw[qK,qK];have:(b.toList.take ib++(a.toList.drop ia++b.toList.drop ib)).Perm (a.toList.drop ia++(b.toList.take ib++b.toList.drop ib)):=by
   rw[<-qK,<-qK];exact yH.append_right _
  refine(this.append_left _).trans ?_;rw[zo,<-qK,zo]
 ·rw[SL,zb,zb,VR,VR]
  rcases e with e | e
  ·have z:b.toList.drop ib=[]:=by rw[e];exact zT (by simp)
   rw[z,zB];exact qN.mpr ⟨h.so,ha.drop ia,λx hx y hy=>h.ga x hx y hy⟩
  ·have z:a.toList.drop ia=[]:=by rw[e];exact zT (by simp)
   rw[z,zB];exact qN.mpr ⟨h.so,hb.drop ib,λx hx y hy=>h.gb x hx y hy⟩
theorem Jm.last (h:Jm rk a b out ia ib)(ha:SL rk a.toList)(hb:SL rk b.toList)(e:ia+1=a.size)(ZV:∀y∈b.toList,∀x,a[a.size-1]?=some x->rk y<=rk x):Mg rk a b (out++b.extract ib b.size++a.extract ia a.size):=by
 have hi:ia<a.size:=by omega
 refine⟨?_,?_⟩
 ·rw[zb,zb,VR,VR]
  refine((h.pm.append_right _).append_right _).trans ?_;rw[qK (a.toList.take ia),zo,qK];refine(yH.append_left _).trans ?_;rw[<-qK,zo]
 ·rw[SL,zb,zb,VR,VR]
  have hx:=qe hi;have z:a.toList.drop ia=[a[ia]]:=by
   rw[Vs (WO hx)];rw[zT (by simp;omega)]
  rw[z];refine qN.mpr ⟨qN.mpr ⟨h.so,hb.drop ib,λx hx y hy=>h.gb x hx y hy⟩,yu _ _,λx hx2 y hy=>?_⟩;rw[qU.mp hy];rcases qO.mp hx2 with hx2 | hx2
  ·exact h.ga x hx2 _ (by rw[z];simp)
  ·refine ZV x (qbb hx2) _ ?_
   rw[show a.size-1=ia by omega];exact hx
end
structure Sim (st st':SortSt):Prop where
 kind:kindOf st'=kindOf st
 arr:arrOf st'=arrOf st
 pend:pendingOf st'=pendingOf st
 fail:failedOf st'=failedOf st
theorem Sim.refl (st:SortSt):Sim st st:=⟨rfl,rfl,rfl,rfl⟩
theorem Sim.setG {st st':SortSt}(h:Sim st st')(g:Nat):Sim st (setG st' g):=⟨h.kind,h.arr,h.pend,h.fail⟩
section
variable {M:Model}{A:xD}{E:xE}{s:Shared}
noncomputable def WB (M:Model)(A:xD)(E:xE)(s:Shared)(rk:Keyed->Int)(κ:SortKind)(In:Keyed->Prop):Prop:=
 ∀x y,In x->In y->∀(st:SortSt) (F:Option Bool->SortSt->Prop),kindOf st=κ->F (some (decide (rk x<rk y))) st->wpS M A E s (lt' x y) F st
variable {rk:Keyed->Int}{κ:SortKind}{In:Keyed->Prop}
theorem YK {xs:Array Keyed}{i:Nat}{x:Keyed}{st:SortSt}{F:Keyed->SortSt->Prop}(h:xs[i]?=some x)(k:F x st):wpS M A E s (elem' xs i) F st:=by
 rw[elem'_eq,h];exact wpS_pure k
theorem Zfa {key:Keyed}{arr:Array Keyed}{base n hint:Nat}{st:SortSt}{Q:Option Nat->SortSt->Prop}(C:WB M A E s rk κ In)(hk:kindOf st=κ)(hkey:In key)(hin:∀x∈arr.toList,In x)(hs:SL rk (arr.toList.drop base))(hb:base+n<=arr.size)(hh:hint<n)
  (k:∀r,r<=n->(∀i x,i<r->arr[base+i]?=some x->rk x<=rk key)->(∀i x,r<=i->i<n->arr[base+i]?=some x->rk key<rk x)->Q (some r) st):wpS M A E s (Bc false key arr base n hint) Q st:=by
 have hx:∀i,i<n->∃x,arr[base+i]?=some x:=λi hi=>⟨arr[base+i]'(by omega),qe (by omega)⟩;have le:∀i j x y,i<j->j<n->arr[base+i]?=some x->arr[base+j]?=some y->rk x<=rk y:=λi j x y hij hj ex ey=>by
  have e1:(arr.toList.drop base)[i]?=some x:=by rw[yh,qz];exact ex
  have e2:(arr.toList.drop base)[j]?=some y:=by rw[yh,qz];exact ey
  obtain⟨l1,e1⟩:=qq.mp e1;obtain⟨l2,e2⟩:=qq.mp e2;have:=zE.mp hs i j l1 l2 hij;rw[e1,e2]at this;exact this
 refine Zay (λi=>match arr[base+i]? with | some x=>!decide (rk key<rk x) | none=>false) hh (λi j hij hj h=>?_) (λi hi F hF=>?_) λr h1 h2 h3=>k r h1 (λi x hi ex=>?_) λi x hi hn ex=>?_
 ·obtain⟨x,ex⟩:=hx i (by omega)
  obtain⟨y,ey⟩:=hx j hj;simp only[ex,ey]at h⊢;have:=le i j x y hij hj ex ey;simp only[qaw,decide_eq_false_iff_not]at h⊢;omega
 ·obtain⟨x,ex⟩:=hx i hi
  unfold Bd;refine wpS_bind (YK ex ?_);simp only[qR,if_false];refine wpS_bind (C key x hkey (hin x (zm.mpr (zr ex))) st _ hk ?_);refine wpS_pure ?_;simp only[ex]at hF;exact hF
 ·have:=h2 i hi
  simp only[ex,qaw,decide_eq_false_iff_not]at this;omega
 ·have:=h3 i hi hn
  simp only[ex,qb2,decide_eq_true_eq]at this;exact this
theorem Zhl {key:Keyed}{arr:Array Keyed}{base n hint:Nat}{st:SortSt}{Q:Option Nat->SortSt->Prop}(C:WB M A E s rk κ In)(hk:kindOf st=κ)(hkey:In key)(hin:∀x∈arr.toList,In x)(hs:SL rk (arr.toList.drop base))(hb:base+n<=arr.size)(hh:hint<n)
  (k:∀r,r<=n->(∀i x,i<r->arr[base+i]?=some x->rk x<rk key)->(∀i x,r<=i->i<n->arr[base+i]?=some x->rk key<=rk x)->Q (some r) st):wpS M A E s (Bc true key arr base n hint) Q st:=by
 have hx:∀i,i<n->∃x,arr[base+i]?=some x:=λi hi=>⟨arr[base+i]'(by omega),qe (by omega)⟩;have le:∀i j x y,i<j->j<n->arr[base+i]?=some x->arr[base+j]?=some y->rk x<=rk y:=λi j x y hij hj ex ey=>by
  have e1:(arr.toList.drop base)[i]?=some x:=by rw[yh,qz];exact ex
  have e2:(arr.toList.drop base)[j]?=some y:=by rw[yh,qz];exact ey
  obtain⟨l1,e1⟩:=qq.mp e1;obtain⟨l2,e2⟩:=qq.mp e2;have:=zE.mp hs i j l1 l2 hij;rw[e1,e2]at this;exact this
 refine Zay (λi=>match arr[base+i]? with | some x=>decide (rk x<rk key) | none=>false) hh (λi j hij hj h=>?_) (λi hi F hF=>?_) λr h1 h2 h3=>k r h1 (λi x hi ex=>?_) λi x hi hn ex=>?_
 ·obtain⟨x,ex⟩:=hx i (by omega)
  obtain⟨y,ey⟩:=hx j hj;simp only[ex,ey]at h⊢;have:=le i j x y hij hj ex ey;simp only[decide_eq_true_eq]at h⊢;omega
 ·obtain⟨x,ex⟩:=hx i hi
  unfold Bd;refine wpS_bind (YK ex ?_);simp only[if_true];refine C x key (hin x (zm.mpr (zr ex))) hkey st _ hk ?_;simp only[ex]at hF;exact hF
 ·have:=h2 i hi
  simp only[ex,decide_eq_true_eq]at this;exact this
 ·have:=h3 i hi hn
  simp only[ex,decide_eq_false_iff_not]at this;omega
theorem Zmy {b:Array Keyed}{ib k:Nat}{v:Int}(h:∀i x,k<=i->i<b.size-ib->b[ib+i]?=some x->v<=rk x):∀y∈b.toList.drop (ib+k),v<=rk y:=λy hy=>by
 obtain⟨j,hj⟩:=zH.mp hy;rw[yh,qz]at hj;have hl:ib+k+j<b.size:=(zO.mp hj).1;exact h (k+j) y (by omega) (by omega) (by rw[<-hj];congr 1;omega)
set_option hygiene false in
local macro_rules | `(tactic| walk_at "loEnd")=>`(tactic| (
  refine wpS_bind (YK hax ?_);have J5:=J4.pushA ha hax hge;by_cases d3:(ia2+1+1==a.size)=true
  ·rw[if_pos d3]
   exact wpS_pure ⟨hsim,.inl ⟨_,_,_,_,_,_,_,rfl,J5.last ha hb (by simpa using d3) ZV⟩⟩
  ·rw[if_neg d3]
   have d3':ia2+1+1≠a.size:=by simpa using d3
   split
   ·exact wpS_pure ⟨hsim,.inr ⟨_,_,_,_,_,_,rfl,J5,by omega,by omega,by omega⟩⟩
   ·exact wpS_pure ⟨hsim,_,_,_,_,_,_,rfl,J5,by omega,by omega,by omega⟩))
set_option hygiene false in
local macro_rules | `(tactic| walk_at "loTail")=>`(tactic| (
  refine wpS_bind (YK hbx ?_);have J3:=J2.pushB hb hbx hgt;by_cases d1:(ib+1==b.size)=true
  ·rw[if_pos d1]
   exact wpS_pure ⟨hsim,.inl ⟨_,_,_,_,_,_,_,rfl,J3.done ha hb (.inl (by simpa using d1))⟩⟩
  ·rw[if_neg d1]
   have d1':ib+1≠b.size:=by simpa using d1
   have hax:=qe (xs:=a) (i:=ia2) (by omega);refine wpS_bind (YK hax ?_);refine wpS_bind (Zhl C hk2 (hia _ (zm.mpr (zr hax))) hib (hb.drop _) (by omega) (by omega) λk1 g1 g2 g3=>?_);have hge:=Zmy (ib:=ib+1) (k:=k1) g3;dsimp only;by_cases e1:k1 > 0
   ·rw[if_pos e1]
    have J4:=Jm.bulkB hb k1 J3 (by omega) λi x hi hx y hy=>qaJ (yT (g2 i x hi hx)) (ha.head (WO hax) y hy);by_cases d2:(ib+1+k1==b.size)=true
    ·rw[if_pos d2]
     exact wpS_pure ⟨hsim,.inl ⟨_,_,_,_,_,_,_,rfl,J4.done ha hb (.inl (by simpa using d2))⟩⟩
    ·rw[if_neg d2]
     have d2':ib+1+k1≠b.size:=by simpa using d2
     walk_at "loEnd"
   ·rw[if_neg e1]
    have z:k1=0:=by omega
    subst z;have J4:=J3;have d2':ib+1+0≠b.size:=d1'
    walk_at "loEnd"))
set_option hygiene false in
local macro_rules | `(tactic| walk_at "loHead")=>`(tactic| (
  refine wpS_bind (wpS_modify ?_);have hsim:=hsim0.setG gm;have hbx:=qe (xs:=b) (i:=ib) (by omega);refine wpS_bind (YK hbx ?_);have hk2:kindOf (setG jV gm)=κ:=hsim.kind.trans hk;refine wpS_bind (Zfa C hk2 (hib _ (zm.mpr (zr hbx))) hia (ha.drop _) (by omega) (by omega) λk0 f1 f2 f3=>?_);dsimp only;have hgt0:=Zmy (b:=a) (ib:=ia) (k:=k0) (v:=rk b[ib]) λi x h1 h2 h3=>yT (f3 i x h1 h2 h3);by_cases e0:k0 > 0
  ·rw[if_pos e0]
   have J2:=Jm.bulkA ha k0 J (by omega) λi x hi hx y hy=>qaJ (f2 i x hi hx) (hb.head (WO hbx) y hy);by_cases d4:(ia+k0+1==a.size)=true
   ·rw[if_pos d4]
    exact wpS_pure ⟨hsim,.inl ⟨_,_,_,_,_,_,_,rfl,J2.last ha hb (by simpa using d4) ZV⟩⟩
   ·rw[if_neg d4]
    have d4':ia+k0+1≠a.size:=by simpa using d4
    by_cases d5:(ia+k0==a.size)=true
    ·rw[if_pos d5]
     exact wpS_pure ⟨hsim,.inl ⟨_,_,_,_,_,_,_,rfl,J2.done ha hb (.inr (by simpa using d5))⟩⟩
    ·rw[if_neg d5]
     have d5':ia+k0≠a.size:=by simpa using d5
     have hgt:=hgt0;have i1:ia+k0+1<a.size:=by omega
     have i2:ia<=ia+k0:=by omega
     generalize ia+k0=ia2 at J2 hgt i1 i2⊢
     walk_at "loTail"
  ·rw[if_neg e0]
   have z0:k0=0:=by omega
   subst z0;have J2:=J;have hgt:∀y∈a.toList.drop ia,rk b[ib]<=rk y:=hgt0;have i1:ia+1<a.size:=l1;have i2:ia<=ia:=qk _;generalize e2:ia=ia2 at J2 hgt i1⊢;rw[e2]at i2
   walk_at "loTail"))
theorem Zgj {a b:Array Keyed}{st:SortSt}{Q:Array Keyed->SortSt->Prop}(C:WB M A E s rk κ In)(hk:kindOf st=κ)(hia:∀x∈a.toList,In x)(hib:∀x∈b.toList,In x)(ha:SL rk a.toList)(hb:SL rk b.toList)(a0:0<a.size)(b0:0<b.size)
  (first:∀x,b[0]?=some x->∀y∈a.toList,rk x<=rk y) (ZV:∀y∈b.toList,∀x,a[a.size-1]?=some x->rk y<=rk x)
  (k:∀r st',Mg rk a b r->Sim st st'->Q r st'):wpS M A E s (Zkm a b) Q st:=by
 refine wpS_bind (wpS_lift (wpAny_rule ⟨rfl,?_⟩));have hb0:=qe b0;refine wpS_bind (YK hb0 ?_);have J0:Jm rk a b #[b[0]] 0 1:=by
  have e:Jm rk a b #[] 0 0:=⟨zR _,zR _,by simp,yC,λx hx=>by simp at hx,λx hx=>by simp at hx⟩;exact e.pushB hb hb0 λy hy=>first _ hb0 y (by simpa using hy)
 dsimp only;by_cases c1:(1==b.size)=true
 ·rw[if_pos c1]
  have:1=b.size:=by simpa using c1
  exact wpS_pure (k _ _ (J0.done ha hb (.inl this)) (Sim.refl st))
 ·rw[if_neg c1]
  by_cases c2:(0+1==a.size)=true
  ·rw[if_pos c2]
   have:0+1=a.size:=by simpa using c2
   exact wpS_pure (k _ _ (J0.last ha hb this ZV) (Sim.refl st))
  ·rw[if_neg c2]
   refine wpS_bind (wpS_get ?_);have c1':1≠b.size:=by simpa using c1
   have c2':0+1≠a.size:=by simpa using c2
   refine wpS_bind (wpS_mono (wpS_forRange (I:=λy c st'=>Sim st st'/\∃out ia ib g,c=(none,out,ia,ib,g)/\Jm rk a b out ia ib/\ia+1<a.size/\ib<b.size/\y<=ia+ib)
    (Q:=λc st'=>Sim st st'/\∃r out ia ib g,c=(some r,out,ia,ib,g)/\Mg rk a b r) ?step ?fin ⟨Sim.refl st,_,_,_,_,rfl,J0,by omega,by omega,by omega⟩) ?post)
   case post=>
    rintro c st' ⟨h1,r,out,ia,ib,g,rfl,h2⟩;exact wpS_pure (k r st' h2 h1)
   case fin=>
    rintro c st' ⟨h1,out,ia,ib,g,rfl,J,l1,l2,h3⟩;omega
   case step=>
    rintro y c j8 _ hy ⟨hs1,out,ia,ib,g,rfl,J,l1,l2,h3⟩;dsimp only;refine wpS_bind (wpS_mono (wpS_forRange (I:=λx c st'=>st'=j8/\∃o2 i2 j2 p q,c=(none,o2,i2,j2,p,q)/\Jm rk a b o2 i2 j2/\i2+1<a.size/\j2<b.size/\ia+ib+x<=i2+j2)
     (Q:=λc st'=>st'=j8/\((∃r o2 i2 j2 p q,c=(some r,o2,i2,j2,p,q)/\Mg rk a b r)∨∃o2 i2 j2 p q,c=(none,o2,i2,j2,p,q)/\Jm rk a b o2 i2 j2/\i2+1<a.size/\j2<b.size/\ia+ib+1<=i2+j2)) ?step1 ?fin1 ⟨rfl,_,_,_,_,_,rfl,J,l1,l2,by omega⟩) ?post1)
    case fin1=>
     rintro c st' ⟨rfl,o2,i2,j2,p,q,rfl,J2,m1,m2,m3⟩;omega
    case step1=>
     rintro x c st' _ hx ⟨rfl,o2,i2,j2,p,q,rfl,J2,m1,m2,m3⟩;dsimp only;have hbx:=qe (xs:=b) (i:=j2) m2;have hax:=qe (xs:=a) (i:=i2) (by omega);refine wpS_bind (YK hbx (wpS_bind (YK hax ?_)));refine wpS_bind (C _ _ (hib _ (zm.mpr (zr hbx))) (hia _ (zm.mpr (zr hax))) _ _ (hs1.kind.trans hk) ?_);dsimp only;by_cases w:rk b[j2]<rk a[i2]
     ·rw[if_pos (decide_eq_true w)]
      refine wpS_bind (YK hbx ?_);have J3:=J2.pushB hb hbx λy hy=>qaJ (yT w) (ha.head (WO hax) y hy);by_cases d:(j2+1==b.size)=true
      ·rw[if_pos d]
       exact wpS_pure ⟨rfl,.inl ⟨_,_,_,_,_,_,rfl,J3.done ha hb (.inl (by simpa using d))⟩⟩
      ·rw[if_neg d]
       have d':j2+1≠b.size:=by simpa using d
       split
       ·exact wpS_pure ⟨rfl,.inr ⟨_,_,_,_,_,rfl,J3,m1,by omega,by omega⟩⟩
       ·exact wpS_pure ⟨rfl,_,_,_,_,_,rfl,J3,m1,by omega,by omega⟩
     ·rw[if_neg (by simpa using w)]
      refine wpS_bind (YK hax ?_);have J3:=J2.pushA ha hax λy hy=>qaJ (Int.not_lt.mp w) (hb.head (WO hbx) y hy);by_cases d:(i2+1+1==a.size)=true
      ·rw[if_pos d]
       exact wpS_pure ⟨rfl,.inl ⟨_,_,_,_,_,_,rfl,J3.last ha hb (by simpa using d) ZV⟩⟩
      ·rw[if_neg d]
       have d':i2+1+1≠a.size:=by simpa using d
       split
       ·exact wpS_pure ⟨rfl,.inr ⟨_,_,_,_,_,rfl,J3,by omega,m2,by omega⟩⟩
       ·exact wpS_pure ⟨rfl,_,_,_,_,_,rfl,J3,by omega,m2,by omega⟩
    case post1=>
     rintro c st' ⟨rfl,h | h⟩
     ·obtain⟨r,o2,i2,j2,p,q,rfl,h⟩:=h
      exact wpS_pure ⟨hs1,_,_,_,_,_,rfl,h⟩
     ·obtain⟨o2,i2,j2,p,q,rfl,J2,m1,m2,m3⟩:=h
      dsimp only;refine wpS_bind (wpS_lift (wpAny_rule ⟨rfl,?_⟩));refine wpS_bind (wpS_mono (wpS_forRange (I:=λx c jV=>Sim st jV/\∃o3 i3 j3 g p q,c=(none,o3,i3,j3,g,p,q)/\Jm rk a b o3 i3 j3/\i3+1<a.size/\j3<b.size/\i2+j2+x<=i3+j3)
       (Q:=λc jV=>Sim st jV/\((∃r o3 i3 j3 g p q,c=(some r,o3,i3,j3,g,p,q)/\Mg rk a b r)∨∃o3 i3 j3 g p q,c=(none,o3,i3,j3,g,p,q)/\Jm rk a b o3 i3 j3/\i3+1<a.size/\j3<b.size/\i2+j2<=i3+j3)) ?step2 ?fin2 ⟨hs1,_,_,_,_,_,_,rfl,J2,m1,m2,by omega⟩) ?post2)
      case fin2=>
       rintro c jV ⟨h1,o3,i3,j3,g,p,q,rfl,J3,n1,n2,n3⟩;omega
      case post2=>
       rintro c jV ⟨h1,h | h⟩
       ·obtain⟨r,o3,i3,j3,g,p,q,rfl,h⟩:=h
        exact wpS_pure ⟨h1,_,_,_,_,_,rfl,h⟩
       ·obtain⟨o3,i3,j3,g,p,q,rfl,J3,n1,n2,n3⟩:=h
        dsimp only;exact wpS_bind (wpS_modify (wpS_pure ⟨h1.setG _,_,_,_,_,rfl,J3,n1,n2,by omega⟩))
      case step2=>
       clear J l1 l2 h3 J2 m1 m2;rintro x c jV _ hx ⟨hsim0,out,ia,ib,g,p,q,rfl,J,l1,l2,n3⟩;dsimp only;refine' (λ(key:∀gm:Nat,(_:Nat->Prop) gm)=>?m1) ?m2
       case m1=>
        by_cases g1:g > 1
        ·rw[if_pos g1]
         generalize g-1=gm;exact key gm
        ·rw[if_neg g1]
         generalize g=gm;exact key gm
       case m2=>
        intro gm
        walk_at "loHead"
end
section
variable (rk:Keyed->Int)
structure Jh (a b out:Array Keyed)(na nb:Nat):Prop where
 la:na<=a.size
 lb:nb<=b.size
 pm:out.toList.Perm (a.toList.drop na++b.toList.drop nb)
 so:out.toList.Pairwise λx y=>rk y<=rk x
 ga:∀x∈out.toList,∀y∈a.toList.take na,rk y<=rk x
 gb:∀x∈out.toList,∀y∈b.toList.take nb,rk y<=rk x
variable {rk}{a b out:Array Keyed}{na nb:Nat}
theorem SL.last {l:List Keyed}(h:SL rk l){i:Nat}{x:Keyed}(hx:l[i]?=some x):∀y∈l.take (i+1),rk y<=rk x:=λy hy=>by
 have:=h.sublist (yB (i+1) l);rw[Vt hx]at this hy;rcases qO.mp hy with hy | hy
 ·exact(qN.mp this).2.2 y hy x (by simp)
 ·rw[qU.mp hy];exact y4 _
theorem Jh.pushB (h:Jh rk a b out na (nb+1))(hb:SL rk b.toList){x:Keyed}(hx:b[nb]?=some x)(hle:∀y∈a.toList.take na,rk y<=rk x):Jh rk a b (out.push x) na nb:=by
 have hx':=WO hx;have hd:=hb.last hx';refine⟨h.la,by have:=h.lb;omega,?_,?_,λo ho y hy=>?_,λo ho y hy=>?_⟩
 ·rw[zi,Vs hx']
  refine(h.pm.append_right _).trans ?_;rw[qK];exact qbJ _ yH
 ·rw[zi]
  refine qN.mpr ⟨h.so,yu _ _,λo ho y hy=>?_⟩;rw[qU.mp hy];exact h.gb o ho x (by rw[Vt hx'];simp)
 ·rw[zi]at ho
  rcases qO.mp ho with ho | ho
  ·exact h.ga o ho y hy
  ·rw[qU.mp ho];exact hle y hy
 ·rw[zi]at ho
  have hy':y∈b.toList.take (nb+1):=by rw[Vt hx'];exact qax _ hy
  rcases qO.mp ho with ho | ho
  ·exact h.gb o ho y hy'
  ·rw[qU.mp ho];exact hd y hy'
theorem Jh.pushA (h:Jh rk a b out (na+1) nb)(ha:SL rk a.toList){x:Keyed}(hx:a[na]?=some x)(hle:∀y∈b.toList.take nb,rk y<=rk x):Jh rk a b (out.push x) na nb:=by
 have hx':=WO hx;have hd:=ha.last hx';refine⟨by have:=h.la;omega,h.lb,?_,?_,λo ho y hy=>?_,λo ho y hy=>?_⟩
 ·rw[zi,Vs hx']
  refine(h.pm.append_right _).trans ?_;exact yH
 ·rw[zi]
  refine qN.mpr ⟨h.so,yu _ _,λo ho y hy=>?_⟩;rw[qU.mp hy];exact h.ga o ho x (by rw[Vt hx'];simp)
 ·rw[zi]at ho
  have hy':y∈a.toList.take (na+1):=by rw[Vt hx'];exact qax _ hy
  rcases qO.mp ho with ho | ho
  ·exact h.ga o ho y hy'
  ·rw[qU.mp ho];exact hd y hy'
 ·rw[zi]at ho
  rcases qO.mp ho with ho | ho
  ·exact h.gb o ho y hy
  ·rw[qU.mp ho];exact hle y hy
theorem Zfb {xs:Array Keyed}{i n:Nat}(h:i<n)(hn:n<=xs.size)(out:Array Keyed):out++(xs.extract i n).reverse=(out++(xs.extract (i+1) n).reverse).push (xs[i]'(by omega)):=by
 apply Array.ext';simp only[zb,qaB,qab,zi,yG,qK];congr 1;have hg:xs.toList[i]?=some (xs[i]'(by omega)):=WO (qe (by omega));rw[Vs hg,show n-i=(n-(i+1))+1 by omega,List.take_succ_cons,List.reverse_cons]
theorem Jh.bulkA (ha:SL rk a.toList){n:Nat}:∀(k:Nat),k<=n->n<=a.size->Jh rk a b out n nb->(∀i x,n-k<=i->i<n->a[i]?=some x->∀y∈b.toList.take nb,rk y<=rk x)->Jh rk a b (out++(a.extract (n-k) n).reverse) (n-k) nb
 | 0,_,hn,h,_=>by
  have:out++(a.extract (n-0) n).reverse=out:=by simp;omega
  rw[this,qco];exact h
 | k+1,hk,hn,h,hle=>by
  have ih:=Jh.bulkA ha k (by omega) hn h λi x h1=>hle i x (by omega);have e:n-k=n-(k+1)+1:=by omega
  rw[Zfb (by omega) hn,<-e];rw[e]at ih;have:=ih.pushA ha (qe (by omega)) (hle _ _ (by omega) (by omega) (qe (by omega)));rw[<-e]at this;exact this
theorem Jh.bulkB (hb:SL rk b.toList){n:Nat}:∀(k:Nat),k<=n->n<=b.size->Jh rk a b out na n->(∀i x,n-k<=i->i<n->b[i]?=some x->∀y∈a.toList.take na,rk y<=rk x)->Jh rk a b (out++(b.extract (n-k) n).reverse) na (n-k)
 | 0,_,hn,h,_=>by
  have:out++(b.extract (n-0) n).reverse=out:=by simp;omega
  rw[this,qco];exact h
 | k+1,hk,hn,h,hle=>by
  have ih:=Jh.bulkB hb k (by omega) hn h λi x h1=>hle i x (by omega);have e:n-k=n-(k+1)+1:=by omega
  rw[Zfb (by omega) hn,<-e];rw[e]at ih;have:=ih.pushB hb (qe (by omega)) (hle _ _ (by omega) (by omega) (qe (by omega)));rw[<-e]at this;exact this
theorem VQ (xs:Array Keyed)(i:Nat):(xs.extract 0 i).toList=xs.toList.take i:=by
 rw[qab,yG,qbt,qco]
theorem Jh.perm (h:Jh rk a b out na nb):(a.toList.take na++b.toList.take nb++out.toList.reverse).Perm (a.toList++b.toList):=by
 refine((List.reverse_perm _).trans h.pm).append_left _ |>.trans ?_;rw[qK];have:(b.toList.take nb++(a.toList.drop na++b.toList.drop nb)).Perm (a.toList.drop na++(b.toList.take nb++b.toList.drop nb)):=by
  rw[<-qK,<-qK];exact yH.append_right _
 refine(this.append_left _).trans ?_;rw[zo,<-qK,zo]
theorem Jh.rev (h:Jh rk a b out na nb):SL rk out.toList.reverse:=qcE.mpr h.so
theorem Jh.done (h:Jh rk a b out na nb)(ha:SL rk a.toList)(hb:SL rk b.toList)(e:na=0∨nb=0):Mg rk a b (a.extract 0 na++b.extract 0 nb++out.reverse):=by
 refine⟨?_,?_⟩
 ·rw[zb,zb,VQ,VQ,qaB]
  exact h.perm
 ·rw[SL,zb,zb,VQ,VQ,qaB]
  rcases e with e | e
  ·rw[e,List.take_zero,qap]
   exact qN.mpr ⟨hb.sublist (yB _ _),h.rev,λx hx y hy=>h.gb y (qa8.mp hy) x hx⟩
  ·rw[e,List.take_zero,zB]
   exact qN.mpr ⟨ha.sublist (yB _ _),h.rev,λx hx y hy=>h.ga y (qa8.mp hy) x hx⟩
theorem Jh.first (h:Jh rk a b out na 1)(ha:SL rk a.toList)(bot:∀x,b[0]?=some x->∀y∈a.toList,rk x<=rk y):Mg rk a b (b.extract 0 1++a.extract 0 na++out.reverse):=by
 refine⟨?_,?_⟩
 ·rw[zb,zb,VQ,VQ,qaB]
  exact(yH.append_right _).trans h.perm
 ·rw[SL,zb,zb,VQ,VQ,qaB]
  refine qN.mpr ⟨qN.mpr ⟨?_,ha.sublist (yB _ _),λx hx y hy=>?_⟩,h.rev,λx hx y hy=>?_⟩
  ·have hl:=qcV 1 b.toList
   cases e:b.toList.take 1 with
   | nil=>exact yC
   | cons z l=>
    rw[e]at hl;have:l=[]:=by simpa using hl
    rw[this];exact yu _ _
  ·have hb0:0<b.size:=h.lb
   have z:b.toList.take 1=[b[0]]:=by
    have:=Vt (l:=b.toList) (i:=0) (WO (qe hb0));simpa using this
   rw[z]at hx;rw[qU.mp hx];exact bot _ (qe hb0) y (qaC hy)
  ·rcases qO.mp hx with hx | hx
   ·exact h.gb y (qa8.mp hy) x hx
   ·exact h.ga y (qa8.mp hy) x hx
end
section
variable {M:Model}{A:xD}{E:xE}{s:Shared}{rk:Keyed->Int}{κ:SortKind}{In:Keyed->Prop}
theorem Zmz {b:Array Keyed}{k:Nat}{v:Int}(h:∀i x,i<k->b[0+i]?=some x->rk x<=v):∀y∈b.toList.take k,rk y<=v:=λy hy=>by
 obtain⟨j,hj⟩:=zH.mp hy;have hl:=(qq.mp hj).1;rw[qV]at hl;rw[zX (by omega),qz]at hj;exact h j y (by omega) (by rw[yS];exact hj)
theorem Jh.pushA' {a b out:Array Keyed}{na nb:Nat}(h:Jh rk a b out na nb)(hn:0<na)(ha:SL rk a.toList){x:Keyed}(hx:a[na-1]?=some x)(hle:∀y∈b.toList.take nb,rk y<=rk x):Jh rk a b (out.push x) (na-1) nb:=by
 obtain⟨m,rfl⟩:∃m,na=m+1:=⟨na-1,by omega⟩;exact h.pushA ha hx hle
theorem Jh.pushB' {a b out:Array Keyed}{na nb:Nat}(h:Jh rk a b out na nb)(hn:0<nb)(hb:SL rk b.toList){x:Keyed}(hx:b[nb-1]?=some x)(hle:∀y∈a.toList.take na,rk y<=rk x):Jh rk a b (out.push x) na (nb-1):=by
 obtain⟨m,rfl⟩:∃m,nb=m+1:=⟨nb-1,by omega⟩;exact h.pushB hb hx hle
theorem Jh.cutA {a b out:Array Keyed}{na nb t:Nat}(h:Jh rk a b out na nb)(ht:t<=na)(ha:SL rk a.toList)(hle:∀i x,t<=i->i<na->a[i]?=some x->∀y∈b.toList.take nb,rk y<=rk x):Jh rk a b (out++(a.extract t na).reverse) t nb:=by
 have:=Jh.bulkA ha (na-t) (by omega) h.la h (by rw[show na-(na-t)=t by omega];exact hle);rw[show na-(na-t)=t by omega]at this;exact this
theorem Jh.cutB {a b out:Array Keyed}{na nb t:Nat}(h:Jh rk a b out na nb)(ht:t<=nb)(hb:SL rk b.toList)(hle:∀i x,t<=i->i<nb->b[i]?=some x->∀y∈a.toList.take na,rk y<=rk x):Jh rk a b (out++(b.extract t nb).reverse) na t:=by
 have:=Jh.bulkB hb (nb-t) (by omega) h.lb h (by rw[show nb-(nb-t)=t by omega];exact hle);rw[show nb-(nb-t)=t by omega]at this;exact this
theorem Jh.first' {a b out:Array Keyed}{na nb:Nat}(h:Jh rk a b out na nb)(e:nb=1)(ha:SL rk a.toList)(bot:∀x,b[0]?=some x->∀y∈a.toList,rk x<=rk y):Mg rk a b (b.extract 0 nb++a.extract 0 na++out.reverse):=by
 subst e;exact h.first ha bot
theorem Zhm {l:Array Keyed}(h:SL rk l.toList){n:Nat}(hn:0<n){x:Keyed}(hx:l[n-1]?=some x):∀y∈l.toList.take n,rk y<=rk x:=by
 have:=h.last (WO hx);rw[show n-1+1=n by omega]at this;exact this
set_option hygiene false in
local macro_rules | `(tactic| walk_at "hiEnd")=>`(tactic| (
  refine wpS_bind (YK hax ?_);have J5:=J4.pushA' i1 ha hax hge;by_cases d3:(na2-1==0)=true
  ·rw[if_pos d3]
   exact wpS_pure ⟨hsim,.inl ⟨_,_,_,_,_,_,_,rfl,J5.done ha hb (.inl (by simpa using d3))⟩⟩
  ·rw[if_neg d3]
   have d3':na2-1≠0:=by simpa using d3
   split
   ·exact wpS_pure ⟨hsim,.inr ⟨_,_,_,_,_,_,rfl,J5,by omega,by omega,by omega⟩⟩
   ·exact wpS_pure ⟨hsim,_,_,_,_,_,_,rfl,J5,by omega,by omega,by omega⟩))
set_option hygiene false in
local macro_rules | `(tactic| walk_at "hiTail")=>`(tactic| (
  refine wpS_bind (YK hbx ?_);have J3:=J2.pushB' (by omega) hb hbx hgt;by_cases d1:(nb-1==1)=true
  ·rw[if_pos d1]
   exact wpS_pure ⟨hsim,.inl ⟨_,_,_,_,_,_,_,rfl,J3.first' (by simpa using d1) ha first⟩⟩
  ·rw[if_neg d1]
   have d1':nb-1≠1:=by simpa using d1
   have hla:=J2.la;have hax:=qe (xs:=a) (i:=na2-1) (by omega);refine wpS_bind (YK hax ?_);refine wpS_bind (Zhl C hk2 (hia _ (zm.mpr (zr hax))) hib (hb.drop _) (by omega) (by omega) λt1 g1 g2 g3=>?_);have hge:=Zmz (b:=b) (k:=t1) λi x h1 h2=>yT (g2 i x h1 h2);have hmax:=Zhm ha i1 hax;dsimp only;by_cases e1:nb-1-t1 > 0
   ·rw[if_pos e1]
    have J4:=J3.cutB g1 hb λi x h1 h2 hx y hy=>qaJ (hmax y hy) (g3 i x h1 h2 (by rw[yS];exact hx));by_cases d2:(t1==1)=true
    ·rw[if_pos d2]
     exact wpS_pure ⟨hsim,.inl ⟨_,_,_,_,_,_,_,rfl,J4.first' (by simpa using d2) ha first⟩⟩
    ·rw[if_neg d2]
     have d2':t1≠1:=by simpa using d2
     by_cases d6:(t1==0)=true
     ·rw[if_pos d6]
      exact wpS_pure ⟨hsim,.inl ⟨_,_,_,_,_,_,_,rfl,J4.done ha hb (.inr (by simpa using d6))⟩⟩
     ·rw[if_neg d6]
      have d6':t1≠0:=by simpa using d6
      walk_at "hiEnd"
   ·rw[if_neg e1]
    have z:t1=nb-1:=by omega
    subst z;have J4:=J3
    walk_at "hiEnd"))
set_option hygiene false in
local macro_rules | `(tactic| walk_at "hiHead")=>`(tactic| (
  refine wpS_bind (wpS_modify ?_);have hsim:=hsim0.setG gm;have hlb:=J.lb;have hla0:=J.la;have hbx:=qe (xs:=b) (i:=nb-1) (by omega);refine wpS_bind (YK hbx ?_);have hk2:kindOf (setG jV gm)=κ:=hsim.kind.trans hk;refine wpS_bind (Zfa C hk2 (hib _ (zm.mpr (zr hbx))) hia (ha.drop _) (by omega) (by omega) λt0 f1 f2 f3=>?_);dsimp only;have hgt0:=Zmz (b:=a) (k:=t0) λi x h1 h2=>f2 i x h1 h2;have hbm:=Zhm hb (by omega:0<nb) hbx;by_cases e0:na-t0 > 0
  ·rw[if_pos e0]
   have J2:=J.cutA f1 ha λi x h1 h2 hx y hy=>qaJ (hbm y hy) (yT (f3 i x h1 h2 (by rw[yS];exact hx)));by_cases d4:(t0==0)=true
   ·rw[if_pos d4]
    exact wpS_pure ⟨hsim,.inl ⟨_,_,_,_,_,_,_,rfl,J2.done ha hb (.inl (by simpa using d4))⟩⟩
   ·rw[if_neg d4]
    have d4':t0≠0:=by simpa using d4
    have hgt:=hgt0;have i1:0<t0:=by omega
    have i2:t0<=na:=f1;generalize t0=na2 at J2 hgt i1 i2⊢
    walk_at "hiTail"
  ·rw[if_neg e0]
   have z0:t0=na:=by omega
   subst z0;have J2:=J;have hgt:=hgt0;have i1:0<t0:=l1;have i2:t0<=t0:=qk _;generalize e2:t0=na2 at J2 hgt i1⊢;rw[e2]at i2
   walk_at "hiTail"))
theorem Zgk {a b:Array Keyed}{st:SortSt}{Q:Array Keyed->SortSt->Prop}(C:WB M A E s rk κ In)(hk:kindOf st=κ)(hia:∀x∈a.toList,In x)(hib:∀x∈b.toList,In x)(ha:SL rk a.toList)(hb:SL rk b.toList)(a0:0<a.size)(b0:0<b.size)
  (first:∀x,b[0]?=some x->∀y∈a.toList,rk x<=rk y) (ZV:∀y∈b.toList,∀x,a[a.size-1]?=some x->rk y<=rk x)
  (k:∀r st',Mg rk a b r->Sim st st'->Q r st'):wpS M A E s (Zkn a b) Q st:=by
 refine wpS_bind (wpS_lift (wpAny_rule ⟨rfl,?_⟩));have hal:a[a.size-1]?=some (a[a.size-1]'(by omega)):=qe (by omega);dsimp only;refine wpS_bind (YK hal ?_);have J0:Jh rk a b #[a[a.size-1]'(by omega)] (a.size-1) b.size:=by
  have e:Jh rk a b #[] (a.size-1+1) b.size:=⟨by omega,qk _,by
   rw[zT (by simp;omega),zT (by simp)];exact .refl _,yC,λx hx=>by simp at hx,λx hx=>by simp at hx⟩
  exact e.pushA ha hal λy hy=>ZV y (qaC hy) _ hal
 by_cases c1:(a.size-1==0)=true
 ·rw[if_pos c1]
  exact wpS_pure (k _ _ (J0.done ha hb (.inl (by simpa using c1))) (Sim.refl st))
 ·rw[if_neg c1]
  have c1':a.size-1≠0:=by simpa using c1
  by_cases c2:(b.size==1)=true
  ·rw[if_pos c2]
   have e1:b.size=1:=by simpa using c2
   have J1:=J0;rw[e1]at J1;have:=J1.first ha first;rw[e1];exact wpS_pure (k _ _ this (Sim.refl st))
  ·rw[if_neg c2]
   have c2':b.size≠1:=by simpa using c2
   refine wpS_bind (wpS_get ?_);refine wpS_bind (wpS_mono (wpS_forRange (I:=λy c st'=>Sim st st'/\∃na nb out g,c=(none,na,nb,out,g)/\Jh rk a b out na nb/\0<na/\1<nb/\na+nb+y<=a.size+b.size)
    (Q:=λc st'=>Sim st st'/\∃r na nb out g,c=(some r,na,nb,out,g)/\Mg rk a b r) ?step ?fin ⟨Sim.refl st,_,_,_,_,rfl,J0,by omega,by omega,by omega⟩) ?post)
   case post=>
    rintro c st' ⟨h1,r,na,nb,out,g,rfl,h2⟩;exact wpS_pure (k r st' h2 h1)
   case fin=>
    rintro c st' ⟨h1,na,nb,out,g,rfl,J,l1,l2,h3⟩;omega
   case step=>
    rintro y c j8 _ hy ⟨hs1,na,nb,out,g,rfl,J,l1,l2,h3⟩;dsimp only;refine wpS_bind (wpS_mono (wpS_forRange (I:=λx c st'=>st'=j8/\∃i2 j2 o2 p q,c=(none,i2,j2,o2,p,q)/\Jh rk a b o2 i2 j2/\0<i2/\1<j2/\i2+j2+x<=na+nb)
     (Q:=λc st'=>st'=j8/\((∃r i2 j2 o2 p q,c=(some r,i2,j2,o2,p,q)/\Mg rk a b r)∨∃i2 j2 o2 p q,c=(none,i2,j2,o2,p,q)/\Jh rk a b o2 i2 j2/\0<i2/\1<j2/\i2+j2+1<=na+nb)) ?step1 ?fin1 ⟨rfl,_,_,_,_,_,rfl,J,l1,l2,by omega⟩) ?post1)
    case fin1=>
     rintro c st' ⟨rfl,i2,j2,o2,p,q,rfl,J2,m1,m2,m3⟩;omega
    case step1=>
     rintro x c st' _ hx ⟨rfl,i2,j2,o2,p,q,rfl,J2,m1,m2,m3⟩;dsimp only;have hla:=J2.la;have hlb:=J2.lb;have hbx:=qe (xs:=b) (i:=j2-1) (by omega);have hax:=qe (xs:=a) (i:=i2-1) (by omega);refine wpS_bind (YK hbx (wpS_bind (YK hax ?_)));refine wpS_bind (C _ _ (hib _ (zm.mpr (zr hbx))) (hia _ (zm.mpr (zr hax))) _ _ (hs1.kind.trans hk) ?_);dsimp only;have hA:=Zhm ha m1 hax;have hB:=Zhm hb (by omega:0<j2) hbx;by_cases w:rk b[j2-1]<rk a[i2-1]
     ·rw[if_pos (decide_eq_true w)]
      refine wpS_bind (YK hax ?_);have J3:=J2.pushA' m1 ha hax λy hy=>qaJ (hB y hy) (yT w);by_cases d:(i2-1==0)=true
      ·rw[if_pos d]
       exact wpS_pure ⟨rfl,.inl ⟨_,_,_,_,_,_,rfl,J3.done ha hb (.inl (by simpa using d))⟩⟩
      ·rw[if_neg d]
       have d':i2-1≠0:=by simpa using d
       split
       ·exact wpS_pure ⟨rfl,.inr ⟨_,_,_,_,_,rfl,J3,by omega,m2,by omega⟩⟩
       ·exact wpS_pure ⟨rfl,_,_,_,_,_,rfl,J3,by omega,m2,by omega⟩
     ·rw[if_neg (by simpa using w)]
      refine wpS_bind (YK hbx ?_);have J3:=J2.pushB' (by omega) hb hbx λy hy=>qaJ (hA y hy) (Int.not_lt.mp w);by_cases d:(j2-1==1)=true
      ·rw[if_pos d]
       exact wpS_pure ⟨rfl,.inl ⟨_,_,_,_,_,_,rfl,J3.first' (by simpa using d) ha first⟩⟩
      ·rw[if_neg d]
       have d':j2-1≠1:=by simpa using d
       split
       ·exact wpS_pure ⟨rfl,.inr ⟨_,_,_,_,_,rfl,J3,m1,by omega,by omega⟩⟩
       ·exact wpS_pure ⟨rfl,_,_,_,_,_,rfl,J3,m1,by omega,by omega⟩
    case post1=>
     rintro c st' ⟨rfl,h | h⟩
     ·obtain⟨r,i2,j2,o2,p,q,rfl,h⟩:=h
      exact wpS_pure ⟨hs1,_,_,_,_,_,rfl,h⟩
     ·obtain⟨i2,j2,o2,p,q,rfl,J2,m1,m2,m3⟩:=h
      dsimp only;refine wpS_bind (wpS_lift (wpAny_rule ⟨rfl,?_⟩));refine wpS_bind (wpS_mono (wpS_forRange (I:=λx c jV=>Sim st jV/\∃i3 j3 o3 g p q,c=(none,i3,j3,o3,g,p,q)/\Jh rk a b o3 i3 j3/\0<i3/\1<j3/\i3+j3+x<=i2+j2)
       (Q:=λc jV=>Sim st jV/\((∃r i3 j3 o3 g p q,c=(some r,i3,j3,o3,g,p,q)/\Mg rk a b r)∨∃i3 j3 o3 g p q,c=(none,i3,j3,o3,g,p,q)/\Jh rk a b o3 i3 j3/\0<i3/\1<j3/\i3+j3<=i2+j2)) ?step2 ?fin2 ⟨hs1,_,_,_,_,_,_,rfl,J2,m1,m2,by omega⟩) ?post2)
      case fin2=>
       have z1:=J2.la;have z2:=J2.lb;rintro c jV ⟨h1,i3,j3,o3,g,p,q,rfl,J3,n1,n2,n3⟩;omega
      case post2=>
       rintro c jV ⟨h1,h | h⟩
       ·obtain⟨r,i3,j3,o3,g,p,q,rfl,h⟩:=h
        exact wpS_pure ⟨h1,_,_,_,_,_,rfl,h⟩
       ·obtain⟨i3,j3,o3,g,p,q,rfl,J3,n1,n2,n3⟩:=h
        dsimp only;exact wpS_bind (wpS_modify (wpS_pure ⟨h1.setG _,_,_,_,_,rfl,J3,n1,n2,by omega⟩))
      case step2=>
       clear J l1 l2 h3 J2 m1 m2 m3;rintro x c jV _ hx ⟨hsim0,na,nb,out,g,p,q,rfl,J,l1,l2,n3⟩;dsimp only;refine' (λ(key:∀gm:Nat,(_:Nat->Prop) gm)=>?m1) ?m2
       case m1=>
        by_cases g1:g > 1
        ·rw[if_pos g1]
         generalize g-1=gm;exact key gm
        ·rw[if_neg g1]
         generalize g=gm;exact key gm
       case m2=>
        intro gm
        walk_at "hiHead"
end
section
variable {M:Model}{A:xD}{E:xE}{s:Shared}{rk:Keyed->Int}{κ:SortKind}{In:Keyed->Prop}
theorem ZiD {key:Keyed}{arr:Array Keyed}{base n hint:Nat}{st:SortSt}{Q:Option Nat->SortSt->Prop}(C:WB M A E s rk κ In)(hk:kindOf st=κ)(hkey:In key)(hin:∀x∈arr.toList,In x)(le:∀i j x y,i<j->j<n->arr[base+i]?=some x->arr[base+j]?=some y->rk x<=rk y)(hb:base+n<=arr.size)(hh:hint<n)
  (k:∀r,r<=n->(∀i x,i<r->arr[base+i]?=some x->rk x<=rk key)->(∀i x,r<=i->i<n->arr[base+i]?=some x->rk key<rk x)->Q (some r) st):wpS M A E s (Bc false key arr base n hint) Q st:=by
 have hx:∀i,i<n->∃x,arr[base+i]?=some x:=λi hi=>⟨arr[base+i]'(by omega),qe (by omega)⟩;refine Zay (λi=>match arr[base+i]? with | some x=>!decide (rk key<rk x) | none=>false) hh (λi j hij hj h=>?_) (λi hi F hF=>?_) λr h1 h2 h3=>k r h1 (λi x hi ex=>?_) λi x hi hn ex=>?_
 ·obtain⟨x,ex⟩:=hx i (by omega)
  obtain⟨y,ey⟩:=hx j hj;simp only[ex,ey]at h⊢;have:=le i j x y hij hj ex ey;simp only[qaw,decide_eq_false_iff_not]at h⊢;omega
 ·obtain⟨x,ex⟩:=hx i hi
  unfold Bd;refine wpS_bind (YK ex ?_);simp only[qR,if_false];refine wpS_bind (C key x hkey (hin x (zm.mpr (zr ex))) st _ hk ?_);refine wpS_pure ?_;simp only[ex]at hF;exact hF
 ·have:=h2 i hi
  simp only[ex,qaw,decide_eq_false_iff_not]at this;omega
 ·have:=h3 i hi hn
  simp only[ex,qb2,decide_eq_true_eq]at this;exact this
theorem Zko {key:Keyed}{arr:Array Keyed}{base n hint:Nat}{st:SortSt}{Q:Option Nat->SortSt->Prop}(C:WB M A E s rk κ In)(hk:kindOf st=κ)(hkey:In key)(hin:∀x∈arr.toList,In x)(le:∀i j x y,i<j->j<n->arr[base+i]?=some x->arr[base+j]?=some y->rk x<=rk y)(hb:base+n<=arr.size)(hh:hint<n)
  (k:∀r,r<=n->(∀i x,i<r->arr[base+i]?=some x->rk x<rk key)->(∀i x,r<=i->i<n->arr[base+i]?=some x->rk key<=rk x)->Q (some r) st):wpS M A E s (Bc true key arr base n hint) Q st:=by
 have hx:∀i,i<n->∃x,arr[base+i]?=some x:=λi hi=>⟨arr[base+i]'(by omega),qe (by omega)⟩;refine Zay (λi=>match arr[base+i]? with | some x=>decide (rk x<rk key) | none=>false) hh (λi j hij hj h=>?_) (λi hi F hF=>?_) λr h1 h2 h3=>k r h1 (λi x hi ex=>?_) λi x hi hn ex=>?_
 ·obtain⟨x,ex⟩:=hx i (by omega)
  obtain⟨y,ey⟩:=hx j hj;simp only[ex,ey]at h⊢;have:=le i j x y hij hj ex ey;simp only[decide_eq_true_eq]at h⊢;omega
 ·obtain⟨x,ex⟩:=hx i hi
  unfold Bd;refine wpS_bind (YK ex ?_);simp only[if_true];refine C x key (hin x (zm.mpr (zr ex))) hkey st _ hk ?_;simp only[ex]at hF;exact hF
 ·have:=h2 i hi
  simp only[ex,decide_eq_true_eq]at this;exact this
 ·have:=h3 i hi hn
  simp only[ex,decide_eq_false_iff_not]at this;omega
theorem Znv {l:List Keyed}{p:Keyed}:∀{P:List Keyed} {x:Keyed} {R:List Keyed},l=P++x::R->l.set P.length p=P++p::R:=λe=>by
 subst e;rw[List.set_append_right _ _ (qk _),qc0];rfl
theorem Zfc:∀(ms olds P R:List Keyed) (arr:Array Keyed) (n:Nat),arr.toList=P++olds++R->olds.length=ms.length->((ms.zipIdx n).foldl (λa (p,j)=>a.setIfInBounds (P.length-n+j) p) arr).toList=P++ms++R∨P.length<n
 | [],olds,P,R,arr,n,e,hl=>by
  have:olds=[]:=yt.mp hl;subst this;exact .inl e
 | m::ms,[],P,R,arr,n,e,hl=>by cases hl
 | m::ms,o::olds,P,R,arr,n,e,hl=>by
  by_cases hn:P.length<n
  ·exact .inr hn
  ·rw[qcn,qbj]
   have e1:(arr.setIfInBounds (P.length-n+n) m).toList=(P ++ [m])++olds++R:=by
    rw[Array.toList_setIfInBounds,show P.length-n+n=P.length by omega,Znv (P:=P) (x:=o) (R:=olds++R) (by rw[e];simp)];simp
   have ih:=Zfc ms olds (P ++ [m]) R (arr.setIfInBounds (P.length-n+n) m) (n+1) e1 (by simpa using hl);rw[qJ,qbH]at ih;rw[show P.length+1-(n+1)=P.length-n by omega]at ih;refine .inl ?_;rcases ih with ih | ih
   ·simpa using ih
   ·omega
theorem ZiE {ms olds P R:List Keyed}{arr:Array Keyed}(e:arr.toList=P++olds++R)(hl:olds.length=ms.length):(ms.zipIdx.foldl (λa (p,j)=>a.setIfInBounds (P.length+j) p) arr).toList=P++ms++R:=by
 rcases Zfc ms olds P R arr 0 e hl with h | h
 ·simpa using h
 ·omega
theorem Zkp {P As T:List Keyed}{arr:Array Keyed}(e:arr.toList=P++As++T){j:Nat}(hj:j<As.length):arr[P.length+j]?=As[j]?:=by
 rw[<-qz,e,qK,zM (by omega),show P.length+j-P.length=j by omega,zw hj]
theorem SL.le {l:List Keyed}(h:SL rk l){i j:Nat}{x y:Keyed}(hij:i<j)(ex:l[i]?=some x)(ey:l[j]?=some y):rk x<=rk y:=by
 obtain⟨l1,e1⟩:=qq.mp ex;obtain⟨l2,e2⟩:=qq.mp ey;have:=zE.mp h i j l1 l2 hij;rw[e1,e2]at this;exact this
theorem ZbJ {l:List Keyed}{k:Nat}{x:Keyed}(h:x∈l.take k):∃i,i<k/\i<l.length/\l[i]?=some x:=by
 obtain⟨i,hi⟩:=zH.mp h;have hl:=(qq.mp hi).1;rw[qV]at hl;rw[zX (by omega)]at hi;exact⟨i,by omega,by omega,hi⟩
theorem ZbK {l:List Keyed}{k:Nat}{x:Keyed}(h:x∈l.drop k):∃i,k<=i/\i<l.length/\l[i]?=some x:=by
 obtain⟨i,hi⟩:=zH.mp h;have hl:=(qq.mp hi).1;rw[zN]at hl;rw[yh]at hi;exact⟨k+i,by omega,by omega,hi⟩
theorem Zgl {st:SortSt}{i p q:Nat}{P As Bs R:List Keyed}{Q:Bool->SortSt->Prop}(C:WB M A E s rk κ In)(hk:kindOf st=κ)(hf:failedOf st=none)(hin:∀x∈(arrOf st).toList,In x)
  (p1:(pendingOf st)[i]?=some (P.length,As.length,p)) (p2:(pendingOf st)[i+1]?=some (P.length+As.length,Bs.length,q)) (e:(arrOf st).toList=P++As++(Bs++R)) (hA:SL rk As) (hB:SL rk Bs) (a0:0<As.length) (b0:0<Bs.length)
  (k:∀st' Ms,(arrOf st').toList=P++Ms++R->Ms.Perm (As++Bs)->SL rk Ms->kindOf st'=κ->failedOf st'=none->pendingOf st'=((pendingOf st).setIfInBounds i (P.length,As.length+Bs.length,p)).eraseIdxIfInBounds (i+1)->Q true st'):wpS M A E s (mergeAt' i) Q st:=by
 refine wpS_bind (wpS_get ?_);rw[p1,p2];dsimp only;have hset:∀{T:SortSt} {F:PUnit->SortSt->Prop},F ⟨⟩ T->wpS M A E s (set T:StateT SortSt Sem PUnit) F st:=λ{T F} h=>by
  unfold wpS;rw[StateT.run_set];exact xb ⟨rfl,h⟩
 refine wpS_bind (hset ?_);have e':(arrOf st).toList=(P++As)++Bs++R:=by rw[e];simp
 have hPA:(P++As).length=P.length+As.length:=qJ;have atA:∀{j:Nat},j<As.length->(arrOf st)[P.length+j]?=As[j]?:=λ{j} h=>Zkp e h;have atB:∀{j:Nat},j<Bs.length->(arrOf st)[P.length+As.length+j]?=Bs[j]?:=λ{j} h=>by
  have:=Zkp e' h;rw[hPA]at this;exact this
 have hsz:(arrOf st).size=P.length+As.length+Bs.length+R.length:=by
  rw[<-qE,e];simp only[qJ];omega
 have hB0:Bs[0]?=some Bs[0]:=qI b0;have key1:(arrOf st)[P.length+As.length]?=some Bs[0]:=by
  have:=atB (j:=0) b0;rw[qbR]at this;rw[this,hB0]
 have mem:∀{j:Nat} {x:Keyed},(arrOf st)[j]?=some x->In x:=λ{j x} h=>hin x (zm.mpr (zr h));refine wpS_bind (YK key1 ?_);refine wpS_bind (ZiD (κ:=κ) (arr:=arrOf st) C hk (mem key1) hin (λi j x y hij hj ex ey=>?_) (by omega) a0 λk1 f1 f2 f3=>?_)
 ·rw[atA (by omega)]at ex
  rw[atA hj]at ey;exact hA.le hij ex ey
 have lowA:∀x∈As.take k1,rk x<=rk Bs[0]:=λx hx=>by
  obtain⟨j,h1,h2,h3⟩:=ZbJ hx;exact f2 j x h1 (by rw[atA h2];exact h3)
 have uppA:∀x∈As.drop k1,rk Bs[0]<rk x:=λx hx=>by
  obtain⟨j,h1,h2,h3⟩:=ZbK hx;exact f3 j x h1 h2 (by rw[atA h2];exact h3)
 have geB:∀y∈Bs,rk Bs[0]<=rk y:=λy hy=>hB.head hB0 y (by rw[qbt];exact hy);dsimp only;by_cases c1:(As.length-k1==0)=true
 ·rw[if_pos c1]
  have z:k1=As.length:=by
   have:As.length-k1=0:=by simpa using c1
   omega
  refine wpS_pure (k _ (As++Bs) (by show(arrOf st).toList=_;rw[e];simp) (.refl _) (qN.mpr ⟨hA,hB,λx hx y hy=>?_⟩) hk hf rfl);have h1:=lowA x (by rw[z,qa9];exact hx);have h2:=geB y hy;omega
 ·rw[if_neg c1]
  have c1':As.length-k1≠0:=by simpa using c1
  have hAl:As[As.length-1]?=some (As[As.length-1]'(by omega)):=qI (by omega);have key2:(arrOf st)[P.length+k1+(As.length-k1)-1]?=some (As[As.length-1]'(by omega)):=by
   rw[show P.length+k1+(As.length-k1)-1=P.length+(As.length-1) by omega,atA (by omega)];exact hAl
  refine wpS_bind (YK key2 ?_);refine wpS_bind (Zko (κ:=κ) (arr:=arrOf st) C hk (mem key2) hin (λi j x y hij hj ex ey=>?_) (by omega) (by omega) λn1 g1 g2 g3=>?_)
  ·rw[atB (by omega)]at ex
   rw[atB hj]at ey;exact hB.le hij ex ey
  have lowB:∀y∈Bs.take n1,rk y<=rk (As[As.length-1]'(by omega)):=λy hy=>by
   obtain⟨j,h1,h2,h3⟩:=ZbJ hy;exact yT (g2 j y h1 (by rw[atB h2];exact h3))
  have uppB:∀y∈Bs.drop n1,rk (As[As.length-1]'(by omega))<=rk y:=λy hy=>by
   obtain⟨j,h1,h2,h3⟩:=ZbK hy;exact g3 j y h1 h2 (by rw[atB h2];exact h3)
  have leA:∀x∈As,rk x<=rk (As[As.length-1]'(by omega)):=λx hx=>by
   have:=hA.last hAl;rw[show As.length-1+1=As.length by omega,qa9]at this;exact this x hx
  dsimp only;by_cases c2:(n1==0)=true
  ·rw[if_pos c2]
   have z:n1=0:=by simpa using c2
   refine wpS_pure (k _ (As++Bs) (by show(arrOf st).toList=_;rw[e];simp) (.refl _) (qN.mpr ⟨hA,hB,λx hx y hy=>?_⟩) hk hf rfl);have h1:=leA x hx;have h2:=uppB y (by rw[z,qbt];exact hy);omega
  ·rw[if_neg c2]
   have c2':n1≠0:=by simpa using c2
   have hx:((arrOf st).extract (P.length+k1) (P.length+As.length)).toList=As.drop k1:=by
    rw[qab,yG,e,qK,List.drop_append,zT (by omega),qap,show P.length+k1-P.length=k1 by omega,List.drop_append_of_le_length f1,qbU (by rw[zN];omega),zS (by rw[zN];omega)]
   have hy:((arrOf st).extract (P.length+As.length) (P.length+As.length+n1)).toList=Bs.take n1:=by
    rw[qab,yG,e',qK,List.drop_append,zT (by omega),qap,hPA,qc0,qbt,show P.length+As.length+n1-(P.length+As.length)=n1 by omega,qbU g1]
   generalize (arrOf st).extract (P.length+k1) (P.length+As.length)=X at hx⊢;generalize (arrOf st).extract (P.length+As.length) (P.length+As.length+n1)=Y at hy⊢;have sX:SL rk X.toList:=by rw[hx];exact hA.drop k1
   have sY:SL rk Y.toList:=by rw[hy];exact hB.sublist (yB _ _)
   have lX:X.size=As.length-k1:=by rw[<-qE,hx,zN]
   have lY:Y.size=n1:=by rw[<-qE,hy,qV];omega
   have inX:∀x∈X.toList,In x:=λx h=>by
    rw[hx]at h;exact hin x (by rw[e];simp[qbb h])
   have inY:∀x∈Y.toList,In x:=λx h=>by
    rw[hy]at h;exact hin x (by rw[e];simp[qaC h])
   have frst:∀x,Y[0]?=some x->∀y∈X.toList,rk x<=rk y:=λx h y hyy=>by
    rw[<-qz,hy,zX (by omega),hB0]at h
    cases h
    rw[hx]at hyy;exact yT (uppA y hyy)
   have topp:∀y∈Y.toList,∀x,X[X.size-1]?=some x->rk y<=rk x:=λy hyy x h=>by
    rw[<-qz,hx,lX,yh,show k1+(As.length-k1-1)=As.length-1 by omega,hAl]at h
    cases h
    rw[hy]at hyy;exact lowB y hyy
   have fin:∀(r:Array Keyed) (st':SortSt),Mg rk X Y r->Sim (setPending st (((pendingOf st).setIfInBounds i (P.length,As.length+Bs.length,p)).eraseIdxIfInBounds (i+1))) st'->wpS M A E s (do
     modify λs=>setArr s (r.toList.zipIdx.foldl (λa (p,j)=>a.setIfInBounds (P.length+k1+j) p) (arrOf s))
     return (failedOf (<-get)).isNone) Q st':=λr st' hm hs=>by
    refine wpS_bind (wpS_modify (wpS_bind (wpS_get (wpS_pure ?_))));have hff:failedOf st'=none:=hs.fail.trans hf;have hrl:r.toList.length=As.length-k1+n1:=by rw[hm.1.length_eq,qJ,qE,qE,lX,lY]
    have eA:(arrOf st').toList=(P++As.take k1)++(As.drop k1++Bs.take n1)++(Bs.drop n1++R):=by
     have:arrOf st'=arrOf st:=hs.arr;rw[this,e];have h1:As=As.take k1++As.drop k1:=(zo _ _).symm;have h2:Bs=Bs.take n1++Bs.drop n1:=(zo _ _).symm
     conv=>lhs;rw[h1,h2]
     simp only[qK]
    have hPl:(P++As.take k1).length=P.length+k1:=by rw[qJ,qV];omega
    have fs:=ZiE (ms:=r.toList) eA (by rw[qJ,zN,qV,hrl];omega);rw[hPl]at fs;have hfail:(failedOf st').isNone=true:=by rw[hff];rfl
    have goalq:=k (setArr st' (r.toList.zipIdx.foldl (λa (p,j)=>a.setIfInBounds (P.length+k1+j) p) (arrOf st'))) (As.take k1++r.toList++Bs.drop n1) (by
     show(r.toList.zipIdx.foldl (λa (p,j)=>a.setIfInBounds (P.length+k1+j) p) (arrOf st')).toList=_;rw[fs];simp only[qK]) ?_ ?_ (hs.kind.trans hk) hff hs.pend
    ·show Q (failedOf st').isNone _
     rw[hfail];exact goalq
    ·have pr:=hm.1
     rw[hx,hy]at pr;refine((pr.append_left _).append_right _).trans ?_;rw[<-qK,zo,qK,zo]
    ·have mr:∀z∈r.toList,(z∈As.drop k1∨z∈Bs.take n1):=λz hz=>by
      have:=hm.1.mem_iff.mp hz;rw[hx,hy]at this;exact qO.mp this
     refine qN.mpr ⟨qN.mpr ⟨hA.sublist (yB _ _),hm.2,λx h1 y h2=>?_⟩,hB.drop n1,λx h1 y h2=>?_⟩
     ·have l1:=lowA x h1
      rcases mr y h2 with h2 | h2
      ·have:=uppA y h2;omega
      ·have:=geB y (qaC h2);omega
     ·have hy2:=qbb h2
      rcases qO.mp h1 with h1 | h1
      ·have l1:=lowA x h1
       have:=geB y hy2;omega
      ·have l2:=uppB y h2
       rcases mr x h1 with h1 | h1
       ·have:=leA x (qbb h1);omega
       ·have:=lowB x h1;omega
   by_cases c3:As.length-k1<=n1
   ·rw[if_pos c3]
    refine wpS_bind (Zgj C (st:=setPending st _) hk inX inY sX sY (by omega) (by omega) frst topp λr st' hm hs=>?_);exact fin r st' hm hs
   ·rw[if_neg c3]
    refine wpS_bind (Zgk C (st:=setPending st _) hk inX inY sX sY (by omega) (by omega) frst topp λr st' hm hs=>?_);exact fin r st' hm hs
end
section
variable (rk:Keyed->Int)
noncomputable def Vk (xs:Array Keyed)(i:Nat):Int:=match xs[i]? with
 | some p=>rk p
 | none=>0
noncomputable def Up (xs:Array Keyed)(lo n:Nat):Prop:=∀i j,i<=j->j<n->Vk rk xs (lo+i)<=Vk rk xs (lo+j)
noncomputable def Dn (xs:Array Keyed)(lo n:Nat):Prop:=∀i j,i<=j->j<n->Vk rk xs (lo+j)<=Vk rk xs (lo+i)
end
structure TB (st st':SortSt)(lo:Nat):Prop where
 perm:(arrOf st').toList.Perm (arrOf st).toList
 pre:∀i,i<lo->(arrOf st')[i]?=(arrOf st)[i]?
 kind:kindOf st'=kindOf st
 pend:pendingOf st'=pendingOf st
 fail:failedOf st'=failedOf st
theorem TB.refl (st:SortSt)(lo:Nat):TB st st lo:=⟨.refl _,λ_ _=>rfl,rfl,rfl,rfl⟩
theorem TB.size {st st':SortSt}{lo:Nat}(h:TB st st' lo):(arrOf st').size=(arrOf st).size:=by
 have:=h.perm.length_eq;simpa using this
section
variable {rk:Keyed->Int}
theorem JV {xs ys:Array Keyed}{i j:Nat}(h:xs[i]?=ys[j]?):Vk rk xs i=Vk rk ys j:=by unfold Vk;rw[h]
theorem TB.bub {st st':SortSt}{lo src d:Nat}(h:TB st st' lo)(hs:src<(arrOf st').size)(hd:d<=src)(hl:lo<=src-d):TB st (setArr st' (bubble (arrOf st') src d)) lo:=by
 refine⟨(qbf.mp (bubble_perm _ _ _)).trans h.perm,λi hi=>?_,h.kind,h.pend,h.fail⟩;show(bubble (arrOf st') src d)[i]?=_;rw[getElem?_bubble hs d hd,if_neg (by omega),if_neg (by omega)];exact h.pre i hi
theorem TB.mir {st st':SortSt}{lo i j:Nat}(h:TB st st' lo)(hj:j<=(arrOf st').size)(hl:lo<=i):TB st (setArr st' (mirror (arrOf st') i j ((j-i) / 2))) lo:=by
 refine⟨(qbf.mp (mirror_perm _ _ _ _)).trans h.perm,λk hk=>?_,h.kind,h.pend,h.fail⟩;show(mirror (arrOf st') i j ((j-i) / 2))[k]?=_;rw[getElem?_mirror_all hj,if_neg (by omega)];exact h.pre k hk
theorem Zkq {xs:Array Keyed}{src d:Nat}(hs:src<xs.size)(hd:d<=src)(k:Nat):Vk rk (bubble xs src d) k=if k=src-d then Vk rk xs src else if src-d<k/\k<=src then Vk rk xs (k-1)else Vk rk xs k:=by
 have e:=getElem?_bubble hs d hd k;by_cases h1:k=src-d
 ·rw[if_pos h1]at e⊢;exact JV e
 ·rw[if_neg h1]at e⊢
  by_cases h2:src-d<k/\k<=src
  ·rw[if_pos h2]at e⊢;exact JV e
  ·rw[if_neg h2]at e⊢;exact JV e
theorem Zgm {xs:Array Keyed}{i j:Nat}(hj:j<=xs.size)(k:Nat):Vk rk (mirror xs i j ((j-i) / 2)) k=if i<=k/\k<j then Vk rk xs (i+j-1-k)else Vk rk xs k:=by
 have e:=getElem?_mirror_all (i:=i) hj k;by_cases h1:i<=k/\k<j
 ·rw[if_pos h1]at e⊢;exact JV e
 ·rw[if_neg h1]at e⊢;exact JV e
end
section
variable {M:Model}{A:xD}{E:xE}{s:Shared}{rk:Keyed->Int}{κ:SortKind}{In:Keyed->Prop}
theorem U6 {st0 st:SortSt}{lo i j:Nat}{Q:Option Bool->SortSt->Prop}(C:WB M A E s rk κ In)(hk:kindOf st0=κ)(hin:∀x∈(arrOf st0).toList,In x)(h:TB st0 st lo)(hi:i<(arrOf st0).size)(hj:j<(arrOf st0).size)
  (q:Q (some (decide (Vk rk (arrOf st) i<Vk rk (arrOf st) j))) st):wpS M A E s (ltAt' i j) Q st:=by
 have hi':i<(arrOf st).size:=by rw[h.size];exact hi
 have hj':j<(arrOf st).size:=by rw[h.size];exact hj
 have ei:=qe hi';have ej:=qe hj';have mem:∀{k:Nat} {x:Keyed},(arrOf st)[k]?=some x->In x:=λ{k x} e=>hin x (h.perm.mem_iff.mp (zm.mpr (zr e)));rw[ltAt'_eq];refine wpS_bind (wpS_get ?_);refine wpS_bind (YK ei (wpS_bind (YK ej ?_)));refine C _ _ (mem ei) (mem ej) st _ (h.kind.trans hk) ?_;have v1:Vk rk (arrOf st) i=rk (arrOf st)[i]:=by unfold Vk;rw[ei]
 have v2:Vk rk (arrOf st) j=rk (arrOf st)[j]:=by unfold Vk;rw[ej]
 rw[v1,v2]at q;exact q
theorem ZiF {st0 st:SortSt}{lo n ok:Nat}{Q:Bool->SortSt->Prop}(C:WB M A E s rk κ In)(hk:kindOf st0=κ)(hin:∀x∈(arrOf st0).toList,In x)(hn:lo+n<=(arrOf st0).size)(hok:ok<=n)(hT:TB st0 st lo)(hs:Up rk (arrOf st) lo ok)
  (h:∀st',TB st0 st' lo->Up rk (arrOf st') lo n->Q true st'):wpS M A E s (binarySort' lo n ok) Q st:=by
 rw[binarySort'_eq];refine wpS_bind (wpS_mono (wpS_forRange (I:=λk c st'=>c=(none,())/\TB st0 st' lo/\Up rk (arrOf st') lo (min k n))
  (Q:=λc st'=>c=(none,())/\TB st0 st' lo/\Up rk (arrOf st') lo n) ?step ?fin ?init) ?post)
 case post=>
  rintro c st' ⟨rfl,hB',hs'⟩;exact wpS_pure (h st' hB' hs')
 case init=>
  refine⟨rfl,hT,λi j hij hj=>?_⟩;by_cases h1:ok=0
  ·have:i=j:=by omega
   subst this;exact y4 _
  ·exact hs i j hij (by omega)
 case fin=>
  rintro c st' ⟨hc,hB',hs'⟩;refine⟨hc,hB',?_⟩
  rwa[show min (max (max ok 1) n) n=n by omega]at hs'
 case step=>
  rintro k c st' hak hkn ⟨rfl,hB',hs'⟩;rw[show min k n=k by omega]at hs';have hk':lo+k<(arrOf st0).size:=by omega
  refine wpS_bind (wpS_mono (wpS_forRange (I:=λx c st''=>st''=st'/\∃l r,c=(none,l,r)/\l<=r/\r<=k/\r-l<=k-x/\
    (∀i,i<l->Vk rk (arrOf st') (lo+i)<=Vk rk (arrOf st') (lo+k))/\(∀i,r<=i->i<k->Vk rk (arrOf st') (lo+k)<Vk rk (arrOf st') (lo+i)))
   (Q:=λc st''=>st''=st'/\∃l r,c=(none,l,r)/\l<=k/\
    (∀i,i<l->Vk rk (arrOf st') (lo+i)<=Vk rk (arrOf st') (lo+k))/\(∀i,l<=i->i<k->Vk rk (arrOf st') (lo+k)<Vk rk (arrOf st') (lo+i))) ?istep ?ifin ?iinit) ?ipost)
  case iinit=>exact⟨rfl,0,k,rfl,by omega,by omega,by omega,λi hi=>by omega,λi h1 h2=>by omega⟩
  case ifin=>
   rintro c st'' ⟨rfl,l,r,rfl,hlr,hrk,hm,hlo,hhi⟩;have:l=r:=by omega
   subst this;exact⟨rfl,l,l,rfl,hrk,hlo,hhi⟩
  case istep=>
   rintro x c st'' _ hxk ⟨e0,l,r,rfl,hlr,hrk,hm,hlo,hhi⟩;rw[e0];dsimp only;by_cases hge:l≥r
   ·rw[if_pos hge]
    have:l=r:=by omega
    subst this;exact wpS_pure ⟨rfl,l,l,rfl,hrk,hlo,hhi⟩
   ·rw[if_neg hge]
    refine wpS_bind (U6 C hk hin hB' hk' (by omega) ?_);by_cases hless:Vk rk (arrOf st') (lo+k)<Vk rk (arrOf st') (lo+(l+r) / 2)
    ·dsimp only
     rw[if_pos (decide_eq_true hless)];refine wpS_pure ⟨rfl,l,(l+r) / 2,rfl,by omega,by omega,by omega,hlo,λi h1 h2=>?_⟩;have:=hs' ((l+r) / 2) i h1 h2;omega
    ·dsimp only
     rw[if_neg (by simpa using hless)];refine wpS_pure ⟨rfl,(l+r) / 2+1,r,rfl,by omega,by omega,by omega,λi h1=>?_,hhi⟩;have:=hs' i ((l+r) / 2) (by omega) (by omega);omega
  case ipost=>
   rintro c st'' ⟨rfl,l,r,rfl,hlk,hlo,hhi⟩;show wpS _ _ _ _ (do moveDown' (lo+k) (lo+l);pure (qaq (none,()))) _ _;rw[moveDown'_eq];have hks:lo+k<(arrOf st'').size:=by rw[hB'.size];exact hk'
   refine wpS_bind (wpS_modify (wpS_pure ⟨rfl,hB'.bub hks (by omega) (by omega),?_⟩));rw[show min (k+1) n=k+1 by omega];intro i j hij hj;show Vk rk (bubble (arrOf st'') (lo+k) (lo+k-(lo+l))) (lo+i)<=Vk rk (bubble (arrOf st'') (lo+k) (lo+k-(lo+l))) (lo+j);rw[Zkq hks (by omega),Zkq hks (by omega),show lo+k-(lo+k-(lo+l))=lo+l by omega];have e1:∀m,l<m->lo+m-1=lo+(m-1):=λm hm=>by omega
   by_cases i1:i=l
   ·subst i1
    rw[if_pos rfl];by_cases j1:j=i
    ·rw[if_pos (by omega)];exact y4 _
    ·rw[if_neg (by omega),if_pos (by omega),e1 j (by omega)]
     exact yT (hhi _ (by omega) (by omega))
   ·rw[if_neg (by omega)]
    by_cases i2:l<i
    ·rw[if_pos (by omega),if_neg (by omega),if_pos (by omega),e1 i i2,e1 j (by omega)]
     exact hs' _ _ (by omega) (by omega)
    ·rw[if_neg (by omega)]
     by_cases j1:j=l
     ·rw[if_pos (by omega)];exact hlo i (by omega)
     ·rw[if_neg (by omega)]
      by_cases j2:l<j
      ·rw[if_pos (by omega),e1 j j2]
       exact hs' i (j-1) (by omega) (by omega)
      ·rw[if_neg (by omega)]
       exact hs' i j hij (by omega)
end
section
variable {M:Model}{A:xD}{E:xE}{s:Shared}{rk:Keyed->Int}{κ:SortKind}{In:Keyed->Prop}
theorem Zbt {xs:Array Keyed}{i j:Nat}{c:Int}(hj:j<=xs.size)(he:∀k,i<=k->k<j->Vk rk xs k=c)(k:Nat):Vk rk (mirror xs i j ((j-i) / 2)) k=Vk rk xs k:=by
 rw[Zgm hj];split
 ·rw[he _ (by omega) (by omega),he k (by omega) (by omega)]
 ·rfl
theorem Zd6 {st:SortSt}{i j:Nat}{F:Unit->SortSt->Prop}(h:F () (setArr st (mirror (arrOf st) i j ((j-i) / 2)))):wpS M A E s (reverseSlice' i j) F st:=by
 rw[reverseSlice'_eq];exact wpS_modify h
theorem Up.next {xs:Array Keyed}{lo x:Nat}(h:Up rk xs lo x)(hx:1<=x)(hv:¬Vk rk xs (lo+x)<Vk rk xs (lo+x-1)):Up rk xs lo (x+1):=λi j hij hj=>by
 by_cases hjx:j<x
 ·exact h i j hij hjx
 ·have e:j=x:=by omega
  subst e;by_cases hi:i=j
  ·subst hi;exact y4 _
  ·have:=h i (j-1) (by omega) (by omega)
   rw[show lo+(j-1)=lo+j-1 by omega]at this;omega
theorem Dn.next {xs:Array Keyed}{lo x:Nat}(h:Dn rk xs lo x)(hx:1<=x)(hv:Vk rk xs (lo+x)<=Vk rk xs (lo+x-1)):Dn rk xs lo (x+1):=λi j hij hj=>by
 by_cases hjx:j<x
 ·exact h i j hij hjx
 ·have e:j=x:=by omega
  subst e;by_cases hi:i=j
  ·subst hi;exact y4 _
  ·have:=h i (j-1) (by omega) (by omega)
   rw[show lo+(j-1)=lo+j-1 by omega]at this;omega
theorem Dn.flip {xs:Array Keyed}{lo n:Nat}(h:Dn rk xs lo n)(hn:lo+n<=xs.size):Up rk (mirror xs lo (lo+n) ((lo+n-lo) / 2)) lo n:=λi j hij hj=>by
 rw[Zgm hn,Zgm hn,if_pos (by omega),if_pos (by omega),show lo+(lo+n)-1-(lo+i)=lo+(n-1-i) by omega,show lo+(lo+n)-1-(lo+j)=lo+(n-1-j) by omega];exact h _ _ (by omega) (by omega)
set_option hygiene false in
local macro_rules | `(tactic| walk_at "upTail")=>`(tactic| (
  refine wpS_bind (Zd6 ?_);have hT3:=hT2.mir (i:=lo) (j:=lo+m) (by rw[hT2.size];omega) (qk _);have hU3:=hD2.flip (by rw[hT2.size];omega);refine wpS_bind (wpS_mono (wpS_forRange (I:=λx c st'=>c=(none,x)/\TB st0 st' lo/\Up rk (arrOf st') lo x) (Q:=λc st'=>∃m,c=(none,m)/\1<=m/\m<=nrem/\TB st0 st' lo/\Up rk (arrOf st') lo m) ?stepU ?finU ⟨rfl,hT3,hU3⟩) ?postU)
  case postU=>
   rintro c st' ⟨m,rfl,a1,a2,a3,a4⟩;exact wpS_pure (h m st' a3 a1 a2 a4)
  case finU=>
   rintro c st' ⟨rfl,a1,a2⟩;rw[show max m nrem=nrem by omega]at a2⊢;exact⟨nrem,rfl,by omega,qk _,a1,a2⟩
  case stepU=>
   rintro x c st' hax hxn ⟨rfl,a1,a2⟩;dsimp only;refine wpS_bind (U6 C hk hin a1 (by omega) (by omega) ?_);dsimp only;by_cases w:Vk rk (arrOf st') (lo+x)<Vk rk (arrOf st') (lo+x-1)
   ·rw[if_pos (decide_eq_true w)]
    exact wpS_pure ⟨x,rfl,by omega,by omega,a1,a2⟩
   ·rw[if_neg (by simpa using w)]
    exact wpS_pure ⟨rfl,a1,a2.next (by omega) w⟩))
set_option hygiene false in
local macro_rules | `(tactic| walk_at "descT")=>`(tactic| (
  refine wpS_bind (wpS_lift (wpAny_rule ⟨rfl,?_⟩));refine wpS_bind (wpS_mono (wpS_forRange (I:=λx c st'=>∃neq,c=(none,x,neq)/\TB st0 st' lo/\Dn rk (arrOf st') lo x/\neq+1<=x/\(∀k,lo+x-(neq+1)<=k->k<lo+x->Vk rk (arrOf st') k=Vk rk (arrOf st') (lo+x-1)))
   (Q:=λc st'=>∃m neq,c=(none,m,neq)/\1<=m/\m<=nrem/\TB st0 st' lo/\Dn rk (arrOf st') lo m/\neq+1<=m/\(∀k,lo+m-(neq+1)<=k->k<lo+m->Vk rk (arrOf st') k=Vk rk (arrOf st') (lo+m-1))) ?stepD ?finD ⟨0,rfl,hTd,hDd,by omega,λk h1 h2=>by congr 1;omega⟩) ?postD)
  case finD=>
   rintro c st' ⟨neq,rfl,a1,a2,a3,a4⟩;rw[show max (n+1) nrem=nrem by omega]at a2 a3 a4⊢;exact⟨nrem,neq,rfl,by omega,qk _,a1,a2,a3,a4⟩
  case stepD=>
   rintro x c st' hax hxn ⟨neq,rfl,a1,a2,a3,a4⟩;dsimp only;refine wpS_bind (U6 C hk hin a1 (by omega) (by omega) ?_);dsimp only;by_cases w:Vk rk (arrOf st') (lo+x)<Vk rk (arrOf st') (lo+x-1)
   ·rw[if_pos (decide_eq_true w)]
    have up:=a2.next (by omega) (yT w);by_cases hq:neq > 0
    ·rw[if_pos hq]
     refine wpS_bind (Zd6 ?_);have hm:=Zbt (xs:=arrOf st') (i:=lo+x-(neq+1)) (j:=lo+x) (by rw[a1.size];omega) a4;exact wpS_pure ⟨0,rfl,a1.mir (by rw[a1.size];omega) (by omega),λi j hij hj=>by
      show Vk rk (mirror _ _ _ _) _<=Vk rk (mirror _ _ _ _) _;rw[hm,hm];exact up i j hij hj,by omega,λk h1 h2=>by congr 1;omega⟩
    ·rw[if_neg hq]
     exact wpS_pure ⟨0,rfl,a1,up,by omega,λk h1 h2=>by congr 1;omega⟩
   ·rw[if_neg (by simpa using w)]
    refine wpS_bind (U6 C hk hin a1 (by omega) (by omega) ?_);dsimp only;by_cases w2:Vk rk (arrOf st') (lo+x-1)<Vk rk (arrOf st') (lo+x)
    ·rw[if_pos (decide_eq_true w2)]
     exact wpS_pure ⟨x,neq,rfl,by omega,by omega,a1,a2,a3,a4⟩
    ·rw[if_neg (by simpa using w2)]
     have eq:Vk rk (arrOf st') (lo+x)=Vk rk (arrOf st') (lo+x-1):=by omega
     refine wpS_pure ⟨neq+1,rfl,a1,a2.next (by omega) (by omega),by omega,λk h1 h2=>?_⟩;rw[show lo+(x+1)-1=lo+x by omega];by_cases hkx:k=lo+x
     ·rw[hkx]
     ·rw[eq];exact a4 k (by omega) (by omega)
  case postD=>
   rintro c W7 ⟨m,neq,rfl,b1,b2,hT1,hD1,b3,b4⟩;dsimp only;by_cases hq:neq > 0
   ·rw[if_pos hq]
    refine wpS_bind (Zd6 ?_);have hm:=Zbt (xs:=arrOf W7) (i:=lo+m-(neq+1)) (j:=lo+m) (by rw[hT1.size];omega) b4;have hT2:=hT1.mir (i:=lo+m-(neq+1)) (j:=lo+m) (by rw[hT1.size];omega) (by omega);have hD2:Dn rk (arrOf (setArr W7 (mirror (arrOf W7) (lo+m-(neq+1)) (lo+m) ((lo+m-(lo+m-(neq+1))) / 2)))) lo m:=λi j hij hj=>by
     show Vk rk (mirror _ _ _ _) _<=Vk rk (mirror _ _ _ _) _;rw[hm,hm];exact hD1 i j hij hj
    generalize setArr W7 (mirror (arrOf W7) (lo+m-(neq+1)) (lo+m) ((lo+m-(lo+m-(neq+1))) / 2))=stE at hT2 hD2⊢
    walk_at "upTail"
   ·rw[if_neg hq]
    have hT2:=hT1;have hD2:=hD1
    walk_at "upTail"))
theorem count_ok {st0 st:SortSt}{lo nrem:Nat}{Q:Option Nat->SortSt->Prop}(C:WB M A E s rk κ In)(hk:kindOf st0=κ)(hin:∀x∈(arrOf st0).toList,In x)(hn:lo+nrem<=(arrOf st0).size)(h1:1<=nrem)(hT:TB st0 st lo)
  (h:∀m st',TB st0 st' lo->1<=m->m<=nrem->Up rk (arrOf st') lo m->Q (some m) st'):wpS M A E s (countRun' lo nrem) Q st:=by
 rw[countRun'_eq];refine wpS_bind (wpS_mono (wpS_forRange (I:=λx c st'=>st'=st/\c=(none,x)/\Up rk (arrOf st) lo x)
  (Q:=λc st'=>st'=st/\∃n,c=(none,n)/\1<=n/\n<=nrem/\Up rk (arrOf st) lo n/\(n=nrem∨Vk rk (arrOf st) (lo+n)<Vk rk (arrOf st) (lo+n-1))) ?step ?fin ⟨rfl,rfl,λi j hij hj=>by
   have:i=j:=by omega
   subst this;exact y4 _⟩) ?post)
 case fin=>
  rintro c st' ⟨rfl,rfl,a⟩;rw[show max 1 nrem=nrem by omega]at a⊢;exact⟨rfl,nrem,rfl,h1,qk _,a,.inl rfl⟩
 case step=>
  rintro x c st' hax hxn ⟨e0,rfl,a⟩;rw[e0];dsimp only;refine wpS_bind (U6 C hk hin hT (by omega) (by omega) ?_);dsimp only;by_cases w:Vk rk (arrOf st) (lo+x)<Vk rk (arrOf st) (lo+x-1)
  ·rw[if_pos (decide_eq_true w)]
   exact wpS_pure ⟨rfl,x,rfl,hax,by omega,a,.inr w⟩
  ·rw[if_neg (by simpa using w)]
   exact wpS_pure ⟨rfl,rfl,a.next hax w⟩
 case post=>
  rintro c st' ⟨e0,n,rfl,n1,n2,a,hor⟩;rw[e0];dsimp only;by_cases hnn:n=nrem
  ·rw[if_pos (by simpa using hnn)]
   exact wpS_pure (h n st hT n1 n2 a)
  ·rw[if_neg (by simpa using hnn)]
   have hlt:=hor.resolve_left hnn;have hn1:n+1<=nrem:=by omega
   by_cases hgt:n > 1
   ·rw[if_pos hgt]
    refine wpS_bind (U6 C hk hin hT (by omega) (by omega) ?_);dsimp only;by_cases rose:Vk rk (arrOf st) lo<Vk rk (arrOf st) (lo+n-1)
    ·rw[if_pos (decide_eq_true rose)]
     exact wpS_pure (h n st hT n1 n2 a)
    ·rw[if_neg (by simpa using rose)]
     refine wpS_bind (Zd6 ?_);have hall:∀k,lo<=k->k<lo+n->Vk rk (arrOf st) k=Vk rk (arrOf st) lo:=λk h1 h2=>by
      have a1:=a 0 (k-lo) (by omega) (by omega);have a2:=a (k-lo) (n-1) (by omega) (by omega);rw[qbR,show lo+(k-lo)=k by omega]at a1;rw[show lo+(k-lo)=k by omega,show lo+(n-1)=lo+n-1 by omega]at a2;omega
     have hm:=Zbt (xs:=arrOf st) (i:=lo) (j:=lo+n) (by rw[hT.size];omega) hall;have hTd:=hT.mir (i:=lo) (j:=lo+n) (by rw[hT.size];omega) (qk _);have hDd:Dn rk (arrOf (setArr st (mirror (arrOf st) lo (lo+n) ((lo+n-lo) / 2)))) lo (n+1):=λi j hij hj=>by
      show Vk rk (mirror _ _ _ _) _<=Vk rk (mirror _ _ _ _) _;rw[hm,hm];have v1:=hall (lo+n-1) (by omega) (by omega);by_cases hjn:j<n
      ·rw[hall (lo+j) (by omega) (by omega),hall (lo+i) (by omega) (by omega)];exact y4 _
      ·have ej:j=n:=by omega
       subst ej;by_cases hi:i=j
       ·subst hi;exact y4 _
       ·rw[hall (lo+i) (by omega) (by omega)];omega
     generalize setArr st (mirror (arrOf st) lo (lo+n) ((lo+n-lo) / 2))=stx at hTd hDd⊢
     walk_at "descT"
   ·rw[if_neg hgt]
    have hn0:n=1:=by omega
    have hTd:=hT;have hDd:Dn rk (arrOf st) lo (n+1):=by
     subst hn0;exact Dn.next (λi j hij hj=>by
      have:i=j:=by omega
      subst this;exact y4 _) (qk _) (yT hlt)
    walk_at "descT"
end
noncomputable def Pd:Nat->List (Nat×Nat×Nat)->List (List Keyed)->Prop
 | _,[],[]=>True
 | off,x::ps,r::rs=>x.1=off/\x.2.1=r.length/\Pd (off+r.length) ps rs
 | _,_,_=>False
theorem Pd.len:∀{off:Nat} {ps:List (Nat×Nat×Nat)} {rs:List (List Keyed)},Pd off ps rs->ps.length=rs.length
 | _,[],[],_=>rfl
 | _,_::_,_::_,h=>by rw[qS,qS,Pd.len h.2.2]
 | _,[],_::_,h=>h.elim
 | _,_::_,[],h=>h.elim
theorem Pd.push {x:Nat×Nat×Nat}{r:List Keyed}:∀{off:Nat} {ps:List (Nat×Nat×Nat)} {rs:List (List Keyed)},Pd off ps rs->x.1=off+rs.flatten.length->x.2.1=r.length->Pd off (ps ++ [x]) (rs ++ [r])
 | off,[],[],_,h1,h2=>⟨by simpa using h1,h2,trivial⟩
 | off,y::ps,q::rs,h,h1,h2=>by
  refine⟨h.1,h.2.1,Pd.push h.2.2 ?_ h2⟩;rw[h1];simp;omega
 | _,[],_::_,h,_,_=>h.elim
 | _,_::_,[],h,_,_=>h.elim
theorem Pd.modify {pw:Nat}:∀{off:Nat} {ps:List (Nat×Nat×Nat)} {rs:List (List Keyed)} (k:Nat),Pd off ps rs->Pd off (ps.modify k λx=>(x.1,x.2.1,pw)) rs
 | off,[],[],k,h=>by cases k <;> exact h
 | off,y::ps,q::rs,0,h=>⟨h.1,h.2.1,h.2.2⟩
 | off,y::ps,q::rs,k+1,h=>⟨h.1,h.2.1,Pd.modify k h.2.2⟩
 | _,[],_::_,_,h=>h.elim
 | _,_::_,[],_,h=>h.elim
theorem Pd.at:∀{off:Nat} {ps:List (Nat×Nat×Nat)} {rs:List (List Keyed)} (i:Nat),Pd off ps rs->i+1<ps.length->∃rs1 As Bs rs2 p q,rs=rs1++As::Bs::rs2/\ps[i]?=some (off+rs1.flatten.length,As.length,p)/\ps[i+1]?=some (off+rs1.flatten.length+As.length,Bs.length,q)/\∀Ms:List Keyed,Ms.length=As.length+Bs.length->Pd off ((ps.set i (off+rs1.flatten.length,As.length+Bs.length,p)).eraseIdx (i+1)) (rs1++Ms::rs2)
 | off,x::y::ps,a::b::rs,0,h,_=>by
  obtain⟨h1,h2,h3,h4,h5⟩:=h;refine⟨[],a,b,rs,x.2.2,y.2.2,rfl,?_,?_,λMs hm=>⟨by simp,hm.symm,?_⟩⟩
  ·simp[<-h1,<-h2]
  ·simp[<-h3,<-h4]
  ·rw[hm,<-qaN];exact h5
 | off,x::ps,a::rs,i+1,h,hi=>by
  obtain⟨h1,h2,h3⟩:=h;obtain⟨rs1,As,Bs,rs2,p,q,e,e1,e2,k⟩:=Pd.at i h3 (by simpa using hi);refine⟨a::rs1,As,Bs,rs2,p,q,by rw[e];rfl,?_,?_,λMs hm=>?_⟩
  ·simp only[qcw,zJ,qJ]
   rw[e1,qaN]
  ·simp only[qcw,zJ,qJ]
   rw[e2,qaN off]
  ·have:=k Ms hm
   simp only[zJ,qJ,List.set_cons_succ,qcx,qa5];rw[<-qaN];exact⟨h1,h2,this⟩
 | off,[x],a::rs,0,h,hi=>by simp at hi
 | off,x::y::ps,[a],0,h,_=>h.2.2.elim
 | _,[],_,_,_,hi=>by simp at hi
 | _,_::_,[],_,h,_=>h.elim
section
variable {M:Model}{A:xD}{E:xE}{s:Shared}{rk:Keyed->Int}{κ:SortKind}{In:Keyed->Prop}{a₀:List Keyed}
structure SI (rk:Keyed->Int)(κ:SortKind)(a₀:List Keyed)(st:SortSt)(runs:List (List Keyed))(R:List Keyed):Prop where
 e:(arrOf st).toList=runs.flatten++R
 pd:Pd 0 (pendingOf st).toList runs
 ok:∀r∈runs,SL rk r/\0<r.length
 perm:(arrOf st).toList.Perm a₀
 kind:kindOf st=κ
 fail:failedOf st=none
theorem SI.psize {st:SortSt}{runs:List (List Keyed)}{R:List Keyed}(h:SI rk κ a₀ st runs R):(pendingOf st).size=runs.length:=by
 rw[<-h.pd.len,qE]
theorem ZcB {st:SortSt}{runs:List (List Keyed)}{R:List Keyed}{i:Nat}{Q:Bool->SortSt->Prop}(C:WB M A E s rk κ In)(hin:∀x∈a₀,In x)(h:SI rk κ a₀ st runs R)(hi:i+1<(pendingOf st).size)
  (k:∀st' runs',SI rk κ a₀ st' runs' R->runs'.length+1=runs.length->runs'.flatten.length=runs.flatten.length->Q true st'):wpS M A E s (mergeAt' i) Q st:=by
 obtain⟨rs1,As,Bs,rs2,p,q,e,e1,e2,kk⟩:=Pd.at i h.pd (by simpa using hi);rw[yS]at e1 e2 kk;have oA:=h.ok As (by rw[e];simp);have oB:=h.ok Bs (by rw[e];simp);refine Zgl (P:=rs1.flatten) (As:=As) (Bs:=Bs) (R:=rs2.flatten++R) C h.kind h.fail (λx hx=>hin x (h.perm.mem_iff.mp hx)) (by rw[<-qz];exact e1) (by rw[<-qz];exact e2) (by rw[h.e,e];simp) oA.1 oB.1 oA.2 oB.2 λst' Ms h1 h2 h3 h4 h5 h6=>?_;have hml:Ms.length=As.length+Bs.length:=by rw[h2.length_eq,qJ]
 refine k st' (rs1++Ms::rs2) ⟨by rw[h1];simp,?_,λr hr=>?_,?_,h4,h5⟩ ?_ ?_
 ·rw[h6]
  have:=kk Ms hml;simpa using this
 ·rcases qO.mp hr with hr | hr
  ·exact h.ok r (by rw[e];simp[hr])
  ·rcases qp.mp hr with rfl | hr
   ·exact⟨h3,by rw[hml];omega⟩
   ·exact h.ok r (by rw[e];simp[hr])
 ·refine qa2.trans ?_ h.perm
  rw[h1,h.e,e];have:(Ms++(rs2.flatten++R)).Perm (As++Bs++(rs2.flatten++R)):=h2.append_right _;have:=this.append_left rs1.flatten;simpa using this
 ·rw[e];simp;omega
 ·rw[e];simp[hml];omega
theorem ZmA {arr:Array Keyed}{F R:List Keyed}{n:Nat}(e:arr.toList=F++R)(h:Up rk arr F.length n)(hn:n<=R.length):SL rk (R.take n):=by
 have at':∀{j:Nat} (hj:j<R.length),Vk rk arr (F.length+j)=rk R[j]:=λ{j} hj=>by
  unfold Vk;rw[<-qz,e,zM (by omega),show F.length+j-F.length=j by omega,qI hj]
 refine zE.mpr λi j hi hj hij=>?_;rw[qV]at hi hj;have:=h i j (by omega) (by omega);rw[at' (by omega),at' (by omega)]at this;rw[List.getElem_take,List.getElem_take];exact this
theorem SI.push {st:SortSt}{runs:List (List Keyed)}{R:List Keyed}{n:Nat}(h:SI rk κ a₀ st runs R)(hs:SL rk (R.take n))(h1:1<=n)(hn:n<=R.length):SI rk κ a₀ (setPending st ((pendingOf st).push (runs.flatten.length,n,0))) (runs ++ [R.take n]) (R.drop n):=by
 refine⟨?_,?_,λr hr=>?_,h.perm,h.kind,h.fail⟩
 ·show(arrOf st).toList=_
  rw[h.e];simp
 ·show Pd 0 ((pendingOf st).push (runs.flatten.length,n,0)).toList _
  rw[zi];exact h.pd.push (by simp) (by rw[qV];show n=_;omega)
 ·rcases qO.mp hr with hr | hr
  ·exact h.ok r hr
  ·rw[qU.mp hr]
   exact⟨hs,by rw[qV];omega⟩
theorem SI.power {st:SortSt}{runs:List (List Keyed)}{R:List Keyed}{k pw:Nat}(h:SI rk κ a₀ st runs R):SI rk κ a₀ (setPending st ((pendingOf st).modify k λx=>(x.1,x.2.1,pw))) runs R:=by
 refine⟨h.e,?_,h.ok,h.perm,h.kind,h.fail⟩;show Pd 0 ((pendingOf st).modify k λx=>(x.1,x.2.1,pw)).toList _;rw[Array.toList_modify];exact h.pd.modify k
theorem SI.fresh {st st':SortSt}{runs:List (List Keyed)}{R:List Keyed}(h:SI rk κ a₀ st runs R)(t:TB st st' runs.flatten.length):SI rk κ a₀ st' runs ((arrOf st').toList.drop runs.flatten.length):=by
 have ep:(arrOf st').toList.take runs.flatten.length=runs.flatten:=by
  apply yc;intro i;by_cases hi:i<runs.flatten.length
  ·rw[zX hi,qz,t.pre i hi,<-qz,h.e,zw hi]
  ·rw[zj (by rw[qV];omega),zj (by omega)]
 refine⟨?_,by rw[t.pend];exact h.pd,h.ok,t.perm.trans h.perm,t.kind.trans h.kind,t.fail.trans h.fail⟩
 conv=>lhs;rw[<-zo runs.flatten.length (arrOf st').toList]
 rw[ep]
theorem SI.le {st:SortSt}{runs:List (List Keyed)}{R:List Keyed}(h:SI rk κ a₀ st runs R):runs.length<=runs.flatten.length:=by
 have:∀rs:List (List Keyed),(∀r∈rs,SL rk r/\0<r.length)->rs.length<=rs.flatten.length:=by
  intro rs
  induction rs with
  | nil=>intro _;simp
  | cons r rs ih=>
   intro hr;have h1:=ih λq hq=>hr q (by simp[hq]);have h2:=(hr r (by simp)).2;simp only[qS,zJ,qJ];omega
 exact this runs h.ok
end
section
variable {M:Model}{A:xD}{E:xE}{s:Shared}{rk:Keyed->Int}{κ:SortKind}{In:Keyed->Prop}{a₀:List Keyed}
set_option hygiene false in
local macro_rules | `(tactic| walk_at "runEnd")=>`(tactic| (
  have yes:∀st4 runs4,SI rk κ a₀ st4 runs4 R3->runs4.flatten.length=runs.flatten.length->∃lo' runs' R',((none:Option PUnit),runs.flatten.length+nn)=(none,lo')/\SI rk κ a₀ (setPending st4 ((pendingOf st4).push (runs.flatten.length,nn,0))) runs' R'/\runs'.flatten.length=lo'/\x+1<=lo'/\lo'<=(arrOf st).size:=λst4 runs4 h4 e4=>by
   have hp4:=h4.push hS3 n1 n2;rw[e4]at hp4;refine⟨_,_,_,rfl,hp4,?_,by omega,by omega⟩;simp only[List.flatten_append,qJ,zJ,List.flatten_nil,zB,qV];omega
  refine wpS_bind (wpS_get ?_);split
  ·refine wpS_bind (wpS_mono (wpS_forRange (I:=λy c st4=>c=(none,())/\∃runs4,SI rk κ a₀ st4 runs4 R3/\runs4.flatten.length=runs.flatten.length)
    (Q:=λc st4=>c=(none,())/\∃runs4,SI rk κ a₀ st4 runs4 R3/\runs4.flatten.length=runs.flatten.length) ?stepM ?finM ⟨rfl,runs,h3,rfl⟩) ?postM)
   case finM=>exact λc st4 z=>z
   case postM=>
    rintro c st4 ⟨rfl,runs4,h4,e4⟩;dsimp only;refine wpS_bind (wpS_modify (wpS_bind (wpS_modify (wpS_pure ?_))));exact yes _ runs4 h4.power e4
   case stepM=>
    rintro y c st4 _ hy ⟨rfl,runs4,h4,e4⟩
    try dsimp only
    refine wpS_bind (wpS_get ?_);by_cases g0:(pendingOf st4).size > 1
    ·rw[if_pos g0]
     split
     ·split
      ·exact wpS_pure ⟨rfl,runs4,h4,e4⟩
      ·refine wpS_bind (ZcB C hin h4 (by omega) λst5 runs5 h5 l5 e5=>?_)
       simp only[qav,qR,if_false];exact wpS_pure ⟨rfl,runs5,h5,e5.trans e4⟩
     ·exact wpS_pure ⟨rfl,runs4,h4,e4⟩
    ·rw[if_neg g0]
     exact wpS_pure ⟨rfl,runs4,h4,e4⟩
  ·refine wpS_bind (wpS_modify (wpS_pure ?_))
   exact yes _ runs h3 rfl))
theorem Zfd {st:SortSt}{Q:Unit->SortSt->Prop}(C:WB M A E s rk κ In)(hin:∀x∈a₀,In x)(hp:(arrOf st).toList.Perm a₀)(hk:kindOf st=κ)(hf:failedOf st=none)(hpe:pendingOf st = #[])
  (k:∀st',(arrOf st').toList.Perm a₀->SL rk (arrOf st').toList->failedOf st'=none->Q () st'):wpS M A E s sortRuns' Q st:=by
 rw[sortRuns'_eq];refine wpS_bind (wpS_get ?_);dsimp only;have hsz:∀{st':SortSt} {runs:List (List Keyed)} {R:List Keyed},SI rk κ a₀ st' runs R->(arrOf st').size=(arrOf st).size:=λ{st' runs R} h=>by
  have h1:=h.perm.length_eq;have h2:=hp.length_eq;simp only[qE]at h1 h2;omega
 have S0:SI rk κ a₀ st [] (arrOf st).toList:=⟨by simp,by rw[hpe];trivial,λr hr=>by simp at hr,hp,hk,hf⟩;generalize minRun' (arrOf st).size (arrOf st).size 0=mr;refine wpS_bind (wpS_mono (wpS_forRange (I:=λx c st'=>∃lo runs R,c=(none,lo)/\SI rk κ a₀ st' runs R/\runs.flatten.length=lo/\x<=lo/\lo<=(arrOf st).size)
  (Q:=λc st'=>∃runs R,c=(none,(arrOf st).size)/\SI rk κ a₀ st' runs R/\runs.flatten.length=(arrOf st).size) ?step ?fin ⟨0,[],_,rfl,S0,rfl,qk _,zR _⟩) ?post)
 case fin=>
  rintro c st' ⟨lo,runs,R,rfl,h,h1,h2,h3⟩;have:lo=(arrOf st).size:=by omega
  subst this;exact⟨runs,R,rfl,h,h1⟩
 case step=>
  rintro x c j8 _ hx ⟨lo,runs,R,rfl,h,h1,h2,h3⟩;dsimp only;by_cases c0:lo≥(arrOf st).size
  ·rw[if_pos c0]
   have:lo=(arrOf st).size:=by omega
   subst this;exact wpS_pure ⟨runs,R,rfl,h,h1⟩
  ·rw[if_neg c0]
   have hs1:=hsz h;have hin1:∀x∈(arrOf j8).toList,In x:=λx hx=>hin x (h.perm.mem_iff.mp hx);refine wpS_bind (count_ok C h.kind hin1 (by omega) (by omega) (TB.refl j8 lo) λm jV t2 m1 m2 u2=>?_);dsimp only;subst h1;have hRl:∀{st3:SortSt},TB j8 st3 runs.flatten.length->((arrOf st3).toList.drop runs.flatten.length).length=(arrOf st).size-runs.flatten.length:=λ{st3} t=>by
    rw[zN,qE,t.size,hs1]
   by_cases cm:m<mr
   ·rw[if_pos cm]
    refine wpS_bind (wpS_lift (wpAny_rule ⟨rfl,?_⟩));refine wpS_bind (ZiF C h.kind hin1 (by omega) (by omega) t2 u2 λst3 t3 u3=>?_);simp only[qav,qR,if_false];have h3:=h.fresh t3;have hl3:=hRl t3;have n2:min ((arrOf st).size-runs.flatten.length) mr<=((arrOf st3).toList.drop runs.flatten.length).length:=by omega
    have hS3:=ZmA h3.e u3 n2;have n1:1<=min ((arrOf st).size-runs.flatten.length) mr:=by omega
    generalize (arrOf st3).toList.drop runs.flatten.length=R3 at h3 hl3 n2 hS3;generalize min ((arrOf st).size-runs.flatten.length) mr=nn at n1 n2 hS3⊢
    walk_at "runEnd"
   ·rw[if_neg cm]
    have h3:=h.fresh t2;have hl3:=hRl t2;have n2:m<=((arrOf jV).toList.drop runs.flatten.length).length:=by omega
    have hS3:=ZmA h3.e u2 n2;have n1:=m1;generalize (arrOf jV).toList.drop runs.flatten.length=R3 at h3 hl3 n2 hS3;generalize m=nn at n1 n2 hS3⊢
    walk_at "runEnd"
 case post=>
  rintro c j8 ⟨runs,R,rfl,h,h1⟩;dsimp only;refine wpS_bind (wpS_mono (wpS_forRange (I:=λy c st4=>c=(none,())/\∃runs4,SI rk κ a₀ st4 runs4 R/\runs4.flatten.length=(arrOf st).size/\(runs4.length<=1∨runs4.length+y<=(arrOf st).size))
   (Q:=λc st4=>c=(none,())/\∃runs4,SI rk κ a₀ st4 runs4 R/\runs4.flatten.length=(arrOf st).size/\runs4.length<=1) ?stepF ?finF ⟨rfl,runs,h,h1,.inr (by have:=h.le;omega)⟩) ?postF)
  case finF=>
   rintro c st4 ⟨rfl,runs4,h4,e4,l4⟩;exact⟨rfl,runs4,h4,e4,by omega⟩
  case postF=>
   rintro c st4 ⟨rfl,runs4,h4,e4,l4⟩;dsimp only;refine wpS_pure (k st4 h4.perm ?_ h4.fail);have hs4:=hsz h4;have hl:=congrArg qak h4.e;rw[qJ,qE]at hl;have hR:R=[]:=yt.mp (by omega);rw[h4.e,hR,zB]
   cases runs4 with
   | nil=>exact yC
   | cons r rs=>
    have:rs=[]:=by simpa using l4
    subst this;have:=(h4.ok r (by simp)).1;simpa using this
  case stepF=>
   rintro y c st4 _ hy ⟨rfl,runs4,h4,e4,l4⟩;have ps:=h4.psize
   try dsimp only
   refine wpS_bind (wpS_get ?_);by_cases g0:(pendingOf st4).size<=1
   ·rw[if_pos g0]
    exact wpS_pure ⟨rfl,runs4,h4,e4,by omega⟩
   ·rw[if_neg g0]
    refine wpS_bind (ZcB C hin h4 ?_ λst5 runs5 h5 l5 e5=>?_)
    ·repeat' split
     all_goals omega
    ·simp only[qav,qR,if_false]
     exact wpS_pure ⟨rfl,runs5,h5,e5.trans e4,by omega⟩
end
open L2 TS
theorem Zfe:∀{xs:List Value} {a b:List Int},IntsAre xs a->IntsAre xs b->a=b
 | _,_,_,.nil,.nil=>rfl
 | _,_,_,.cons n t h,k=>by
  cases k with
  | cons _ _ k=>rw[Zfe h k]
theorem ZlG {h:Heap}{v:Value}{a b:List Int}(x:Yc h v a)(y:Yc h v b):a=b:=by
 obtain⟨p,xs,rfl,⟨o,h1,h2,n,h3⟩,i1⟩:=x;obtain⟨q,ys,e,⟨o',k1,k2,m,k3⟩,i2⟩:=y
 cases e
 rw[h1]at k1;cases k1;rw[h3]at k3;injection k3 with e1 e2;have:xs=ys:=by simpa using congrArg qcY e1
 subst this;exact Zfe i1 i2
open Classical in
noncomputable def VM (h:Heap)(v:Value):List Int:=if x:∃ns,Yc h v ns then x.choose else []
theorem Vu {h:Heap}{v:Value}{ns:List Int}(x:Yc h v ns):VM h v=ns:=by
 have hx:∃ns,Yc h v ns:=⟨ns,x⟩;unfold VM;rw[dif_pos hx];exact ZlG hx.choose_spec x
noncomputable def JD (jK:List (List Int))(h:Heap)(p:Keyed):Int:=((jK.filter λm=>Yl m (VM h p.1)).length:Nat)
theorem Zhn {jK:List (List Int)}{a b:List Int}(ha:a∈jK)(h:Yl a b=true):(jK.filter λm=>Yl m a).length<(jK.filter λm=>Yl m b).length:=by
 have sub:∀(l:List (List Int)),(l.filter λm=>Yl m a).length<=(l.filter λm=>Yl m b).length/\(a∈l->(l.filter λm=>Yl m a).length<(l.filter λm=>Yl m b).length):=by
  intro l
  induction l with
  | nil=>exact⟨qk _,λz=>by simp at z⟩
  | cons c l ih=>
   obtain⟨i1,i2⟩:=ih;have step:Yl c a=true->Yl c b=true:=λz=>Bb _ _ _ z h;constructor
   ·cases q:Yl c a with
    | true=>simp only[qaj,q,step q,if_true,qS];omega
    | false=>
     simp only[qaj,q,qR,if_false];split
     ·simp only[qS];omega
     ·exact i1
   ·intro z
    rcases qp.mp z with rfl | z
    ·simp only[qaj,Zcx,qR,if_false,h,if_true,qS];omega
    ·have:=i2 z
     cases q:Yl c a with
     | true=>simp only[qaj,q,step q,if_true,qS];omega
     | false=>
      simp only[qaj,q,qR,if_false];split
      ·simp only[qS];omega
      ·exact this
 exact(sub jK).2 ha
theorem Zff {jK:List (List Int)}{h:Heap}{x y:Keyed}{a b:List Int}(hx:Yc h x.1 a)(hy:Yc h y.1 b)(ha:a∈jK)(hb:b∈jK):decide (JD jK h x<JD jK h y)=Yl a b:=by
 unfold JD;rw[Vu hx,Vu hy]
 cases q:Yl a b with
 | true=>
  have:=Zhn ha q;exact decide_eq_true (by omega)
 | false=>
  refine decide_eq_false ?_;by_cases e:a=b
  ·subst e;omega
  ·have:=Zhn hb (U4 _ _ e q)
   omega
section
variable {prog:xC}{w:World}{A:xD}{E:xE}{s:Shared}
theorem cmpT (jK:List (List Int)):WB (xA prog w) A E s (JD jK s.heap) (tuples' true) (λp=>∃ns∈jK,Yc s.heap p.1 ns):=λx y ⟨a,ha,hx⟩ ⟨b,hb,hy⟩ st F hk q=>by
 rw[lt'_eq];refine wpS_bind (wpS_get ?_);rw[hk];refine wpS_bind (wpS_lift (wpAny_attempt (Zmx hx hy ⟨rfl,?_⟩)));refine wpS_pure ?_;rw[Zff hx hy ha hb]at q;exact q
theorem UU {h:Heap}:∀{vs:List Value} {jK:List (List Int)},Paired (Yc h) vs jK->vs.map (VM h)=jK/\∀v∈vs,∃ns∈jK,Yc h v ns
 | [],[],_=>⟨rfl,λv hv=>by simp at hv⟩
 | v::vs,ns::jK,h=>by
  cases h with
  | cons h1 h2=>
   obtain⟨a1,a2⟩:=UU h2;refine⟨by rw[qY,a1,Vu h1],λu hu=>?_⟩;rcases qp.mp hu with rfl | hu
   ·exact⟨ns,by simp,h1⟩
   ·obtain⟨m,hm,t⟩:=a2 u hu
    exact⟨m,by simp[hm],t⟩
theorem Zbu {h:Heap}:∀{vs:List Value},(∀v∈vs,∃ns,Yc h v ns)->Paired (Yc h) vs (vs.map (VM h))
 | [],_=>.nil
 | v::vs,hv=>by
  obtain⟨ns,t⟩:=hv v (by simp);refine .cons (by rw[Vu t];exact t) (Zbu λu hu=>hv u (by simp[hu]))
theorem Za5 {h:Heap}{vs:List Value}{jK:List (List Int)}(ht:Paired (Yc h) vs jK){st:SortSt}(hp:(arrOf st).toList.Perm (pairsOf vs).toList)(hs:SL (JD jK h) (arrOf st).toList) :
  Paired (Yc h) ((arrOf st).map (·.2)).toList (Yr jK)/\((arrOf st).map (·.2)).toList.Perm vs:=by
 obtain⟨p1,p2⟩:=UU ht;have same:∀p∈(arrOf st).toList,p.1=p.2/\p.1∈vs:=λp hp'=>by
  have:=hp.mem_iff.mp hp';rw[pairsOf_toList]at this;obtain⟨i,hi⟩:=zH.mp this;rw[yF]at hi;obtain⟨e1,e2⟩:=hi;rw[e1]at e2;exact⟨zv e2,zq e1⟩
 have em:((arrOf st).map (·.2)).toList=(arrOf st).toList.map (·.1):=by
  rw[Array.toList_map];exact qX λp hp'=>((same p hp').1).symm
 have pv:((arrOf st).toList.map (·.1)).Perm vs:=by
  have:=hp.map (·.1);rw[pairsOf_toList,List.map_fst_zip (qk _)]at this;exact this
 rw[em];refine⟨?_,pv⟩;have key:((arrOf st).toList.map (·.1)).map (VM h)=Yr jK:=by
  refine JK ?_ ?_
  ·rw[<-p1];exact pv.map _
  ·rw[qC]
   refine zG.mpr (qbp (λ{x y} hx hy hxy=>?_) hs);obtain⟨a,ha,ta⟩:=p2 x.1 (same x hx).2;obtain⟨b,hb,tb⟩:=p2 y.1 (same y hy).2;have:=Zff tb ta hb ha;show Xr (VM h x.1) (VM h y.1)=true;rw[Vu ta,Vu tb];unfold Xr;rw[<-this,decide_eq_false (by omega)];rfl
 rw[<-key];exact Zbu λv hv=>by
  obtain⟨ns,_,t⟩:=p2 v (pv.mem_iff.mp hv);exact⟨ns,t⟩
theorem Zkr {α:Type}{R:α->α->Prop}:∀{l:List α},l.length<2->l.Pairwise R
 | [],_=>yC
 | [_],_=>yu _ _
 | _::_::_,h=>by simp at h;omega
theorem Zd7 {a:Addr}{vs:List Value}{jK:List (List Int)}{n:Nat}{P:qc2->Shared->Prop}(ho:s.heap.get? a=some (seqObj "list" vs.toArray n))(ht:Paired (Yc s.heap) vs jK)(hz:vs.length<=100000)(hne:2<=vs.length->∀ns∈jK,ns≠[])
  (h:∀out:Array Value,Paired (Yc s.heap) out.toList (Yr jK)->out.toList.Perm vs->P (.done (.ret .none)) { s with heap:=sortedHeap s.heap a vs out }) :
  xf (xA prog w) A (Builtin.«list.sort» ⟨[.ref a],[]⟩) P E s:=by
 have jQ:vs.length=jK.length:=qad ht;rw[list_sort_plain];have ha:a<s.heap.objs.size:=qH ho;have hvz:vs.toArray.size<=xg:=by rw[qD,sizeLine_eq];omega
 refine xa (listItems_at ho rfl ?_);refine xa (listUpdate_at ho rfl ?_ (hsz:=hvz));obtain⟨e1,ho1⟩:∃e1,(s.heap.update a (zk λ_=>#[])).get? a=some (seqObj "list" #[] e1):=⟨_,get?_update_seq ho (λ_=>#[])⟩;refine xa (seqEpoch_at ho1 rfl ?_);refine xa (wpAny_newTuple ?_ (by simpa using hvz));refine xa (xy ?_);refine xu ?_;have ho6:(((s.heap.update a (zk λ_=>#[])).push (seqObj "tuple" vs.toArray 0)).push (seqObj "list" #[] 0)).get? a=some (seqObj "list" #[] e1):=qd _ (qd _ ho1);have kk:∀c o,c≠a->s.heap.get? c=some o->(((s.heap.update a (zk λ_=>#[])).push (seqObj "tuple" vs.toArray 0)).push (seqObj "list" #[] 0)).get? c=some o:=λc o hc e=>qd _ (qd _ (by rw[qbW _ _ _ _ hc];exact e));have ht2:Paired (Yc (((s.heap.update a (zk λ_=>#[])).push (seqObj "tuple" vs.toArray 0)).push (seqObj "list" #[] 0))) vs jK:=L2.Paired.mapP ht λv ns x=>x.at kk ⟨_,ho,rfl⟩;have back:∀out:Array Value,Paired (Yc (((s.heap.update a (zk λ_=>#[])).push (seqObj "tuple" vs.toArray 0)).push (seqObj "list" #[] 0))) out.toList (Yr jK)->out.toList.Perm vs->Paired (Yc s.heap) out.toList (Yr jK):=λout hpd hpv=>by
  obtain⟨q1,q2⟩:=UU ht;obtain⟨r1,r2⟩:=UU hpd;have z:=Zbu (h:=s.heap) (vs:=out.toList) λv hv=>by
   obtain⟨ns,_,t⟩:=q2 v (hpv.mem_iff.mp hv);exact⟨ns,t⟩
  have e:out.toList.map (VM s.heap)=Yr jK:=by
   rw[<-r1];refine qX λv hv=>?_;obtain⟨ns,_,t⟩:=q2 v (hpv.mem_iff.mp hv);rw[Vu t,Vu (t.at kk ⟨_,ho,rfl⟩)]
  rw[e]at z;exact z
 show xf (xA prog w) A _ P E { s with heap:=((s.heap.update a (zk λ_=>#[])).push (seqObj "tuple" vs.toArray 0)).push (seqObj "list" #[] 0) };dsimp only;have hsz:vs.toArray.size=vs.length:=by simp
 by_cases h2:vs.toArray.size<2
 ·rw[if_pos h2,if_pos h2];refine xa (xb ?_);rw[StateT.run_pure]
  refine xa (xb ?_);dsimp only;refine xa (seqEpoch_at ho6 rfl ?_);refine xa (listUpdate_at ho6 rfl ?_ (hsz2:=by rw[Array.size_map];show(pairsOf vs).size<=_;rw[pairsOf_size,sizeLine_eq];omega));simp only[bne_self_eq_false,qR,if_false];have sp:=Za5 ht2 (st:=qce general' (vs.toArray.zip vs.toArray) #[] 7 none) (.refl _) (by
   show((pairsOf vs).toList).Pairwise _;have hl:(pairsOf vs).toList.length<2:=by rw[qE,pairsOf_size];omega
   exact Zkr hl)
  exact xb (h _ (back _ sp.1 sp.2) sp.2)
 ·rw[if_neg h2,if_neg h2]
  have h2':2<=vs.length:=by omega
  refine xa (Zkf (s:={ s with heap:=((s.heap.update a (zk λ_=>#[])).push (seqObj "tuple" vs.toArray 0)).push (seqObj "list" #[] 0) }) ht2 (hne h2') (by omega) ?_);refine xa (xc (Zfd (s:={ s with heap:=((s.heap.update a (zk λ_=>#[])).push (seqObj "tuple" vs.toArray 0)).push (seqObj "list" #[] 0) }) (a₀:=(pairsOf vs).toList) (st:=qce (tuples' true) (vs.toArray.zip vs.toArray) #[] 7 none)
   (Q:=λ_ st'=>(arrOf st').toList.Perm (pairsOf vs).toList/\SL (JD jK _) (arrOf st').toList/\failedOf st'=none) (cmpT jK) (λx hx=>?_) (.refl _) rfl rfl rfl λst' a1 a2 a3=>⟨a1,a2,a3⟩) ?_ λ_ _ e=>e)
  ·rw[pairsOf_toList]at hx
   exact(UU ht2).2 x.1 (qao hx).1
  ·rintro⟨⟨⟩,st'⟩ s' ⟨rfl,hp,hs,hf⟩
   dsimp only;have sp:=Za5 ht2 hp hs;refine xa (seqEpoch_at ho6 rfl ?_);refine xa (listUpdate_at ho6 rfl ?_ (hsz2:=by
    have:=sp.2.length_eq;rw[qE]at this;rw[this,sizeLine_eq];omega))
   rw[hf];simp only[bne_self_eq_false,qR,if_false];exact xb (h _ (back _ sp.1 sp.2) sp.2)
end
end TT
namespace TF
open L2
section
variable {X:Cx}{G:Gh}
theorem Zfg {i:Nat}{x:Str}{e:Expr}{pos p1 p2 p3:Pos}{r1 fr:Bool}{ob own:List Nat}{f:Za->M D}(hi:i∈own)(hv:PE X (.Name x p1) (Z3 i))(he:PD X G r1 e f)
  (hbase:xq (.Name x p1) "extend" X.env (eval (.Name x p1) X.env)=eval (.Name x p1) X.env:=by rfl)
  (hfew:((backTo p3 (xh [e] X.env)).all (λx=>!x.1)&&(xp p3 (xi [] X.env)).all (λx=>x.1.isSome)
   && decide ([e].length+([]:List Keyword).length+(if ([]:List Keyword).isEmpty then 0 else 1)<30))=true:=by rfl)
  (hline:(p2.endLine==p3.line)=true:=by rfl) (hs:xh [e] X.env=(false,eval e X.env)::xh [] X.env:=by rfl)
  (hsw:xr (.Call (.Attribute (.Name x p1) "extend" p2) [e] [] p3) none pos.line X.env=pure false:=by rfl) :
  YA X G ob own own fr (.Expr (.Call (.Attribute (.Name x p1) "extend" p2) [e] [] p3) pos) (Js i (fun ρ=>f (ZU own ρ))):=
 ZjJ hi he λte p=>Zic hv p hbase hfew hline hs hsw
end
end TF
namespace L2
section
variable {X:Cx}{tg:Expr}
end
end L2
namespace TF
open L2
section
variable {X:Cx}{G:Gh}{ob own:List Nat}{fr:Bool}
end
open Sem (wp)
section
variable {prog:xC}{w:World}{A:xD}{E:xE}{s:Shared}
end
variable {X:Cx}{G:Gh}{f:Za->M D}
end TF
namespace HT
noncomputable def XU (xs:Array Nat):Prop:=xs.toList.Pairwise (· < ·)
theorem XU.lt {xs:Array Nat}(h:XU xs){i k:Nat}(hk:k<xs.size)(hi:i<k):xs.getD i 0<xs.getD k 0:=by
 have:=zE.mp h i k (by simp;omega) (by simpa using hk) hi;simp only[Array.getElem_toList]at this;rw[qP,qP,qe (by omega),qe hk];exact this
theorem ZcC {xs:Array Nat}(h:XU xs)(j:Nat):∀(f lo hi:Nat),hi-lo<=f->lo<=hi->hi<=xs.size->(∀i<lo,xs.getD i 0<j)->(∀i,hi<=i->i<xs.size->j<=xs.getD i 0)->
  (∀i<qaU xs j f lo hi,xs.getD i 0<j)/\(∀i,qaU xs j f lo hi<=i->i<xs.size->j<=xs.getD i 0)/\qaU xs j f lo hi<=xs.size
 | 0,lo,hi,e1,e2,e3,a,b=>by
  have:lo=hi:=by omega
  subst this;unfold qaU;exact⟨a,b,e3⟩
 | f+1,lo,hi,e1,e2,e3,a,b=>by
  unfold qaU;by_cases c:lo<hi
  ·rw[if_pos c]
   dsimp only;have hm:(lo+hi) / 2<xs.size:=by omega
   have eg:xs.getD ((lo+hi) / 2) j=xs.getD ((lo+hi) / 2) 0:=by
    rw[qP,qP,qe hm];rfl
   rw[eg];by_cases d:xs.getD ((lo+hi) / 2) 0<j
   ·rw[if_pos d]
    refine ZcC h j f _ hi (by omega) (by omega) e3 (λi hi'=>?_) b;by_cases z:i<(lo+hi) / 2
    ·exact qam (h.lt hm z) d
    ·have:i=(lo+hi) / 2:=by omega
     rw[this];exact d
   ·rw[if_neg d]
    refine ZcC h j f lo _ (by omega) (by omega) (by omega) a λi hi' hs=>?_;by_cases z:i=(lo+hi) / 2
    ·rw[z];omega
    ·have:=h.lt hs (show(lo+hi) / 2<i by omega)
     omega
  ·rw[if_neg c]
   have:lo=hi:=by omega
   subst this;exact⟨a,b,e3⟩
theorem JM {xs:Array Nat}(h:XU xs)(j:Nat):(∀i<qG xs j,xs.getD i 0<j)/\(∀i,qG xs j<=i->i<xs.size->j<=xs.getD i 0)/\qG xs j<=xs.size:=
 ZcC h j xs.size 0 xs.size (by omega) (zR _) (qk _) (λi hi=>by omega) λi h1 h2=>by omega
theorem Zgn {xs:Array Nat}(h:XU xs){i:Nat}(hi:i<xs.size):qG xs (xs.getD i 0+1)=i+1:=by
 obtain⟨a,b,c⟩:=JM h (xs.getD i 0+1);have h1:¬qG xs (xs.getD i 0+1)<=i:=λz=>by
  have:=b i z hi;omega
 by_cases h2:i+1<qG xs (xs.getD i 0+1)
 ·have:=a (i+1) h2
  have:=h.lt (show i+1<xs.size by omega) (qa7 i);omega
 ·omega
theorem Zgo {xs:Array Nat}(h:XU xs):qG xs 0=0:=by
 obtain⟨a,b,c⟩:=JM h 0;by_cases z:0<qG xs 0
 ·have:=a 0 z;omega
 ·omega
theorem Zfh {xs:Array Nat}(h:XU xs){j:Nat}(hj:¬xs[qG xs j]?=some j):XU (qaV xs (qG xs j) j):=by
 obtain⟨a,b,c⟩:=JM h j;unfold XU;rw[qaK];have gl:∀{i:Nat} {x:Nat},xs.toList[i]?=some x->i<xs.size/\xs.getD i 0=x:=λ{i x} e=>by
  rw[qz]at e;obtain⟨l,e2⟩:=zO.mp e;exact⟨l,by rw[qP,e];rfl⟩
 have m1:∀x∈xs.toList.take (qG xs j),x<j:=λx hx=>by
  obtain⟨i,hi⟩:=zH.mp hx;have hl:=(qq.mp hi).1;rw[qV]at hl;rw[zX (by omega)]at hi;have:=a i (by omega);rw[(gl hi).2]at this;exact this
 have m2:∀x∈xs.toList.drop (qG xs j),j<x:=λx hx=>by
  obtain⟨i,hi⟩:=zH.mp hx;rw[yh]at hi;obtain⟨g1,g2⟩:=gl hi;have h1:=b _ (qba _ i) g1;rw[g2]at h1;by_cases e:j=x
  ·exfalso
   subst e;by_cases z:i=0
   ·subst z
    rw[qbR,qz]at hi;exact hj hi
   ·have h2:=h.lt g1 (show qG xs j<qG xs j+i by omega)
    have h3:=b _ (qk _) (by omega);omega
  ·omega
 refine qN.mpr ⟨h.sublist (yB _ _),yi.mpr ⟨m2,h.sublist (List.drop_sublist _ _)⟩,λx hx y hy=>?_⟩;rcases qp.mp hy with rfl | hy
 ·exact m1 x hx
 ·exact qam (m1 x hx) (m2 y hy)
theorem ZiG {t:SetTable}{j:Nat}(h:t.place[qG t.place j]?=some j):t.slot j=.live (qG t.place j):=by
 unfold SetTable.slot;dsimp only;rw[if_pos (by rw[h];simp)]
theorem Zaf (g:Nat->Option Nat):∀l:List Nat,(l.filterMap λj=>(g j).map (j,·)).map (·.1)=l.filter λj=>(g j).isSome
 | []=>rfl
 | a::l=>by
  rw[yP]
  cases e:g a with
  | none=>simp[e,Zaf g l]
  | some x=>simp[e,Zaf g l]
theorem ZiH {m f v:Nat}{l p:Bool}{hs:Array Int}{r:SetTable×Array Nat}(h:qbE m f v l p hs=some r):r.1.led=l/\XU r.1.place:=by
 unfold qbE at h
 cases e:zP m hs with
 | none=>rw[e]at h;cases h
 | some ow=>
  rw[e]at h
  cases h
  refine⟨rfl,?_⟩;show((((qm (m+1)).filterMap λj=>(ow.getD j none).map (j,·)).map (·.1)).toArray.toList).Pairwise (· < ·);rw[ym,Zaf];exact qcB.sublist za
noncomputable def Yo (w:World):Bool:=w.params.followText "set-order"
noncomputable def Good (w:World)(t:SetTable):Prop:=(Yo w=true∨t.led=true)/\XU t.place
section
variable {prog:xC}{w:World}
variable (prog w) in
variable {A:xD}{E:xE}{s:Shared}
theorem Znw (a:Value){Q₁:xE}(h:Q₁ (.ref s.heap.objs.size) { s with heap:=s.heap.push (Wc (!Yo w)) }) :
  xo (xA prog w) A (.call (.builtin "set.__new__") ⟨[.type "set",a],[]⟩) (wants Q₁ E) s:=by
 apply codeAny_of_tree;show xf _ A.in1 (do
  checkBuiltinCall "set.__new__" ⟨[.type "set",a],[]⟩
  again (.builtin "set.__new__" ⟨[.type "set",a],[]⟩)) _ _ s
 refine xa (wpAny_of_eq (PySem.F.newCall_set_1 a) (xb ⟨plainId_quiet qcF _,xm PySem.F.entry_set_new ?_⟩));rw[yM qcF _];unfold Builtin.«set.__new__»;unfold Builtin.Frozenset.newClass;have s1:=sub_set_self;obtain⟨hp,g,d,tk,os⟩:=s;dsimp only
 wp_walk
 refine wpAny_askSetting (xb ?_);dsimp only;simp only[newObj];refine xa (wpAny_alloc (xb (xb ?_)));exact h
end
namespace FS
theorem entry_set_iter:entryFor table "set.__iter__" = some Builtin.«frozenset.__iter__»:=
 entryFor_alias (id':="frozenset.__iter__") (by kernel_rfl) rfl (by decide +kernel) (by kernel_rfl)
theorem slot_next:Slot "set_iterator" "__next__" "set_iterator.__next__":=
 .of (owner:="set_iterator") (n:="__next__") (by rw[typeLookup_type,builtinLookup_eq_fast];kernel_rfl)
  (by decide +kernel) (by decide +kernel) (by decide +kernel)
  (by first | exact .inl (by decide +kernel) | exact .inr (by decide +kernel))
  (by rw[isSubtype_type];kernel_rfl)
theorem entry_next:entryFor table "set_iterator.__next__" = some Builtin.«set_iterator.__next__»:=
 entryFor_of_tree (by kernel_rfl)
theorem Zfi:Manifest.owners.lookup (String.ofList ['r','o','t','a','r','e','t','i','_','t','e','s'].reverse)=some Manifest.sig_set_iterator:=by kernel_rfl
theorem args_next (a:Value):argsOk "set_iterator.__next__" ⟨[a],[]⟩:=by
 unfold argsOk;rw[signature?_of (id:="set_iterator.__next__") (n:=['_','_','t','x','e','n','_','_']) (o:=['r','o','t','a','r','e','t','i','_','t','e','s']) (by kernel_rfl) Zfi]
 kernel_rfl
end FS
theorem ZaN {α:Type}:∀(l:List α) {i:Nat} (h:i<l.length),([l[i]]++l.eraseIdx i).Perm l
 | a::l,0,_=>.refl _
 | a::l,i+1,h=>by
  have ih:=ZaN l (i:=i) (by simpa using h);simp only[List.getElem_cons_succ,qcx,List.singleton_append]at ih⊢;exact(qa2.swap _ _ _).trans (ih.cons a)
theorem Zho {α:Type}(f:Nat->Nat):∀(n k:Nat) (l:List α) (out:Array α),l.length=n->(pickOrder.go f n k l out).toList.Perm (out.toList++l)
 | 0,k,l,out,h=>by
  have:l=[]:=yt.mp h;subst this;unfold pickOrder.go;rw[zB]
 | n+1,k,l,out,h=>by
  unfold pickOrder.go;have hl:f k % l.length<l.length:=qbc _ (by omega);rw[qI hl];dsimp only;refine(Zho f n (k+1) _ _ (by rw[qb9 hl];omega)).trans ?_;rw[zi,qK];refine qbJ _ ?_;exact ZaN l hl
theorem Zbv {α:Type}(f:Nat->Nat)(xs:Array α):(pickOrder f xs).toList.Perm xs.toList:=by
 have:=Zho f xs.size 0 xs.toList #[] (by simp);simpa[pickOrder]using this
section
variable {prog:xC}{w:World}{A:xD}{E:xE}{s:Shared}
theorem Zdt {α:Type}:∀(n:Nat) (l:List α) (s:Shared) (Q:List α->Shared->Prop),l.length=n->(∀(r:List α) d,r.Perm l->Q r { s with drawn:=d })->xf (xA prog w) A (drawOrder n l) Q E s
 | 0,l,s,Q,h,k=>by
  have:l=[]:=yt.mp h;subst this;unfold drawOrder;exact xb (k [] s.drawn (.refl _))
 | n+1,[],s,Q,h,k=>by cases h
 | n+1,a::l,s,Q,h,k=>by
  unfold drawOrder;refine xa ?_;intro Γ p hΓ;show Sem.wp _ _ (.choose .order (a::l).length .pure) _ _ _ _;rw[Sem.wp_choose];refine⟨by simp,?_⟩;have hl:(xA prog w).w.draws .order (s.drawn.get .order) % (a::l).length<(a::l).length:=qbc _ (by simp);generalize (xA prog w).w.draws .order (s.drawn.get .order) % (a::l).length=i at hl;show Sem.wp _ _ (Sem.pure i) _ _ _ _;rw[Sem.wp_pure];dsimp only;rw[qI hl];dsimp only;refine xa (Zdt n _ _ _ (by rw[qb9 hl,h];rfl) λr d hr=>?_);exact xb (k _ d ((hr.cons _).trans (ZaN (a::l) hl)))
noncomputable abbrev Xj (first:Value)(i:Nat)(a:Addr)(n ep:Nat):Obj:={ cls:=.type "set_iterator",data:=.fields #[first,rawInt i,.ref a,rawInt n,rawInt ep] }
theorem Zhp {it a:Addr}{o:Obj}{es:Array (Int×Value)}{ep:Nat}{t:SetTable}{slot i nx:Nat}{x:Value}{Q:Option Value->Shared->Prop}
  (hit:s.heap.get? it=some (Xj (rawInt slot) i a es.size ep)) (ho:s.heap.get? a=some o) (hd:o.data=.set es ep t) (hf:t.fits es.size=true)
  (hn:∀(A:xD) (E:xE) (F:Option (Value×Nat)->Shared->Prop),F (some (x,nx)) s->xf (xA prog w) A (setNext a slot i ep) F E s)
  (hQ:∀h',h'.get? it=some (Xj (rawInt nx) (i+1) a es.size ep)->zW it s.heap h'->Q (some x) { s with heap:=h' }):xf (xA prog w) A (pyNext (.ref it)) Q E s:=by
 have hT:s.TypeIs (.ref it) "set_iterator":=⟨_,hit,rfl⟩;unfold pyNext;refine xa (wpAny_attempt (wpAny_callSpecial?_slot (name:=qy "__next__") hT FS.slot_next
  (wpAny_call_entry FS.slot_next hT FS.entry_next ?_ (FS.args_next _))))
 unfold Builtin.«set_iterator.__next__»;refine xa (m:=slotArgs _ _ _) (xb ?_);refine xa (wpAny_fieldsOf hit rfl ?_);show xf _ _ (setEntries a >>= _) _ _ _;refine xa (wpAny_setEntries_of ho hd hf ?_);rw[if_neg (by simp)];show xf _ _ (setNext a slot i ep >>= _) _ _ _;refine xa (hn _ _ _ ?_);dsimp only;refine xa (wpAny_setField hit rfl (by simp) ?_);have g1:(s.heap.update it (yU (·.setIfInBounds 0 (rawInt nx)))).get? it=some (Xj (rawInt nx) i a es.size ep):=yb _ hit rfl;refine xa (wpAny_setField (s:={ s with heap:=s.heap.update it (yU (·.setIfInBounds 0 (rawInt nx))) }) g1 rfl (by simp) ?_);have g2:((s.heap.update it (yU (·.setIfInBounds 0 (rawInt nx)))).update it (yU (·.setIfInBounds 1 (rawInt ((i:Int)+1))))).get? it=some (Xj (rawInt nx) (i+1) a es.size ep):=yb _ g1 rfl;exact xb ⟨_,rfl,xb (hQ _ g2 ((yQ ..).trans (yQ ..)))⟩
theorem Zhq {it:Addr}{i n ep:Nat}{a:Addr}{f:Value}{Q:Option Value->Shared->Prop}(hh:A.handled=none)(hit:s.heap.get? it=some (Xj f i a n ep))
  (k:∀(A:xD) (G:Fin->Shared->Prop) (F:xE),A.handled=none->(∀v h',qbg it s.heap h'->qcR { s with heap:=h' } v "StopIteration"->F v { s with heap:=h' })->xf (xA prog w) A (Builtin.«set_iterator.__next__» ⟨[.ref it],[]⟩) G F s)
  (hQ:∀h',qbg it s.heap h'->Q none { s with heap:=h' }):xf (xA prog w) A (pyNext (.ref it)) Q E s:=by
 have hT:s.TypeIs (.ref it) "set_iterator":=⟨_,hit,rfl⟩;unfold pyNext;refine xa (wpAny_attempt (wpAny_callSpecial?_slot (name:=qy "__next__") hT FS.slot_next
  (wpAny_call_entry FS.slot_next hT FS.entry_next (k _ _ _ hh λv h' e tv=>?_) (FS.args_next _))))
 refine xa (wpAny_isInstance (T:="StopIteration") (b:=true) tv isSubtype_stop ?_);exact xb (hQ _ e)
end
end HT
namespace HT
section
variable {prog:xC}{w:World}{A:xD}{E:xE}{s:Shared}
variable {a:Addr}{o:Obj}{es:Array (Int×Value)}{ep:Nat}{t:SetTable}
theorem Zdu {slot i:Nat}{F:Option (Value×Nat)->Shared->Prop}(ho:s.heap.get? a=some o)(hd:o.data=.set es ep t)(hf:t.fits es.size=true)(hT:Yo w=true)
  (k:F (((pickOrder (w.params.setOrder a ep) es)[i]?).map λe=>(e.2,slot)) s):xf (xA prog w) A (setNext a slot i ep) F E s:=by
 unfold setNext;refine xa (wpAny_setState_of ho hd hf ?_);dsimp only;unfold setsByText;refine xa (xa (wpAny_askSetting (xb ?_)));show xf _ _ (if Yo w=true then _ else _) _ _ _;rw[if_pos hT,if_neg (by simp)];unfold setWalk;refine xa (xa (wpAny_setState_of ho hd hf ?_));dsimp only;unfold setsByText;refine xa (xa (wpAny_askSetting (xb ?_)));show xf _ _ (if Yo w=true then _ else _) _ _ _;rw[if_pos hT];refine xa (wpAny_askSetting (xb ?_));exact xb k
theorem ZcD {slot i:Nat}{F:Option (Value×Nat)->Shared->Prop}(ho:s.heap.get? a=some o)(hd:o.data=.set es ep t)(hf:t.fits es.size=true)(hT:Yo w=false)(hdr:(!t.plain&&decide (es.size > 1))=false)(hl:t.led=true)
  (k:F (match es[qG t.place slot]?,t.place[qG t.place slot]? with | some (_,x),some j=>some (x,j+1) | _,_=>none) s):xf (xA prog w) A (setNext a slot i ep) F E s:=by
 unfold setNext;refine xa (wpAny_setState_of ho hd hf ?_);dsimp only;unfold setsByText;refine xa (xa (wpAny_askSetting (xb ?_)));show xf _ _ (if Yo w=true then _ else _) _ _ _;rw[if_neg (by rw[hT];decide)];show xf _ _ (if (!t.plain&&decide (es.size > 1))=true then _ else _) _ _ _;rw[if_neg (by rw[hdr];decide)];show xf _ _ ((if (!t.led && !es.isEmpty)=true then unsupported "set:maker-not-led" else pure ()) >>= _) _ _ _;rw[if_neg (by simp[hl])];refine xa (xb ?_);exact xb k
theorem ZcE {G:Fin->Shared->Prop}{F:xE}(hh:A.handled=none)(k:∀v h',(∀b u,s.heap.get? b=some u->h'.get? b=some u)->qcR { s with heap:=h' } v "StopIteration"->F v { s with heap:=h' }) :
  xf (xA prog w) A (newExc (.type "StopIteration") [] >>= λe=>(raiseNew e:Sem Fin)) G F s:=by
 refine xa ?_;simp only[newExc,newTuple];refine xa (xl ?_ (by size_fits));refine xa (m:=firstArgMember _ _) (wpAny_of_eq (a:=zd) (by first | rfl | (simp only[firstArgMember];rfl)) ?_);refine xl ?_ (by size_fits);simp only[raiseNew];refine xa (wpAny_handled ?_);rw[hh];refine xa (xb (wpAny_throw ?_));exact k _ _ (λb u e=>qd _ (qd _ e)) ⟨_,qw _ rfl,rfl⟩
theorem Zks {it:Addr}{slot i:Nat}{Q:Option Value->Shared->Prop}(hh:A.handled=none)(hit:s.heap.get? it=some (Xj (rawInt slot) i a es.size ep))(ho:s.heap.get? a=some o)(hd:o.data=.set es ep t)(hf:t.fits es.size=true)
  (hn:∀(A:xD) (E:xE) (F:Option (Value×Nat)->Shared->Prop),F none s->xf (xA prog w) A (setNext a slot i ep) F E s)
  (hQ:∀h',qbg it s.heap h'->Q none { s with heap:=h' }):xf (xA prog w) A (pyNext (.ref it)) Q E s:=by
 refine Zhq hh hit (λA G F hh k=>?_) hQ;unfold Builtin.«set_iterator.__next__»;refine xa (m:=slotArgs _ _ _) (xb ?_);refine xa (wpAny_fieldsOf hit rfl ?_);show xf _ _ (setEntries a >>= _) _ _ _;refine xa (wpAny_setEntries_of ho hd hf ?_);rw[if_neg (by simp)];show xf _ _ (setNext a slot i ep >>= _) _ _ _;refine xa (hn _ _ _ ?_);dsimp only;refine xa (wpAny_setField hit rfl (by simp) ?_);refine ZcE (s:={ s with heap:=s.heap.update it (yU (·.setIfInBounds 2 .none)) }) hh λv h' e tv=>k v h' (λb u nb eb=>e b u ?_) tv;exact(yz _ _ (zD nb)).trans eb
namespace FS
theorem entry_si_iter:entryFor table "set_iterator.__iter__" = some Builtin.«dict_keyiterator.__iter__»:=
 entryFor_alias (id':="dict_keyiterator.__iter__") (by kernel_rfl) rfl (by decide +kernel) (by kernel_rfl)
theorem slot_si_iter:Slot "set_iterator" "__iter__" "set_iterator.__iter__":=
 .of (owner:="set_iterator") (n:="__iter__") (by rw[typeLookup_type,builtinLookup_eq_fast];kernel_rfl)
  (by decide +kernel) (by decide +kernel) (by decide +kernel)
  (by first | exact .inl (by decide +kernel) | exact .inr (by decide +kernel))
  (by rw[isSubtype_type];kernel_rfl)
theorem args_si_iter (a:Value):argsOk "set_iterator.__iter__" ⟨[a],[]⟩:=by
 unfold argsOk;rw[signature?_of (id:="set_iterator.__iter__") (n:=['_','_','r','e','t','i','_','_']) (o:=['r','o','t','a','r','e','t','i','_','t','e','s']) (by kernel_rfl) Zfi]
 kernel_rfl
end FS
theorem Zfj {it:Addr}{f:Value}{i n:Nat}{Q:xE}(hit:s.heap.get? it=some (Xj f i a n ep))(h:Q (.ref it) s):xf (xA prog w) A (pyIter (.ref it)) Q E s:=by
 have hT:s.TypeIs (.ref it) "set_iterator":=⟨_,hit,rfl⟩;refine wpAny_pyIter_slot hT FS.slot_si_iter (wpAny_call_entry FS.slot_si_iter hT FS.entry_si_iter ?_ (FS.args_si_iter _));show xf _ _ (ret (.ref it)) _ _ s;exact xb ⟨_,rfl,"set_iterator",_,hT,FS.slot_next.lookup,h⟩
noncomputable def VN (w:World)(a:Addr)(ep:Nat)(es:Array (Int×Value)):List Value:=if Yo w=true then (pickOrder (w.params.setOrder a ep) es).toList.map (·.2)else es.toList.map (·.2)
theorem Zfk:(VN w a ep es).Perm (es.toList.map (·.2)):=by
 unfold VN;split
 ·exact(Zbv _ es).map _
 ·exact .refl _
theorem ZlH:(VN w a ep es).length=es.size:=by rw[Zfk.length_eq,qf,qE]
theorem Zkt (hh:A.handled=none)(I:Addr)(hne:a≠I)(hd:o.data=.set es ep t)(hf:t.fits es.size=true)(hg:Good w t)(hdr:Yo w=true∨(!t.plain&&decide (es.size > 1))=false) :
  Walks prog w A I [I,a] [I] es.size (λi v=>(VN w a ep es)[i]?=some v) (λi h=>h.get? a=some o/\∃slot:Nat,h.get? I=some (Xj (rawInt slot) i a es.size ep)/\(Yo w=true∨qG t.place slot=i)) where
 sub:=λb hb=>by simp at hb;simp[hb]
 frame:=λi h h' st k=>by
  obtain⟨h1,slot,h2,h3⟩:=st;exact⟨k a (by simp) _ h1,slot,k I (by simp) _ h2,h3⟩
 item:=λi s Q E hi st k=>by
  obtain⟨h1,slot,h2,h3⟩:=st;have hps:t.place.size=es.size:=by
   simp only[qcS,zF,beq_iff_eq]at hf;exact hf.1
  have fin:∀(x:Value) (nx:Nat),(VN w a ep es)[i]?=some x->(Yo w=true∨qG t.place nx=i+1)->∀h',h'.get? I=some (Xj (rawInt nx) (i+1) a es.size ep)->zW I s.heap h'->Q (some x) { s with heap:=h' }:=λx nx hx hb h' g sb=>
   k x h' s.toks hx ⟨(sb.2 a hne).trans h1,nx,g,hb⟩ λb u nb e=>(sb.2 b (λz=>nb (by simp[z]))).trans e
  cases hT:Yo w with
  | true=>
   have jQ:i<(pickOrder (w.params.setOrder a ep) es).size:=by
    have:=(Zbv (w.params.setOrder a ep) es).length_eq;simp only[qE]at this;omega
   have hx:(VN w a ep es)[i]?=some (pickOrder (w.params.setOrder a ep) es)[i].2:=by
    unfold VN;rw[if_pos hT,qu,qz,qe jQ];rfl
   refine Zhp (nx:=slot) h2 h1 hd hf (λA E F q=>Zdu h1 hd hf hT ?_) (fin _ slot hx (.inl hT));rw[qe jQ];exact q
  | false=>
   have hb:qG t.place slot=i:=h3.resolve_left (by rw[hT];decide);have hdr':=hdr.resolve_left (by rw[hT];decide);have hl:=hg.1.resolve_left (by rw[hT];decide);have hx:(VN w a ep es)[i]?=some es[i].2:=by
    unfold VN;rw[if_neg (by rw[hT];decide),qu,qz,qe hi];rfl
   have hp:t.place[i]?=some (t.place.getD i 0):=by
    rw[qP,qe (by omega)];rfl
   refine Zhp (nx:=t.place.getD i 0+1) h2 h1 hd hf (λA E F q=>ZcD h1 hd hf hT hdr' hl ?_) (fin _ _ hx (.inr (Zgn hg.2 (by omega))));rw[hb,qe hi,hp];exact q
 done:=λs Q E st k=>by
  obtain⟨h1,slot,h2,h3⟩:=st;have fin:∀h',qbg I s.heap h'->Q none { s with heap:=h' }:=λh' e=>k h' s.toks λb u nb g=>e b u (λz=>nb (by simp[z])) g
  cases hT:Yo w with
  | true=>
   refine Zks hh h2 h1 hd hf (λA E F q=>Zdu h1 hd hf hT ?_) fin;rw[qaS]
   ·exact q
   ·have:=(Zbv (w.params.setOrder a ep) es).length_eq
    simp only[qE]at this;omega
  | false=>
   have hb:qG t.place slot=es.size:=h3.resolve_left (by rw[hT];decide);refine Zks hh h2 h1 hd hf (λA E F q=>ZcD h1 hd hf hT (hdr.resolve_left (by rw[hT];decide)) (hg.1.resolve_left (by rw[hT];decide)) ?_) fin;rw[hb,qaS (qk _)];exact q
 self:=λi s Q E st k=>Zfj st.2.choose_spec.1 k
noncomputable abbrev WC (pl:List Nat):Array Value:=(pl.map λ(i:Nat)=>rawInt i).toArray
theorem ZlI {it T:Addr}{i p:Nat}{x:Int×Value}{pl:List Nat}{c:Nat}{Q:Option Value->Shared->Prop}
  (hit:s.heap.get? it=some (Xj (.ref T) i a es.size ep)) (ho:s.heap.get? a=some o) (hd:o.data=.set es ep t) (hf:t.fits es.size=true)
  (hT:s.heap.get? T=some { cls:=.type "tuple",data:=.seq (WC pl) c }) (hp:pl[i]?=some p) (hx:es[p]?=some x)
  (hQ:∀h',h'.get? it=some (Xj (.ref T) (i+1) a es.size ep)->zW it s.heap h'->Q (some x.2) { s with heap:=h' }):xf (xA prog w) A (pyNext (.ref it)) Q E s:=by
 have hTy:s.TypeIs (.ref it) "set_iterator":=⟨_,hit,rfl⟩;unfold pyNext;refine xa (wpAny_attempt (wpAny_callSpecial?_slot (name:=qy "__next__") hTy FS.slot_next
  (wpAny_call_entry FS.slot_next hTy FS.entry_next ?_ (FS.args_next _))))
 unfold Builtin.«set_iterator.__next__»;refine xa (m:=slotArgs _ _ _) (xb ?_);refine xa (wpAny_fieldsOf hit rfl ?_);show xf _ _ (setEntries a >>= _) _ _ _;refine xa (wpAny_setEntries_of ho hd hf ?_);rw[if_neg (by simp)];show xf _ _ (seqItems? (.ref T) >>= _) _ _ _;refine xa (xt hT rfl ?_);have e:(WC pl)[((i:Nat):Int).toNat]?=some (rawInt p):=by
  rw[yO];simp[WC,hp]
 dsimp only;rw[e];show xf _ _ (setNextDrawn a p ep >>= _) _ _ _;unfold setNextDrawn;refine xa (xa (wpAny_setState_of ho hd hf ?_));dsimp only;rw[if_neg (by simp),hx];refine xb ?_;refine xa (wpAny_setField hit rfl (by simp) ?_);have g2:(s.heap.update it (yU (·.setIfInBounds 1 (rawInt ((i:Int)+1))))).get? it=some (Xj (.ref T) (i+1) a es.size ep):=yb _ hit rfl;exact xb ⟨_,rfl,xb (hQ _ g2 (yQ ..))⟩
theorem Znx {it T:Addr}{i:Nat}{pl:List Nat}{c:Nat}{Q:Option Value->Shared->Prop}(hh:A.handled=none)
  (hit:s.heap.get? it=some (Xj (.ref T) i a es.size ep)) (ho:s.heap.get? a=some o) (hd:o.data=.set es ep t) (hf:t.fits es.size=true)
  (hT:s.heap.get? T=some { cls:=.type "tuple",data:=.seq (WC pl) c }) (hp:pl.length<=i)
  (hQ:∀h',qbg it s.heap h'->Q none { s with heap:=h' }):xf (xA prog w) A (pyNext (.ref it)) Q E s:=by
 refine Zhq hh hit (λA G F hh k=>?_) hQ;unfold Builtin.«set_iterator.__next__»;refine xa (m:=slotArgs _ _ _) (xb ?_);refine xa (wpAny_fieldsOf hit rfl ?_);show xf _ _ (setEntries a >>= _) _ _ _;refine xa (wpAny_setEntries_of ho hd hf ?_);rw[if_neg (by simp)];show xf _ _ (seqItems? (.ref T) >>= _) _ _ _;refine xa (xt hT rfl ?_);have e:(WC pl)[((i:Nat):Int).toNat]?=none:=by
  rw[yO];simp[WC,hp]
 dsimp only;rw[e];dsimp only;refine xa (wpAny_setField hit rfl (by simp) ?_);have g1:(s.heap.update it (yU (·.setIfInBounds 0 (rawInt 0)))).get? it=some (Xj (rawInt 0) i a es.size ep):=yb _ hit rfl;refine xa (wpAny_setField (s:={ s with heap:=s.heap.update it (yU (·.setIfInBounds 0 (rawInt 0))) }) g1 rfl (by simp) ?_);refine ZcE (s:={ s with heap:=(s.heap.update it (yU (·.setIfInBounds 0 (rawInt 0)))).update it (yU (·.setIfInBounds 2 .none)) }) hh λv h' e tv=>k v h' (λb u nb eb=>e b u ?_) tv;exact(yz _ _ (zD nb)).trans ((yz _ _ (zD nb)).trans eb)
noncomputable def Jw (es:Array (Int×Value))(pl:List Nat):List Value:=pl.map λp=>(es.getD p default).2
theorem ZiI {pl:List Nat}(hp:pl.Perm (qm es.size)):(Jw es pl).Perm (es.toList.map (·.2)):=by
 unfold Jw;refine(hp.map _).trans ?_;have:((qm es.size).map λp=>(es.getD p default).2)=es.toList.map (·.2):=by
  apply yc;intro i;have el:es.toList[i]?=es[i]?:=qz ..;rw[qu,qu,el];by_cases hi:i<es.size
  ·rw[zI hi,qe hi]
   simp only[yE];rw[qP,qe hi];rfl
  ·rw[zj (by simp;omega),qaS (by omega)]
   rfl
 rw[this]
theorem Zgp (hh:A.handled=none)(I T:Addr)(hne:a≠I)(hneT:T≠I)(hd:o.data=.set es ep t)(hf:t.fits es.size=true){pl:List Nat}{c:Nat}(hp:pl.Perm (qm es.size)) :
  Walks prog w A I [I,a,T] [I] es.size (λi v=>(Jw es pl)[i]?=some v) (λi h=>h.get? a=some o/\h.get? I=some (Xj (.ref T) i a es.size ep)/\h.get? T=some { cls:=.type "tuple",data:=.seq (WC pl) c }) where
 sub:=λb hb=>by simp at hb;simp[hb]
 frame:=λi h h' st k=>⟨k a (by simp) _ st.1,k I (by simp) _ st.2.1,k T (by simp) _ st.2.2⟩
 item:=λi s Q E hi st k=>by
  obtain⟨h1,h2,h3⟩:=st;have hl:i<pl.length:=by rw[hp.length_eq,qW];exact hi
  have hm:pl[i]<es.size:=qQ.mp (hp.mem_iff.mp (qcm hl));have hx:(Jw es pl)[i]?=some es[pl[i]].2:=by
   unfold Jw;rw[qu,qI hl];simp only[yE];rw[qP,qe hm];rfl
  exact ZlI h2 h1 hd hf h3 (qI hl) (qe hm) λh' g sb=>k _ h' s.toks hx ⟨(sb.2 a hne).trans h1,g,(sb.2 T hneT).trans h3⟩ λb u nb e=>(sb.2 b (λz=>nb (by simp[z]))).trans e
 done:=λs Q E st k=>by
  obtain⟨h1,h2,h3⟩:=st;exact Znx hh h2 h1 hd hf h3 (by rw[hp.length_eq,qW];exact qk _) λh' e=>k h' s.toks λb u nb g=>e b u (λz=>nb (by simp[z])) g
 self:=λi s Q E st k=>Zfj st.2.1 k
theorem Zku {Q:xE}(ho:s.heap.get? a=some o)(hex:o.ExactSet)(hd:o.data=.set es ep t)(hf:t.fits es.size=true)(hz:es.size<=1000)
  (k1:(Yo w=true∨(!t.plain&&decide (es.size > 1))=false)->Q (.ref s.heap.objs.size) { s with heap:=s.heap.push (Xj (rawInt (0:Nat)) 0 a es.size ep) })
  (k2:∀(pl:List Nat) d,pl.Perm (qm es.size)->Q (.ref (s.heap.objs.size+1)) { s with heap:=(s.heap.push { cls:=.type "tuple",data:=.seq (WC pl) }).push (Xj (.ref s.heap.objs.size) 0 a es.size ep),drawn:=d }):xf (xA prog w) A (pyIter (.ref a)) Q E s:=by
 have hT:s.TypeIs (.ref a) "set":=⟨o,ho,hex.1⟩;refine wpAny_pyIter_slot hT qcG (wpAny_call_entry qcG hT FS.entry_set_iter ?_ (PySem.F.args_set_iter_1 _));unfold Builtin.«frozenset.__iter__» Builtin.Frozenset.slot0;refine xa (xa (m:=slotArgs _ _ _) (xb ?_));refine xb ?_;unfold Builtin.Frozenset.sizeOf;refine xa (xa (wpAny_setEntries_of ho hd hf (xb ?_)));unfold setDrawn;refine xa (xa (wpAny_setState_of ho hd hf ?_));dsimp only;unfold setsByText;refine xa (xa (wpAny_askSetting (xb (xb ?_))));show xf _ _ (if (!Yo w&&(!t.plain&&decide (es.size > 1)))=true then _ else _) _ _ _;by_cases hc:(!Yo w&&(!t.plain&&decide (es.size > 1)))=true
 ·rw[if_pos hc]
  refine xa (Zdt es.size (qm es.size) _ _ qW λpl d hp=>?_);have hpl:pl.length=es.size:=by rw[hp.length_eq,qW]
  unfold newTuple;refine xa (xl ?_ (by show(WC pl).size<=xg;rw[sizeLine_eq];simp[WC];omega));refine xa (wpAny_setEpoch_of (s:={ s with heap:=s.heap.push { cls:=.type "tuple",data:=.seq (WC pl) },drawn:=d }) (qd _ ho) hd hf ?_);unfold newFields;refine xa (xl ?_);refine xb ⟨_,rfl,"set_iterator",_,⟨_,qw _ rfl,rfl⟩,FS.slot_next.lookup,?_⟩;have:=k2 pl d hp;rw[<-yf s.heap { cls:=.type "tuple",data:=.seq (WC pl) }]at this;exact this
 ·rw[if_neg hc]
  refine xa (xb ?_);refine xa (wpAny_setEpoch_of ho hd hf ?_);unfold newFields;refine xa (xl ?_);refine xb ⟨_,rfl,"set_iterator",_,⟨_,qw _ rfl,rfl⟩,FS.slot_next.lookup,?_⟩;refine k1 ?_
  cases hb:Yo w with
  | true=>exact .inl rfl
  | false=>
   rw[hb]at hc;exact .inr (by simpa using hc)
end
end HT
namespace HT
section
variable {prog:xC}{w:World}{A:xD}{E:xE}{s:Shared}
variable {a:Addr}{o:Obj}{es:Array (Int×Value)}{ep:Nat}{t:SetTable}
theorem Zkv {Q:Bool->Shared->Prop}(hT:s.TypeIs (.ref a) "set")(h:Q false s):xf (xA prog w) A (qa3 (.ref a)) Q E s:=by
 unfold qa3;refine xa (wpAny_specialOf hT PySem.F.slot_set_len.lookup ?_);generalize hid:("set.__len__" : String)=id0
 wp_delta
 rw[show splitId id0=some ("set","__len__")from by subst hid;decide +kernel];subst hid;refine xa (wpAny_isInstance (T:="set") (b:=true) hT (by rw[isSubtype_type];kernel_rfl) ?_);refine wpAny_ite_split (λz=>absurd z (by decide)) (λ_=>?_);refine wpAny_ite_split (λ_=>?_) (λz=>absurd (by decide +kernel) z);refine xa (wpAny_typeOf hT ?_);exact xb h
theorem Zkw {l:List Value}{j6:Array Value}(h:ItemsOf (λi v=>l[i]?=some v) j6 l.length):j6.toList=l:=by
 apply yc;intro i;rw[qz];by_cases hi:i<l.length
 ·have hs:i<j6.size:=by rw[h.1];exact hi
  rw[qe hs];exact(h.2 i _ (qe hs)).symm
 ·rw[qaS (by rw[h.1];omega),zj (by omega)]
theorem after {I S:Addr}{fp wr:List Addr}{l:List Value}{St:Nat->Heap->Prop}{n:Nat}{g:Bool->Bool}{s1:Shared}{R:Result->Shared->Prop}(W:Walks prog w A.in1 I fp wr n (λi v=>l[i]?=some v) St)(hl:l.length=n)(hn:n<=1000)(st:St 0 s1.heap)(hSf:S∉fp)
  (hS:s1.heap.get? S=some { cls:=.type "list",data:=.seq #[] 0 }) (hT:s1.TypeIs (.ref a) "set") (hg:g false=true)
  (k:∀h' tk c,(∀b u,b∉S::wr->s1.heap.get? b=some u->h'.get? b=some u)->h'.get? S=some { cls:=.type "list",dict:=none,data:=.seq l.toArray c,slots:=#[] }->R (.ok (.ret (.ref S))) { s1 with heap:=h',toks:=tk }) :
  xf (xA prog w) A.in1 (do
   let room<-holding [.ref I] (qa3 (.ref a))
   if g room=true then do
    rule "list.extend.makes-room"
    Builtin.List.listTouch (.ref S)
    again (.builtin "list.extend.loop" { pos:=[.ref S,.ref I,.ref S] })
   else again (.builtin "list.extend.loop" { pos:=[.ref S,.ref I,.ref S] }))
   (λfin s'=>match fin with | .done f=>R (.ok f) s' | .again c'=>c'.quiet=true/\xo (xA prog w) A c' R s') (λe s'=>R (.error e) s') s1:=by
 refine xa (xu (Zkv hT ?_));rw[if_pos hg];refine xa (wpAny_rule (xa ?_));show xf _ _ (updateSeq S (·.push .none) >>= λ_=>updateSeq S (·.pop)) _ _ _;refine xa (wpAny_updateSeq hS rfl ?_);have q2:=yb (zk (·.push zd)) hS rfl;refine wpAny_updateSeq (hz:=by seq_fits) q2 rfl ?_;have q3:=yb (zk (·.pop)) q2 rfl;have oth:∀b u,b≠S->s1.heap.get? b=some u->((s1.heap.update S (zk (·.push zd))).update S (zk (·.pop))).get? b=some u:=λb u nb e=>
  (yz _ _ (zD nb)).trans ((yz _ _ (zD nb)).trans e)
 refine xb ⟨plainId_quiet F.plain_extend_loop _,codeAny_extend_loopS W.toS (by rw[sizeLine_eq];omega) S hSf _ n 0 _ #[] _ rfl (zR _) (W.frame 0 s1.heap _ st λb m u e=>oth b u (λz=>hSf (z▸m)) e) q3 (ItemsOf.nil _) λs' acc' c' hm hS' hacc=>?_⟩;rw[Moved.eq_with hm];rw[<-hl]at hacc;have el:=Zkw hacc;refine k s'.heap s'.toks c' (λb u nb e=>hm.heap b u nb (oth b u (λz=>nb (by simp[z])) e)) ?_;rw[hS',<-el]
noncomputable def RF (prog:xC)(w:World)(A:xD)(E:xE)(Q:List Value->Shared->Prop)(S:Addr):Result->Shared->Prop:=λr s'=>r=.ok (.ret (.ref S))/\xf (xA prog w) A (load S >>= λx=>match x.data with | .seq xs _=>pure xs.toList | _=>unsupported "internal:collect") Q E s'
theorem Zfl {Q:List Value->Shared->Prop}(hh:A.handled=none)(ho:s.heap.get? a=some o)(hex:o.ExactSet)(hd:o.data=.set es ep t)(hf:t.fits es.size=true)(hg:Good w t)(hz:es.size<=1000)
  (k:∀(vs:List Value) (h':Heap) (tk:Nat) d,(∀b u,s.heap.get? b=some u->h'.get? b=some u)->s.heap.objs.size<h'.objs.size->vs.Perm (es.toList.map (·.2))->Q vs { s with heap:=h',toks:=tk,drawn:=d }):xf (xA prog w) A (collect (.ref a)) Q E s:=by
 unfold collect;apply xa;apply wpAny_runValue;apply xm F.entry_proto_collect;rw[yM
  F.plain_proto_collect _]
 show xf _ A.in1 (newList [] >>= λz=>
  again (.builtin "list.__iadd__" ⟨[z,.ref a],[]⟩)) _ _ s
 apply xa;refine xl ?_;refine xb ⟨plainId_quiet
  F.plain_list_iadd _,xm
  F.entry_list_iadd ?_⟩
 rw[yM
  F.plain_list_iadd _]
 show xf _ A.in1 (qb3
  (.ref s.heap.objs.size) (.ref a)
  (.ref s.heap.objs.size)) _ _ _
 have hlt:a<s.heap.objs.size:=qH ho;have hS0:(s.heap.push
   { cls:=.type "list",data:=.seq ([]:List Value).toArray }).get?
   s.heap.objs.size=some { cls:=.type "list",data:=.seq #[] 0 }:=
  qw _ rfl
 have ho0:(s.heap.push
   { cls:=.type "list",data:=.seq ([]:List Value).toArray }).get? a=some o:=qd _ ho
 have kp0:∀b u,s.heap.get? b=some u->(s.heap.push
   { cls:=.type "list",data:=.seq ([]:List Value).toArray }).get? b=some u:=λb u e=>qd _ e
 have sz0:(s.heap.push
   { cls:=.type "list",data:=.seq ([]:List Value).toArray }).objs.size=s.heap.objs.size+1:=yf _ _
 generalize (s.heap.push
   { cls:=.type "list",data:=.seq ([]:List Value).toArray })=h0 at hS0 ho0 kp0 sz0⊢
 unfold qb3;refine xa (wpAny_typeOf (T:="set") ⟨_,ho0,hex.1⟩ ?_);have b1:qcp (.ref s.heap.objs.size) (.ref a)=false:=by
  have:s.heap.objs.size≠a:=qaY hlt;simp[qcp,this]
 have b2:(y6 "set" == y6 "list")=false:=by decide
 have b3:(y6 "set" == y6 "tuple")=false:=by decide
 simp only[b1,b2,b3,Bool.or_false,qR,if_false];have fin:∀(l:List Value) (I:Addr) (wr:List Addr) (h1:Heap) (d:Drawn),l.Perm (es.toList.map (·.2))->(∀b∈wr,b=I)->s.heap.objs.size<I->(∀b u,h0.get? b=some u->h1.get? b=some u)->∀(h':Heap) (tk c:Nat),(∀b u,b∉s.heap.objs.size::wr->h1.get? b=some u->h'.get? b=some u)->h'.get? s.heap.objs.size=some { cls:=.type "list",dict:=none,data:=.seq l.toArray c,slots:=#[] }->
   xf (xA prog w) A (load s.heap.objs.size >>= λx=>match x.data with | .seq xs _=>pure xs.toList | _=>unsupported "internal:collect") Q E { s with heap:=h',toks:=tk,drawn:=d }:=λl I wr h1 d hp hw hI kp h' tk c kk hL=>by
  refine xa (wpAny_load hL ?_);refine xb ?_;show Q l.toArray.toList _;rw[ym];refine k l h' tk d (λb u e=>kk b u (λz=>?_) (kp b u (kp0 b u e))) (qH hL) hp;have hb:=qH e;rcases qp.mp z with z | z
  ·exact absurd hb (by rw[z];exact yL _)
  ·rw[hw b z]at hb;exact absurd (qam hb hI) (yL _)
 have z1:s.heap.objs.size<h0.objs.size:=by rw[sz0];exact qa7 _
 have z2:s.heap.objs.size<h0.objs.size+1:=yD z1;have n1:a≠h0.objs.size:=qT (qam hlt z1);have n2:a≠h0.objs.size+1:=qT (qam hlt z2);have n3:s.heap.objs.size≠a:=qaY hlt;refine xc (Q:=λfin s'=>match fin with | .done f=>RF prog w A E Q s.heap.objs.size (.ok f) s' | .again c'=>c'.quiet=true/\xo (xA prog w) A c' (RF prog w A E Q s.heap.objs.size) s') (E:=λe s'=>RF prog w A E Q s.heap.objs.size (.error e) s') ?_ (λfin s' h=>?_) (λe s' h=>?_)
 rotate_left
 ·cases fin with
  | done f=>
   obtain⟨e,q⟩:=h
   cases e
   exact q
  | again c'=>
   refine⟨h.1,codeAny_mono h.2 λr s'' hr=>?_⟩;obtain⟨rfl,q⟩:=hr;exact q
 ·exact absurd h.1 (by simp)
 refine xa (Zku ho0 hex hd hf hz (λhdr=>?_) λpl d hp=>?_)
 ·refine after (Zkt (A:=A.in1) hh h0.objs.size n1 hd hf hg hdr) ZlH hz ?_ ?_ ?_ ?_ ?_ ?_
  ·exact⟨qd _ ho0,0,qw _ rfl,.inr (Zgo hg.2)⟩
  ·simp only[qp,zp,or_false,not_or]
   exact⟨qT z1,n3⟩
  ·exact qd _ hS0
  ·exact⟨_,qd _ ho0,hex.1⟩
  ·decide +kernel
  ·intro h' tk c kk hL
   exact⟨rfl,fin _ h0.objs.size [h0.objs.size] _ _ Zfk (λb m=>qU.mp m) z1 (λb u e=>qd _ e) h' tk c kk hL⟩
 ·refine after (Zgp (A:=A.in1) hh (h0.objs.size+1) h0.objs.size n2 (qT (qa7 _)) hd hf hp (c:=0)) ?_ hz ?_ ?_ ?_ ?_ ?_ ?_
  ·unfold Jw;rw[qf,hp.length_eq,qW]
  ·refine⟨qd _ (qd _ ho0),?_,qd _ (qw _ rfl)⟩
   have:=qw (h0.push { cls:=.type "tuple",data:=.seq (WC pl) }) (o:=Xj (.ref h0.objs.size) 0 a es.size ep) rfl;rw[yf]at this;exact this
  ·simp only[qp,zp,or_false,not_or]
   exact⟨qT z2,n3,qT z1⟩
  ·exact qd _ (qd _ hS0)
  ·exact⟨_,qd _ (qd _ ho0),hex.1⟩
  ·decide +kernel
  ·intro h' tk c kk hL
   exact⟨rfl,fin _ (h0.objs.size+1) [h0.objs.size+1] _ _ (ZiI hp) (λb m=>qU.mp m) z2 (λb u e=>qd _ (qd _ e)) h' tk c kk hL⟩
end
section
variable {prog:xC}{w:World}{A:xD}{E:xE}{s:Shared}
variable {a:Addr}{o:Obj}{es:Array (Int×Value)}{ep:Nat}{t:SetTable}
end
end HT
namespace TF
open L2
section
variable {X:Cx}{G:Gh}
theorem jG {jH:Qb}{σ:St}{H:Hp}{s:Shared}{d:Drawn}(I:Inv X jH σ H s):Inv X jH σ H { s with drawn:=d }:=⟨I.ok,I.os,I.bare,I.base,I.loc,I.cell,I.free,I.freeC,I.pin,I.hok,I.len⟩
end
section
variable {X:Cx}{G:Gh}{ob own:List Nat}{fr:Bool}{f:Za->M D}
end
end TF
namespace TT
open L2 TS
theorem perm_ix {α:Type}(d:α){l' l:List α}(h:l'.Perm l):∃ix:List Nat,ix.Perm (qm l.length)/\l'=ix.map λi=>l.getD i d:=by
 induction h with
 | nil=>exact⟨[],.refl _,rfl⟩
 | @cons x l1 l2 p ih=>
  obtain⟨ix,h1,h2⟩:=ih;refine⟨0::ix.map (· + 1),?_,?_⟩
  ·rw[qS,yj]
   exact(h1.map _).cons 0
  ·rw[qY,qC,h2]
   rfl
 | swap x y l=>
  refine⟨1::0::(qm l.length).map (· + 2),?_,?_⟩
  ·rw[qS,qS,yj,yj,qY,qC]
   exact .swap _ _ _
  ·rw[qY,qY,qC]
   have:(qm l.length).map ((λi=>(x::y::l).getD i d)∘λx=>x+2)=l:=by
    have e:((λi=>(x::y::l).getD i d)∘λx=>x+2)=λi=>l.getD i d:=rfl;rw[e];exact TS.range_getD l d
   rw[this];rfl
 | @trans l1 l2 l3 p q ih1 ih2=>
  obtain⟨ix,h1,h2⟩:=ih1;obtain⟨jx,k1,k2⟩:=ih2;refine⟨ix.map λi=>jx.getD i 0,?_,?_⟩
  ·have e:l2.length=jx.length:=by rw[k2,qf]
   rw[e]at h1;have:=h1.map λi=>jx.getD i 0;rw[TS.range_getD]at this;exact this.trans k1
  ·rw[h2,qC]
   refine qX λi hi=>?_;have hl:i<l2.length:=qQ.mp (h1.mem_iff.mp hi);have hj:i<jx.length:=by rw[k2,qf]at hl;exact hl
   show l2.getD i d=l3.getD (jx.getD i 0) d;rw[k2,qL,qu,qI hj,qL (l:=jx),qI hj];rfl
section
variable {prog:xC}{w:World}{A:xD}{E:xE}{s:Shared}
theorem list_sort_T2 {a:Addr}{vs:List Value}{jK:List (List Int)}{n:Nat}{P:qc2->Shared->Prop}(ho:s.heap.get? a=some (seqObj "list" vs.toArray n))(ht:Paired (Yc s.heap) vs jK)(hz:vs.length<=100000)(hne:2<=vs.length->∀ns∈jK,ns≠[])
  (h:∀p:Array Nat,p.toList.Perm (qm vs.length)->(p.toList.map λi=>jK.getD i [])=Yr jK->P (.done (.ret .none)) { s with heap:=sortedHeap s.heap a vs (zY (p.toList.map λi=>vs.getD i zd)) }) :
  xf (xA prog w) A (Builtin.«list.sort» ⟨[.ref a],[]⟩) P E s:=by
 refine Zd7 ho ht hz hne λout h1 h2=>?_;obtain⟨ix,k1,k2⟩:=perm_ix zd h2;have jQ:vs.length=jK.length:=qad ht;have eo:out=zY ((zY ix).toList.map λi=>vs.getD i zd):=by
  apply Array.toList_inj.mp;rw[ym,ym];exact k2
 rw[eo];refine h (zY ix) (by rw[ym];exact k1) ?_;rw[ym,<-(UU h1).1,k2,qC];refine qX λi hi=>?_;have hl:i<vs.length:=qQ.mp (k1.mem_iff.mp hi);exact(Vu (jq _ [] ht hl)).symm
end
end TT
namespace TS
open L2
section
variable {prog:xC}{w:World}{A:xD}{E:xE}{s:Shared}
end
end TS
namespace TF
open L2 TS
section
variable {X:Cx}{G:Gh}
end
end TF
namespace TF
open L2 TT
section
variable {X:Cx}{G:Gh}
end
end TF
namespace TQ
open L2 TF TQ
open TP
open TP2
open TP3
end TQ
namespace TF
open L2
section
variable {X:Cx}{G:Gh}{f g:Za->M D}
end
end TF
namespace TQ
open L2 TF
end TQ
namespace TF
open L2
section
variable {X:Cx}{G:Gh}
end
section
variable {X:Cx}{G:Gh}
end
open PySem.SeqAt
open AutoSeq1 (wpAny_loadPart')
section
variable {X:Cx}{G:Gh}
end
end TF
namespace TQ
open L2 TF TQ
open TP
open TP2 hiding g_all_near F_all_near g_counted F_counted
open TP3 hiding g_full_knots F_full_knots
noncomputable def g_all_near:Za->M Out:=(Zn (YE 1 (Yk (Zc (Ze Zx (Zb 0) (dC (.int 0))) (Zc (ZA X6 (Zc (Zb 0) Zd)) Zd))))
 (Zn (Z2 (YC [none,some 1] (YZ (Ze Zx (Zb 0) (dC (.int 0)))) (ZP 0) Yu (ZA Vw (Zc (Zb 1) (Zc (Zb 0) Zd)))))
 ZJ))
noncomputable def F_all_near:List D->M D:=runB 2 1 g_all_near
noncomputable def g_counted:Za->M Out:=(Zn (YE 1 (ZA Vm (Zc (ZA F_all_near (Zc (Zb 0) Zd)) Zd)))
 (Zn (Wx 2 (Ze XR (Yy (Zc (dC (.int 0)) Zd)) (Ze Z4 (dC (.int 1)) (ZN Bu (Zc (YC [none] (YU (Zb 1)) (ZP 0) Yu (ZN Ye (Zc (Zb 0) Zd))) Zd)))))
 (Zn (XS (fun ρ=>(YU (Zb 1)) (ZU [2] ρ)) (ZP 3)
 (Zn (Jo 2 (fun ρ=>(ZN Ye (Zc (Zb 3) Zd)) (ZU [2] ρ)) (fun ρ=>(dC (.int 1)) (ZU [2] ρ)))
 ZJ))
 (Zn (Z2 (Zb 2))
 ZJ))))
noncomputable def F_counted:List D->M D:=runB 4 1 g_counted
noncomputable def g_full_knots:Za->M Out:=(Zn (YE 1 (ZA F_all_near (Zc (Zb 0) Zd)))
 (Zn (Z2 (ZN U5 (Zc (YC [none,some 1] (YU (ZA Vm (Zc (Zb 1) Zd))) (ZP 0) (YN (ZA UW (Zc (Zb 1) (Zc (Zb 0) Zd)))) (Zb 0)) Zd)))
 ZJ))
noncomputable def F_full_knots:List D->M D:=runB 2 1 g_full_knots
end TQ
namespace HT
open SetTable (leap runEnd Probe bits)
noncomputable def WP (m:Nat)(p:Probe):Probe:=
 if p.more > 0 then { p with j:=p.j+1,more:=p.more-1 } else
 { p with j:=(leap m p.i p.perturb).1,more:=runEnd m (leap m p.i p.perturb).1-(leap m p.i p.perturb).1,i:=(leap m p.i p.perturb).1,perturb:=(leap m p.i p.perturb).2 }
noncomputable def S0 (m i q:Nat):Probe:={ j:=i,more:=runEnd m i-i,i:=i,perturb:=q,dummy:=none }
noncomputable def Sh (m:Nat)(h:Int):Probe:=S0 m (bits h % (m+1)) (bits h)
theorem Zkx (t:SetTable)(h:Int):t.probeStart h=Sh t.mask h:=rfl
inductive Fd (m:Nat)(occ:Nat->Prop)(x:Nat):Probe->Prop
 | here {p:Probe} (h:p.j=x) (ho:occ x):Fd m occ x p
 | on {p:Probe} (ho:occ p.j) (h:Fd m occ x (WP m p)):Fd m occ x p
inductive Rc (m:Nat)(occ:Nat->Prop):Nat->Probe->Prop
 | here {n:Nat} {p:Probe} (h:¬occ p.j):Rc m occ (n+1) p
 | on {n:Nat} {p:Probe} (h:Rc m occ n (WP m p)):Rc m occ (n+1) p
theorem Fd.mono {m:Nat}{o1 o2:Nat->Prop}{x:Nat}{p:Probe}(h:∀j,o1 j->o2 j)(f:Fd m o1 x p):Fd m o2 x p:=by
 induction f with
 | here a b=>exact .here a (h _ b)
 | on a _ ih=>exact .on (h _ a) ih
theorem Rc.more {m:Nat}{occ:Nat->Prop}{n:Nat}{p:Probe}(r:Rc m occ n p):∀{k:Nat},n<=k->Rc m occ k p:=by
 induction r with
 | here h=>
  intro k hk;obtain⟨k,rfl⟩:∃j,k=j+1:=⟨k-1,by omega⟩;exact .here h
 | on _ ih=>
  intro k hk;obtain⟨k,rfl⟩:∃j,k=j+1:=⟨k-1,by omega⟩;exact .on (ih (by omega))
section
variable {m:Nat}{occ:Nat->Prop}
theorem Zky {n i q:Nat}(h:Rc m occ n (S0 m (leap m i q).1 (leap m i q).2)):∀(more j:Nat),Rc m occ (n+more+1) { j:=j,more:=more,i:=i,perturb:=q,dummy:=none }
 | 0,j=>.on h
 | k+1,j=>.on (Zky h k (j+1))
theorem Zny (m i:Nat):runEnd m i-i<=9:=by unfold runEnd;split <;> omega
theorem Zd8 {m i:Nat}(h:i<=m):i<=runEnd m i/\runEnd m i<=m:=by unfold runEnd;split <;> omega
noncomputable def YG (m:Nat):Nat->Nat×Nat->Nat×Nat
 | 0,x=>x
 | c+1,x=>YG m c (leap m x.1 x.2)
theorem U7 (m:Nat):∀(a b:Nat) (x:Nat×Nat),YG m (a+b) x=YG m b (YG m a x)
 | 0,b,x=>by rw[yS];rfl
 | a+1,b,x=>by
  rw[show a+1+b=(a+b)+1 by omega];exact U7 m a b _
theorem ZmB:∀(C:Nat) (x:Nat×Nat) (c:Nat),c<=C->¬occ (YG m c x).1->Rc m occ (10*C+1) (S0 m x.1 x.2)
 | C,x,0,_,h=>.here h
 | 0,x,c+1,hc,_=>by omega
 | C+1,x,c+1,hc,h=>by
  have ih:=ZmB C (leap m x.1 x.2) c (by omega) h;have:=Zky (n:=10*C+1) ih (runEnd m x.1-x.1) x.1;have hl:=Zny m x.1;exact this.more (by omega)
theorem Zgq (m:Nat):∀(c:Nat) (x:Nat×Nat),(YG m c x).2=x.2 / 32 ^ c
 | 0,x=>by simp[YG]
 | c+1,x=>by
  show(YG m c (leap m x.1 x.2)).2=_;rw[Zgq m c];show x.2 / 32 / 32 ^ c=_;rw[Nat.div_div_eq_div_mul,Nat.pow_succ,qaZ 32]
theorem Zkz (m:Nat):∀(c:Nat) (x:Nat×Nat),x.1<=m->(YG m c x).1<=m
 | 0,x,h=>h
 | c+1,x,h=>Zkz m c _ (by
  show(x.1*5+1+x.2 / 32) % (m+1)<=m;exact qaW (qbc _ (qbS m)))
noncomputable def orb (m:Nat):Nat->Nat->List Nat
 | 0,_=>[]
 | k+1,i=>i::orb m k ((i*5+1) % (m+1))
theorem Zd9 (m c i:Nat):(YG m c (i,0)).2=0:=by rw[Zgq];simp
theorem ZlJ (m c i:Nat):YG m (c+1) (i,0)=(((YG m c (i,0)).1*5+1) % (m+1),0):=by
 rw[U7 m c 1];have:=Zd9 m c i;generalize YG m c (i,0)=y at this;obtain⟨a,b⟩:=y
 cases this
 show((a*5+1+0 / 32) % (m+1),0 / 32)=_;simp
theorem Zhr (m:Nat):∀(k c:Nat) (x:Nat),x∈orb m k (YG m c (0,0)).1->∃c'<c+k,(YG m c' (0,0)).1=x
 | 0,c,x,h=>by simp[orb]at h
 | k+1,c,x,h=>by
  rcases qp.mp h with rfl | h
  ·exact⟨c,by omega,rfl⟩
  ·have e:((YG m c (0,0)).1*5+1) % (m+1)=(YG m (c+1) (0,0)).1:=by rw[ZlJ]
   rw[e]at h;obtain⟨c',h1,h2⟩:=Zhr m k (c+1) x h;exact⟨c',by omega,h2⟩
noncomputable def W8 (m:Nat):Prop:=m=7∨m=31∨m=127∨m=511
noncomputable def Jx (m:Nat):Bool:=((qm (m+1)).all λj=>(orb m (m+1) 0).contains j)&&(YG m (m+1) (0,0)).1==0
theorem Zon:Jx 7=true:=by decide +kernel
theorem Znz:Jx 31=true:=by decide +kernel
theorem ZlK:Jx 127=true:=by decide +kernel
theorem ZlL:Jx 511=true:=by decide +kernel
theorem cov {m:Nat}(hm:W8 m){i j:Nat}(hi:i<=m)(hj:j<=m):∃c≤m,(YG m c (i,0)).1=j:=by
 have hc:Jx m=true:=by
  rcases hm with rfl | rfl | rfl | rfl
  ·exact Zon
  ·exact Znz
  ·exact ZlK
  ·exact ZlL
 unfold Jx at hc;rw[zF,yk,beq_iff_eq]at hc;obtain⟨h1,h2⟩:=hc;have at':∀x≤m,∃c≤m,(YG m c (0,0)).1=x:=λx hx=>by
  have:=h1 x (qQ.mpr (by omega));obtain⟨c,hc,e⟩:=Zhr m (m+1) 0 x (by simpa[YG]using this);exact⟨c,by omega,e⟩
 have per:YG m (m+1) (0,0)=(0,0):=qc7 h2 (Zd9 _ _ _);obtain⟨a,ha,ea⟩:=at' i hi;obtain⟨b,hb,eb⟩:=at' j hj;have eia:YG m a (0,0)=(i,0):=qc7 ea (Zd9 _ _ _);by_cases hab:a<=b
 ·refine⟨b-a,by omega,?_⟩
  rw[<-eia,<-U7,show a+(b-a)=b by omega];exact eb
 ·refine⟨m+1+b-a,by omega,?_⟩
  rw[<-eia,<-U7,show a+(m+1+b-a)=m+1+b by omega,U7,per];exact eb
theorem Zhs (h:Int):bits h<2 ^ 64:=by
 unfold bits;have:=qaR h (show(0:Int)<2 ^ 64 by decide);have:=qbk h (show(2 ^ 64:Int)≠0 by decide);omega
theorem way {m:Nat}(hm:W8 m){i q:Nat}(hi:i<=m)(hq:q<2 ^ 64){j:Nat}(hj:j<=m):∃c≤m+13,(YG m c (i,q)).1=j:=by
 obtain⟨c,hc,e⟩:=cov hm (Zkz m 13 (i,q) hi) hj;refine⟨13+c,by omega,?_⟩;rw[U7];have h2:(YG m 13 (i,q)).2=0:=by
  rw[Zgq];exact qcq (qam hq (by decide))
 have e2:YG m 13 (i,q)=((YG m 13 (i,q)).1,0):=qc7 rfl h2;rw[e2];exact e
theorem Bx (m:Nat)(h:Int):bits h % (m+1)<=m:=by
 exact qaW (qbc _ (qbS m))
theorem ZkA {m:Nat}(hm:W8 m)(h:Int){occ:Nat->Prop}{j:Nat}(hj:j<=m)(ho:¬occ j):Rc m occ (10*(m+15)) (Sh m h):=by
 obtain⟨c,hc,e⟩:=way hm (Bx m h) (Zhs h) hj;exact(ZmB (m+13) (bits h % (m+1),bits h) c hc (by rw[e];exact ho)).more (by omega)
noncomputable def Pb (m:Nat)(p:Probe):Prop:=p.j+p.more<=m
theorem ZmC {m i:Nat}(q:Nat)(h:i<=m):Pb m (S0 m i q):=by
 have:=Zd8 h;show i+(runEnd m i-i)<=m;omega
theorem ZnA {m:Nat}{p:Probe}(h:Pb m p):Pb m (WP m p):=by
 unfold WP;split
 ·show p.j+1+(p.more-1)<=m
  unfold Pb at h;omega
 ·exact ZmC 0 (by
   show(p.i*5+1+p.perturb / 32) % (m+1)<=m;exact qaW (qbc _ (qbS m)))
end
theorem ZiJ {xs:Array Nat}(h:XU xs){j:Nat}(hj:j∈xs.toList):xs[qG xs j]?=some j:=by
 obtain⟨a,b,c⟩:=JM h j;obtain⟨i,hi,e⟩:=List.mem_iff_getElem.mp hj;have hi':i<xs.size:=by simpa using hi
 have e':xs.getD i 0=j:=by rw[qP,qe hi'];simpa using e
 have h1:¬i<qG xs j:=λz=>by have:=a i z;omega
 have h2:¬qG xs j<i:=λz=>by
  have:=b (qG xs j) (qk _) (by omega);have:=h.lt hi' z;omega
 have:qG xs j=i:=by omega
 rw[this,qe hi'];rw[<-e',qP,qe hi'];rfl
theorem ZkB {t:SetTable}(hd:t.dummies = #[])(hr:XU t.place)(j:Nat):(∃i,t.slot j=.live i/\t.place[i]?=some j)∨(t.slot j=.empty/\j∉t.place.toList):=by
 by_cases h:t.place[qG t.place j]?=some j
 ·exact .inl ⟨_,ZiG h,h⟩
 ·refine .inr ⟨?_,λz=>h (ZiJ hr z)⟩
  unfold SetTable.slot;dsimp only;rw[if_neg (by simpa using h),if_neg (by rw[hd];simp[qc3])]
theorem Zdv {xs:Array Nat}(h:XU xs){i k x:Nat}(h1:xs[i]?=some x)(h2:xs[k]?=some x):i=k:=by
 obtain⟨l1,e1⟩:=zO.mp h1;obtain⟨l2,e2⟩:=zO.mp h2;have d1:xs.getD i 0=x:=by rw[qP,h1];rfl
 have d2:xs.getD k 0=x:=by rw[qP,h2];rfl
 rcases qby i k with z | z | z
 ·have:=h.lt l2 z;omega
 ·exact z
 ·have:=h.lt l1 z;omega
theorem Zdw {xs:Array Nat}{i x:Nat}(h:xs[i]?=some x):x∈xs.toList:=by
 rw[<-qz]at h;exact zq h
noncomputable abbrev Xn (t:SetTable):Nat->Prop:=λj=>j∈t.place.toList
theorem ZiK (m:Nat)(p:Probe):(WP m p).dummy=p.dummy:=by unfold WP;split <;> rfl
theorem Zht {t:SetTable}{g:Nat->Int}{h:Int}(hd:t.dummies = #[])(hr:XU t.place):∀(f n:Nat) (p:Probe),Rc t.mask (Xn t) n p->n<=f->p.dummy=none->Pb t.mask p->
  (∃j,qbz t g h f p=some (.empty j none)/\j∉t.place.toList/\j<=t.mask/\(∀i x,t.place[i]?=some x->Fd t.mask (Xn t) x p->g i≠h)/\∀oc:Nat->Prop,(∀j,Xn t j->oc j)->oc j->Fd t.mask oc j p)∨
  (∃j i q n',qbz t g h f p=some (.candidate j i q)/\t.slot j=.live i/\t.place[i]?=some j/\g i=h/\Rc t.mask (Xn t) n' q/\n'<n/\q.dummy=none/\Pb t.mask q/\(∀i' x,t.place[i']?=some x->Fd t.mask (Xn t) x p->g i'≠h∨i'=i∨Fd t.mask (Xn t) x q)/\∀oc:Nat->Prop,(∀j,Xn t j->oc j)->∀y,Fd t.mask oc y q->Fd t.mask oc y p)
 | 0,n,p,rc,hn,_,_=>by
  cases rc <;> omega
 | f+1,n,p,rc,hn,hp,hb=>by
  unfold qbz;rcases ZkB hd hr p.j with⟨i,e,hi⟩ | ⟨e,hi⟩
  ·rw[e]
   dsimp only;have ho:Xn t p.j:=Zdw hi;obtain⟨n,rfl,rc'⟩:∃k,n=k+1/\Rc t.mask (Xn t) k (WP t.mask p):=by
    cases rc with
    | here z=>exact absurd ho z
    | on z=>exact⟨_,rfl,z⟩
   have hp':(WP t.mask p).dummy=none:=by rw[ZiK];exact hp
   have hb':=ZnA hb;by_cases hg:g i=h
   ·rw[if_pos (by simpa using hg)]
    refine .inr ⟨p.j,i,WP t.mask p,n,rfl,e,hi,hg,rc',by omega,hp',hb',λi' x hx fd=>?_,λoc ho' y fd=>.on (ho' _ ho) fd⟩
    cases fd with
    | here a b=>
     subst a;exact .inr (.inl (Zdv hr hx hi))
    | on a b=>exact .inr (.inr b)
   ·rw[if_neg (by simpa using hg)]
    have pass:∀i' x,t.place[i']?=some x->Fd t.mask (Xn t) x p->g i'≠h∨Fd t.mask (Xn t) x (WP t.mask p):=λi' x hx fd=>by
     cases fd with
     | here a b=>
      subst a;rw[Zdv hr hx hi];exact .inl hg
     | on a b=>exact .inr b
    rcases Zht hd hr f n (WP t.mask p) rc' (by omega) hp' hb' with⟨j,z1,z2,z3,z4,z5⟩ | ⟨j,i2,q,n',z1,z2,z3,z4,z5,z6,z7,z8,z9,z10⟩
    ·refine .inl ⟨j,z1,z2,z3,λi' x hx fd=>?_,λoc a b=>.on (a _ ho) (z5 oc a b)⟩
     rcases pass i' x hx fd with z | z
     ·exact z
     ·exact z4 i' x hx z
    ·refine .inr ⟨j,i2,q,n',z1,z2,z3,z4,z5,by omega,z7,z8,λi' x hx fd=>?_,λoc a y b=>.on (a _ ho) (z10 oc a y b)⟩
     rcases pass i' x hx fd with z | z
     ·exact .inl z
     ·exact z9 i' x hx z
  ·rw[e]
   dsimp only;refine .inl ⟨p.j,by rw[hp],hi,by unfold Pb at hb;omega,λi' x hx fd=>?_,λoc _ b=>.here rfl b⟩
   cases fd with
   | here a b=>exact absurd (a▸b) hi
   | on a b=>exact absurd a hi
noncomputable abbrev BG (ow:Array (Option Nat)):Nat->Prop:=λj=>∃k,ow[j]?=some (some k)
theorem ZkC {m:Nat}{occ:Nat->Prop}{i q e x:Nat}:∀(d b:Nat),b+d=x->x<=e->(∀a,b<=a->a<x->occ (i+a))->occ (i+x)->Fd m occ (i+x) { j:=i+b,more:=e-b,i:=i,perturb:=q,dummy:=none }
 | 0,b,hb,he,h1,h2=>.here (by show i+b=i+x;omega) h2
 | d+1,b,hb,he,h1,h2=>.on (h1 b (qk _) (by omega)) (by
  have:=ZkC (m:=m) (q:=q) (e:=e) d (b+1) (by omega) he (λa ha=>h1 a (by omega)) h2;unfold WP;rw[if_pos (by show e-b > 0;omega)];exact this)
theorem Zhu {m:Nat}{occ:Nat->Prop}{i q x:Nat}(h:Fd m occ x (S0 m (leap m i q).1 (leap m i q).2)):∀(more j:Nat),(∀a≤more,occ (j+a))->Fd m occ x { j:=j,more:=more,i:=i,perturb:=q,dummy:=none }
 | 0,j,ho=>.on (ho 0 (qk _)) h
 | k+1,j,ho=>.on (ho 0 (by omega)) (by
  have:=Zhu h k (j+1) λa ha=>by rw[qaN,qbm 1];exact ho (a+1) (by omega)
  exact this)
theorem Zdx {m:Nat}{ow:Array (Option Nat)}(hs:ow.size=m+1):∀(f i q j:Nat),i<=m->zU m ow f i q=some j->ow[j]?=some none/\∀oc:Nat->Prop,(∀j,BG ow j->oc j)->oc j->Fd m oc j (S0 m i q)
 | 0,i,q,j,_,h=>by unfold zU at h;cases h
 | f+1,i,q,j,hi,h=>by
  have hm:=Zd8 hi;have get:∀a≤runEnd m i-i,(ow.getD (i+a) (some 0)).isNone=false->BG ow (i+a):=λa ha e=>by
   have hl:i+a<ow.size:=by omega
   rw[qP,qe hl]at e
   cases eo:ow[i+a]with
   | none=>rw[eo]at e;cases e
   | some k=>exact⟨k,by rw[qe hl,eo]⟩
  unfold zU at h
  cases e:(qm (runEnd m i+1-i)).find? λk=>(ow.getD (i+k) (some 0)).isNone with
  | some k=>
   rw[e]at h
   cases h
   obtain⟨e1,e2,e3⟩:=List.find?_range_eq_some.mp e;have e2:=qQ.mp e2;have hl:i+k<ow.size:=by omega
   refine⟨?_,λoc a b=>?_⟩
   ·rw[qP,qe hl]at e1
    rw[qe hl]
    cases eo:ow[i+k]with
    | none=>rfl
    | some z=>rw[eo]at e1;cases e1
   ·exact ZkC (e:=runEnd m i-i) k 0 (by omega) (by omega) (λc _ hc=>a _ (get c (by omega) (by simpa using e3 c hc))) b
  | none=>
   rw[e]at h;obtain⟨h1,h2⟩:=Zdx hs f _ _ j (qaW (qbc _ (qbS m))) h;refine⟨h1,λoc a b=>Zhu (h2 oc a b) _ _ λc hc=>a _ (get c hc ?_)⟩;have:=List.find?_eq_none.mp e c (qQ.mpr (by omega));exact Bool.eq_false_iff.mpr this
theorem Zdy {m:Nat}{ow:Array (Option Nat)}(hs:ow.size=m+1):∀(f i q c:Nat),i<=m->c<f->ow[(YG m c (i,q)).1]?=some none->∃j,zU m ow f i q=some j
 | 0,i,q,c,_,h,_=>by omega
 | f+1,i,q,c,hi,hc,h=>by
  unfold zU;have hm:=Zd8 hi
  cases e:(qm (runEnd m i+1-i)).find? λk=>(ow.getD (i+k) (some 0)).isNone with
  | some k=>exact⟨_,rfl⟩
  | none=>
   cases c with
   | zero=>
    have:=List.find?_eq_none.mp e 0 (qQ.mpr (by omega));have h:ow[i]?=some none:=h;rw[qbR,qP,h]at this;simp at this
   | succ c=>exact Zdy hs f _ _ c (qaW (qbc _ (qbS m))) (by omega) h
structure Ow (m:Nat)(hs:List Int)(ow:Array (Option Nat)):Prop where
 sz:ow.size=m+1
 lt:∀j k:Nat,ow[j]?=some (some k)->k<hs.length/\Fd m (BG ow) j (Sh m (hs.getD k 0))
 ex:∀k<hs.length,∃j:Nat,ow[j]?=some (some k)
 un:∀j j' k:Nat,ow[j]?=some (some k)->ow[j']?=some (some k)->j=j'
theorem Zbw:∀{a b:List Nat},a.Nodup->(∀x∈a,x∈b)->a.length<=b.length
 | [],_,_,_=>by simp
 | x::a,b,nd,h=>by
  have nd':=zV.mp nd;have hx:=h x (by simp);have ih:=Zbw (a:=a) (b:=b.erase x) nd'.2 λy hy=>(List.mem_erase_of_ne (λ(z:y=x)=>nd'.1 (by rw[<-z];exact hy))).mpr (h y (by simp[hy]));have:=List.length_erase_of_mem hx;have:0<b.length:=List.length_pos_of_mem hx;simp only[qS];omega
theorem ZkD (l:List Nat)(n:Nat)(nd:l.Nodup)(h:∀x∈l,x<n):l.length<=n:=by
 have:=Zbw nd λx hx=>qQ.mpr (h x hx)
 rwa[qW]at this
theorem Ow.free {m:Nat}{hs:List Int}{ow:Array (Option Nat)}(o:Ow m hs ow)(h:hs.length<=m):∃j≤m,ow[j]?=some none:=by
 refine qaD λno=>?_;have all:∀j≤m,∃k,ow[j]?=some (some k):=λj hj=>by
  have hl:j<ow.size:=by rw[o.sz];omega
  cases e:ow[j]with
  | none=>exact absurd ⟨j,hj,by rw[qe hl,e]⟩ no
  | some k=>exact⟨k,by rw[qe hl,e]⟩
 let f:Nat->Nat:=λj=>((ow[j]?).getD none).getD 0
 have hf:∀j≤m,ow[j]?=some (some (f j)):=λj hj=>by
  obtain⟨k,e⟩:=all j hj;show ow[j]?=some (some (((ow[j]?).getD none).getD 0));rw[e];rfl
 have:=ZkD ((qm (m+1)).map f) hs.length (by
  refine zG.mpr (qbF.imp_of_mem λ{a b} ha hb ne e=>ne ?_);have ha:=qQ.mp ha;have hb:=qQ.mp hb;exact o.un a b (f a) (hf a (by omega)) (by rw[e];exact hf b (by omega))) λx hx=>by
  obtain⟨j,hj,rfl⟩:=qt.mp hx;have hj:=qQ.mp hj;exact(o.lt j _ (hf j (by omega))).1
 rw[qf,qW]at this;omega
theorem Ow.step {m:Nat}(hm:W8 m){hs:List Int}{ow:Array (Option Nat)}(o:Ow m hs ow)(h:hs.length<=m)(x:Int):∃j,zU m ow (yX m) (bits x % (m+1)) (bits x)=some j/\Ow m (hs ++ [x]) (ow.setIfInBounds j (some hs.length)):=by
 obtain⟨z,hz,ez⟩:=o.free h;obtain⟨c,hc,ec⟩:=way hm (Bx m x) (Zhs x) hz;obtain⟨j,hj⟩:=Zdy o.sz (yX m) _ _ c (Bx m x) (by unfold yX;omega) (by rw[ec];exact ez);obtain⟨f1,f2⟩:=Zdx o.sz _ _ _ j (Bx m x) hj;have hjl:j<ow.size:=(zO.mp f1).1;refine⟨j,hj,?_⟩;have at_j:(ow.setIfInBounds j (some hs.length))[j]?=some (some hs.length):=by rw[qbZ,if_pos rfl,if_pos hjl]
 have at_ne:∀i,i≠j->(ow.setIfInBounds j (some hs.length))[i]?=ow[i]?:=λi hi=>by rw[qbZ,if_neg (λz=>hi z.symm)]
 have oc:∀i,BG ow i->BG (ow.setIfInBounds j (some hs.length)) i:=λi ⟨k,e⟩=>by
  by_cases z:i=j
  ·exact⟨hs.length,by rw[z];exact at_j⟩
  ·exact⟨k,by rw[at_ne i z];exact e⟩
 have two:∀i k,(ow.setIfInBounds j (some hs.length))[i]?=some (some k)->(i=j/\k=hs.length)∨(i≠j/\ow[i]?=some (some k)):=λi k e=>by
  by_cases z:i=j
  ·rw[z,at_j]at e
   injection e with e;injection e with e;exact .inl ⟨z,e.symm⟩
  ·rw[at_ne i z]at e
   exact .inr ⟨z,e⟩
 refine⟨by rw[Array.size_setIfInBounds];exact o.sz,λi k e=>?_,λk hk=>?_,λi i' k e e'=>?_⟩
 ·rcases two i k e with⟨rfl,rfl⟩ | ⟨_,e⟩
  ·refine⟨by simp,?_⟩
   rw[show(hs ++ [x]).getD hs.length 0=x by simp];exact f2 _ oc ⟨_,at_j⟩
  ·obtain⟨k1,k2⟩:=o.lt i k e
   refine⟨by simp;omega,?_⟩;rw[show(hs ++ [x]).getD k 0=hs.getD k 0 by rw[qL,zw k1,<-qL]];exact k2.mono oc
 ·by_cases z:k=hs.length
  ·exact⟨j,by rw[z];exact at_j⟩
  ·obtain⟨i,e⟩:=o.ex k (by simp at hk;omega)
   exact⟨i,by rw[at_ne i λz=>by rw[z,f1]at e;cases e];exact e⟩
 ·rcases two i k e with⟨rfl,rfl⟩ | ⟨_,f⟩
  ·rcases two i' _ e' with⟨rfl,_⟩ | ⟨_,f'⟩
   ·rfl
   ·have:=(o.lt _ _ f').1;omega
  ·rcases two i' k e' with⟨rfl,rfl⟩ | ⟨_,f'⟩
   ·have:=(o.lt _ _ f).1;omega
   ·exact o.un _ _ _ f f'
theorem Ow.start (m:Nat):Ow m [] (Array.replicate (m+1) none):=by
 have no:∀j k,(Array.replicate (m+1) (none:Option Nat))[j]?≠some (some k):=λj k e=>by
  rw[Array.getElem?_replicate]at e;split at e <;> cases e
 exact⟨by simp,λj k e=>absurd e (no j k),λk hk=>by simp at hk,λj _ k e=>absurd e (no j k)⟩
theorem Zhv {m:Nat}(hm:W8 m):∀(rest hs:List Int) (ow:Array (Option Nat)),Ow m hs ow->hs.length+rest.length<=m+1->
  ∃ow',rest.foldl (λ(j6:Option (Array (Option Nat)×Nat)) h=>do
   let (owner,k)<-j6
   let j<-zU m owner (yX m) (bits h % (m+1)) (bits h)
   pure (owner.setIfInBounds j (some k),k+1)) (some (ow,hs.length))=some (ow',hs.length+rest.length)/\Ow m (hs++rest) ow'
 | [],hs,ow,o,_=>⟨ow,rfl,by rw[zB];exact o⟩
 | x::rest,hs,ow,o,hl=>by
  rw[qS]at hl;obtain⟨j,e,o'⟩:=o.step hm (by omega) x;obtain⟨ow',e2,o2⟩:=Zhv hm rest (hs ++ [x]) _ o' (by simp;omega);refine⟨ow',?_,by rw[List.append_cons];exact o2⟩;rw[qbj];have:(do
   let (owner,k)<-some (ow,hs.length)
   let j<-zU m owner (yX m) (bits x % (m+1)) (bits x)
   pure (owner.setIfInBounds j (some k),k+1):Option (Array (Option Nat)×Nat))=some (ow.setIfInBounds j (some hs.length),(hs ++ [x]).length):=by
   show(do
    let j<-zU m ow (yX m) (bits x % (m+1)) (bits x)
    pure (ow.setIfInBounds j (some hs.length),hs.length+1):Option _)=_
   rw[e];simp
  rw[this,e2];simp[qaN,qbm 1]
theorem Zfm {m:Nat}(hm:W8 m)(hs:Array Int)(hl:hs.size<=m+1):∃ow,zP m hs=some ow/\Ow m hs.toList ow:=by
 obtain⟨ow,e,o⟩:=Zhv hm hs.toList [] _ (Ow.start m) (by simpa using hl);refine⟨ow,?_,by simpa using o⟩;unfold zP;rw[<-Array.foldl_toList];have e':=congrArg (Option.map (·.1)) e;exact e'
structure Tb (t:SetTable)(es:List (Int×Value)):Prop where
 ms:W8 t.mask
 du:t.dummies = #[]
 ri:XU t.place
 le:∀j∈t.place.toList,j<=t.mask
 sz:t.place.toList.length=es.length
 fd:∀q∈es.zip t.place.toList,Fd t.mask (Xn t) q.2 (Sh t.mask q.1.1)
theorem ZkE {m:Nat}{ow:Array (Option Nat)}{j k:Nat}(hs:ow.size=m+1):(j,k)∈((qm (m+1)).filterMap λj=>(ow.getD j none).map (j,·))↔ow[j]?=some (some k):=by
 rw[qaP];constructor
 ·rintro⟨i,_,e⟩
  obtain⟨z,e1,e2⟩:=yA.mp e
  cases e2
  rw[qP]at e1
  cases eo:ow[j]? with
  | none=>rw[eo]at e1;cases e1
  | some y=>rw[eo]at e1;exact congrArg some e1
 ·intro e
  have hl:=(zO.mp e).1;refine⟨j,qQ.mpr (by omega),?_⟩;rw[qP,e];rfl
theorem Zgr {l:List Nat}{n:Nat}(nd:l.Nodup)(h:∀x,x∈l↔x<n):l.Perm (qm n):=(yg nd qbF).mpr λx=>by rw[h,qQ]
theorem Zao {α β:Type}{f:α->Option β}{g:α->β}:∀{l:List α},(∀q∈l,f q=some (g q))->l.filterMap f=l.map g
 | [],_=>rfl
 | a::l,h=>by
  rw[yP,h a zK,qY];exact congrArg _ (Zao λq hq=>h q (qM _ hq))
theorem ZlM {m f v:Nat}{l p:Bool}(hm:W8 m)(es:Array (Int×Value))(hl:es.size<=m+1) :
  ∃t order,qbE m f v l p (es.map (·.1))=some (t,order)/\((order.filterMap (es[·]?)).toList).Perm es.toList/\Tb t (order.filterMap (es[·]?)).toList/\t.led=l/\t.mask=m/\t.moves=v:=by
 obtain⟨ow,e,o⟩:=Zfm hm (es.map (·.1)) (by simpa using hl);have jQ:(es.map (·.1)).toList.length=es.size:=by simp
 have lm:∀j k,(j,k)∈((qm (m+1)).filterMap λj=>(ow.getD j none).map (j,·))↔ow[j]?=some (some k):=λj k=>ZkE o.sz;have ea:qbE m f v l p (es.map (·.1))=some ({ mask:=m,place:=(((qm (m+1)).filterMap λj=>(ow.getD j none).map (j,·)).map (·.1)).toArray,dummies:=#[],finger:=f,led:=l,moves:=v,plain:=p },(((qm (m+1)).filterMap λj=>(ow.getD j none).map (j,·)).map (·.2)).toArray):=by
  unfold qbE;rw[e];rfl
 have ri:=(ZiH ea).2;refine⟨_,_,ea,?_,?_,rfl,rfl,rfl⟩
 all_goals (generalize hL:((qm (m+1)).filterMap λj=>(ow.getD j none).map (j,·))=L at lm ri⊢)
 all_goals
  have nd1:(L.map (·.1)).Nodup:=(show(L.map (·.1)).toArray.toList.Pairwise (· < ·)from ri).imp λh=>qT h;have nd2:(L.map (·.2)).Nodup:=by
   refine zG.mpr ((zG.mp nd1).imp_of_mem λ{a b} ha hb ne e=>ne ?_);exact o.un a.1 b.1 a.2 ((lm _ _).mp ha) (by rw[e];exact(lm _ _).mp hb)
  have pm:(L.map (·.2)).Perm (qm es.size):=Zgr nd2 λx=>by
   constructor
   ·intro hx
    obtain⟨q,hq,rfl⟩:=qt.mp hx;have:=(o.lt q.1 q.2 ((lm _ _).mp hq)).1;omega
   ·intro hx
    obtain⟨j,hj⟩:=o.ex x (by omega);exact qt.mpr ⟨(j,x),(lm _ _).mpr hj,rfl⟩
  have ef:((L.map (·.2)).toArray.filterMap (es[·]?)).toList=L.map λq=>es.toList.getD q.2 (0,.none):=by
   rw[Array.toList_filterMap,ym,List.filterMap_map];have:∀q∈L,((λx=>es[x]?)∘λq:Nat×Nat=>q.2) q=some (es.toList.getD q.2 (0,.none)):=λq hq=>by
    have hlt:q.2<es.size:=by
     have:=(o.lt q.1 q.2 ((lm _ _).mp hq)).1;omega
    show es[q.2]?=_;rw[qL,qz,qe hlt];rfl
   exact Zao this
 ·rw[ef]
  have:=pm.map λi=>es.toList.getD i (0,.none);rw[qC]at this;refine this.trans ?_;rw[show es.size=es.toList.length by simp,TS.range_getD]
 ·refine⟨hm,rfl,ri,λj hj=>?_,by rw[ef];simp,λq hq=>?_⟩
  ·obtain⟨q,hq,rfl⟩:=qt.mp (show j∈L.map (·.1)from hj)
   have:=(zO.mp ((lm _ _).mp hq)).1;rw[o.sz]at this;show q.1<=m;omega
  ·rw[ef]at hq
   rw[show(L.map (·.1)).toArray.toList=L.map (·.1)from rfl,List.zip_map']at hq;obtain⟨z,hz,rfl⟩:=qt.mp hq;have h2:=(o.lt z.1 z.2 ((lm _ _).mp hz)).2;have hlt:z.2<es.size:=by
    have:=(o.lt z.1 z.2 ((lm _ _).mp hz)).1;omega
   have eh:(es.map (·.1)).toList.getD z.2 0=(es.toList.getD z.2 (0,.none)).1:=by
    rw[qL,qL,qz,qz,Array.getElem?_map,qe hlt];rfl
   rw[eh]at h2;exact h2.mono λj ⟨k,hk⟩=>by
    show j∈L.map (·.1);exact qt.mpr ⟨(j,k),(lm _ _).mpr hk,rfl⟩
theorem ZlN {α β:Type}{a a':List α}{b b':List β}{x:α}{y:β}(h:a.length=b.length):(a++x::a').zip (b++y::b')=a.zip b++(x,y)::a'.zip b':=by
 rw[List.zip_append h];rfl
theorem ZnB {t:SetTable}{es:Array (Int×Value)}(T:Tb t es.toList){j:Nat}{h:Int}{x:Value}(hj:j∉t.place.toList)(hm:j<=t.mask)(hf:∀oc:Nat->Prop,(∀j,Xn t j->oc j)->oc j->Fd t.mask oc j (Sh t.mask h)) :
  Tb (t.put j).1 (qaV es (t.put j).2 (h,x)).toList/\(t.put j).1.mask=t.mask/\(t.put j).1.place.size=t.place.size+1/\(t.put j).1.dummies = #[]/\(t.put j).1.led=t.led:=by
 have hne:¬t.place[qG t.place j]?=some j:=λz=>hj (Zdw z);have hb:=(JM T.ri j).2.2;have ed:(t.put j).1.dummies = #[]:=by
  show(if qc3 t.dummies j then _ else t.dummies) = #[];rw[T.du,if_neg (by simp[qc3])]
 have ep:(t.put j).1.place.toList=t.place.toList.take (qG t.place j)++j::t.place.toList.drop (qG t.place j):=qaK _ _ _;have ee:(qaV es (t.put j).2 (h,x)).toList=es.toList.take (qG t.place j)++(h,x)::es.toList.drop (qG t.place j):=qaK _ _ _;have hs:t.place.toList.length=es.toList.length:=T.sz;have mem:∀y,y∈(t.put j).1.place.toList↔y=j∨y∈t.place.toList:=λy=>by
  rw[ep,qO,qp]
  conv=>rhs;rw[<-zo (qG t.place j) t.place.toList,qO]
  constructor
  ·rintro(a | a | a)
   ·exact .inr (.inl a)
   ·exact .inl a
   ·exact .inr (.inr a)
  ·rintro(a | a | a)
   ·exact .inr (.inl a)
   ·exact .inl a
   ·exact .inr (.inr a)
 have lp:(t.put j).1.place.toList.length=t.place.toList.length+1:=by
  rw[ep,qJ,qS,qV,zN];have:qG t.place j<=t.place.toList.length:=by simpa using hb
  omega
 refine⟨⟨T.ms,ed,Zfh T.ri hne,λy hy=>?_,?_,λq hq=>?_⟩,rfl,by simpa using lp,ed,rfl⟩
 ·rcases (mem y).mp hy with rfl | hy
  ·exact hm
  ·exact T.le y hy
 ·rw[lp,ee,qJ,qS,qV,zN]
  have:qG t.place j<=t.place.toList.length:=by simpa using hb
  omega
 ·rw[ep,ee,ZlN (by rw[qV,qV,hs]),qO,qp]at hq
  have old:q∈es.toList.zip t.place.toList->Fd t.mask (Xn (t.put j).1) q.2 (Sh t.mask q.1.1):=λh=>(T.fd q h).mono λy hy=>(mem y).mpr (.inr hy);have ez:es.toList.zip t.place.toList=(es.toList.take (qG t.place j)).zip (t.place.toList.take (qG t.place j))++(es.toList.drop (qG t.place j)).zip (t.place.toList.drop (qG t.place j)):=by
   rw[<-List.zip_append (by rw[qV,qV,hs]),zo,zo]
  rcases hq with a | rfl | a
  ·exact old (by rw[ez];exact qax _ a)
  ·exact hf _ (λy hy=>(mem y).mpr (.inr hy)) ((mem j).mpr (.inl rfl))
  ·exact old (by rw[ez];exact zx _ a)
section
variable {prog:xC}{w:World}{A:xD}{E:xE}{s:Shared}
variable (prog w) in
noncomputable abbrev TK (h:Heap)(ns:List Int)(a:Addr):Prop:=IsTupleKey (intKind prog w) h ns a
variable (prog w) in
noncomputable abbrev Xs (ns:List Int):Int:=tupleKeyHash (intKind prog w) ns
theorem ZbU (n:Nat){v:Value}(h:carriedByValue v=true):ofAClassStatement n v=pure false:=by
 cases v with
 | ref a=>simp[carriedByValue]at h
 | _=>first | rfl | simp[ofAClassStatement] | (unfold ofAClassStatement;rfl)
theorem ZcF {ns:List Int}{a:Addr}{Q:Bool->Shared->Prop}(hk:TK prog w s.heap ns a)(h:Q false s):xf (xA prog w) A (ofAClassStatement 8 (.ref a)) Q E s:=by
 have hT:=hk.typeIs;obtain⟨o,items,n,ho,_,hd,hi⟩:=hk;unfold ofAClassStatement;refine xa (wpAny_typeOf hT ?_);dsimp only;rw[if_pos (by simp)];refine xa (xb ?_);simp only[qav,qR,if_false];refine xa (xt ho hd ?_);dsimp only;refine xa ?_;rw[<-Array.forIn_toList];refine wpAny_forIn_list _ (λrest r s'=>r.1=none/\s'=s/\∀v∈rest,carriedByValue v=true) _ ?_ ?_ _ _ ⟨rfl,rfl,hi.byValue⟩
 ·rintro v rest r s' ⟨hr,rfl,hall⟩
  rw[ZbU _ (hall v zK)];refine xa (xb ?_);simp only[qR,if_false];exact xb ⟨rfl,rfl,λu hu'=>hall u (qM _ hu')⟩
 ·rintro⟨r1,r2⟩ s' ⟨hr,rfl,_⟩
  simp only at hr;subst hr;exact xb h
theorem Zgs {x:List Int}{vs:List Value}(hx:ItemsAre (intKind prog w) x vs):∀v∈vs,∃k t,v=.int k t:=by
 induction hx with
 | nil=>intro v hv;simp at hv
 | @cons k v' ks vs h1 _ ih=>
  intro v hv;rcases qp.mp hv with rfl | hv
  ·obtain⟨t,rfl⟩:=Value.isInt_shape (show qc5 k v=true from h1)
   exact⟨_,_,rfl⟩
  ·exact ih v hv
theorem Zgt {ns:List Int}{a:Addr}{Q:Bool->Shared->Prop}(hk:TK prog w s.heap ns a)(h:Q true s):xf (xA prog w) A (hashByValue 8 (.ref a)) Q E s:=by
 have hT:=hk.typeIs;obtain⟨o,items,n,ho,_,hd,hi⟩:=hk;unfold hashByValue;refine xa (wpAny_specialOf hT F.slot_tuple_hash.lookup ?_);show xf _ _ (seqItems? (.ref a) >>= _) _ _ s;refine xa (xt ho hd ?_);refine xa ?_;show xf _ _ (forIn items _ _) _ _ s;rw[<-Array.forIn_toList];refine wpAny_forIn_list _ (λrest r s'=>r.1=none/\s'=s/\∀v∈rest,∃k t,v=.int k t) _ ?_ ?_ _ _ ⟨rfl,rfl,Zgs hi⟩
 ·rintro v rest r s' ⟨hr,rfl,hall⟩
  obtain⟨k,t,rfl⟩:=hall v zK;refine xa (wpAny_of_eq (show hashByValue 7 (.int k t)=pure true by unfold hashByValue;rfl) ?_);simp only[qav,qR,if_false];exact xb ⟨rfl,rfl,λu hu'=>hall u (qM _ hu')⟩
 ·rintro⟨r1,r2⟩ s' ⟨hr,rfl,_⟩
  simp only at hr;subst hr;exact xb h
theorem ZlO {ns:List Int}{a:Addr}{Q:Bool->Shared->Prop}(hk:TK prog w s.heap ns a){ys:List Value}(hy:∀y∈ys,∃ms b,y=.ref b/\TK prog w s.heap ms b)(h:Q false s):xf (xA prog w) A (searchCouldBeSeen (.ref a) ys) Q E s:=by
 unfold searchCouldBeSeen;refine xa ?_;refine wpAny_forIn_list _ (λrest r s'=>r.1=none/\s'=s/\∀y∈rest,∃ms b,y=.ref b/\TK prog w s.heap ms b) _ ?_ ?_ _ _ ⟨rfl,rfl,hy⟩
 ·rintro v rest r s' ⟨hr,rfl,hall⟩
  obtain⟨ms,b,rfl,hb⟩:=hall v zK;have fin:∀u∈rest,∃ms b,u=.ref b/\TK prog w s'.heap ms b:=λu hu=>hall u (qM _ hu);dsimp only;by_cases c:(a==b||carriedByValue (.ref a)&&carriedByValue (.ref b))=true
  ·rw[if_pos c]
   exact xb ⟨rfl,rfl,fin⟩
  ·rw[if_neg c]
   refine xa (wpAny_eqIsQuiet_tuple hk ?_);simp only[qav,qR,if_false];refine xa (wpAny_eqIsQuiet_tuple hb ?_);simp only[qav,qR,if_false];refine xa (ZcF hk ?_);simp only[qR,if_false];refine xa (ZcF hb ?_);simp only[qR,if_false];exact xb ⟨rfl,rfl,fin⟩
 ·rintro⟨r1,r2⟩ s' ⟨hr,rfl,_⟩
  simp only at hr;subst hr;exact xb h
theorem ZlP {m:Nat}(h:W8 m):(m % 2==0)=false:=by rcases h with rfl | rfl | rfl | rfl <;> rfl
theorem ZnC {α β:Type}{a:List α}{b:List β}{i:Nat}{x:α}{y:β}(h1:a[i]?=some x)(h2:b[i]?=some y):(x,y)∈a.zip b:=by
 refine zq (i:=i) ?_;rw[yF];exact⟨h1,h2⟩
theorem Zdz {a ax:Addr}{ns:List Int}{o:Obj}{es:Array (Int×Value)}{ep:Nat}{t:SetTable}(hu:A.units<cLine)(g1:s.heap.get? a=some o)(g3:o.data=.set es ep t)(T:Tb t es.toList)(hf:t.fits es.size=true)
  (hE:∀e∈es.toList,∃ms b,e=(Xs prog w ms,.ref b)/\TK prog w s.heap ms b) (hx:TK prog w s.heap ns ax) {Q:SetFound->Shared->Prop}
  (there:(∃e∈es.toList,∃b,e.2=.ref b/\TK prog w s.heap ns b)->Q (.there none) s)
  (free:(∀e∈es.toList,∀b,e.2=.ref b->¬TK prog w s.heap ns b)->∀j,j∉t.place.toList->j<=t.mask->(∀oc:Nat->Prop,(∀j,Xn t j->oc j)->oc j->Fd t.mask oc j (Sh t.mask (Xs prog w ns)))->Q (.free j false) s) :
  ∀(f n:Nat) (st:Option Probe) (p:Probe),st.getD (Sh t.mask (Xs prog w ns))=p->Rc t.mask (Xn t) n p->n<=f->n<=10*(t.mask+15)->p.dummy=none->Pb t.mask p->
   (∀q∈es.toList.zip t.place.toList,∀b,q.1.2=.ref b->TK prog w s.heap ns b->Fd t.mask (Xn t) q.2 p)->
   (∀oc:Nat->Prop,(∀j,Xn t j->oc j)->∀y,Fd t.mask oc y p->Fd t.mask oc y (Sh t.mask (Xs prog w ns)))->
   xf (xA prog w) A (setSearchFrom a (.ref ax) (Xs prog w ns) true f st) Q E s
 | 0,n,st,p,_,rc,hn,_,_,_,_,_=>by
  cases rc <;> omega
 | f+1,n,st,p,hst,rc,hn,hn2,hp,hb,hFd,hup=>by
  unfold setSearchFrom;refine xa (wpAny_setState_of g1 g3 hf ?_);dsimp only;have hgw:t.gaveWay=false:=ZlP T.ms;rw[hgw];simp only[qR,↓reduceIte];rw[Zkx,hst];generalize hM:SetTable.probe t _ (Xs prog w ns) p=M;have hM':qbz t (λi=>(es[i]?.map (·.1)).getD 0) (Xs prog w ns) (10*yX t.mask) p=M:=hM;have esz:t.place.size=es.size:=by simpa using T.sz
  have at':∀(i x:Nat),t.place[i]?=some x->∃(ms:List Int) (b:Addr),es[i]?=some (Xs prog w ms,ze b)/\TK prog w s.heap ms b/\(es[i]?.map (·.1)).getD 0=Xs prog w ms:=λi x hi=>by
   have hl:=(zO.mp hi).1;have e1:es[i]?=some es[i]:=qe (by omega);obtain⟨ms,b,e,hb⟩:=hE es[i] (by simp);exact⟨ms,b,by rw[e1,e],hb,by rw[e1,e];rfl⟩
  rcases Zht (g:=λi=>(es[i]?.map (·.1)).getD 0) (h:=Xs prog w ns) T.du T.ri (10*yX t.mask) n p rc (by unfold yX;omega) hp hb with⟨j,z1,z2,z3,z4,z5⟩ | ⟨j,i,q,n',z1,z2,z3,z4,z5,z6,z7,z8,z9,z10⟩
  ·rw[z1]at hM'
   subst hM';dsimp only;refine xb (free (λe he b eb hk=>?_) j z2 z3 λoc a b=>hup oc a j (z5 oc a b));obtain⟨i,hi⟩:=zH.mp he;have hl:i<es.size:=by simpa using(qq.mp hi).1
   have hx:t.place[i]?=some t.place[i]:=qe (by omega);obtain⟨ms,b',e1,hk',e2⟩:=at' i _ hx;rw[qz,e1]at hi
   cases hi
   cases eb
   have:=hk.inj hk';subst this;exact z4 i _ hx (hFd _ (ZnC (i:=i) (by rw[qz];exact e1) (by rw[qz];exact hx)) _ rfl hk) e2
  ·rw[z1]at hM'
   subst hM';obtain⟨ms,b,e1,hk,e2⟩:=at' i j z3;have hseen:∀y∈((es.filter (·.1==Xs prog w ns)).toList.map (·.2)),∃ms b,y=.ref b/\TK prog w s.heap ms b:=λy hy=>by
    obtain⟨e,he,rfl⟩:=qt.mp hy;have:=(Array.mem_filter.mp (zm.mp he)).1;obtain⟨ms,b,ee,hb⟩:=hE e (zm.mpr this);exact⟨ms,b,by rw[ee],hb⟩
   dsimp only
   cases hl:t.led
   all_goals simp only[qav,Bool.not_false,qR,if_false,if_true]
   all_goals try
    refine xa (ZlO hx hseen ?_);simp only[qR,if_false]
   all_goals
    rw[e1];dsimp only;refine xa (xu (wpAny_eqBool_tuple hu hk hx ?_));refine xa (wpAny_setState_of g1 g3 hf ?_);dsimp only;by_cases eq:ms=ns
    ·subst eq
     rw[if_pos (by simp)];exact xb (there ⟨_,zq (i:=i) (by rw[qz];exact e1),b,rfl,hk⟩)
    ·rw[if_neg (by simp[eq])]
     have hsm:t.sameMemory t.moves t.mask=some true:=by unfold SetTable.sameMemory;rw[if_pos (by simp)]
     rw[hsm];dsimp only;rw[if_pos rfl,z2];dsimp only;rw[e1];dsimp only;refine xa (wpAny_isSame_ref_self ?_);refine xa (xb ?_);rw[if_pos rfl];dsimp only;rw[if_neg (by simp[eq])];refine Zdz hu g1 g3 T hf hE hx there free f n' (some q) q rfl z5 (by omega) (by omega) z7 z8 (λr hr b' eb hk'=>?_) λoc a y fd=>hup oc a y (z10 oc a y fd);obtain⟨i',hi'⟩:=zH.mp hr;rw[yF]at hi';obtain⟨p1,p2⟩:=hi';rw[qz]at p1 p2;obtain⟨ms',b2,f1,hk2,f2⟩:=at' i' _ p2;rw[f1]at p1;have p1:=(zv p1).symm;rw[p1]at eb
     cases eb
     have:=hk'.inj hk2;subst this;rcases z9 i' _ p2 (hFd r hr _ (by rw[p1]) hk')with z | z | z
     ·exact absurd f2 z
     ·subst z
      rw[e1]at f1;injection f1 with f1;injection f1 with _ f1;injection f1 with f1;subst f1;exact absurd (hk.inj hk') eq
     ·exact z
end
section
variable {prog:xC}{w:World}{A:xD}{E:xE}{s:Shared}
variable (prog w) in
noncomputable abbrev entT (x:List Int×Addr):Int×Value:=(Xs prog w x.1,.ref x.2)
variable (prog w) in
noncomputable def SetT (h:Heap)(a:Addr)(ts:List (List Int×Addr)):Prop:=∃o es ep t,h.get? a=some o/\o.ExactSet/\o.data=.set es ep t/\Tb t es.toList/\Good w t/\t.place.size*5<t.mask*3/\es.toList.Perm (ts.map (entT prog w))/\(ts.map (·.1)).Nodup
noncomputable def stepT (ts:List (List Int×Addr))(x:List Int×Addr):List (List Int×Addr):=if x.1∈ts.map (·.1)then ts else ts ++ [x]
theorem Tb.fits {t:SetTable}{es:Array (Int×Value)}(T:Tb t es.toList)(h:t.place.size*5<t.mask*3):t.fits es.size=true:=by
 have:=T.sz;simp only[qE]at this;simp only[qcS,zF,beq_iff_eq,decide_eq_true_eq,SetTable.fill,T.du];refine⟨this,?_⟩;simp;omega
theorem Tb.empty {t:SetTable}{es:List (Int×Value)}(T:Tb t es)(h:t.place.size*5<t.mask*3):∃j≤t.mask,j∉t.place.toList:=by
 refine qaD λno=>?_;have:=Zbw (a:=qm (t.mask+1)) (b:=t.place.toList) qbF λx hx=>qaD λhn=>no ⟨x,by have:=qQ.mp hx;omega,hn⟩;rw[qW,qE]at this;omega
theorem Zhw {h:Heap}{a:Addr}{o:Obj}{es:Array (Int×Value)}{ep:Nat}{t:SetTable}(ho:h.get? a=some o)(hd:o.data=.set es ep t)(es':Array (Int×Value))(t':SetTable):(h.update a (qcg es' t')).get? a=some { o with data:=.set es' (ep+1) t' }:=by
 have:=yb (qcg es' t') ho (by rw[putSet_of es' t' hd];rfl);rw[putSet_of es' t' hd]at this;exact this
theorem Zoo:yY 20=32:=by decide +kernel
theorem Zop:yY 76=128:=by decide +kernel
theorem ZnD:yY 308=512:=by decide +kernel
theorem Zoq {m n:Nat}(hm:W8 m)(h1:n*5<m*3)(h2:(n+1)*5≥m*3)(h3:n<306):W8 (yY (yZ (n+1))-1)/\(n+1)*5<(yY (yZ (n+1))-1)*3/\yY (yZ (n+1))<=512:=by
 have hg:yZ (n+1)=(n+1)*4:=by unfold yZ;rw[if_neg (by omega)]
 rw[hg];rcases hm with rfl | rfl | rfl | rfl
 ·obtain rfl:n=4:=by omega
  rw[Zoo];exact⟨.inr (.inl rfl),by decide,by decide⟩
 ·obtain rfl:n=18:=by omega
  rw[Zop];exact⟨.inr (.inr (.inl rfl)),by decide,by decide⟩
 ·obtain rfl:n=76:=by omega
  rw[ZnD];exact⟨.inr (.inr (.inr rfl)),by decide,by decide⟩
 ·omega
theorem ZkF {a:Addr}{o:Obj}{es:Array (Int×Value)}{ep:Nat}{t:SetTable}{n:Nat}{Q:Unit->Shared->Prop}(g1:s.heap.get? a=some o)(g3:o.data=.set es ep t)(T:Tb t es.toList)(hn:es.size=n+1)(h1:n*5<t.mask*3)(h2:(n+1)*5≥t.mask*3)(h3:n<306)(hfits:t.fits es.size=true)
  (c:∀es' t',Tb t' es'.toList->es'.toList.Perm es.toList->t'.led=t.led->t'.place.size*5<t'.mask*3->Q () { s with heap:=s.heap.update a (qcg es' t') }):xf (xA prog w) A (setRelay a (yZ (n+1))) Q E s:=by
 obtain⟨k1,k2,k3⟩:=Zoq T.ms h1 h2 h3;unfold setRelay;refine xa (wpAny_setState_of g1 g3 hfits ?_);dsimp only;rw[if_neg (by rw[sizeLine_eq];omega)];obtain⟨t',ord,e,pm,T',hl,hm,hv⟩:=ZlM (f:=t.finger) (v:=t.movedTo (yY (yZ (n+1))-1)) (l:=t.led) (p:=t.plain) k1 es (by omega);have e':t.relaid (es.map (·.1)) (yZ (n+1))=some (t',ord):=e;have sz:(ord.filterMap (es[·]?)).size=es.size:=by rw[<-qE,pm.length_eq,qE]
 rw[e'];refine xa (wpAny_of_eq (a:=(ord.filterMap (es[·]?),t')) ?_ ?_)
 ·show(do
   if ((ord.filterMap (es[·]?)).size != es.size)=true then unsupported "internal:set-table-lost-an-element"
   pure (ord.filterMap (es[·]?),t'):Sem _)=_
  rw[sz];simp
 ·refine wpAny_storeSet_of g1 g3 (c _ t' T' pm hl ?_) (by rw[sz,sizeLine_eq];omega)
  have:=T'.sz;rw[qE,qE,sz]at this;rw[this,hm,hn];exact k2
theorem Zor {a ax:Addr}{ns:List Int}{ts:List (List Int×Addr)}{Q:Bool->Shared->Prop}(hu:A.units<cLine)(hS:SetT prog w s.heap a ts)(hts:∀x∈ts,TK prog w s.heap x.1 x.2)(hx:TK prog w s.heap ns ax)(hroom:ts.length<306)
  (c:∀b h',zW a s.heap h'->SetT prog w h' a (stepT ts (ns,ax))->Q b { s with heap:=h' }):xf (xA prog w) A (setAddHashed a (.ref ax) (Xs prog w ns)) Q E s:=by
 obtain⟨o,es,ep,t,g1,g2,g3,T,hg,hfull,pm,nd⟩:=hS;have hf:=T.fits hfull;have esz:es.size=ts.length:=by rw[<-qE,pm.length_eq,qf]
 have psz:t.place.size=es.size:=by simpa using T.sz
 have hE:∀e∈es.toList,∃ms b,e=(Xs prog w ms,.ref b)/\TK prog w s.heap ms b:=λe he=>by
  obtain⟨x,hx,rfl⟩:=qt.mp (pm.mem_iff.mp he);exact⟨x.1,x.2,rfl,hts x hx⟩
 unfold setAddHashed setAddHashedIn;refine xu (xa (wpAny_setState_of g1 g3 hf ?_));dsimp only;have hbs:byScan (.ref ax) es=false:=by unfold byScan;simp[Value.scannable]
 rw[hbs];simp only[qR,↓reduceIte];unfold setSearch;obtain⟨j0,hj0,hjn⟩:=T.empty hfull;have hm5:t.mask<=511:=by rcases T.ms with e | e | e | e <;> omega
 refine xa (Zdz hu g1 g3 T hf hE hx (λhyes=>?_) (λhno j hj hjm hfd=>?_) 100000 (10*(t.mask+15)) none (Sh t.mask (Xs prog w ns)) rfl (ZkA T.ms _ hj0 hjn) (by omega) (qk _) rfl (ZmC _ (Bx _ _)) (λq hq b eb hk=>?_) λ_ _ _ h=>h)
 ·obtain⟨e,he,b,eb,hk⟩:=hyes
  dsimp only;obtain⟨x,hx',rfl⟩:=qt.mp (pm.mem_iff.mp he)
  cases eb
  have:=hk.inj (hts x hx');have hin:ns∈ts.map (·.1):=qt.mpr ⟨x,hx',this.symm⟩;refine xb ?_;have fin:=c false s.heap (zW.refl a s.heap) (by unfold stepT;rw[if_pos hin];exact⟨o,es,ep,t,g1,g2,g3,T,hg,hfull,pm,nd⟩);have e:s = { s with heap:=s.heap }:=by cases s;rfl
  rw[e];exact fin
 ·have hin:ns∉ts.map (·.1):=λz=>by
   obtain⟨x,hx',e⟩:=qt.mp z;exact hno (entT prog w x) (pm.mem_iff.mpr (qt.mpr ⟨x,hx',rfl⟩)) x.2 rfl (by rw[<-e];exact hts x hx')
  obtain⟨T1,m1,s1,d1,l1⟩:=ZnB (h:=Xs prog w ns) (x:=.ref ax) T hj hjm hfd;dsimp only;refine xa (wpAny_setState_of g1 g3 hf ?_);dsimp only;have ee:(qaV es (t.put j).2 (Xs prog w ns,ze ax)).toList.Perm ((stepT ts (ns,ax)).map (entT prog w)):=by
   unfold stepT;rw[if_neg hin,qaK,zf];refine List.perm_middle.trans ?_;rw[zo];refine(qa2.cons _ pm).trans ?_;exact(qca _ _).symm
  have nd':((stepT ts (ns,ax)).map (·.1)).Nodup:=by
   unfold stepT;rw[if_neg hin,zf];refine List.nodup_append.mpr ⟨nd,by simp,λx hx y hy e=>hin ?_⟩;simp at hy;rw[<-hy,<-e];exact hx
  have hg1:Good w (t.put j).1:=⟨by rw[l1];exact hg.1,T1.ri⟩;generalize hE1:qaV es (t.put j).2 (Xs prog w ns,ze ax)=es1 at T1 ee⊢;generalize hT1:(t.put j).1=t1 at T1 m1 s1 d1 l1 hg1⊢;have z1:es1.size=ts.length+1:=by
   have:=T1.sz;rw[qE,qE]at this;omega
  have tail:xf (xA prog w) A (do
    storeSet a es1 t1
    if (!false&&t1.tooFull)=true then setRelay a (yZ (es.size+1))
    pure true) Q E s:=by
   refine xa (wpAny_storeSet_of g1 g3 ?_ (by rw[z1,sizeLine_eq];omega));have q1:=Zhw g1 g3 es1 t1;have sb:=yQ s.heap a (qcg es1 t1);have hfl:t1.fill=t1.place.size:=by unfold SetTable.fill;rw[d1];rfl
   by_cases full:t1.tooFull=true
   ·rw[if_pos (by simp[full])]
    unfold SetTable.tooFull at full;rw[hfl]at full;have full:=of_decide_eq_true full;have hf1:t1.fits es1.size=true:=by
     have:=T1.sz;rw[qE,qE]at this;simp only[qcS,zF,beq_iff_eq,decide_eq_true_eq,hfl];refine⟨this,?_⟩;rcases T.ms with e | e | e | e <;> omega
    refine xa (ZkF (n:=es.size) (s:={ s with heap:=s.heap.update a (qcg es1 t1) }) q1 rfl T1 (by omega) (by rw[m1];omega) (by omega) (by omega) hf1 λes2 t2 T2 p2 l2 f2=>?_);refine xb (c true _ (sb.trans (yQ _ a _)) ⟨_,es2,ep+2,t2,Zhw q1 rfl es2 t2,g2,rfl,T2,⟨by rw[l2];exact hg1.1,T2.ri⟩,f2,p2.trans ee,nd'⟩)
   ·rw[if_neg (by simp[full])]
    unfold SetTable.tooFull at full;rw[hfl]at full;have full:¬(t1.place.size*5≥t1.mask*3):=λz=>full (decide_eq_true z);exact xb (c true _ sb ⟨_,es1,ep+1,t1,q1,g2,rfl,T1,hg1,by omega,ee,nd'⟩)
  split
  ·refine xa (Zgt hx ?_)
   simp only[↓reduceIte];exact tail
  ·refine xa (xb ?_)
   simp only[↓reduceIte];exact tail
 ·have ⟨i,hi⟩:=zH.mp hq
  obtain⟨ms,b',ee,hk'⟩:=hE q.1 (qao hq).1;rw[ee]at eb
  cases eb
  have:=hk.inj hk';subst this;have:=T.fd q hq;rw[ee]at this;exact this
end
end HT
namespace HT
section
variable {prog:xC}{w:World}{A:xD}{E:xE}{s:Shared}
noncomputable def firstT (ks:List (List Int×Addr))(i:Nat):List (List Int×Addr):=(ks.take i).foldl stepT []
theorem Zfn {ks:List (List Int×Addr)}{i:Nat}{x:List Int×Addr}(h:ks[i]?=some x):firstT ks (i+1)=stepT (firstT ks i) x:=by
 unfold firstT;rw[qbA,h];simp[List.foldl_append]
theorem ZiL (ts:List (List Int×Addr))(x:List Int×Addr):(∀y∈stepT ts x,y∈ts∨y=x)/\(stepT ts x).length<=ts.length+1/\∀k,k∈(stepT ts x).map (·.1)↔k∈ts.map (·.1)∨k=x.1:=by
 unfold stepT;split
 ·rename_i h
  refine⟨λy hy=>.inl hy,by omega,λk=>⟨.inl,λz=>?_⟩⟩;rcases z with z | rfl
  ·exact z
  ·exact h
 ·refine⟨λy hy=>by simpa using hy,by simp,λk=>?_⟩
  simp[eq_comm]
theorem foldT_sub:∀(ks ts:List (List Int×Addr)),(∀y∈ks.foldl stepT ts,y∈ts∨y∈ks)/\(ks.foldl stepT ts).length<=ts.length+ks.length/\∀k,k∈(ks.foldl stepT ts).map (·.1)↔k∈ts.map (·.1)∨k∈ks.map (·.1)
 | [],ts=>⟨λy hy=>.inl hy,by simp,λk=>by simp⟩
 | x::ks,ts=>by
  obtain⟨a1,a2,a3⟩:=foldT_sub ks (stepT ts x);obtain⟨b1,b2,b3⟩:=ZiL ts x;refine⟨λy hy=>?_,by rw[qbj,qS];omega,λk=>?_⟩
  ·rcases a1 y hy with z | z
   ·rcases b1 y z with z | z
    ·exact .inl z
    ·exact .inr (by simp[z])
   ·exact .inr (by simp[z])
  ·rw[qbj,a3 k,b3 k,qY,qp,or_assoc]
theorem firstT_sub (ks:List (List Int×Addr))(i:Nat):(∀y∈firstT ks i,y∈ks)/\(firstT ks i).length<=i:=by
 obtain⟨a,b,_⟩:=foldT_sub (ks.take i) [];refine⟨λy hy=>?_,?_⟩
 ·rcases a y hy with z | z
  ·simp at z
  ·exact qaC z
 ·have:(ks.take i).length<=i:=by rw[qV];omega
  unfold firstT;simp only[y9]at b;omega
theorem TK.keep {h h':Heap}{ns:List Int}{a:Addr}(k:TK prog w h ns a)(hk:∀o,h.get? a=some o->h'.get? a=some o):TK prog w h' ns a:=by
 obtain⟨o,items,n,ho,r⟩:=k;exact⟨o,items,n,hk o ho,r⟩
theorem SetT.keep {h h':Heap}{a:Addr}{ts:List (List Int×Addr)}(k:SetT prog w h a ts)(hk:∀o,h.get? a=some o->h'.get? a=some o):SetT prog w h' a ts:=by
 obtain⟨o,es,ep,t,ho,r⟩:=k;exact⟨o,es,ep,t,hk o ho,r⟩
theorem ZlQ {h:Heap}{a:Addr}{ks:List (List Int×Addr)}(hg:h.get? a=some (Wc (!Yo w))):SetT prog w h a (firstT ks 0):=by
 refine⟨_,#[],0,_,hg,⟨rfl,rfl,rfl⟩,rfl,⟨.inl rfl,rfl,yC,λj hj=>?_,rfl,λq hq=>?_⟩,⟨?_,yC⟩,by show 0*5<7*3;decide,.refl _,yC⟩
 ·exact absurd (show j∈([]:List Nat)from hj) (by simp)
 ·exact absurd (show q∈([]:List ((Int×Value)×Nat))from hq) (by simp)
 ·show Yo w=true∨(!Yo w)=true
  cases Yo w <;> simp
theorem ZnE {R:Result->Shared->Prop}{I:Addr}{fp wr:List Addr}{G:Array GenState->Array GenState->Prop}{n:Nat}{P:Nat->Value->Prop}{St:Nat->Shared->Prop}
  (W:WalksS prog w A.in1 I fp wr G n P St) (Z:Addr) (hZ:Z∉fp) (ks:List (List Int×Addr)) (hv:∀i v,P i v->∃x,ks[i]?=some x/\v=.ref x.2) (hb:n<=306) (hu:A.in1.units<cLine) (hd:∀x∈ks,x.2≠Z/\x.2∉wr) :
  ∀(k i:Nat) (s:Shared),n-i=k->i<=n->St i s->SetT prog w s.heap Z (firstT ks i)->(∀x∈ks,TK prog w s.heap x.1 x.2)->
   (∀s',Moved (Z::wr) G s s'->SetT prog w s'.heap Z (firstT ks n)->R (.ok (.ret .none)) s')->
   xo (xA prog w) A (.builtin "set.update.loop" ⟨[.ref Z,.ref I],[]⟩) R s:=by
 have hZw:Z∉wr:=λh=>hZ (W.sub _ h);have sub:∀b∈wr,b∈Z::wr:=λb m=>qM _ m;intro k
 induction k with
 | zero=>
  intro i s hk hi st hS hT hR;have e:i=n:=by omega
  subst e;refine xm qbq ?_;rw[yM qan _];show xf _ A.in1 (pyNext (.ref I) >>= _) _ _ s;refine xa (W.done s _ _ st λs' hm=>?_);show xf _ A.in1 (ret zd) _ _ s';exact xb (hR s' (hm.mono sub) (hS.keep λo e=>hm.heap Z o hZw e))
 | succ k ih=>
  intro i s hk hi st hS hT hR;have hlt:i<n:=by omega
  refine xm qbq ?_;rw[yM qan _];show xf _ A.in1 (pyNext (.ref I) >>= _) _ _ s;refine xa (W.item i s _ _ hlt st λv s' hP st' hm=>?_);obtain⟨x,hx,rfl⟩:=hv i v hP;have hxm:x∈ks:=zq hx;have hS':=hS.keep λo e=>hm.heap Z o hZw e;have hT':∀y∈ks,TK prog w s'.heap y.1 y.2:=λy hy=>TK.keep (hT y hy) λo e=>hm.heap y.2 o (hd y hy).2 e;obtain⟨f1,f2⟩:=firstT_sub ks i;show xf _ A.in1 (holding [ze x.2] (setAdd Z (.ref x.2)) >>= _) _ _ s';refine xa (xu ?_);unfold setAdd;refine xu (xa (wpAny_pyHash_tuple hu (hT' x hxm) ?_));refine Zor (s:={ s' with toks:=s'.toks+(x.1.length+1) }) hu hS' (λy hy=>hT' y (f1 y hy)) (hT' x hxm) (by omega) λb h' sb z=>?_;have z':SetT prog w h' Z (firstT ks (i+1)):=by rw[Zfn hx];exact z
  refine xb ⟨plainId_quiet qan _,ih (i+1) _ (by omega) hlt (W.frame _ s' _ _ st' (qba _ _) λb m o e=>?_) z' (λy hy=>TK.keep (hT' y hy) λo e=>?_) λs'' hm'' hS''=>?_⟩
  ·rw[sb.2 b (λh:b=Z=>hZ (by rw[<-h];exact m))];exact e
  ·rw[sb.2 y.2 (hd y hy).1];exact e
  ·refine hR s'' (Moved.trans W.gtrans ((hm.mono sub).then_heap (qba _ _) λb o m e=>?_) hm'') hS''
   rw[sb.2 b (λh:b=Z=>m (by rw[h];exact zK))];exact e
theorem setT_of_list {l:Addr}{items:Array Value}{ks:List (List Int×Addr)}{Q:xE}(hh:A.handled=none)(hl:s.heap.IsList l items)(hi:items.toList=ks.map λx=>.ref x.2)(hk:∀x∈ks,TK prog w s.heap x.1 x.2)(hb:items.size<=306)(hu:A.units+10<cLine)
  (h:∀(h':Heap) (tk:Nat),SetT prog w h' s.heap.objs.size (firstT ks items.size)->(∀b o,b<s.heap.objs.size->s.heap.get? b=some o->h'.get? b=some o)->Q (.ref s.heap.objs.size) { s with heap:=h',toks:=tk }) :
  xf (xA prog w) A (call (.type "set") [.ref l]) Q E s:=by
 obtain⟨c,tl,hmro⟩:=yK.mro;have hmade:=yK.made;have hsub:=yK.sub;refine xz (codeAny_of_tree ?_);show xf _ _ (callAny (.type "set") _) _ _ _;refine xb ⟨Code.quiet_builtin _ (by decide +kernel),xm PySem.F.entry_type_call ?_⟩;rw[xD.under_plain (weight_type_call_type "set" [.ref l] []) rfl];have h1:=yK.notType;have h2:=yK.canCreate;have hct:=PySem.F.typeCall_set_1 (.ref l)
 repeat (any_goals (first | assumption | wp_step))
 refine codeAny_mono (Znw (.ref l) (E:=E) (Q₁:=λobj s₁=>obj=.ref s.heap.objs.size/\s₁ = { s with heap:=s.heap.push (Wc (!Yo w)) }) ⟨rfl,rfl⟩) λr s₁ hr=>?_
 cases r with
 | error e=>exact hr
 | ok fl=>
  cases fl with
  | ret obj=>
   obtain⟨rfl,rfl⟩:=hr;have hS:(s.heap.push (Wc (!Yo w))).get? s.heap.objs.size=some (Wc (!Yo w)):=qw _ rfl;have hT:qcR { s with heap:=s.heap.push (Wc (!Yo w)) } (.ref s.heap.objs.size) "set":=⟨_,hS,rfl⟩;have hli:=yK.init.lookup;have hbi:=yK.init.bind (.ref s.heap.objs.size)
   repeat (any_goals (first | assumption | wp_step))
   refine codeAny_mono (codeAny_call_builtin (R:=wants (λr s₂=>r=.none/\∃h' tk,s₂ = { s with heap:=h',toks:=tk }/\SetT prog w h' s.heap.objs.size (firstT ks items.size)/\(∀b o,b<s.heap.objs.size->s.heap.get? b=some o->h'.get? b=some o)) E) yK.init.plain PySem.F.entry_set_init (check_set_init_1 hT ?_)) λr₂ s₂ hr₂=>?_
   ·obtain⟨ol,hol,hcl,nl,hdl⟩:=hl;obtain⟨ocls,odict,odata,oslots⟩:=ol
    simp only at hcl hdl;subst hcl;subst hdl;have hol':(s.heap.push (Wc (!Yo w))).get? l=some { cls:=.type "list",dict:=odict,data:=.seq items nl,slots:=oslots }:=qd _ hol;have z1:=PySem.F.sub_list_set;have z2:=PySem.F.sub_list_frozenset;have hne:(y6 "list" == y6 "dict")=false:=by decide
    have hl1:(s.heap.push (Wc (!Yo w))).IsList l items:=⟨_,hol',rfl,nl,rfl⟩;unfold Builtin.«set.__init__» noKeywords Builtin.Frozenset.updateFrom;generalize hPI:pyIter=PI
    wp_walk
    subst hPI;refine wpAny_pyIter_list hl1 ?_;refine xa (wpAny_runValue ?_);have hlS:l<s.heap.objs.size:=qH hol;have hh3:A.in1.in1.in1.handled=none:=by simp[hh]
    have hneI:l≠(s.heap.push (Wc (!Yo w))).objs.size:=by rw[yf];exact qT (yD hlS)
    have hSf:s.heap.objs.size∉[(s.heap.push (Wc (!Yo w))).objs.size,l]:=by
     rw[yf];simp only[qp,qU,zp,or_false,not_or];exact⟨qT (qa7 _),qaY hlS⟩
    have hval:∀(i:Nat) (v:Value),items[i]?=some v->∃x,ks[i]?=some x/\v=.ref x.2:=λi v hv=>by
     rw[<-qz,hi,qu]at hv;obtain⟨x,e1,e2⟩:=yA.mp hv;exact⟨x,e1,e2.symm⟩
    have hdd:∀x∈ks,x.2≠s.heap.objs.size/\x.2∉[(s.heap.push (Wc (!Yo w))).objs.size]:=λx hx=>by
     obtain⟨o,_,_,ho,_⟩:=hk x hx;have:=qH ho;rw[yf];simp only[qp,qU,zp,or_false];exact⟨qT this,qT (yD this)⟩
    refine ZnE ((Walks.list hh3 _ l hneI items).toS) s.heap.objs.size hSf ks hval hb (by show A.units+1+1+1<cLine;omega) hdd (items.size-0) 0 _ (by omega) (zR _) ⟨⟨_,qw _ rfl,rfl,rfl⟩,(hl1.push _)⟩ ?hS0 (λx hx=>TK.keep (hk x hx) λo e=>qd _ (qd _ e)) ?hR
    case hS0=>
     have hget:((s.heap.push (Wc (!Yo w))).push { cls:=.type "list_iterator",data:=.fields #[.ref l,.int 0 0] }).get? s.heap.objs.size=some (Wc (!Yo w)):=qd _ hS;exact ZlQ hget
    case hR=>
     intro s' hm hS';obtain⟨h',g',d',tk',os'⟩:=s';have eg:g'=s.gens:=hm.gens;have ed:d'=s.drawn:=hm.drawn;have eo:os'=s.os:=hm.os;subst eg;subst ed;subst eo;show xf _ _ _ _ _ _;refine xb ?_;show xf _ _ (ret zd) _ _ _;refine xb ⟨rfl,h',tk',rfl,hS',λb o hb e=>?_⟩;have hb1:b≠s.heap.objs.size:=qT hb;have hb2:b≠(s.heap.push (Wc (!Yo w))).objs.size:=by rw[yf];exact qT (yD hb)
     exact hm.heap b o (by simp only[qp,qU,zp,or_false,not_or];exact⟨hb1,hb2⟩) (qd _ (qd _ e))
   ·cases r₂ with
    | error e=>exact hr₂
    | ok fl₂=>
     cases fl₂ with
     | ret r=>
      obtain⟨rfl,h',tk,rfl,hS',hk'⟩:=hr₂;repeat (any_goals (first | assumption | wp_step))
      exact h _ _ hS' hk'
     | next=>exact hr₂.elim
     | brk=>exact hr₂.elim
     | cont=>exact hr₂.elim
  | next=>exact hr.elim
  | brk=>exact hr.elim
  | cont=>exact hr.elim
end
open L2 TS
section
variable {prog:xC}{w:World}{A:xD}{E:xE}{s:Shared}
variable {a:Addr}{o:Obj}{es:Array (Int×Value)}{ep:Nat}{t:SetTable}
theorem Zfo:∀{vs:List Value} {ns:List Int},IntsAre vs ns->ItemsAre (intKind prog w) ns vs
 | _,_,.nil=>.nil
 | _,_,.cons n t h=>.cons (intKind_is _ _ _ _) (Zfo h)
theorem tk_of {h:Heap}{a:Addr}{ns:List Int}(x:Yc h (.ref a) ns):TK prog w h ns a:=by
 obtain⟨b,xs,e,⟨o,ho,hc,n,hd⟩,hi⟩:=x
 cases e
 exact⟨o,_,n,ho,hc,hd,by simpa using Zfo hi⟩
theorem sortedT {Q:xE}(hh:A.handled=none)(ho:s.heap.get? a=some o)(hex:o.ExactSet)(hd:o.data=.set es ep t)(hf:t.fits es.size=true)(hg:Good w t)(hz:es.size<=1000){jK:List (List Int)}(hi:Paired (Yc s.heap) (es.toList.map (·.2)) jK)(hne:2<=jK.length->∀ns∈jK,ns≠[])
  (k:∀(ix:List Nat) (L:Addr) (h':Heap) (tk:Nat) d (e:Nat),ix.Perm (qm es.size)->(ix.map λi=>jK.getD i [])=Yr jK->(∀b u,s.heap.get? b=some u->h'.get? b=some u)->s.heap.objs.size<=L->h'.get? L=some (seqObj "list" (ix.map λi=>(es.toList.map (·.2)).getD i .none).toArray e)->Q (.ref L) { s with heap:=h',toks:=tk,drawn:=d }) :
  xf (xA prog w) A (call (.builtin "sorted") [.ref a]) Q E s:=by
 refine qcf kind_sorted plain_sorted entry_sorted (args_sorted1 _) ?_;unfold Builtin.«sorted»;refine xa (m:=checkCount "sorted" 1 1 _) (xb ?_);refine xa (Zfl hh ho hex hd hf hg hz λvs h1 tk d kp hs pm=>?_);obtain⟨ix,p1,p2⟩:=TT.perm_ix zd pm;have hel:(es.toList.map (·.2)).length=es.size:=by simp
 rw[hel]at p1;have hb:∀i∈ix,i<(es.toList.map (·.2)).length:=λi hi=>by rw[hel];exact qQ.mp (p1.mem_iff.mp hi)
 have hl:vs.length=es.size:=by rw[pm.length_eq,hel]
 have hnl:jK.length=es.size:=by rw[<-qad hi,hel]
 have hpk:Paired (Yc s.heap) vs (ix.map λi=>jK.getD i []):=by
  have:=TS.Paired.pick zd [] hi ix hb;rw[<-p2]at this;exact this
 have hnp:(ix.map λi=>jK.getD i []).Perm jK:=by
  have:=p1.map λi=>jK.getD i [];rw[<-hnl,TS.range_getD]at this;exact this
 refine xa (xy ?_ (by rw[sizeLine_eq];omega));have g1:(h1.push (seqObj "list" vs.toArray 0)).get? h1.objs.size=some (seqObj "list" vs.toArray 0):=qw _ rfl;have ht:Paired (Yc (h1.push (seqObj "list" vs.toArray 0))) vs (ix.map λi=>jK.getD i []):=L2.Paired.mapP hpk λv ns ⟨a,xs,e,⟨o,ho,r⟩,i⟩=>⟨a,xs,e,⟨o,qd _ (kp a o ho),r⟩,i⟩;show xf _ _ _ _ _ { s with heap:=h1.push (seqObj "list" vs.toArray 0),toks:=tk,drawn:=d };refine xa (xu (wpAny_call_entry slot_list_sort ⟨_,g1,rfl⟩ entry_list_sort (TT.list_sort_T2 (s:={ s with heap:=h1.push (seqObj "list" vs.toArray 0),toks:=tk,drawn:=d }) g1 ht (by omega) (λz ns hm=>hne (by omega) ns (hnp.mem_iff.mp hm)) λp a1 a2=>⟨_,rfl,?_⟩) (args_list_sort _)));obtain⟨e,he⟩:=sortedHeap_at (out:=zY (p.toList.map λi=>vs.getD i zd)) g1;have hpl:∀i∈p.toList,i<ix.length:=λi hi=>by
  have:=qQ.mp (a1.mem_iff.mp hi);rw[p2,qf]at this;exact this
 have comp:∀{α:Type} (l:List α) (d:α),(p.toList.map λi=>(ix.map λi=>l.getD i d).getD i d)=(p.toList.map λi=>ix.getD i 0).map λi=>l.getD i d:=λl d=>by
  rw[qC];refine qX λi hi=>?_;have:=hpl i hi;show(ix.map λi=>l.getD i d).getD i d=l.getD (ix.getD i 0) d;rw[qL,qu,qI this,qL (l:=ix),qI this];rfl
 refine xb ⟨_,rfl,k (p.toList.map λi=>ix.getD i 0) h1.objs.size _ tk d e ?_ ?_ (λb u q=>?_) (qci hs) ?_⟩
 ·have:=a1.map λi=>ix.getD i 0
  rw[show vs.length=ix.length by rw[p2,qf],TS.range_getD]at this;exact this.trans p1
 ·rw[<-comp jK [],a2]
  exact BW hnp
 ·have q1:=kp b u q
  have l1:=qH q1;rw[sortedHeap_old (qT l1) (by rw[yf];exact yD l1)];exact qd _ q1
 ·rw[<-comp (es.toList.map (·.2)) zd,<-p2]
  exact he
end
end HT
namespace TF
open L2 TS
section
variable {X:Cx}{G:Gh}
noncomputable def BH (w:World)(o:Obj)(vs:List V):Prop:=∃es ep t,o.data=.set es ep t/\o.ExactSet/\t.fits es.size=true/\HT.Good w t/\es.size<=306/\Zu vs (es.toList.map (·.2))
theorem Zhx {T:V->List Int->Prop}(hT:∀v ns,T v ns->∃a,v=.ref a):∀{vs:List V} {jK:List (List Int)},Paired T vs jK->∃ks:List (List Int×Addr),vs=ks.map (λx=>V.ref x.2)/\jK=ks.map (·.1)/\∀x∈ks,T (.ref x.2) x.1
 | _,_,.nil=>⟨[],rfl,rfl,by simp⟩
 | _,_,.cons r t=>by
  obtain⟨ks,rfl,rfl,h⟩:=Zhx hT t;obtain⟨a,rfl⟩:=hT _ _ r;exact⟨(_,a)::ks,rfl,rfl,λx hx=>by
   rcases qp.mp hx with rfl | hx
   ·exact r
   ·exact h x hx⟩
theorem ZdA:∀{ks:List (List Int×Addr)} {jJ:List Value},Zu (ks.map λx=>V.ref x.2) jJ->jJ=ks.map λx=>.ref x.2
 | [],_,r=>by cases r;rfl
 | x::ks,_,r=>by
  cases r with
  | cons a b=>
   cases a
   rw[ZdA b];rfl
theorem ZdB:∀(ks:List (List Int×Addr)),Zu (ks.map λx=>V.ref x.2) (ks.map λx=>.ref x.2)
 | []=>.nil
 | x::ks=>.cons rfl (ZdB ks)
theorem ZdC {T:V->List Int->Prop}:∀{ks:List (List Int×Addr)},(∀x∈ks,T (.ref x.2) x.1)->Paired T (ks.map λx=>V.ref x.2) (ks.map (·.1))
 | [],_=>.nil
 | x::ks,h=>.cons (h x (by simp)) (ZdC λy hy=>h y (by simp[hy]))
theorem ZnF {jH:Qb}{s:Shared}{σ:St}{H:Hp}{T:V->List Int->Prop}{Q:VK}(I:Inv X jH σ H s)(ks:List (List Int×Addr))(hTk:∀x∈ks,T (.ref x.2) x.1)(hl:ks.length<=306)
  (q:∀l o vs' nss',H l=none->BH X.w o vs'->Paired T vs' nss'->nss'.Nodup->(∀x,x∈nss'↔x∈ks.map (·.1))->Q (.ref l) (Zj H l (.frz o (.own 0)))) (n:Nat) (hn:n=ks.length) (h':Heap) (tk:Nat) (hS:HT.SetT X.prog X.w h' s.heap.objs.size (HT.firstT ks n)) (hk:∀b o,b<s.heap.objs.size->s.heap.get? b=some o->h'.get? b=some o):EP X jH σ Q (.ref s.heap.objs.size) { s with heap:=h',toks:=tk }:=by
 subst hn;obtain⟨o,es,ep,t,g1,g2,g3,Tb,hg,hfull,pm,nd⟩:=hS;obtain⟨ix,p1,p2⟩:=TT.perm_ix ((0:Int),zd) pm;obtain⟨f1,f2⟩:=HT.firstT_sub ks ks.length;have f3:=(HT.foldT_sub (ks.take ks.length) []).2.2;rw[qa9]at f3;have e0:HT.firstT ks ks.length=ks.foldl HT.stepT []:=by unfold HT.firstT;rw[qa9]
 obtain⟨ts,hts,et⟩:∃ts:List (List Int×Addr),ts.Perm (HT.firstT ks ks.length)/\es.toList=ts.map (HT.entT X.prog X.w):=by
  refine⟨ix.map λi=>(HT.firstT ks ks.length).getD i ([],0),?_,?_⟩
  ·rw[qf]at p1
   have:=p1.map λi=>(HT.firstT ks ks.length).getD i ([],0);rw[TS.range_getD]at this;exact this
  ·rw[p2,qC]
   refine qX λi hi=>?_;have:=qQ.mp (p1.mem_iff.mp hi);rw[qf]at this;show((HT.firstT ks ks.length).map (HT.entT X.prog X.w)).getD i (0,zd)=HT.entT X.prog X.w ((HT.firstT ks ks.length).getD i ([],0));rw[qL,qu,qI this,qL,qI this];rfl
 have esz:es.size=ts.length:=by rw[<-qE,et,qf]
 have tsl:ts.length<=306:=by rw[hts.length_eq];omega
 refine⟨.ref s.heap.objs.size,_,I.laid (a:=s.heap.objs.size) (o:=.frz o (.own 0)) (t':=tk) (λb o e=>hk b o (qH e) e) (qk _) ⟨g1,o,g1⟩,rfl,q _ o (ts.map λx=>V.ref x.2) (ts.map (·.1)) (I.hok.fresh (qk _)) ⟨es,ep,t,g3,g2,Tb.fits hfull,hg,by omega,?_⟩ (ZdC λx hx=>hTk x (f1 x (hts.mem_iff.mp hx))) ((hts.map _).nodup_iff.mpr nd) λx=>?_⟩
 ·rw[et,qC]
  exact ZdB ts
 ·rw[(hts.map (·.1)).mem_iff,e0,f3]
  simp
theorem Zgu (hc:X.calm=true)(hu:X.A.units+10<cLine):XO X (.type "set") (λxs H Q=>∃(p:Addr) (vs:List V) (jK:List (List Int)) (T:V->List Int->Prop),xs=[.ref p]/\Zy X.K H p vs/\(∀v ns,T v ns->∃a,v=.ref a/\ZK X.K H a (ns.map V.int))/\Paired T vs jK/\jK.length<=306/\
  ∀l o vs' nss',H l=none->BH X.w o vs'->Paired T vs' nss'->nss'.Nodup->(∀x,x∈nss'↔x∈jK)->Q (.ref l) (Zj H l (.frz o (.own 0)))):=by
 intro jH s σ H xs us Q I r h;obtain⟨p,vs,jK,T,rfl,hp,hT,pT,hl,q⟩:=h;obtain⟨u,rfl,ru⟩:=Va r
 cases ru
 obtain⟨jJ,rv,pl,hz⟩:=I.list hp;obtain⟨ks,rfl,rfl,hk⟩:=Zhx (λv ns h=>let ⟨a,e,_⟩:=hT v ns h;⟨a,e⟩) pT;have ei:=ZdA rv;subst ei;rw[qf]at hl;refine HT.setT_of_list (I.ok.hd hc) pl.isList (ks:=ks) (by simp) (λx hx=>?_) (by simpa using hl) hu λh' tk hS hkp=>ZnF I ks hk hl q _ (by simp) h' tk hS hkp;obtain⟨a,e,hq⟩:=hT _ _ (hk x hx)
 cases e
 obtain⟨xs,rv,pl,hz⟩:=I.tuple hq;exact HT.tk_of ⟨x.2,xs,rfl,show s.heap.IsTuple x.2 xs.toArray from pl,JH rv⟩
theorem Zc8 (hc:X.calm=true):XO X (.builtin "sorted") (λxs H Q=>∃(p:Addr) (o:Obj) (vs:List V) (jK:List (List Int)) (T:V->List Int->Prop),xs=[.ref p]/\H p=some (.frz o (.own 0))/\BH X.w o vs/\(∀v ns,T v ns->∃a,v=.ref a/\ZK X.K H a (ns.map V.int))/\Paired T vs jK/\
  (2<=jK.length->∀ns∈jK,ns≠[])/\∀l vs',Paired T vs' (Yr jK)->H l=none->Q (.ref l) (Zj H l (.lst vs'))):=by
 intro jH s σ H xs us Q I r h;obtain⟨p,o,vs,jK,T,rfl,hp,hS,hT,pT,hne,q⟩:=h;obtain⟨u,rfl,ru⟩:=Va r
 cases ru
 obtain⟨ho,_⟩:=(show YI X.prog X.w H s.heap p (.frz o (.own 0))from I.hok p _ hp);obtain⟨es,ep,t,g3,g2,gf,gg,gz,gv⟩:=hS;have hel:(es.toList.map (·.2)).length=es.size:=by simp
 have hvl:vs.length=es.size:=by rw[gv.length,hel]
 refine HT.sortedT (I.ok.hd hc) ho g2 g3 gf gg (by omega) (Zbp I hT gv pT) hne λix L h' tk d e p1 p2 kp hL he=>?_;have hb:∀i∈ix,i<es.size:=λi hi=>qQ.mp (p1.mem_iff.mp hi);have pv:Zu (ix.map λi=>vs.getD i V.non) (ix.map λi=>(es.toList.map (·.2)).getD i zd):=TS.Paired.pick _ _ gv _ λi m=>by rw[hvl];exact hb i m
 have pt:Paired T (ix.map λi=>vs.getD i V.non) (ix.map λi=>jK.getD i []):=TS.Paired.pick _ _ pT _ λi m=>by rw[hvl];exact hb i m
 rw[p2]at pt;refine⟨.ref L,_,jG (s:={ s with heap:=h',toks:=tk }) (I.laid (a:=L) (o:=.lst (ix.map λi=>vs.getD i V.non)) (t':=tk) kp hL ⟨?_,_,e,pv,he⟩),rfl,q _ _ pt (I.hok.fresh hL)⟩;have:=p1.length_eq;rw[qW]at this;rw[qf,this,sizeLine_eq];omega
end
section
variable {X:Cx}{G:Gh}
noncomputable def Wu:List (List Int)->List (List Int)
 | []=>[]
 | x::l=>if x∈l then Wu l else x::Wu l
theorem JN {x:List Int}:∀{l:List (List Int)},x∈Wu l↔x∈l
 | []=>.rfl
 | y::l=>by
  unfold Wu;split
  ·rename_i h
   rw[JN,qp];exact⟨.inr,λz=>z.elim (λe=>e▸h) id⟩
  ·rw[qp,qp,JN]
theorem BT:∀l:List (List Int),(Wu l).Nodup
 | []=>.nil
 | y::l=>by
  unfold Wu;split
  ·exact BT l
  ·rename_i h
   exact zV.mpr ⟨λz=>h (JN.mp z),BT l⟩
noncomputable def Bo (jK:List (List Int)):Prop:=jK.length<=306/\(2<=(Wu jK).length->∀ns∈jK,ns≠[])
noncomputable instance (jK:List (List Int)):Decidable (Bo jK):=by unfold Bo;infer_instance
noncomputable def By (ds:List D):M D:=match Wt ds with | some jK=>if Bo jK then ZI (.lst ((Yr (Wu jK)).map Yf))else ZO | none=>ZO
noncomputable def ZcG (f:Za->M D):Za->M D:=fun ρ=>Zo (f ρ) λd=>match d with
 | .lst ds=>By ds
 | _=>ZO
theorem Zhy {Hf H:Hp}(e:Zz G Hf H)(v:V)(ns:List Int)(h:Zi G Hf (Yf ns) v):∃a,v=.ref a/\ZK X.K H a (ns.map V.int):=by
 obtain⟨a,us,rfl,na,ha,ra⟩:=jc.mp h;rw[jr ra]at ha;exact⟨a,rfl,ZK.of (e _ _ na ha)⟩
theorem ZlR {Hf H jW H1:Hp}{jK:List (List Int)}{s1 s':Pn}{d:D}{Q:VK}(g1:Gr G Hf H jW H1)(j8:G.st s1 H1)(h:(if Bo jK then ZI (D.lst ((Yr (Wu jK)).map Yf))else ZO) s1=some (d,s'))
  (k:∀(v:V) (Hf' H':Hp),Gr G Hf H Hf' H'->G.st s' H'->Zi G Hf' d v->(true=true->Yh G H Hf' d v)->Q v H') (l:Addr) (o:Obj) (vs':List V) (nss':List (List Int)) (hn:H1 l=none) (hO:BH X.w o vs') (pT:Paired (λv ns=>Zi G jW (Yf ns) v) vs' nss') (nd:nss'.Nodup) (hm:∀x,x∈nss'↔x∈jK) :
  ∃(p:Addr) (o':Obj) (vs:List V) (jK:List (List Int)) (T:V->List Int->Prop),[V.ref l]=[.ref p]/\Zj H1 l (.frz o (.own 0)) p=some (.frz o' (.own 0))/\BH X.w o' vs/\(∀v ns,T v ns->∃a,v=.ref a/\ZK X.K (Zj H1 l (.frz o (.own 0))) a (ns.map V.int))/\Paired T vs jK/\
   (2<=jK.length->∀ns∈jK,ns≠[])/\∀l' vs',Paired T vs' (Yr jK)->Zj H1 l (.frz o (.own 0)) l'=none->Q (.ref l') (Zj (Zj H1 l (.frz o (.own 0))) l' (.lst vs')):=by
 obtain⟨ok,h⟩:=YW h;obtain⟨rfl,rfl⟩:=ZL h;have nf:=Gh.nofp j8 hn;have g2:=Gr.new (o:=.frz o (.own 0)) g1.fh hn nf;have jV:=Gh.grow (o:=.frz o (.own 0)) j8 hn;have pp:nss'.Perm (Wu jK):=(yg nd (BT jK)).mpr λx=>by rw[hm,JN]
 have es:Yr nss'=Yr (Wu jK):=BW pp;refine⟨l,o,vs',nss',λv ns=>Zi G jW (Yf ns) v,rfl,ZM,hO,λv ns r=>Zhy g2.fh v ns (r.ext g2.ff),pT,λh2 ns hns=>ok.2 (pp.length_eq▸h2) ns ((hm ns).mp hns),λl' vs2 pt hn'=>?_⟩;rw[es]at pt;have nf':=Gh.nofp jV hn';have g3:=Gr.new (o:=.lst vs2) g2.fh hn' nf';have rl:=(Zbs pt).ext g2.ff;exact k (.ref l') _ _ ((g1.trans g2).trans g3) (Gh.grow jV hn') (jb.mpr ⟨l',_,rfl,nf',ZM,rl.ext g3.ff⟩) λ_=>jn (g1.trans g2).hh (λa ea _=>by cases ea;exact nf') (Yh.mk g2.fh hn' nf' rl)
theorem Zea {a:Expr}{p1 p2 pos1 pos:Pos}{r1:Bool}{f:Za->M D}(hc:X.calm=true)(hu:X.A.units+64<cLine)(hg:Gl X "sorted")(hm:X.mg "sorted" = none)(hv:xj "sorted" = some (.builtin "sorted"))(hg2:Gl X "set")(hm2:X.mg "set" = none)(hv2:xj "set" = some (.type "set"))(ha:PD X G r1 a f)
  (hs:xh [a] X.env=(false,eval a X.env)::xh [] X.env:=by rfl)
  (hs2:xh [Expr.Call (.Name "set" p2) [a] [] pos1] X.env=(false,eval (Expr.Call (.Name "set" p2) [a] [] pos1) X.env)::xh [] X.env:=by rfl) (hpl:(backTo pos (xh [] X.env)).any (·.1)=false:=by rfl) (hpl1:(backTo pos1 (xh [] X.env)).any (·.1)=false:=by rfl) :
  PD X G true (.Call (.Name "sorted" p1) [.Call (.Name "set" p2) [a] [] pos1] [] pos) (ZcG f):=by
 obtain⟨t,pa,qa⟩:=ha.drop;refine⟨_,ZaU (Zc8 hc) hg hm hv (Y5 (Zbj (Zgu hc (by omega)) hg2 hm2 hv2 (Y5 pa Xv hs) (by decide) (by decide) hs hpl1) Xv hs2) (by decide) (by decide) hs2 hpl,fun σ Hf H ρ s d s' Q e1 e2 e3 e4 k=>?_⟩;obtain⟨d0,s1,a1,a2⟩:=ZE e4;refine qa σ Hf H ρ s d0 s1 _ e1 e2 e3 a1 λv jW H1 g1 j8 r1=>?_
 match d0,a2,r1 with
 | .lst ds,a2,r1=>
  have a2:By ds s1=some (d,s'):=a2;unfold By at a2
  cases he:Wt ds with
  | none=>rw[he]at a2;cases a2
  | some jK=>
   rw[he]at a2;have a2:(if Bo jK then ZI (D.lst ((Yr (Wu jK)).map Yf))else ZO) s1=some (d,s'):=a2;obtain⟨p,vs,rfl,np,hp,rp⟩:=jb.mp r1;rw[Zbq he]at rp;exact⟨p,vs,jK,λv ns=>Zi G jW (Yf ns) v,rfl,Zy.of (g1.fh _ _ np hp),Zhy g1.fh,Zbr rp,(YW a2).1.1,λl o vs' nss' hn hO pT nd hm=>ZlR g1 j8 a2 k l o vs' nss' hn hO pT nd hm⟩
end
end TF
namespace TF
open L2
section
variable {X:Cx}{G:Gh}
theorem ZiM {ob own:List Nat}{fr r1 r2:Bool}{i:Nat}{x:Str}{ex ev:Expr}{p1 p2 pos:Pos}{fx fv:Za->M D}{tx tv:TE}(hi:i∈own)(hn:PE X (.Name x p1) (Z3 i))(px:PE X ex tx)(yx:VE G own r1 tx fx)(pv':PE X ev tv)(yv:VE G own r2 tv fv)
  (hs:swapsWithSole [.Subscript (.Name x p1) ex p2] ev pos.line X.env=pure false) (hw:swappedStores [.Subscript (.Name x p1) ex p2] ev X.env=pure none)
  (h1:(assignEach [.Subscript (.Name x p1) ex p2] X.env).map (·.2)=[assign (.Subscript (.Name x p1) ex p2) X.env])
  (ha:∀v,assign (.Subscript (.Name x p1) ex p2) X.env v=(do
   let ov<-holding [v] (eval (.Name x p1) X.env)
   let iv<-holding [v,ov] (eval ex X.env)
   standAt p2
   holding [v,ov,iv] (setItem ov iv v)
   release [v,ov,iv] [])) :
  YA X G ob own own fr (.Assign [.Subscript (.Name x p1) ex p2] ev pos) (Bv i fx fv):=by
 refine⟨_,ZfO pv' (Zje hn px Zcc ha) hs hw h1,λkn jP H0 σ H ρ s out s' E ⟨Hf,j⟩ st e po=>?_⟩;obtain⟨v,s1,a1,a2⟩:=ZE e;obtain⟨xx,s2,a3,a4⟩:=ZE a2;refine yv kn jP H0 σ Hf H ρ s v s1 _ j st a1 λw jW H1 j1 e1 e2 j8 r1 _=>?_
 cases xx with
 | int k=>
  cases hb:(ρ[i]?).bind id with
  | none=>rw[hb]at a4;cases a4
  | some c=>
   rw[hb]at a4
   cases c with
   | lst ds=>
    have a4':(match Xz ds.length k with | some j=>ZI (Out.nx (ρ.set i (some (.lst (ds.set j v))))) | none=>ZO) s2=some (out,s'):=a4
    cases hj:Xz ds.length k with
    | none=>rw[hj]at a4';cases a4'
    | some jj=>
     rw[hj]at a4';obtain⟨rfl,rfl⟩:=ZL a4';have ei:=ZbY hb;obtain⟨a,vs,h1,h2,h3,h4⟩:=Vq j1 hi ei;refine⟨_,h1,?_⟩;refine yx kn jP H0 σ jW H1 ρ s1 _ _ _ j1 j8 a3 λw2 kd H2 j2 e3 e4 jV r2 _=>?_;rw[ja.mp r2];obtain⟨a',vs',h1',h2',h3',h4'⟩:=Vq j2 hi ei;rw[h1]at h1';cases h1';refine⟨a,vs',k,jj,rfl,rfl,h3',by rw[<-h4'.length];exact hj,?_⟩;exact po σ _ ⟨kd,j2.put hi ei h1 ⟨vs'.set jj w,ZM,h4'.set jj (r1.ext e3)⟩⟩ (jz jV h2)
   | _=>cases a4
 | _=>cases a4
theorem Zgv {ob own:List Nat}{fr r1 r2:Bool}{i:Nat}{x:Str}{ex ev:Expr}{p1 p2 pos:Pos}{fx fv:Za->M D}(hi:i∈own)(hn:PE X (.Name x p1) (Z3 i))(hx:PD X G r1 ex fx)(hv:PD X G r2 ev fv)
  (hs:swapsWithSole [.Subscript (.Name x p1) ex p2] ev pos.line X.env=pure false:=by rfl) (hw:swappedStores [.Subscript (.Name x p1) ex p2] ev X.env=pure none:=by rfl)
  (h1:(assignEach [.Subscript (.Name x p1) ex p2] X.env).map (·.2)=[assign (.Subscript (.Name x p1) ex p2) X.env]:=by rfl)
  (ha:∀v,assign (.Subscript (.Name x p1) ex p2) X.env v=(do
   let ov<-holding [v] (eval (.Name x p1) X.env)
   let iv<-holding [v,ov] (eval ex X.env)
   standAt p2
   holding [v,ov,iv] (setItem ov iv v)
   release [v,ov,iv] []):=by intro _;rfl) :
  YA X G ob own own fr (.Assign [.Subscript (.Name x p1) ex p2] ev pos) (Bv i (fun ρ=>fx (ZU own ρ)) (BM r2 fv)):=by
 obtain⟨tv,pv',qv⟩:=hv;obtain⟨tx,px,qx⟩:=hx;have yv:X3 G r2 tv fv:=qv;have yx:X3 G r1 tx fx:=qx;exact ZiM hi hn px yx.a pv' yv.b hs hw h1 ha
end
section
variable {X:Cx}{G:Gh}
theorem va (i:Nat){x:Str}{pos:Pos}(hN:X.N[i]?=some x:=by rfl)(hv:BJ X.env.scope x:=by first | exact zt rfl | exact qaa (zt rfl) | exact qaa (qaa rfl))(hd:(x==("__debug__" : Str))=false:=by decide)(hcd:(x==("__classdict__" : Str))=false:=by decide):PD X G false (.Name x pos) (Zb i):=Zm6 i (pv i hN hv hd hcd)
theorem bk (XN:List Str)(NS:List (Str×NameKind))(N':List Str)(src:List (Option Nat)){scope:Scope}(a:X.N=XN:=by rfl)(b:X.env.scope.names=NS:=by rfl)(c:∀y∈scope.names,y.2≠.cell:=by decide +kernel)(d:scope.kind=.function:=by rfl)(e:∀y∈scope.names,y.2=.local->scope.names.lookup y.1=some .local:=by decide +kernel)(f:src.length=N'.length:=by rfl)(g:∀y∈scope.names,y.2=.free->NS.lookup y.1=some .cell∨NS.lookup y.1=some .free:=by decide +kernel)
  (h:(src.zip N').all (λp=>match p.1 with | some j=>decide (XN[j]?=some p.2)&&(decide (NS.lookup p.2=some .cell)||decide (NS.lookup p.2=some .free))&&decide (scope.names.lookup p.2=some .free) | none=>true)=true:=by decide +kernel):BlkS X XN NS N' src scope:=⟨a,b,c,d,e,f,g,h⟩
theorem Xa {N P:List Str}{sc:Scope}(a:sc.kind=.function:=by rfl)(b:sc.isCoroutine=false:=by rfl)(c:sc.isGenerator=false:=by rfl)(d:N.Nodup:=by decide +kernel)(e:N.take P.length=P:=by rfl)(f:∀x∈P,sc.names.lookup x=some .local∨sc.names.lookup x=some .cell:=by decide +kernel)(g:∀y∈sc.names,y.2≠.free:=by decide +kernel):FnScope N P sc:=⟨a,b,c,d,e,f,g⟩
end
section
variable {X:Cx}{G:Gh}{elt tg iter:Expr}{ifs:List Expr}{scope:Scope}{pos pos' spos:Pos}{XN:List Str}{NS:List (Str×NameKind)}{N':List Str}{src:List (Option Nat)}{fi:Za->M (List D)}{τ:D->Za->Option Za}{ft:Za->M Bool}{fe:Za->M D}{r1:Bool}{i:Nat}{x:Str}
theorem Wk {cl:_}{jH:_}{C:_}{s:_}{H:_}{fp:_}{x:Str}{pos:Pos}{ok:Nat->Prop}(nd:N'.Nodup:=by decide +kernel)(hi:N'[i]?=some x:=by rfl)(hx:W6 (blk X jH N' scope cl C s H fp).env.scope x:=by exact zt rfl)(oi:ok i:=by rfl)(hf:(blk X jH N' scope cl C s H fp).fn x=true∨(blk X jH N' scope cl C s H fp).env.scope.names.lookup x=some .local:=by first | exact .inl rfl | exact .inr rfl | assumption):Vj (blk X jH N' scope cl C s H fp) G (.Name x pos) ok (ZP i):=X9 nd hi hx oi hf
theorem X1 (B:BlkS X XN NS N' src scope)(hi:WM X G tg iter fi)
  (hg:∀{cl jH C s H fp},Vj (blk X jH N' scope cl C s H fp) G tg (λi=>src[i]?=some none) τ) (ht:∀{cl jH C s H fp},VD (blk X jH N' scope cl C s H fp) ifs (Jr G ft)) (he:∀{cl jH C s H fp},PD (blk X jH N' scope cl C s H fp) G r1 elt fe)
  (hc:X.calm=true:=by rfl) (hs:∀x,foldedSetIterable iter X.env x=pure x:=by intro _;rfl):PD X G true (.ListComp elt [⟨tg,iter,ifs,0⟩] scope pos) (YC src fi τ ft fe):=ZjK hc B hi (λ_ _ _ _ _ _=>hg) (λ_ _ _ _ _ _=>ht) (λ_ _ _ _ _ _=>he) hs
end
theorem ZZ {X:Cx}{G:Gh}{k:Nat}{x:Str}{n:Nat}{fr:Bool}{GG:Gh->Prop}{F:List D->M D}{p pos:Pos}{e:Expr}{es:List Expr}{fs:Za->M (List D)}(c:ZY X.prog X.w X.K X.mg X.base k x n fr GG F)(hG:GG G)(hr:Room k X.A)
  (ha:WA X G (e::es) fs) (hg:Gl X x:=by rfl) (hal:∀ρ s ds s',fs ρ s=some (ds,s')->ds.length=(e::es).length:=by first | exact YV Ul | exact YV (YV Ul) | exact YV (YV (YV Ul)) | exact YV (YV (YV (YV Ul))) | exact YV (YV (YV (YV (YV Ul)))) | exact YV (YV (YV (YV (YV (YV Ul)))))) (jQ:(e::es).length=n:=by rfl)
  (hdb:(x==("__debug__" : Str))=false:=by decide) (he:xh (e::es) X.env=(false,eval e X.env)::xh es X.env:=by rfl) (hpl:(backTo pos (xh es X.env)).any (·.1)=false:=by rfl) :
  PD X G fr (.Call (.Name x p) (e::es) [] pos) (ZA F fs):=Znh c hG hr hg ha hal jQ hdb he hpl
section
variable {X:Cx}{G:Gh}{ob own own':List Nat}{fr:Bool}
theorem Z0 {st:Stmt}{sts:List Stmt}{g1 g2:Za->M Out}(h:YA X G ob own [] fr st g1)(h2:Xl X G ob [] own' fr sts g2):Xl X G ob own own' fr (st::sts) (Zn g1 g2):=Z5 h h2
theorem Y3 (hs:∀k,k∈own'->k∈([]:List Nat):=by decide):Xl X G ob [] own' fr [] ZJ:=YH hs
theorem pfn {c:Expr}{a b:List Stmt}{pos:Pos}{fc:Za->M Bool}{g1 g2:Za->M Out}(hc:Vi X G c fc)(ha:Xl X G ob own [] fr a g1)(hb:Xl X G ob own [] fr b g2):YA X G ob own [] fr (.If c a b pos) (XV fc g1 g2):=ZdX hc ha hb
theorem XD {f:Za->M (List D)}{p pos:Pos}{e:Expr}(hm:X.mg "len" = none)(ha:WA X G [e] f)(hg:Gl X "len":=by rfl)(h1:xh [e] X.env=(false,eval e X.env)::xh [] X.env:=by rfl)(h2:(backTo pos (xh [] X.env)).any (·.1)=false:=by rfl):PD X G true (.Call (.Name "len" p) [e] [] pos) (ZN Ye f):=W9 ZfZ hg hm boot_len ha (he:=h1)
end
end TF
namespace K11
open L2 TF TQ
open TP
open TP2 hiding g_all_near F_all_near g_counted F_counted
open TP3 hiding g_full_knots F_full_knots
noncomputable def ZV (i:Nat):Stmt:=PySem.Challenge.pw_tiefold_k11_whole_knots_of_joined_webs.main.body.getD i (.Pass ⟨0,0,0,0⟩)
noncomputable abbrev ZcH:Stmt:=ZV 1
noncomputable abbrev Zgw:Stmt:=ZV 3
noncomputable abbrev ZaO:Stmt:=ZV 4
noncomputable abbrev ZcI:Stmt:=ZV 5
noncomputable abbrev Zag:Stmt:=ZV 6
noncomputable abbrev Za6:Stmt:=ZV 7
noncomputable abbrev Zap:Stmt:=ZV 8
noncomputable abbrev Zak:Stmt:=ZV 10
noncomputable abbrev Zbx:Stmt:=ZV 11
noncomputable abbrev Zaq:Stmt:=ZV 12
noncomputable abbrev Zah:Stmt:=ZV 13
noncomputable abbrev Zby:Stmt:=ZV 14
noncomputable abbrev Zfp:Stmt:=ZV 16
noncomputable abbrev ZaE:Stmt:=ZV 17
noncomputable abbrev U1:Stmt:=ZV 18
noncomputable abbrev B5:Stmt:=ZV 19
noncomputable abbrev Zae:Stmt:=ZV 20
noncomputable abbrev Zeb:Stmt:=ZV 21
noncomputable abbrev Zar:Stmt:=ZV 23
noncomputable abbrev Za7:Stmt:=ZV 24
noncomputable abbrev ZbL:Stmt:=ZV 25
noncomputable abbrev ZaF:Stmt:=ZV 26
noncomputable abbrev s_law:Stmt:=ZV 27
structure Txt (mg:Str->Option Value):Prop where
 b_all:mg "all" = none
 b_any:mg "any" = none
 b_dict:mg "dict" = none
 b_len:mg "len" = none
 b_list:mg "list" = none
 b_max:mg "max" = none
 b_min:mg "min" = none
 b_range:mg "range" = none
 b_set:mg "set" = none
 b_sorted:mg "sorted" = none
 b_tuple:mg "tuple" = none
 b_zip:mg "zip" = none
set_option maxHeartbeats 4000000
variable {P:xC}{w:World}{K:qj}{mg:Str->Option Value}{base:Heap}{kf:Addr}{jN:xB}
theorem Zas:FnScope ["web"] ["web"] (ZH Zag):=Xa
theorem ZcJ (F:Fun K "marked_ties" "marked_ties" Zag kf jN)(T:Txt mg) :
  FnOk P w K mg base ZQ 1 kf jN ["web"] (Yw 1 true Z6 X6):=
 have jM:=Zas.nd
 XC (own:=[]) F Zas λcdv A outer s H E hr G hG=>
 (Z0 (YY (JO (Zf3 rfl hr.units) rfl T.b_dict TF.boot_dict (Zg (X1 (bk ["web"] (ZH Zag).names ["tie"] [none]) (J7 (Ya Yb (va 0) ZS)) Wk WX (XM (Zg (va 0) (Zg VZ Zm)))) Zm)))
 Y3)
theorem ZbM:FnScope ["ties","a","b"] ["ties","a","b"] (ZH ZcI):=Xa
theorem Zfq (F:Fun K "are_tied" "are_tied" ZcI kf jN)(T:Txt mg) :
  FnOk P w K mg base ZQ 1 kf jN ["ties","a","b"] (Yw 3 false Z6 XE):=
 have jM:=ZbM.nd
 XC (own:=[]) F ZbM λcdv A outer s H E hr G hG=>
 (Z0 (YY (PD.weak (Jb (Zf4 hr.units) (XM (Zg (W9 (Zcj rfl) rfl T.b_min TF.boot_min (Zg (va 1) (Zg (va 2) Zm))) (Zg (W9 (Zci rfl) rfl T.b_max TF.boot_max (Zg (va 1) (Zg (va 2) Zm))) Zm))) (va 0))))
 Y3)
theorem Zhz:FnScope ["web","place"] ["web","place"] (ZH Zgw):=Xa
theorem ZlS (F:Fun K "near" "near" Zgw kf jN)(T:Txt mg)(kh:ZY P w K mg base 1 "are_tied" 3 false Z6 XE) :
  FnOk P w K mg base ZQ 2 kf jN ["web","place"] (Yw 2 true Z6 Vw):=
 have jM:=Zhz.nd
 XC (own:=[]) F Zhz λcdv A outer s H E hr G hG=>
 (Z0 (YY (X1 (bk ["web","place"] (ZH Zgw).names ["other","web","place"] [none,some 0,some 1]) (B0 rfl T.b_range (Ya Yb (va 0) ZS)) Wk (Zg3 (JZ (ZZ (kh.mono) trivial hr (Zg (Ya Yb (va 1) ZS) (Zg (va 2) (Zg (va 0) Zm)))))) (va 0)))
 Y3)
theorem ZbN:FnScope ["web","marked"] ["web"] (ZH ZaO):=Xa
theorem Zfr (F:Fun K "all_near" "all_near" ZaO kf jN)(T:Txt mg)(jL:ZY P w K mg base 1 "marked_ties" 1 true Z6 X6)(kA:ZY P w K mg base 2 "near" 2 true Z6 Vw) :
  FnOk P w K mg base ZQ 3 kf jN ["web"] (Yw 1 true Z6 F_all_near):=
 have jM:=ZbN.nd
 XC (own:=[]) F ZbN λcdv A outer s H E hr G hG=>
 (Z0 (XF (YJ jM rfl (qaa rfl) (XM (Zg (Ya Yb (va 0) ZS) (Zg (ZZ (jL.mono) trivial hr (Zg (va 0) Zm)) Zm)))))
 (Z0 (YY (X1 (bk ["web","marked"] (ZH ZaO).names ["place","marked"] [none,some 1]) (B0 rfl T.b_range (Ya Yb (va 0) ZS)) Wk WX (ZZ (kA.mono) trivial hr (Zg (va 1) (Zg (va 0) Zm)))))
 Y3))
theorem Zat:FnScope ["nears","place","knot"] ["nears","place","knot"] (ZH Zah):=Xa
theorem ZcK (F:Fun K "is_near_all" "is_near_all" Zah kf jN)(T:Txt mg) :
  FnOk P w K mg base ZQ 1 kf jN ["nears","place","knot"] (Yw 3 false Z6 VP):=
 have jM:=Zat.nd
 XC (own:=[]) F Zat λcdv A outer s H E hr G hG=>
 (Z0 (YY (PD.weak (W9 (Zh4 rfl) rfl T.b_all TF.boot_all (Zg (X1 (bk ["nears","place","knot"] (ZH Zah).names ["other","nears","place"] [none,some 0,some 1]) (J7 (va 2)) Wk WX (Jb (Zf4 hr.units) (va 0) (Ya Yb (va 1) (va 2)))) Zm))))
 Y3)
theorem Za8:FnScope ["nears","knots","place"] ["nears"] (ZH Zaq):=Xa
theorem Zec (F:Fun K "all_knots" "all_knots" Zaq kf jN)(T:Txt mg)(jY:ZY P w K mg base 1 "is_near_all" 3 false Z6 VP) :
  FnOk P w K mg base ZQ 2 kf jN ["nears"] (Yw 1 false Z6 Vm):=
 have jM:=Za8.nd
 XC (own:=[]) F Za8 λcdv A outer s H E hr G hG=>
 (Z0 (XF (YJ jM rfl (zt rfl) (Xw (Zg (XM Zm) Zm))))
 (Z0 (Wn (own:=[]) zL rfl (Uh rfl T.b_range (XD T.b_len (Zg (va 0) Zm))) (X9 jM rfl (qaa rfl) (by decide))
 (Z0 (XF (YJ jM rfl (zt rfl) (Ys Xh (va 1) (X1 (bk ["nears","knots","place"] (ZH Zaq).names ["knot","place","nears"] [none,some 2,some 0]) (Vo (va 1)) Wk (Zg3 (JZ (ZZ (jY.mono) trivial hr (Zg (va 2) (Zg (va 1) (Zg (va 0) Zm)))))) (Ys Xh (va 0) (XM (Zg (va 1) Zm)))))))
 Y3))
 (Z0 (YY (va 1))
 Y3)))
theorem ZcL:FnScope ["web","knots","counts","knot"] ["web"] (ZH Zbx):=Xa
theorem Zgx (F:Fun K "counted" "counted" Zbx kf jN)(T:Txt mg)(ka:ZY P w K mg base 2 "all_knots" 1 false Z6 Vm)(ke:ZY P w K mg base 3 "all_near" 1 true Z6 F_all_near) :
  FnOk P w K mg base ZQ 4 kf jN ["web"] (Yw 1 true Z6 F_counted):=
 have jM:=ZcL.nd
 XC (own:=[]) F ZcL λcdv A outer s H E hr G hG=>
 (Z0 (XF (YJ jM rfl (zt rfl) (ZZ (ka.mono) trivial hr (Zg (ZZ (ke.mono) trivial hr (Zg (va 0) Zm)) Zm))))
 (Z5 (own2:=[2]) (UZ (YJ jM rfl (zt rfl) (Ys JT (Xw (Zg ZS Zm)) (Ys Xh ZS (W9 (Zgc rfl) rfl T.b_max TF.boot_max (Zg (X1 (bk ["web","knots","counts","knot"] (ZH Zbx).names ["knot"] [none]) (Vo (va 1)) Wk WX (XD T.b_len (Zg (va 0) Zm))) Zm))))))
 (Z5 (own2:=[2]) (Wn (own:=[2]) zL rfl (WM.a (own:=[2]) (Vo (va 1))) (X9 jM rfl (zt rfl) (by decide))
 (Z5 (own2:=[2]) (Zj9 (own:=[2]) (i:=2) (by decide) (pv 2) (XD T.b_len (Zg (va 3) Zm)) ZS)
 (YH (own:=[2]))))
 (Z5 (own2:=[2]) (BZ (i:=2) (by decide) (pv 2))
 (YH (own:=[2]))))))
theorem ZcM:FnScope ["nears","knot"] ["nears","knot"] (ZH Zby):=Xa
theorem Zgy (F:Fun K "is_full" "is_full" Zby kf jN)(T:Txt mg)(jY:ZY P w K mg base 1 "is_near_all" 3 false Z6 VP) :
  FnOk P w K mg base ZQ 2 kf jN ["nears","knot"] (Yw 2 false Z6 UW):=
 have jM:=ZcM.nd
 XC (own:=[]) F ZcM λcdv A outer s H E hr G hG=>
 (Z0 (YY (PD.weak (Zjy (W9 (Zh5 rfl) rfl T.b_any TF.boot_any (Zg (X1 (bk ["nears","knot"] (ZH Zby).names ["place","nears","knot"] [none,some 0,some 1]) (B0 rfl T.b_range (XD T.b_len (Zg (va 0) Zm))) Wk WX (ZZ (jY.mono) trivial hr (Zg (va 1) (Zg (va 0) (Zg (va 2) Zm))))) Zm)))))
 Y3)
theorem ZaG:FnScope ["web","nears"] ["web"] (ZH Zak):=Xa
theorem Zc9 (F:Fun K "full_knots" "full_knots" Zak kf jN)(T:Txt mg)(ka:ZY P w K mg base 2 "all_knots" 1 false Z6 Vm)(ke:ZY P w K mg base 3 "all_near" 1 true Z6 F_all_near)(kq:ZY P w K mg base 2 "is_full" 2 false Z6 UW) :
  FnOk P w K mg base ZQ 4 kf jN ["web"] (Yw 1 true Z6 F_full_knots):=
 have jM:=ZaG.nd
 XC (own:=[]) F ZaG λcdv A outer s H E hr G hG=>
 (Z0 (XF (YJ jM rfl (qaa rfl) (ZZ (ke.mono) trivial hr (Zg (va 0) Zm))))
 (Z0 (YY (W9 ZaD rfl T.b_sorted TF.boot_sorted (Zg (X1 (bk ["web","nears"] (ZH Zak).names ["knot","nears"] [none,some 1]) (Vo (ZZ (ka.mono) trivial hr (Zg (va 1) Zm))) Wk (Zg3 (JZ (ZZ (kq.mono) trivial hr (Zg (va 1) (Zg (va 0) Zm))))) (va 0)) Zm)))
 Y3))
theorem ZbO:FnScope ["row","pairs","i","j"] ["row"] (ZH ZcH):=Xa
theorem Zfs (F:Fun K "pairs_of" "pairs_of" ZcH kf jN)(T:Txt mg) :
  FnOk P w K mg base ZQ 1 kf jN ["row"] (Yw 1 true Z6 JJ):=
 have jM:=ZbO.nd
 XC (own:=[]) F ZbO λcdv A outer s H E hr G hG=>
 (Z5 (own2:=[1]) (UZ (YJ jM rfl (zt rfl) (Xw Zm)))
 (Z5 (own2:=[1]) (Wn (own:=[1]) zL rfl (Uh rfl T.b_range (XD T.b_len (Zg (va 0) Zm))) (X9 jM rfl (zt rfl) (by decide))
 (Z5 (own2:=[1]) (Wn (own:=[1]) zL rfl (ZbD rfl T.b_range (Ys Xh (va 2) ZS) (XD T.b_len (Zg (va 0) Zm))) (X9 jM rfl (zt rfl) (by decide))
 (Z5 (own2:=[1]) (Zcg (own:=[1]) (i:=1) (by decide) (XM (Zg (Ya Yb (va 0) (va 2)) (Zg (Ya Yb (va 0) (va 3)) Zm))) (λ_ h=>Zbl (pv 1) h))
 (YH (own:=[1]))))
 (YH (own:=[1]))))
 (Z5 (own2:=[1]) (BZ (i:=1) (by decide) (pv 1))
 (YH (own:=[1])))))
theorem Za9:FnScope ["row","tied","pairs"] ["row","tied"] (ZH Zap):=Xa
theorem Zed (F:Fun K "web_where" "web_where" Zap kf jN)(T:Txt mg)(kw:ZY P w K mg base 1 "pairs_of" 1 true Z6 JJ) :
  FnOk P w K mg base ZQ 5 kf jN ["row","tied"] (Yw 2 false (VH P w K mg 4 2 Tl base) Vn):=
 have jM:=Za9.nd
 XC (own:=[]) F Za9 λcdv A outer s H E hr G hG=>
 (Z0 (XF (YJ jM rfl (zt rfl) (ZZ (kw.mono) trivial hr (Zg (ZaW rfl rfl T.b_range rfl T.b_list TF.boot_list (XD T.b_len (Zg (va 0) Zm))) Zm))))
 (Z0 (YY (PD.weak (XM (Zg (XD T.b_len (Zg (va 0) Zm)) (Zg (JO (BR) rfl T.b_tuple TF.boot_tuple (Zg (X1 (bk ["row","tied","pairs"] (ZH Zap).names ["pair","tied","row"] [none,some 1,some 0]) (Vo (va 2)) Wk (Zg3 (JZ (ZjM hG (hr.mono (by decide)) (pv 1) (Zg (Ya Yb (va 2) (Ya Yb (va 0) ZS)) (Zg (Ya Yb (va 2) (Ya Yb (va 0) ZS)) Zm)) (YV (YV Ul))))) (va 0)) Zm)) Zm)))))
 Y3))
theorem Zft:FnScope ["lengths","found","i"] ["lengths"] (ZH Zeb):=Xa
theorem ZkG (F:Fun K "spots" "spots" Zeb kf jN)(T:Txt mg) :
  FnOk P w K mg base ZQ 1 kf jN ["lengths"] (Yw 1 true Z6 VS):=
 have jM:=Zft.nd
 XC (own:=[]) F Zft λcdv A outer s H E hr G hG=>
 (Z5 (own2:=[1]) (UZ (YJ jM rfl (zt rfl) (Xw Zm)))
 (Z5 (own2:=[1]) (Wn (own:=[1]) zL rfl (Uh rfl T.b_range (XD T.b_len (Zg (va 0) Zm))) (X9 jM rfl (qaa rfl) (by decide))
 (Z5 (own2:=[1]) (Zfg (own:=[1]) (i:=1) (by decide) (pv 1) (X1 (bk ["lengths","found","i"] (ZH Zeb).names ["place","i"] [none,some 2]) (B0 rfl T.b_range (Ya Yb (va 0) (va 2))) Wk WX (XM (Zg (va 1) (Zg (va 0) Zm)))))
 (YH (own:=[1]))))
 (Z5 (own2:=[1]) (BZ (i:=1) (by decide) (pv 1))
 (YH (own:=[1])))))
theorem ZdD:FnScope ["web","webs","ties","inner_ties","are_tied_there"] ["web","webs"] (ZH U1):=Xa
theorem ZiN (F:Fun K "put_in" "put_in" U1 kf jN)(T:Txt mg){L:List (Addr×Str)}(lo:WN L)(jL:ZY P w K mg base 1 "marked_ties" 1 true Z6 X6)(ko:ZY P w K mg base 1 "spots" 1 true Z6 VS)(jS:VJ P w K mg 5 "web_where" 2 false (VH P w K mg 4 2 Tl) Vn)(jT:∀base,ZY P w K mg base 1 "are_tied" 3 false Z6 XE){tc tP:Addr}(hcode:jN.code=.ref tc)(hCd:yp base tc tP)(hBm:Ud mg base)(hL:(tP,(qy "put_in.<locals>.are_tied_there"))∈L) :
  FnOk P w K mg base ZQ 6 kf jN ["web","webs"] (Yw 2 false (Y0 L) Uo):=
 have jM:=ZdD.nd
 fnDC (own:=[]) F ZdD λA outer s H E hr G hG=>
 have hT:Y0 L G:=hG;have TG9:=hT _ _ hL;have M9:Mk0 (WJ ZQ P w K mg base ["web","webs","ties","inner_ties","are_tied_there"] "put_in" (ZH U1) kf jN.code A outer s H E).nox tc tP:=⟨hcode,hCd,hBm⟩
 (Z0 (XF (YJ jM rfl (qaa rfl) (ZZ (jL.mono) trivial hr (Zg (va 0) Zm))))
 (Z0 (XF (YJ jM rfl (qaa rfl) (X1 (bk ["web","webs","ties","inner_ties","are_tied_there"] (ZH U1).names ["inner"] [none]) (Vo (va 1)) Wk WX (ZZ (jL.mono) trivial hr (Zg (va 0) Zm)))))
 (ZbI (kl:=3) (frb:=false) (i:=4) (N:=["a","b","inner_ties","ties"]) (ps:=["a","b"]) (cix:=[3,2]) (T:=Tl) (t:=3) (q:="put_in.<locals>.are_tied_there") M9 TG9 (jS.mono) (λ_=>rfl) hr rfl jM rfl (zt rfl) (pv 4) (ZZ (ko.mono) trivial hr (Zg (X1 (bk ["web","webs","ties","inner_ties","are_tied_there"] (ZH U1).names ["inner"] [none]) (Vo (va 1)) Wk WX (Ya Yb (va 0) ZS)) Zm)) rfl (⟨rfl,rfl,rfl,by decide +kernel,rfl,by decide +kernel,by decide +kernel⟩:CloScope ["a","b","inner_ties","ties"] ["a","b"] _) (⟨rfl,rfl,rfl,by decide +kernel,by decide +kernel⟩:CapS _ ["web","webs","ties","inner_ties","are_tied_there"] (ZH U1).names ["a","b","inner_ties","ties"] ["a","b"] [3,2] _) rfl (λ_ _ _ _ _ us hl=>match us,hl with | [_,_],_=>rfl) (λbase f c cl G A outer s H E hr=>have jM:(["a","b","inner_ties","ties"]:List Str).Nodup:=(by decide +kernel);(Z0 (pfn (Ur (ZjF hr.units) (Ya Yb (va 0) ZS) (Ya Yb (va 1) ZS))
 (Z0 (YY (ZZ ((jT base).mono) trivial hr (Zg (Ya Yb (va 2) (Ya Yb (va 0) ZS)) (Zg (Ya Yb (va 0) ZS) (Zg (Ya Yb (va 1) ZS) Zm)))))
 Y3)
 YH)
 (Z0 (YY (ZZ ((jT base).mono) trivial hr (Zg (va 3) (Zg (Ya Yb (va 0) ZS) (Zg (Ya Yb (va 1) ZS) Zm)))))
 Y3))))))
theorem ZdE:FnScope ["webs"] ["webs"] (ZH Zfp):=Xa
theorem ZiO (F:Fun K "beside" "beside" Zfp kf jN)(T:Txt mg){L:List (Addr×Str)}(lo:WN L)(kj:ZY P w K mg base 6 "put_in" 2 false (Y0 L) Uo) :
  FnOk P w K mg base ZQ 7 kf jN ["webs"] (Yw 1 false (Y0 L) JU):=
 have jM:=ZdE.nd
 XC (own:=[]) F ZdE λcdv A outer s H E hr G hG=>
 have hT:Y0 L G:=hG
 (Z0 (YY (ZZ (kj.mono) hT hr (Zg (XM (Zg (XD T.b_len (Zg (va 0) Zm)) (Zg (XM Zm) Zm))) (Zg (va 0) Zm))))
 Y3)
theorem ZdF:FnScope ["web","ties"] ["web"] (ZH Za6):=Xa
theorem ZiP (F:Fun K "turned" "turned" Za6 kf jN)(T:Txt mg){L:List (Addr×Str)}(lo:WN L)(jL:ZY P w K mg base 1 "marked_ties" 1 true Z6 X6)(jS:VJ P w K mg 5 "web_where" 2 false (VH P w K mg 4 2 Tl) Vn)(jT:∀base,ZY P w K mg base 1 "are_tied" 3 false Z6 XE){tc tP:Addr}(hcode:jN.code=.ref tc)(hCd:yp base tc tP)(hBm:Ud mg base)(hL:(tP,(qy "turned.<locals>.<lambda>"))∈L) :
  FnOk P w K mg base ZQ 6 kf jN ["web"] (Yw 1 false (Y0 L) Za4):=
 have jM:=ZdF.nd
 fnDC (own:=[]) F ZdF λA outer s H E hr G hG=>
 have hT:Y0 L G:=hG;have TG9:=hT _ _ hL;have M9:Mk0 (WJ ZQ P w K mg base ["web","ties"] "turned" (ZH Za6) kf jN.code A outer s H E).nox tc tP:=⟨hcode,hCd,hBm⟩
 (Z0 (XF (YJ jM rfl (qaa rfl) (ZZ (jL.mono) trivial hr (Zg (va 0) Zm))))
 (Z0 (YY (Zf5 (kl:=3) (frb:=true) (N:=["a","b","ties"]) (ps:=["a","b"]) (cix:=[1]) (T:=Tl) (t:=0) (q:="turned.<locals>.<lambda>") M9 TG9 (jS.mono) (λ_=>rfl) hr rfl (ZaW rfl rfl T.b_range rfl T.b_list TF.boot_list (Ya Yb (va 0) ZS)) rfl (⟨rfl,rfl,rfl,by decide +kernel,rfl,by decide +kernel,by decide +kernel⟩:CloScope ["a","b","ties"] ["a","b"] _) (⟨rfl,rfl,rfl,by decide +kernel,by decide +kernel⟩:CapS _ ["web","ties"] (ZH Za6).names ["a","b","ties"] ["a","b"] [1] _) rfl (λ_ _ _ _ us hl=>match us,hl with | [_,_],_=>rfl) (λbase f c cl G A outer s H E hr=>(Zjy (ZZ ((jT base).mono) trivial hr (Zg (va 2) (Zg (va 0) (Zg (va 1) Zm))))))))
 Y3))
theorem Zau:FnScope ["webs"] ["webs"] (ZH ZaE):=Xa
theorem ZcN (F:Fun K "wholly_tied" "wholly_tied" ZaE kf jN)(T:Txt mg){L:List (Addr×Str)}(lo:WN L)(kj:ZY P w K mg base 6 "put_in" 2 false (Y0 L) Uo)(kx:ZY P w K mg base 6 "turned" 1 false (Y0 L) Za4) :
  FnOk P w K mg base ZQ 7 kf jN ["webs"] (Yw 1 false (Y0 L) Ug):=
 have jM:=Zau.nd
 XC (own:=[]) F Zau λcdv A outer s H E hr G hG=>
 have hT:Y0 L G:=hG
 (Z0 (YY (ZZ (kj.mono) hT hr (Zg (ZZ (kx.mono) hT hr (Zg (XM (Zg (XD T.b_len (Zg (va 0) Zm)) (Zg (XM Zm) Zm))) Zm)) (Zg (va 0) Zm))))
 Y3)
theorem Zac:FnScope ["ties","a","b"] ["ties","a","b"] (ZH Zae):=Xa
theorem ZaP (F:Fun K "is_same_or_tied" "is_same_or_tied" Zae kf jN)(T:Txt mg)(kh:ZY P w K mg base 1 "are_tied" 3 false Z6 XE) :
  FnOk P w K mg base ZQ 2 kf jN ["ties","a","b"] (Yw 3 false Z6 JE):=
 have jM:=Zac.nd
 XC (own:=[]) F Zac λcdv A outer s H E hr G hG=>
 (Z0 (YY (Zn9 (Jb (ZjF hr.units) (va 1) (va 2)) (Zjx (ZZ (kh.mono) trivial hr (Zg (va 0) (Zg (va 1) (Zg (va 2) Zm)))))))
 Y3)
theorem ZbP:FnScope ["web","other","ties","other_ties","are_tied_there"] ["web","other"] (ZH B5):=Xa
theorem Zfu (F:Fun K "by_pairs" "by_pairs" B5 kf jN)(T:Txt mg){L:List (Addr×Str)}(lo:WN L)(jL:ZY P w K mg base 1 "marked_ties" 1 true Z6 X6)(ko:ZY P w K mg base 1 "spots" 1 true Z6 VS)(jS:VJ P w K mg 5 "web_where" 2 false (VH P w K mg 4 2 Tl) Vn)(jR:∀base,ZY P w K mg base 2 "is_same_or_tied" 3 false Z6 JE){tc tP:Addr}(hcode:jN.code=.ref tc)(hCd:yp base tc tP)(hBm:Ud mg base)(hL:(tP,(qy "by_pairs.<locals>.are_tied_there"))∈L) :
  FnOk P w K mg base ZQ 6 kf jN ["web","other"] (Yw 2 false (Y0 L) JL):=
 have jM:=ZbP.nd
 fnDC (own:=[]) F ZbP λA outer s H E hr G hG=>
 have hT:Y0 L G:=hG;have TG9:=hT _ _ hL;have M9:Mk0 (WJ ZQ P w K mg base ["web","other","ties","other_ties","are_tied_there"] "by_pairs" (ZH B5) kf jN.code A outer s H E).nox tc tP:=⟨hcode,hCd,hBm⟩
 (Z0 (XF (YJ jM rfl (qaa rfl) (ZZ (jL.mono) trivial hr (Zg (va 0) Zm))))
 (Z0 (XF (YJ jM rfl (qaa rfl) (ZZ (jL.mono) trivial hr (Zg (va 1) Zm))))
 (ZbI (kl:=3) (frb:=false) (i:=4) (N:=["a","b","ties","other_ties"]) (ps:=["a","b"]) (cix:=[2,3]) (T:=Tl) (t:=4) (q:="by_pairs.<locals>.are_tied_there") M9 TG9 (jS.mono) (λ_=>rfl) hr rfl jM rfl (zt rfl) (pv 4) (ZZ (ko.mono) trivial hr (Zg (Ys JT (Xw (Zg (Ya Yb (va 1) ZS) Zm)) (Ya Yb (va 0) ZS)) Zm)) rfl (⟨rfl,rfl,rfl,by decide +kernel,rfl,by decide +kernel,by decide +kernel⟩:CloScope ["a","b","ties","other_ties"] ["a","b"] _) (⟨rfl,rfl,rfl,by decide +kernel,by decide +kernel⟩:CapS _ ["web","other","ties","other_ties","are_tied_there"] (ZH B5).names ["a","b","ties","other_ties"] ["a","b"] [2,3] _) rfl (λ_ _ _ _ _ us hl=>match us,hl with | [_,_],_=>rfl) (λbase f c cl G A outer s H E hr=>have jM:(["a","b","ties","other_ties"]:List Str).Nodup:=(by decide +kernel);(Z0 (YY (Zm7 (ZZ ((jR base).mono) trivial hr (Zg (va 2) (Zg (Ya Yb (va 0) ZS) (Zg (Ya Yb (va 1) ZS) Zm)))) (Zjx (ZZ ((jR base).mono) trivial hr (Zg (va 3) (Zg (Ya Yb (va 0) ZS) (Zg (Ya Yb (va 1) ZS) Zm)))))))
 Y3)))))
theorem Zba:FnScope ["pen","limit","n","way","by","ties","a","b","good"] ["pen","limit"] (ZH ZbL):=Xa
theorem Zee (F:Fun K "_law_tweb" "_law_tweb" ZbL kf jN)(T:Txt mg){L:List (Addr×Str)}(lo:WN L)(j7:ZY P w K mg base 1 "_law_tdraw" 2 true (W4 Vh L) We) :
  FnOk P w K mg base ZQ 2 kf jN ["pen","limit"] (Yw 2 true (W4 Vh L) US):=
 have jM:=Zba.nd
 XC (own:=[]) F Zba λcdv A outer s H E hr G hG=>
 have hT:Y0 L G:=jC lo hG
 (Z0 (XF (YJ jM rfl (zt rfl) (ZZ (j7.mono) hG hr (Zg (va 0) (Zg (Ys Xh (va 1) ZS) Zm)))))
 (Z0 (XF (YJ jM rfl (zt rfl) (ZZ (j7.mono) hG hr (Zg (va 0) (Zg ZS Zm)))))
 (Z0 (XF (YJ jM rfl (zt rfl) (Ys Xh ZS (ZZ (j7.mono) hG hr (Zg (va 0) (Zg ZS Zm))))))
 (Z5 (own2:=[5]) (UZ (YJ jM rfl (zt rfl) (Xw Zm)))
 (Z5 (own2:=[5]) (Wn (own:=[5]) zL rfl (Uh rfl T.b_range (va 2)) (X9 jM rfl (zt rfl) (by decide))
 (Z5 (own2:=[5]) (Wn (own:=[5]) zL rfl (ZbD rfl T.b_range (Ys Xh (va 6) ZS) (va 2)) (X9 jM rfl (zt rfl) (by decide))
 (Z5 (own2:=[5]) (ZeJ (own:=[5]) (YJ jM rfl (zt rfl) (Ya Yb (Xw (Zg VZ (Zg VZ (Zg (Jb (Zf4 hr.units) (Ys ZdZ (va 7) (va 6)) (XM (Zg ZS (Zg (Ys ZdZ (va 2) ZS) Zm)))) (Zg (Jb (Bl hr.units) (Ys Zg4 (va 6) (va 4)) (Ys Zg4 (va 7) (va 4))) Zm))))) (W9 (Zcj rfl) rfl T.b_min TF.boot_min (Zg (va 3) (Zg ZS Zm))))))
 (Z5 (own2:=[5]) (ZdX (own':=[5]) (Ur (Znb) (va 3) ZS)
 (Z5 (own2:=[5]) (ZeJ (own:=[5]) (YJ jM rfl (zt rfl) (Jb (Znc hr.units0) (ZZ (j7.mono) hG hr (Zg (va 0) (Zg ZS Zm))) (va 4))))
 (YH (own:=[5])))
 YH)
 (Z5 (own2:=[5]) (ZdX (own':=[5]) (JZ (va 8))
 (Z5 (own2:=[5]) (Zcg (own:=[5]) (i:=5) (by decide) (XM (Zg (va 6) (Zg (va 7) Zm))) (λ_ h=>Zbl (pv 5) h))
 (YH (own:=[5])))
 YH)
 (YH (own:=[5]))))))
 (YH (own:=[5]))))
 (Z5 (own2:=[5]) (YY (XM (Zg (va 2) (Zg (JO (BR) rfl T.b_tuple TF.boot_tuple (Zg (va 5) Zm)) Zm))))
 (YH (own:=[5]))))))))
noncomputable def Zda:Za->M Out:=(Zn (Wx 2 (Ze XR (Yy (Zc (dC (.int 0)) Zd)) (Ze Vg (Ze Z4 (ZN Ye (Zc (Zb 0) Zd)) (ZN Ye (Zc (Zb 1) Zd))) (dC (.int 1)))))
 (Zn (XS (YZ (ZN Ye (Zc (Zb 0) Zd))) (ZP 3)
 (Zn (XS (YZ (ZN Ye (Zc (Zb 1) Zd))) (ZP 4)
 (Zn (Bv 2 (fun ρ=>(Ze Z4 (Zb 3) (Zb 4)) (ZU [2] ρ)) (BM true (Ze Z4 (Ze Zx (Zb 2) (Ze Z4 (Zb 3) (Zb 4))) (Ze VG (Ze Zx (Zb 0) (Zb 3)) (Ze Zx (Zb 1) (Zb 4))))))
 ZJ))
 ZJ))
 (Zn (Z2 (Zb 2))
 ZJ)))
noncomputable def UO:List D->M D:=runB 5 2 Zda
theorem Zav:FnScope ["one","other","found","i","j"] ["one","other"] (ZH ZaF):=Xa
theorem ZcO (F:Fun K "_law_ttimes" "_law_ttimes" ZaF kf jN)(T:Txt mg) :
  FnOk P w K mg base ZQ 1 kf jN ["one","other"] (Yw 2 true Z6 UO):=
 have jM:=Zav.nd
 XC (own:=[]) F Zav λcdv A outer s H E hr G hG=>
 (Z5 (own2:=[2]) (UZ (YJ jM rfl (zt rfl) (Ys JT (Xw (Zg ZS Zm)) (Ys ZdZ (Ys Xh (XD T.b_len (Zg (va 0) Zm)) (XD T.b_len (Zg (va 1) Zm))) ZS))))
 (Z5 (own2:=[2]) (Wn (own:=[2]) zL rfl (Uh rfl T.b_range (XD T.b_len (Zg (va 0) Zm))) (X9 jM rfl (zt rfl) (by decide))
 (Z5 (own2:=[2]) (Wn (own:=[2]) zL rfl (Uh rfl T.b_range (XD T.b_len (Zg (va 1) Zm))) (X9 jM rfl (zt rfl) (by decide))
 (Z5 (own2:=[2]) (Zgv (own:=[2]) (i:=2) (by decide) (pv 2) (Ys Xh (va 3) (va 4)) (Ys Xh (Ya Yb (va 2) (Ys Xh (va 3) (va 4))) (Ys ZbZ (Ya Yb (va 0) (va 3)) (Ya Yb (va 1) (va 4)))))
 (YH (own:=[2]))))
 (YH (own:=[2]))))
 (Z5 (own2:=[2]) (BZ (i:=2) (by decide) (pv 2))
 (YH (own:=[2])))))
noncomputable def ZkH:Za->M Out:=(Zn (XS (YZ (dC (.int 4))) (ZP 2)
 (Zn (sUnp (Zg2 3 4) (Yk (Zc (ZA US (Zc (Zb 1) (Zc (dC (.int 5)) Zd))) (Zc (ZA US (Zc (Zb 1) (Zc (dC (.int 5)) Zd))) Zd))))
 (Zn (Zkh 5 6 (Zc (ZA F_counted (Zc (Zb 3) Zd)) (Zc (ZA F_counted (Zc (Zb 4) Zd)) Zd)))
 (Zn (YE 7 (ZN Jj (Zc (ZN Ye (Zc (Zb 5) Zd)) (Zc (ZN Ye (Zc (Zb 6) Zd)) Zd))))
 (Zn (YE 8 (Bn (YC [none,none] (Bw (Ze Z4 (Zb 5) (Ze XR (Yy (Zc (dC (.int 0)) Zd)) (Zb 7))) (Ze Z4 (Zb 6) (Ze XR (Yy (Zc (dC (.int 0)) Zd)) (Zb 7)))) (Zg2 0 1) Yu (Ze Z4 (Zb 0) (Zb 1))) Zhg (Jn (Zb 7))))
 (Zn (XV (YN (Ze Wz (ZA F_counted (Zc (ZA JU (Zc (Yy (Zc (Zb 3) (Zc (Zb 4) Zd))) Zd)) Zd)) (Ze Z4 (Yy (Zc (dC (.int 1)) Zd)) (Bn (Zb 8) (Jn (dC (.int 1))) Zhg))))
 (Zn (Z2 (dC (.bl false)))
 ZJ)
 ZJ)
 (Zn (XV (YN (Ze Wz (ZA F_counted (Zc (ZA Ug (Zc (Yy (Zc (Zb 3) (Zc (Zb 4) Zd))) Zd)) Zd)) (ZA UO (Zc (Zb 5) (Zc (Zb 6) Zd)))))
 (Zn (Z2 (dC (.bl false)))
 ZJ)
 ZJ)
 (Zn (Wx 8 (Yy Zd))
 (Zn (Wx 9 (fun ρ=>(Yy Zd) (ZU [8] ρ)))
 (Zn (XS (fun ρ=>(YU (ZA F_full_knots (Zc (Zb 3) Zd))) (ZU [9,8] ρ)) (ZP 10)
 (Zn (XS (fun ρ=>(YU (ZA F_full_knots (Zc (Zb 4) Zd))) (ZU [9,8] ρ)) (ZP 11)
 (Zn (VF 8 (fun ρ=>(Ze Z4 (Zb 10) (ZN Bk (Zc (YC [none,some 3] (X0 (Zb 11)) (ZP 0) Yu (Ze Z4 (Ze Zx (Zb 1) (dC (.int 0))) (Zb 0))) Zd))) (ZU [9,8] ρ)))
 (Zn (Wx 12 (fun ρ=>(Yy Zd) (ZU [9,8] ρ)))
 (Zn (XS (fun ρ=>(X0 (Zb 10)) (ZU [12,9,8] ρ)) (ZP 13)
 (Zn (Js 12 (fun ρ=>(YC [none,some 13,some 4] (X0 (Zb 11)) (ZP 0) Yu (Ze Z4 (Ze VG (Zb 1) (Ze Zx (Zb 2) (dC (.int 0)))) (Zb 0))) (ZU [12,9,8] ρ)))
 ZJ))
 (Zn (VF 9 (fun ρ=>(ZN Bk (Zc (Zb 12) Zd)) (ZU [9,8] ρ)))
 ZJ)))))
 ZJ))
 (Zn (XV (YN (Ze Wz (ZA F_full_knots (Zc (ZA Ug (Zc (Yy (Zc (Zb 3) (Zc (Zb 4) Zd))) Zd)) Zd)) (ZN U5 (Zc (Zb 8) Zd))))
 (Zn (Z2 (dC (.bl false)))
 ZJ)
 ZJ)
 (Zn (XV (UG (YN (Ze dLe (Ze VG (Ze Zx (Zb 3) (dC (.int 0))) (Ze Zx (Zb 4) (dC (.int 0)))) (dC (.int 10)))) (YN (Ze Wz (ZA F_full_knots (Zc (ZA JL (Zc (Zb 3) (Zc (Zb 4) Zd))) Zd)) (ZcG (Zb 9)))))
 (Zn (Z2 (dC (.bl false)))
 ZJ)
 ZJ)
 ZJ))))))))))))
 (Zn (Z2 (dC (.bl true)))
 ZJ))
theorem Zgz:FnScope ["script","pen","turn","one","other","first","second","size","due","pairs","knot","more","some","a"] ["script"] (ZH s_law):=Xa
theorem ZlT {cdv:Value}{A:xD}{outer:List Env}{s:Shared}{H:Hp}{E:XK}{L:List (Addr×Str)}(lo:WN L)(T:Txt mg)(hr:Room 7 (A.deeper (envOfC "law" (ZH s_law) s.heap.objs.size kf cdv)))(j9:ZY P w K mg base 1 "_law_ttimes" 2 true Z6 UO)(kb:ZY P w K mg base 2 "_law_tweb" 2 true (W4 Vh L) US)(km:ZY P w K mg base 7 "beside" 1 false (Y0 L) JU)(ki:ZY P w K mg base 6 "by_pairs" 2 false (Y0 L) JL)(kc:ZY P w K mg base 4 "counted" 1 true Z6 F_counted)(jU:ZY P w K mg base 4 "full_knots" 1 true Z6 F_full_knots)(jZ:ZY P w K mg base 7 "wholly_tied" 1 false (Y0 L) Ug)(G:Gh)(hG:(W4 Vh L) G) :
  Xl (WJ ZQ P w K mg base ["script","pen","turn","one","other","first","second","size","due","pairs","knot","more","some","a"] "law" (ZH s_law) kf cdv A outer s H E).nox G [] [] [] false ((Wa s_law).drop 1) ZkH:=
 have jM:=Zgz.nd;have hT:Y0 L G:=jC lo hG
 (Z0 (Wn (own:=[]) zL rfl (Uh rfl T.b_range ZS) (X9 jM rfl (zt rfl) (by decide))
 (Z0 (ZjS (XM (Zg (ZZ (kb.mono) hG hr (Zg (va 1) (Zg ZS Zm))) (Zg (ZZ (kb.mono) hG hr (Zg (va 1) (Zg ZS Zm))) Zm))) (ZeM rfl jM rfl rfl (qaa rfl) (qaa rfl) (by decide) (by decide) (hp:=ZaT (Uq jM rfl (qaa rfl)) (ZaT (Uq jM rfl (qaa rfl)) ZgP))))
 (Z0 (Zki rfl jM rfl rfl (by decide) rfl rfl (Zg (ZZ (kc.mono) trivial hr (Zg (va 3) Zm)) (Zg (ZZ (kc.mono) trivial hr (Zg (va 4) Zm)) Zm)) (by with_unfolding_all rfl))
 (Z0 (XF (YJ jM rfl (zt rfl) (W9 (Zci rfl) rfl T.b_max TF.boot_max (Zg (XD T.b_len (Zg (va 5) Zm)) (Zg (XD T.b_len (Zg (va 6) Zm)) Zm)))))
 (Z0 (XF (YJ jM rfl (zt rfl) (Ze0 (X1 (bk ["script","pen","turn","one","other","first","second","size","due","pairs","knot","more","some","a"] (ZH s_law).names ["a","b"] [none,none]) (Zkb rfl T.b_zip (Ys Xh (va 5) (Ys JT (Xw (Zg ZS Zm)) (va 7))) (Ys Xh (va 6) (Ys JT (Xw (Zg ZS Zm)) (va 7)))) (ZeM rfl (show(["a","b"]:List Str).Nodup by decide +kernel) rfl rfl (zt rfl) (zt rfl) rfl rfl (hp:=ZaT (Uq (show(["a","b"]:List Str).Nodup by decide +kernel) rfl (zt rfl)) (ZaT (Uq (show(["a","b"]:List Str).Nodup by decide +kernel) rfl (zt rfl)) ZgP))) WX (Ys Xh (va 0) (va 1))) ZeY (ZeZ (va 7)))))
 (Z0 (pfn (Ur (Bl hr.units) (ZZ (kc.mono) trivial hr (Zg (ZZ (km.mono) hT hr (Zg (Xw (Zg (va 3) (Zg (va 4) Zm))) Zm)) Zm)) (Ys Xh (Xw (Zg ZS Zm)) (Ze0 (va 8) (ZeZ ZS) ZeY)))
 (Z0 (YY (PD.weak VZ))
 Y3)
 YH)
 (Z0 (pfn (Ur (Bl hr.units) (ZZ (kc.mono) trivial hr (Zg (ZZ (jZ.mono) hT hr (Zg (Xw (Zg (va 3) (Zg (va 4) Zm))) Zm)) Zm)) (ZZ (j9.mono) trivial hr (Zg (va 5) (Zg (va 6) Zm))))
 (Z0 (YY (PD.weak VZ))
 Y3)
 YH)
 (Z5 (own2:=[8]) (UZ (YJ jM rfl (zt rfl) (Xw Zm)))
 (Z5 (own2:=[9,8]) (ZeL (own:=[8]) (own':=[9,8]) (YJ jM rfl (zt rfl) (Xw Zm)))
 (Z5 (own2:=[9,8]) (Wn (own:=[9,8]) zL rfl (WM.a (own:=[9,8]) (Vo (ZZ (jU.mono) trivial hr (Zg (va 3) Zm)))) (X9 jM rfl (zt rfl) (by decide))
 (Z5 (own2:=[9,8]) (Wn (own:=[9,8]) zL rfl (WM.a (own:=[9,8]) (Vo (ZZ (jU.mono) trivial hr (Zg (va 4) Zm)))) (X9 jM rfl (zt rfl) (by decide))
 (Z5 (own2:=[9,8]) (Ze3 (own:=[9,8]) (i:=8) (by decide) (pv 8) (Ys Xh (va 10) (JO (BR) rfl T.b_tuple TF.boot_tuple (Zg (X1 (bk ["script","pen","turn","one","other","first","second","size","due","pairs","knot","more","some","a"] (ZH s_law).names ["place","one"] [none,some 3]) (J7 (va 11)) Wk WX (Ys Xh (Ya Yb (va 1) ZS) (va 0))) Zm))))
 (Z5 (own2:=[12,9,8]) (ZeL (own:=[9,8]) (own':=[12,9,8]) (YJ jM rfl (zt rfl) (Xw Zm)))
 (Z5 (own2:=[12,9,8]) (Wn (own:=[12,9,8]) zL rfl (WM.a (own:=[12,9,8]) (J7 (va 10))) (X9 jM rfl (qaa rfl) (by decide))
 (Z5 (own2:=[12,9,8]) (Zfg (own:=[12,9,8]) (i:=12) (by decide) (pv 12) (X1 (bk ["script","pen","turn","one","other","first","second","size","due","pairs","knot","more","some","a"] (ZH s_law).names ["b","a","other"] [none,some 13,some 4]) (J7 (va 11)) Wk WX (Ys Xh (Ys ZbZ (va 1) (Ya Yb (va 2) ZS)) (va 0))))
 (YH (own:=[12,9,8]))))
 (Z5 (own2:=[9,8]) (YA.frz (own:=[12,9,8]) (own2:=[9,8]) (Ze3 (own:=[9,8]) (i:=9) (by decide) (pv 9) (JO (BR) rfl T.b_tuple TF.boot_tuple (Zg (va 12) Zm))))
 (YH (own:=[9,8])))))))
 (YH (own:=[9,8]))))
 (Z5 (own2:=[9]) (YA.frz (own:=[9,8]) (own2:=[9]) (ZdX (own':=[9]) (Ur (Bl hr.units) (ZZ (jU.mono) trivial hr (Zg (ZZ (jZ.mono) hT hr (Zg (Xw (Zg (va 3) (Zg (va 4) Zm))) Zm)) Zm)) (W9 ZaD rfl T.b_sorted TF.boot_sorted (Zg (va 8) Zm)))
 (Z5 (own2:=[9]) (YY (PD.weak VZ))
 (YH (own:=[9])))
 YH))
 (Z0 (YA.frz (own:=[9]) (own2:=[]) (pfn (JA.pt (Zlb (Ur (Zna) (Ys ZbZ (Ya Yb (va 3) ZS) (Ya Yb (va 4) ZS)) ZS) (Zjw (Ur (Bl hr.units) (ZZ (jU.mono) trivial hr (Zg (ZZ (ki.mono) hT hr (Zg (va 3) (Zg (va 4) Zm))) Zm)) (Zea rfl hr.units rfl T.b_sorted TF.boot_sorted rfl T.b_set TF.boot_set (va 9))))))
 (Z0 (YY (PD.weak VZ))
 Y3)
 YH))
 Y3))))))))))))
 (Z0 (YY (PD.weak VZ))
 Y3))
theorem ZaH:FnScope ["pen","many","found","one","two"] ["pen","many"] (ZH Za7):=⟨rfl,rfl,rfl,by decide +kernel,rfl,by decide +kernel,by decide +kernel⟩
theorem Zdb {P:xC}{w:World}{K:qj}{mg:Str->Option Value}{base:Heap}{kf:Addr}{jN:xB}(F:Fun K "_law_tdraw" "_law_tdraw" Za7 kf jN)(T:Txt mg) :
  FnOk P w K mg base ZQ 1 kf jN ["pen","many"] (Yw 2 true Vh We):=by
 have nd:=ZaH.nd;refine F.ok ZaH (λvs H Q E h=>?_) λcdv A outer s0 H vs Q E hr h=>?_
 ·obtain⟨G,Hf,ds,pn,d,pn',_,e,_⟩:=h
  exact e
 ·obtain⟨p,m,rfl,hs⟩:=Zio (K:=K) (N:=λ_ H'=>Q .non H') h
  have hu:=L2.hu_of hr;refine⟨_,WD (Zjc (PW.pt (Zja (JX Zji (ZaU Zaj rfl T.b_len TF.boot_len (Y5 (WF hu (pv 0) XJ (λ_ _=>rfl)) Xv)) YS (Ja _)) (ZgO (JX Zmc (ZgW ZbV (WF hu (pv 0) XJ (λ_ _=>rfl)) YS (λ_ _=>rfl)) (pv 1) (Ja _)))))
    (U2 (ZdS (Zjo qbv PySem.F.slot_list_pop PySem.F.type_list_pop Zjq (WF hu (pv 0) XJ (λ_ _=>rfl)) (Y5 YS Xv)))) ZdR)
   (WD (Zjc (JX Zji (ZaU Zaj rfl T.b_len TF.boot_len (Y5 (WF hu (pv 0) XJ (λ_ _=>rfl)) Xv)) YS (Ja _))
    (WD (Uw (i:=2) nd rfl (zt rfl) (YT VU (ZgW ZbV (WF hu (pv 0) XJ (λ_ _=>rfl)) YS (λ_ _=>rfl)) (pv 1)))
    (WD (ZfO (YT ZgQ (ZgW ZbV (WF hu (pv 0) XJ (λ_ _=>rfl)) YS (λ_ _=>rfl)) (pv 1)) (Zje (WF hu (pv 0) XJ (λ_ _=>rfl)) YS Zcc))
    (U2 (U9 (pv 2))))) ZdR)
   (WD (Zk7 hu (pv 0) XJ (YT VT (WF hu (pv 0) XJ (λ_ _=>rfl)) YS) rfl)
   (WD (Uw (i:=3) nd rfl (zt rfl) (YT VU (YT VT (WF hu (pv 0) XJ (λ_ _=>rfl)) (YT Ux (YT Ux YS (WF hu (pv 0) XJ (λ_ _=>rfl))) (WF hu (pv 0) XJ (λ_ _=>rfl)))) YS))
   (WD (Uw (i:=4) nd rfl (zt rfl) (YT VU (YT VT (YT VT (YT Ux (pv 3) (pv 3)) (YT Ux YS (WF hu (pv 0) XJ (λ_ _=>rfl)))) YS) YS))
   (U2 (U9 (YT VU (YT ZgQ (YT VU (YT VT (YT Ux (pv 4) (pv 4)) (pv 3)) YS) YS) (pv 1)))))))),hs⟩
theorem Zbb:FnScope ["script","mixed","cell"] ["script"] (ZH Zar):=⟨rfl,rfl,rfl,by decide +kernel,rfl,by decide +kernel,by decide +kernel⟩
theorem Zef {P:xC}{w:World}{K:qj}{mg:Str->Option Value}{base:Heap}{kf:Addr}{jN:xB}(F:Fun K "_law_tpen" "_law_tpen" Zar kf jN)(T:Txt mg) :
  FnOk P w K mg base ZQ 1 kf jN ["script"] (Zmo K):=by
 have nd:=Zbb.nd;refine F.ok Zbb (λvs H Q E h=>?_) λcdv A outer s0 H vs Q E hr h=>?_
 ·obtain⟨a,ns,rfl,_⟩:=h
  rfl
 ·obtain⟨a,ns,rfl,hsq⟩:=id h
  refine⟨_,WD (Uw (i:=1) nd rfl (zt rfl) YS)
   (WD (Zjh zL rfl (ZdT (pv 0)) (Uq (i:=2) nd rfl (zt rfl)) (U2 (Uw (i:=1) nd rfl (zt rfl) (YT VU (YT VT (YT VT (YT Ux (pv 1) YS) (YT VU (pv 2) YS)) YS) YS))))
   (U2 (U9 (Zk9 (Zcd XJ (pv 1) (Zcd XJ YS (Zcd XJ
    (ZjX (N':=["cell"]) (src:=[none]) rfl (⟨rfl,rfl,by decide +kernel,rfl,by decide +kernel,rfl,by decide +kernel,by decide +kernel⟩:BlkS _ ["script","mixed","cell"] (ZH Zar).names ["cell"] [none] _) (ZdT (pv 0)) (λ_ _ _ _ _ _=>Uq (i:=0) (show(["cell"]:List Str).Nodup by decide +kernel) rfl (zt rfl)) (λ_ _ _ _ _ _=>ZeG (JX Zn4 (pv 0) (YT ZmV YS YS) (Ja _))) (λ_ _ _ _ _ _=>pv 0)) Zk8))) rfl rfl (by simp) (by decide))))),Zlw hsq.1 hsq.2.1 hsq.2.2⟩
end K11
namespace TF
open L2
theorem ux0 {α:Type}(us:List α)(e:us.length=0):us=[]:=by cases us with | nil=>rfl | cons=>cases e
theorem ux1 {α:Type}(us:List α)(e:us.length=1):∃a,us=[a]:=by
 cases us with | nil=>cases e | cons a r=>cases ux0 r (qc4 e);exact⟨a,rfl⟩
theorem ux2 {α:Type}(us:List α)(e:us.length=2):∃a b,us=[a,b]:=by
 cases us with | nil=>cases e | cons a r=>obtain⟨b,rfl⟩:=ux1 r (qc4 e);exact⟨a,b,rfl⟩
theorem ux3 {α:Type}(us:List α)(e:us.length=3):∃a b c,us=[a,b,c]:=by
 cases us with | nil=>cases e | cons a r=>obtain⟨b,c,rfl⟩:=ux2 r (qc4 e);exact⟨a,b,c,rfl⟩
noncomputable def IsC (K:qj)(x:Str)(st:Stmt)(c:Addr):Prop:=∃(f:Addr) (fd:xB),qcr K mainGlobals x=some (some (.ref f))/\Fun K x x st f fd/\fd.code=.ref c
noncomputable def fnO (x:Str)(st:Stmt)(pm:Value)(c:Addr):Obj:=⟨.type "function",none,.func (y8 x x (WG st) (Wa st) (ZH st) .none .none .none pm none (.ref c) .none),#[]⟩
noncomputable def cdO (x:Str)(t:Nat)(ln ac:Int)(a:Addr)(tx k:Nat)(v:Bool):Obj:=
 ⟨.type "code",none,.fields #[.str x t,.str x (t+1),.str "/claim/cut.py" (t+2),.int ln 0,.int ac 0,.int 0 0,.int 0 0,.int 3 0,.ref a,.bool true,.int tx 0,.ref (a+1),.none,
  (match v with | true=>.ref (a+2) | false=>.none),(match v with | true=>.ref (a+3) | false=>.none),.ref (match v with | true=>a+4 | false=>a+2),.int k 0,.int ln 0,.str "/claim/cut.py" (k+1)],#[]⟩
structure DRow where
 x:Str
 i:Nat
 t:Nat
 ln:Int
 ac:Int
 a:Addr
 k:Nat
 v:Bool
 pm:Str
 pt:Nat
noncomputable def DRow.c (r:DRow):Addr:=match r.v with | true=>r.a+5 | false=>r.a+3
noncomputable def dE (P:Params)(x:Str)(t:Nat)(v:Value):DictEntry:=⟨PyData.keyHash P x,.str x t,v⟩
noncomputable abbrev nE (x:Str)(t:Nat)(a:Addr):Str×Nat×Addr:=(x,t,a)
noncomputable abbrev dR (x:Str)(i t:Nat)(ln ac:Int)(a:Addr)(k:Nat)(v:Bool)(pm:Str)(pt:Nat):DRow:=⟨x,i,t,ln,ac,a,k,v,pm,pt⟩
noncomputable def dRs (P:Params)(l:List (Str×Nat×Addr)):List DictEntry:=l.map λe=>dE P e.1 e.2.1 (.ref e.2.2)
noncomputable def Zos (ZV:Nat->Stmt)(tx:Nat)(m:List DictEntry)(n:Nat)(rs:List DRow):qj:=
 (mainNs,⟨.type "dict",none,.dict m.toArray n,#[]⟩)::rs.flatMap λr=>[(r.c,cdO r.x r.t r.ln r.ac r.a tx r.k r.v),(r.c+1,fnO r.x (ZV r.i) (.str r.pm r.pt) r.c)]
theorem Zot {K:qj}{x:Str}{st:Stmt}{pm:Value}{c f:Addr}(a:qcr K mainGlobals x=some (some (.ref f)))(l:K.lookup f=some (fnO x st pm c))(cd:qbs K (.ref c) x=true):IsC K x st c:=
 ⟨f,_,a,Zm5 l cd (by unfold yW;dsimp only;rw[l];rfl),rfl⟩
noncomputable def ZnG:Stmt->Pos
 | .FunctionDef _ _ _ _ _ _ _ _ _ p=>p
 | _=>⟨0,0,0,0⟩
noncomputable abbrev ZgA (st:Stmt):DefRec:=⟨"law",WG st,Wa st,ZH st,ZnG st⟩
theorem head_of {l:PySem.W.OpenLaw}{q:xC}{K:Params->qj}{as:List Addr}{e:∀P,as=(K P).map (·.1)}{N:Nat}{st:Stmt}(said:l.wellSaid=true)
  (left:PySem.W.LeftO l.prog q [] (λs=>PySem.W.xlAt q [] s&&PySem.W.recOk l.row.records s) (qaO K as e).obs (qaO K as e).val N)
  (hdef:PySem.W.defOf q l.row.name=some (ZgA st,[])) (hp:l.row.prog.theDef l.row.name=some (WG st,Wa st,ZH st))
  (hk:PySem.W.kwWritten? (WG st).kwonlyargs (WG st).kw_defaults=some [])
  (ok:(PySem.W.chainsOk q&&PySem.W.opensWell l.row.prog&&(PySem.W.frees l.row.toRowW&&l.row.within.isEmpty))=true) (hb:l.row.prog.bare) (hw:l.row.toRowW.promised) (hwr:(!l.row.writes||l.row.records.isEmpty)=true)
  (call:qcP q [] (PySem.W.XL q []) (qaO K as e).says l.row.toRowW (ZgA st) [] λf vs=>qcM f vs):l.Holds:=
 PySem.W.holds_law said λsd=>PySem.W.holds_open left (qaO K as e).of (qaO K as e).keeps (λs z=>PySem.W.xl_of s (qaz.mp z).1) PySem.W.XL.keeps hdef hp hk (λs z=>PySem.W.recFacts_of (qaz.mp z).2) hwr sd ok hb hw call
noncomputable def AtR (K:qj)(mg:Str->Option Value)(ZV:Nat->Stmt)(r:DRow):Prop:=∃(f:Addr) (fd:xB),Fun K r.x r.x (ZV r.i) f fd/\mg r.x=some (.ref f)/\fd.code=.ref r.c
noncomputable def ZmD (K:qj)(ZV:Nat->Stmt)(r:DRow):Prop:=qcr K mainGlobals r.x=some (some (.ref (r.c+1)))/\K.lookup (r.c+1)=some (fnO r.x (ZV r.i) (.str r.pm r.pt) r.c)/\qbs K (.ref r.c) r.x=true
noncomputable def Zeg (K:qj)(ZV:Nat->Stmt):List DRow->Prop
 | []=>True
 | r::l=>ZmD K ZV r/\Zeg K ZV l
theorem Zfv {K:qj}{ZV:Nat->Stmt}:∀{l:List DRow} {j:Nat} {r:DRow},Zeg K ZV l->l[j]?=some r->ZmD K ZV r
 | _::_,0,_,h,e=>by cases e;exact h.1
 | _::l,j+1,_,h,e=>Zfv (l:=l) h.2 e
theorem ZnH {K:qj}{h:Heap}{mg:Str->Option Value}{ZV:Nat->Stmt}{l:List DRow}(ok:Zeg K ZV l)(X:K.In h)(G:h.Ns mainGlobals mg)(j:Nat){r:DRow}(e:l[j]?=some r:=by rfl):AtR K mg ZV r:=by
 obtain⟨a,b,c⟩:=Zfv ok e;obtain⟨f,fd,a,F,d⟩:=Zot a b c;exact⟨f,fd,F,PySem.W.mg_of X G a,d⟩
theorem bdc {K:qj}{x:Str}{st:Stmt}{f:Addr}{fd:xB}(ps:List Str)(F:Fun K x x st f fd)
  (h:∀(kV doc pm:Value) (an:Option Addr) (cdv ct:Value) (us:List Value),us.length=ps.length->bindArgs (y8 x x (WG st) (Wa st) (ZH st) .none kV doc pm an cdv ct) ⟨us,[]⟩=pure (ps.zip us):=by
   intro _ _ _ _ _ _ us hl
   first
    | (obtain⟨_,rfl⟩:=TF.ux1 us hl;rfl)
    | (obtain⟨_,_,rfl⟩:=TF.ux2 us hl;rfl)
    | (obtain⟨_,_,_,rfl⟩:=TF.ux3 us hl;rfl)
    | (obtain⟨_,_,_,_,rfl⟩:=TF.ux4 us hl;rfl)
    | (obtain⟨_,_,_,_,_,rfl⟩:=TF.ux5 us hl;rfl)
    | (obtain⟨_,_,_,_,_,_,rfl⟩:=TF.ux6 us hl;rfl)
    | (obtain⟨_,_,_,_,_,_,_,rfl⟩:=TF.ux7 us hl;rfl)
    | (obtain rfl:=TF.ux0 us hl;rfl)):Wd K fd ps []:=F.binds h
theorem mkc {P:xC}{w:World}{K:qj}{mg:Str->Option Value}(base:Heap){x:Str}{st:Stmt}{f:Addr}{fd:xB}{k n:Nat}{ps:List Str}{fr:Bool}{GG:Gh->Prop}{F9:List D->M D}(F:Fun K x x st f fd)(m:mg x=some (.ref f))(ok:FnOk P w K mg base ZQ k f fd ps (Yw n fr GG F9))
  (h:∀(kV doc pm:Value) (an:Option Addr) (cdv ct:Value) (us:List Value),us.length=ps.length->bindArgs (y8 x x (WG st) (Wa st) (ZH st) .none kV doc pm an cdv ct) ⟨us,[]⟩=pure (ps.zip us):=by
   intro _ _ _ _ _ _ us hl
   first
    | (obtain⟨_,rfl⟩:=TF.ux1 us hl;rfl)
    | (obtain⟨_,_,rfl⟩:=TF.ux2 us hl;rfl)
    | (obtain⟨_,_,_,rfl⟩:=TF.ux3 us hl;rfl)
    | (obtain⟨_,_,_,_,rfl⟩:=TF.ux4 us hl;rfl)
    | (obtain⟨_,_,_,_,_,rfl⟩:=TF.ux5 us hl;rfl)
    | (obtain⟨_,_,_,_,_,_,rfl⟩:=TF.ux6 us hl;rfl)
    | (obtain⟨_,_,_,_,_,_,_,rfl⟩:=TF.ux7 us hl;rfl)
    | (obtain rfl:=TF.ux0 us hl;rfl)):ZY P w K mg base k x n fr GG F9:=⟨f,fd,ps,ok,m,F.kp,F.binds h⟩
end TF
namespace TP2
open L2 TF TP
theorem ZlU (n way by' i j:Nat)(hb:0<by')(hway:way<9)(ρ0 ρ1:D)(t:Option D)(o8:Option D)(s:Pn):∃b,(Ze Zx (Yy (Zc (dC (.bl false)) (Zc (dC (.bl true)) (Zc (Ze Xq (Ze Vg (Zb 7) (Zb 6)) (Yk (Zc (dC (.int 1)) (Zc (Ze Vg (Zb 2) (dC (.int 1))) Zd)))) (Zc (Ze Wz (Ze V4 (Zb 6) (Zb 4)) (Ze V4 (Zb 7) (Zb 4))) Zd))))) (ZN UB (Zc (Zb 3) (Zc (dC (.int 3)) Zd)))) [some ρ0,some ρ1,some (.int (n:Int)),some (.int (way:Int)),some (.int (by':Int)),t,some (.int (i:Int)),some (.int (j:Int)),o8] s=some (.bl b,s):=by
 have e3:∃b,Xq (.int ((j:Int)-i)) (.tup [.int 1,.int ((n:Int)-1)])=some (.bl b):=by
  refine⟨X4 (.int ((j:Int)-i)) [.int 1,.int ((n:Int)-1)],?_⟩;have h:XT (.int ((j:Int)-i)) [.int 1,.int ((n:Int)-1)]=true:=by simp[XT,Zk,Yp,ZX,Y2]
  simp only[Xq,UI,h,if_true,Option.map]
 obtain⟨b3,e3⟩:=e3;have hm:∀z:Int,V4 (.int z) (.int (by':Int))=some (.int (z % by')):=λz=>by
  show(if (decide (0<(by':Int)))=true then _ else _)=_;rw[if_pos (by rw[decide_eq_true_eq];omega)]
 have hl:TF.LT (λd=>∃b,d=.bl b) 4 (.lst [.bl false,.bl true,.bl b3,.bl (!((i:Int) % by'==(j:Int) % by'))]):=.cons ⟨_,rfl⟩ (.cons ⟨_,rfl⟩ (.cons ⟨_,rfl⟩ (.cons ⟨_,rfl⟩ (LT.nil _))));obtain⟨x,ex,b,rfl⟩:=hl.pick (r:=min way 3) (by omega);refine⟨b,Zw (Zd1 (Zh rfl (Zh rfl (Zh (Zw (d:=.int ((j:Int)-i)) (e:=.tup [.int 1,.int ((n:Int)-1)]) (Zw (d:=.int (j:Int)) (e:=.int (i:Int)) rfl rfl rfl) (Zlt rfl (Zw (d:=.int (n:Int)) (e:=.int 1) rfl rfl rfl)) e3) (Zh (Zw (Zw (d:=.int (i:Int)) (e:=.int (by':Int)) rfl rfl (hm _)) (Zw (d:=.int (j:Int)) (e:=.int (by':Int)) rfl rfl (hm _)) (nei _ _)) rfl)))) (by show 4<=xg;decide)) (YB (c:=.int ((min way 3:Nat):Int)) (Zh rfl (Zh rfl rfl)) ?_) ex⟩;show some (D.int (if (3:Int)<(way:Int)then 3 else (way:Int)))=_;congr 2;split <;> omega
theorem ZhA {T:Nat}{s:Pn}(ok:X5 T s)(hT:T<900000000)(most:Nat)(hm:most<=24):Ok (US [.pen,.int (most:Int)]) s λd s'=>X5 (T+1000) s'/\∃n jI,d=Zp n jI/\n<=most/\IsWeb n jI:=by
 refine Ok.runB rfl ?_;refine Ok.seq (.sset (.drawD (m:=most+1) ok (by omega) (Zh rfl (Zh (Zw (d:=.int (most:Int)) (e:=.int 1) rfl rfl rfl) rfl)) (by omega) (by omega) λn s1 hn ok1=>?_));refine Ok.seq (.sset (.drawD (m:=9) ok1 (by omega) (Zh rfl (Zh rfl rfl)) (by omega) (by omega) λway s2 hw ok2=>?_));refine Ok.seq (.sset (.op (.eq (a:=.int 1) rfl (.drawD (m:=5) ok2 (by omega) (Zh rfl (Zh rfl rfl)) (by omega) (by omega) λr s3 hr ok3=>⟨.int ((1+r:Nat):Int),by simp[Z4],?_⟩))));generalize hby:1+r=by'
 refine Ok.seq (.sown (.eq (a:=.lst []) rfl ⟨rfl,?_⟩));refine Ok.seq (.sfor (λi ρ s'=>X5 (T+3+i*24) s'/\∃(jI:Qa) (o6 o7 o8:Option D),jI.Sublist (Xx n i)/\ρ=[some .pen,some (.int (most:Int)),some (.int (n:Int)),some (.int (way:Int)),some (.int (by':Int)),some (.lst (jI.map Zs)),o6,o7,o8]) (.eq (Wm rfl (by omega)) ⟨⟨ok3.mono (by omega),[],none,none,none,List.nil_sublist _,rfl⟩,λi d ρ s' hd hI=>?_,fun ρ' s' hI=>?_⟩))
 ·obtain⟨ok5,jI,o6,o7,o8,hsub,rfl⟩:=hI
  obtain⟨hi,rfl⟩:=UR hd;refine⟨_,rfl,?_⟩;refine Ok.seq (.sfor (λj ρ s'=>X5 (T+3+i*24+j) s'/\∃(jI:Qa) (o7 o8:Option D),jI.Sublist (Xx n i++(qm j).map λk=>(i,i+1+k))/\ρ=[some .pen,some (.int (most:Int)),some (.int (n:Int)),some (.int (way:Int)),some (.int (by':Int)),some (.lst (jI.map Zs)),some (.int (i:Int)),o7,o8]) (.eq (Zdq (a:=i+1) (n:=n) (Zw (d:=.int (i:Int)) (e:=.int 1) (c:=.int ((i+1:Nat):Int)) rfl rfl (by simp[Z4])) rfl (by omega) (by omega)) ⟨⟨ok5,jI,o7,o8,by simpa using hsub,rfl⟩,λj d ρ s' hd hJ=>?_,fun ρ' s' hJ=>?_⟩))
  ·obtain⟨ok6,jI,o7,o8,hsub,rfl⟩:=hJ
   obtain⟨hj,rfl⟩:=B2 hd;refine⟨_,rfl,?_⟩;have fin:∀b s7,X5 (T+3+i*24+j+1) s7->Ok (Zn (XV (YN (Zb 8)) (Zn (VF 5 (fun ρ=>(Yk (Zc (Zb 6) (Zc (Zb 7) Zd))) (ZU [5] ρ))) ZJ) ZJ) ZJ [some .pen,some (.int (most:Int)),some (.int (n:Int)),some (.int (way:Int)),some (.int (by':Int)),some (.lst (jI.map Zs)),some (.int (i:Int)),some (.int ((i+1+j:Nat):Int)),some (.bl b)]) s7
     λo s'=>∃ρ',o=.nx ρ'/\X5 (T+3+i*24+(j+1)) s'/\∃(jI:Qa) (o7 o8:Option D),jI.Sublist (Xx n i++(qm (j+1)).map λk=>(i,i+1+k))/\ρ'=[some .pen,some (.int (most:Int)),some (.int (n:Int)),some (.int (way:Int)),some (.int (by':Int)),some (.lst (jI.map Zs)),some (.int (i:Int)),o7,o8]:=by
    intro b s7 ok7;refine Ok.seq (.sif (.eq (Ws rfl) ?_))
    cases b with
    | true=>
     refine .seq (.sapp (ds:=jI.map Zs) rfl (Zlm hsub (by omega) hi (by omega)) (.eq (Wr (Zh rfl (Zh rfl rfl)) two_le) ?_));refine .next (.next ⟨_,rfl,ok7,jI ++ [(i,i+1+j)],some (.int ((i+1+j:Nat):Int)),some (.bl true),?_,?_⟩)
     ·rw[qar,zf,<-qK]
      exact qcs.append hsub (qcs.refl _)
     ·rw[zf];rfl
    | false=>
     refine .next (.next ⟨_,rfl,ok7,jI,some (.int ((i+1+j:Nat):Int)),some (.bl false),?_,rfl⟩);rw[qar,zf,<-qK];exact hsub.trans (List.sublist_append_left _ _)
   obtain⟨b,eb⟩:=ZlU n way by' i (i+1+j) (by omega) hw .pen (.int (most:Int)) none o8 s'
   refine Ok.seq (.sset (.eq eb ?_));refine Ok.seq (.sif (.eq (Ws (Zw (d:=.int (way:Int)) (e:=.int 3) rfl rfl rfl)) ?_));by_cases h3:(3:Int)<(way:Int)
   ·rw[if_pos (decide_eq_true h3)]
    have hjn:i*24<=24*24:=qbd 24 (by omega);refine .seq (.sset (.op (.drawD (m:=6) ok6 (by omega) (Zh rfl (Zh rfl rfl)) (by omega) (by omega) λv s7 hv ok7=>.eq (a:=.int (by':Int)) rfl ⟨_,rfl,?_⟩)));exact .next (fin _ s7 ok7)
   ·rw[if_neg (by simp;omega)]
    exact .next (fin b s' (ok6.mono (by omega)))
  ·obtain⟨ok6,jI,o7',o8',hsub,rfl⟩:=hJ
   rw[XW]at hsub ok6;refine Ok.next ⟨_,rfl,ok6.mono (by rw[Nat.add_mul];omega),jI,some (.int (i:Int)),o7',o8',?_,rfl⟩;rw[Zbn];exact hsub
 ·obtain⟨ok5,jI,o6,o7,o8,hsub,rfl⟩:=hI
  rw[XW]at hsub ok5;have hjn:n*24<=24*24:=qbd 24 (by omega);exact Ok.seq (.sret (.eq (Wr (Zh rfl (Zh (YB (Zh rfl rfl) rfl) rfl)) two_le) ⟨ok5.mono (by omega),n,jI,rfl,by omega,hsub⟩))
noncomputable abbrev nD (i:Nat):D:=.int (i:Int)
noncomputable def Zr (k:List Nat):D:=.tup (k.map nD)
noncomputable def Wl (jI:Qa)(i:Nat)(k:List Nat):Bool:=k.all λo=>decide ((o,i)∈jI)
noncomputable def kn (jI:Qa):Nat->List (List Nat)
 | 0=>[[]]
 | i+1=>kn jI i++((kn jI i).filter (Wl jI i)).map (· ++ [i])
theorem Wv {jI:Qa}:∀{i:Nat} {k:List Nat},k∈kn jI i->(∀o∈k,o<i)/\k.length<=i
 | 0,k,h=>by
  have:k=[]:=by simpa[kn]using h
  subst this;simp
 | i+1,k,h=>by
  rw[kn]at h;rcases qO.mp h with h | h
  ·have:=Wv h
   exact⟨λo ho=>yD (this.1 o ho),by omega⟩
  ·obtain⟨q,hq,rfl⟩:=qt.mp h
   have:=Wv (qA.mp hq).1;refine⟨λo ho=>?_,by simp;omega⟩;rcases qO.mp ho with ho | ho
   ·exact yD (this.1 o ho)
   ·rw[qU.mp ho];omega
theorem Jd (jI:Qa):∀i,(kn jI i).length<=2 ^ i
 | 0=>by simp[kn]
 | i+1=>by
  have h:=Jd jI i;have h2:=qas (Wl jI i) (kn jI i);rw[kn,qJ,qf,Nat.pow_succ];omega
theorem U8 (jI:Qa):∀i,∃r,kn jI i=[]::r
 | 0=>⟨[],rfl⟩
 | i+1=>by
  obtain⟨r,e⟩:=U8 jI i;refine⟨r++((kn jI i).filter (Wl jI i)).map (· ++ [i]),?_⟩;rw[kn]
  conv=>lhs;lhs;rw[e]
  rfl
theorem ZnI (p:Nat×Nat)(jI:Qa):Xq (Zs p) (.dt (ZT [] jI))=some (.bl (decide (p∈jI))):=by
 have e:UI (Zs p) (.dt (ZT [] jI))=some (decide (p∈jI)):=by
  show(XZ [.int (p.1:Int),.int (p.2:Int)]).map (λk=>(Yd (ZT [] jI) k).isSome)=_;show some ((Yd (ZT [] jI) (WL p)).isSome)=_;rw[ZeV];simp[Yd]
 unfold Xq;rw[e];rfl
theorem ZiQ {α:Type}(l:List α)(p:α->Bool):BC [.lst (l.map λx=>D.bl (p x))]=some (.bl (l.all p)):=by
 show(YQ _).map _=_;rw[show l.map (λx=>D.bl (p x))=(l.map p).map D.bl by rw[qC];rfl,ZbE];show some (D.bl _)=some (D.bl _);rw[qcZ];rfl
theorem ZlV (k:List Nat)(i:Nat)(h:k.length<=1000):Z4 (Zr k) (.tup [nD i])=some (Zr (k ++ [i])):=by
 unfold Zr;show(if (k.map nD).length + [nD i].length<=xg then some (D.tup (k.map nD ++ [nD i]))else none)=_;rw[if_pos (by rw[qf,YO];simp;omega),zf];rfl
noncomputable def Wf (n:Nat)(jI:Qa)(p:Nat):List Nat:=(qm n).filter λo=>tied jI p o
noncomputable def Xe (n:Nat)(jI:Qa):D:=.lst ((qm n).map λp=>.lst ((Wf n jI p).map nD))
theorem BX (n:Nat)(jI:Qa)(hn:n<=100000)(s:Pn):F_all_near [Zp n jI] s=some (Xe n jI,s):=by
 refine Xd rfl (Xt (Xi ?_));have hc:=Xu (src:=[none,some 0]) (fi:=YZ (Ze Zx (Zb 0) (dC (.int 0)))) (τ:=ZP 0) (ft:=Yu) (fe:=ZA Vw (Zc (Zb 1) (Zc (Zb 0) Zd))) (ρ:=[some (Zp n jI)]) (s:=s) (ds:=Z9 0 n) (λd=>[some d,some (Zp n jI)]) (λ_=>true) (λd=>.lst ((Wf n jI (Yz d)).map nD)) (Wm (Zw (d:=Zp n jI) (e:=.int 0) rfl rfl W2) hn) (J8 hn) λd hd=>by
  obtain⟨i,hi,rfl⟩:=UT hd;exact⟨rfl,rfl,λ_=>ZR (Zh rfl (Zh rfl rfl)) (Zlk n jI i s hn)⟩
 rw[WQ,Us,qC]at hc;exact hc
theorem ZnJ (a b:Nat):ZB (nD a) (nD b)=decide (a=b):=by
 show((a:Int)==(b:Int))=_;rw[qat,beq_iff_eq,decide_eq_true_eq];constructor <;> intro h <;> omega
theorem ZkI (o:Nat)(l:List Nat):X4 (nD o) (l.map nD)=decide (o∈l):=by
 unfold X4
 induction l with
 | nil=>simp
 | cons t ts ih=>
  rw[qY,qaM,ih,ZnJ];by_cases h:t=o
  ·subst h;simp
  ·have:¬o=t:=λz=>h z.symm
   simp[h,this]
theorem ZaQ (l:List Nat):Yp (l.map nD)=true:=by
 induction l with
 | nil=>simp[Yp]
 | cons a l ih=>simp[Yp,Zk,ih]
theorem Zeh (l:List Nat):Y2 (l.map nD)=0:=by
 induction l with
 | nil=>simp[Y2]
 | cons a l ih=>simp[Y2,ZX,ih]
theorem ZkJ (o:Nat)(l:List Nat):Xq (nD o) (.lst (l.map nD))=some (.bl (decide (o∈l))):=by
 have h:XT (nD o) (l.map nD)=true:=by simp[XT,Zk,ZaQ,ZX,Zeh]
 simp only[Xq,UI,h,if_true,Option.map,ZkI]
noncomputable def Xb (n:Nat)(jI:Qa)(i:Nat)(k:List Nat):Bool:=k.all λo=>decide (o∈Wf n jI i)
theorem ZbQ (n:Nat)(jI:Qa)(i:Nat)(hi:i<n)(k:List Nat)(hk:k.length<=1000)(s:Pn):VP [Xe n jI,nD i,Zr k] s=some (.bl (Xb n jI i k),s):=by
 refine Xd rfl (Xt (Xi ?_));have hx:Zx (Xe n jI) (nD i)=some (.lst ((Wf n jI i).map nD)):=by
  refine Vp ?_;rw[qu,zI hi];rfl
 have hc:=Xu (src:=[none,some 0,some 1]) (fi:=X0 (Zb 2)) (τ:=ZP 0) (ft:=Yu) (fe:=Ze Xq (Zb 0) (Ze Zx (Zb 1) (Zb 2))) (ρ:=[some (Xe n jI),some (nD i),some (Zr k)]) (s:=s) (ds:=k.map nD) (λd=>[some d,some (Xe n jI),some (nD i)]) (λ_=>true) (λd=>.bl (decide (Yz d∈Wf n jI i))) (Zb1 rfl) (by rw[qf,YO];omega) (λd hd=>by
  obtain⟨o,ho,rfl⟩:=qt.mp hd;exact⟨rfl,rfl,λ_=>Zw (d:=nD o) rfl (Zw (d:=Xe n jI) (e:=nD i) rfl rfl hx) (ZkJ o _)⟩)
 rw[WQ,qC]at hc;exact YB (Zh hc rfl) (ZiQ k λo=>decide (o∈Wf n jI i))
theorem ZlW {n i:Nat}{jI:Qa}{k:List Nat}(hi:i<n)(hk:∀o∈k,o<i):Xb n jI i k=Wl jI i k:=by
 unfold Xb Wl;rw[qat,yk,yk];have e:∀o∈k,(decide (o∈Wf n jI i)=true↔decide ((o,i)∈jI)=true):=λo ho=>by
  have h1:=hk o ho;unfold Wf;rw[decide_eq_true_eq,qA,qQ,XX,WI h1,decide_eq_true_eq];exact⟨λh=>h.2,λh=>⟨by omega,h⟩⟩
 exact⟨λh o ho=>(e o ho).mp (h o ho),λh o ho=>(e o ho).mpr (h o ho)⟩
theorem BU (n:Nat)(jI:Qa)(hn:n<=20)(s:Pn):Vm [Xe n jI] s=some (.lst ((kn jI n).map Zr),s):=by
 have p20:∀i,i<=20->2 ^ i<=1048576:=λi hi=>qaE (by omega) hi;have jQ:∀(r:List (Option D)),ZN Ye (Zc (Zb 0) Zd) (some (Xe n jI)::r) s=some (nD n,s):=λr=>YB (Zh rfl rfl) (by show some (D.int (((qm n).map _).length:Nat))=_;rw[qf,qW]);apply jy;refine Ok.runB rfl ?_;refine Ok.seq (.sset (.eq (a:=.lst [.tup []]) (J9 (Wr rfl (by decide))) ?_));refine Ok.seq (.sfor (λi ρ s'=>s=s'/\∃o2,ρ=[some (Xe n jI),some (.lst ((kn jI i).map Zr)),o2]) (.eq (Wm (jQ _) (by omega)) ⟨⟨rfl,none,rfl⟩,λi d ρ s' hd hI=>?_,fun ρ' s' hI=>?_⟩))
 ·obtain⟨rfl,o2,rfl⟩:=hI
  obtain⟨hi,rfl⟩:=UR hd;refine⟨_,rfl,?_⟩;have hkl:=Jd jI i;have hpi:=p20 i (by omega);have UM:∀k:List Nat,(match Zr k with | .tup ds=>ds.map Yz | _=>[])=k:=λk=>by
   unfold Zr;show(k.map nD).map Yz=k;rw[qC];exact qbD k
  have hc:=Xu (src:=[none,some 2,some 0]) (fi:=YU (Zb 1)) (τ:=ZP 0) (ft:=YN (ZA VP (Zc (Zb 2) (Zc (Zb 1) (Zc (Zb 0) Zd))))) (fe:=Ze Z4 (Zb 0) (Yk (Zc (Zb 1) Zd))) (ρ:=[some (Xe n jI),some (.lst ((kn jI i).map Zr)),some (nD i)]) (s:=s) (ds:=(kn jI i).map Zr) (λd=>[some d,some (nD i),some (Xe n jI)]) (λd=>Wl jI i (match d with | .tup ds=>ds.map Yz | _=>[])) (λd=>Zr ((match d with | .tup ds=>ds.map Yz | _=>[]) ++ [i])) (Vr rfl) (by rw[qf,YO];omega) (λd hd=>by
   obtain⟨k,hk,rfl⟩:=qt.mp hd;have hkm:=Wv hk;have e:=ZbQ n jI i hi k (by omega) s;rw[ZlW hi hkm.1]at e;refine⟨rfl,?_,λ_=>?_⟩
   ·rw[UM];exact Ws (ZR (Zh rfl (Zh rfl (Zh rfl rfl))) e)
   ·rw[UM];exact Zw (d:=Zr k) (e:=.tup [nD i]) rfl (Zls rfl) (ZlV k i (by omega)))
  have e2:(((kn jI i).map Zr).filter λd=>Wl jI i (match d with | .tup ds=>ds.map Yz | _=>[])).map (λd=>Zr ((match d with | .tup ds=>ds.map Yz | _=>[]) ++ [i]))=(((kn jI i).filter (Wl jI i)).map (· ++ [i])).map Zr:=by
   rw[qbO,qC,qC];have:((λd=>Wl jI i (match d with | .tup ds=>ds.map Yz | _=>[]))∘Zr)=Wl jI i:=by
    funext k;show Wl jI i (match Zr k with | .tup ds=>ds.map Yz | _=>[])=_;rw[UM]
   rw[this];refine qX λk _=>?_;show Zr ((match Zr k with | .tup ds=>ds.map Yz | _=>[]) ++ [i])=_;rw[UM];rfl
  rw[e2]at hc;have hf:((kn jI i).filter (Wl jI i)).length<=(kn jI i).length:=qas _ _;refine Ok.seq (.sset (.eq (Zw (d:=.lst ((kn jI i).map Zr)) (c:=.lst ((kn jI (i+1)).map Zr)) rfl hc ?_) ?_))
  ·show(if _<=xg then some (D.lst _)else none)=_
   rw[if_pos (by simp only[qf,YO];omega),<-zf];rfl
  ·exact .next ⟨_,rfl,rfl,some (nD i),rfl⟩
 ·obtain⟨rfl,o2,rfl⟩:=hI
  rw[XW];exact Ok.seq (.sret (.eq (a:=.lst ((kn jI n).map Zr)) rfl ⟨rfl,rfl⟩))
noncomputable def ZF (l:List Nat):Nat:=l.foldl max 0
theorem Zbc (l:List Nat):∀a,a<=l.foldl max a/\∀x∈l,x<=l.foldl max a:=by
 induction l with
 | nil=>intro a;simp
 | cons b l ih=>
  intro a;obtain⟨h1,h2⟩:=ih (max a b);refine⟨?_,λx hx=>?_⟩
  ·show a<=l.foldl max (max a b);omega
  ·show x<=l.foldl max (max a b)
   rcases qp.mp hx with rfl | hx
   ·omega
   ·exact h2 x hx
theorem UP (l:List Nat)(b:Nat)(h:∀x∈l,x<=b):∀a,a<=b->l.foldl max a<=b:=by
 induction l with
 | nil=>intro a ha;exact ha
 | cons c l ih=>
  intro a ha;exact ih (λx hx=>h x (by simp[hx])) (max a c) (by have:=h c (by simp);omega)
theorem ZkK (l:List Nat):∀a:Nat,Xm (a:Int) (l.map λ(i:Nat)=>(i:Int))=((l.foldl max a:Nat):Int):=by
 induction l with
 | nil=>intro a;rfl
 | cons b l ih=>
  intro a;show Xm (max (a:Int) (b:Int)) (l.map λ(i:Nat)=>(i:Int))=_;rw[show max (a:Int) (b:Int)=((max a b:Nat):Int) by omega,ih];rfl
theorem Zfw (l:List Nat):Yi (l.map nD)=some (l.map λ(i:Nat)=>(i:Int)):=by
 have:=Zch (l.map λ(i:Nat)=>(i:Int));rw[qC]at this;exact this
theorem ZiR (l:List Nat)(h:∃r,l=0::r):Bu [.lst (l.map nD)]=some (nD (ZF l)):=by
 obtain⟨r,rfl⟩:=h;show(match Yi ((0::r).map nD)with | some (n::r)=>some (D.int (Xm n r)) | _=>none)=_;rw[Zfw];show some (D.int (Xm ((0:Nat):Int) (r.map λ(i:Nat)=>(i:Int))))=_;rw[ZkK];rfl
noncomputable def Zl (jI:Qa)(n:Nat):List Nat:=(kn jI n).map qak
theorem Uj (jI:Qa)(n:Nat):∃r,Zl jI n=0::r:=by
 obtain⟨r,e⟩:=U8 jI n;exact⟨r.map qak,by unfold Zl;rw[e];rfl⟩
theorem Zei {jI:Qa}{n x:Nat}(h:x∈Zl jI n):x<=n:=by
 obtain⟨k,hk,rfl⟩:=qt.mp h;exact(Wv hk).2
noncomputable def YM (M:Nat)(l:List Nat):List D:=(qm (M+1)).map λi=>nD (l.count i)
theorem ZnK (jI:Qa)(n:Nat)(hn:n<=20){fi:Za->M (List D)}{ρ:Za}{s:Pn}(hi:fi ρ s=some ((kn jI n).map Zr,s)):YC [none] fi (ZP 0) Yu (ZN Ye (Zc (Zb 0) Zd)) ρ s=some (.lst ((Zl jI n).map nD),s):=by
 have hkl:=Jd jI n;have hpi:2 ^ n<=2 ^ 20:=qaE (by omega) hn;have hc:=Xu (src:=[none]) (fi:=fi) (τ:=ZP 0) (ft:=Yu) (fe:=ZN Ye (Zc (Zb 0) Zd)) (ρ:=ρ) (s:=s) (ds:=(kn jI n).map Zr) (λd=>[some d]) (λ_=>true) (λd=>match d with | .tup ds=>nD ds.length | _=>.non) hi (by rw[qf,YO];omega) (λd hd=>by
  obtain⟨k,hk,rfl⟩:=qt.mp hd;exact⟨rfl,rfl,λ_=>YB (Zh rfl rfl) rfl⟩)
 rw[WQ,qC]at hc;have e:(kn jI n).map ((λd=>match d with | .tup ds=>nD ds.length | _=>.non)∘Zr)=(Zl jI n).map nD:=by
  unfold Zl;rw[qC];refine qX λk _=>?_;show nD (k.map nD).length=nD k.length;rw[qf]
 rw[e]at hc;exact hc
theorem ZlX (M:Nat)(l:List Nat)(x:Nat)(h:x<=M):(YM M l).set x (.int (((l.count x:Nat):Int)+1))=YM M (l ++ [x]):=by
 unfold YM;apply yc;intro i;rw[List.getElem?_set,qu,qu];simp only[qf,qW];by_cases hi:i<M+1
 ·rw[zI hi]
  by_cases e:x=i
  ·subst e
   rw[if_pos rfl,if_pos hi];show some (D.int _)=some (D.int _);congr 2;rw[qaX];simp
  ·rw[if_neg e]
   show some (nD _)=some (nD _);congr 2;rw[qaX];have:([x]:List Nat).count i=0:=by simp[qbT,e]
   rw[this];rfl
 ·have e0:(qm (M+1))[i]?=none:=zj (by simp;omega)
  rw[e0];by_cases e:x=i
  ·subst e;omega
  ·rw[if_neg e];rfl
theorem Zej (ds:List D)(k:Int)(h:-(2 ^ 63)<=k/\k<2 ^ 63/\ds.length*k.toNat<=xg):XR (.lst ds) (.int k)=some (.lst (qB k.toNat ds).flatten):=by
 unfold XR;exact if_pos h
theorem ZlY {i:Nat}{fx fv:Za->M D}{ρ:Za}{s:Pn}{k a b:Int}{ds:List D}(h1:fx ρ s=some (.int k,s))(h2:fv ρ s=some (.int b,s))(h3:(ρ[i]?).bind id=some (.lst ds))(h4:0<=k)(h5:ds[k.toNat]?=some (.int a)):Jo i fx fv ρ s=some (.nx (ρ.set i (some (.lst (ds.set k.toNat (.int (a+b)))))),s):=by
 unfold Jo Zo;simp only[h1,h2,h3,h5,if_pos h4];rfl
theorem ZlZ {i j:Nat}{fx fv:Za->M D}{ρ:Za}{s:Pn}{k:Int}{v:D}{ds:List D}(h1:fx ρ s=some (.int k,s))(h2:fv ρ s=some (v,s))(h3:(ρ[i]?).bind id=some (.lst ds))(h5:Xz ds.length k=some j):Bv i fx fv ρ s=some (.nx (ρ.set i (some (.lst (ds.set j v)))),s):=by
 unfold Bv Zo;simp only[h1,h2,h3,h5];rfl
theorem ZgB (n:Nat)(jI:Qa)(hn:n<=20)(s:Pn):F_counted [Zp n jI] s=some (.lst (YM (ZF (Zl jI n)) (Zl jI n)),s):=by
 have hkl:=Jd jI n;have hpi:2 ^ n<=2 ^ 20:=qaE (by omega) hn;have hM:ZF (Zl jI n)<=n:=UP _ n (λx hx=>Zei hx) 0 (by omega);generalize hMM:ZF (Zl jI n)=M at hM;apply jy;refine Ok.runB rfl ?_;refine Ok.seq (.sset (.eq (ZR (Zh (ZR (Zh rfl rfl) (BX n jI (by omega) s)) rfl) (BU n jI hn s)) ?_));have hmx:ZN Bu (Zc (YC [none] (YU (Zb 1)) (ZP 0) Yu (ZN Ye (Zc (Zb 0) Zd))) Zd) [some (Zp n jI),some (.lst ((kn jI n).map Zr)),none,none] s=some (nD M,s):=by
  have:=ZiR _ (Uj jI n);rw[hMM]at this;exact YB (Zh (ZnK jI n hn (Vr rfl)) rfl) this
 have hmul:XR (.lst [.int 0]) (.int (1+(M:Int)))=some (.lst (YM M [])):=by
  have e1:(1+(M:Int)).toNat=M+1:=by omega
  rw[Zej _ _ ⟨by omega,by omega,by rw[e1,YO];show 1*(M+1)<=_;omega⟩,e1];congr 2;unfold YM;apply yc;intro i;have fl:∀m:Nat,(qB m [D.int 0]).flatten=qB m (D.int 0):=λm=>by
   induction m with
   | zero=>rfl
   | succ m ih=>rw[ya,zJ,ih];rfl
  rw[fl,yr,qu];by_cases hi:i<M+1
  ·rw[if_pos hi,zI hi];rfl
  ·rw[if_neg hi,zj (by simp;omega)];rfl
 refine Ok.seq (.sown (.eq (Zw (d:=.lst [.int 0]) (e:=.int (1+(M:Int))) (J9 rfl) (Zw (d:=.int 1) (e:=nD M) rfl hmx rfl) hmul) ⟨rfl,?_⟩));have hit:(fun ρ=>YU (Zb 1) (ZU [2] ρ)) [some (Zp n jI),some (.lst ((kn jI n).map Zr)),some (.lst (YM M [])),none] s=some ((kn jI n).map Zr,s):=Vr rfl;refine Ok.seq (.sfor (λj ρ s'=>s=s'/\∃o3,ρ=[some (Zp n jI),some (.lst ((kn jI n).map Zr)),some (.lst (YM M ((Zl jI n).take j))),o3]) (.eq hit ⟨⟨rfl,none,rfl⟩,λj d ρ s' hd hI=>?_,fun ρ' s' hI=>?_⟩))
 ·obtain⟨rfl,o3,rfl⟩:=hI
  rw[qu]at hd;obtain⟨k,hk,rfl⟩:=yA.mp hd;refine⟨_,rfl,?_⟩;have hlk:(Zl jI n)[j]?=some k.length:=by unfold Zl;rw[qu,hk];rfl
  have hkM:k.length<=M:=by rw[<-hMM];exact(Zbc (Zl jI n) 0).2 _ (zq hlk)
  have hx:ZN Ye (Zc (Zb 3) Zd) (ZU [2] [some (Zp n jI),some (.lst ((kn jI n).map Zr)),some (.lst (YM M ((Zl jI n).take j))),some (Zr k)]) s=some (nD k.length,s):=YB (Zh rfl rfl) (by show some (D.int ((k.map nD).length:Nat))=_;rw[qf]);have hg:(YM M ((Zl jI n).take j))[k.length]?=some (nD (((Zl jI n).take j).count k.length)):=by
   unfold YM;rw[qu,zI (by omega)];rfl
  have ha:Jo 2 (fun ρ=>(ZN Ye (Zc (Zb 3) Zd)) (ZU [2] ρ)) (fun ρ=>(dC (.int 1)) (ZU [2] ρ)) [some (Zp n jI),some (.lst ((kn jI n).map Zr)),some (.lst (YM M ((Zl jI n).take j))),some (Zr k)] s=some (.nx [some (Zp n jI),some (.lst ((kn jI n).map Zr)),some (.lst (YM M ((Zl jI n).take (j+1)))),some (Zr k)],s):=by
   have et:(Zl jI n).take (j+1)=(Zl jI n).take j ++ [k.length]:=by rw[List.take_succ,hlk];rfl
   rw[et,<-ZlX M _ _ hkM];have:=ZlY (i:=2) (fx:=fun ρ=>(ZN Ye (Zc (Zb 3) Zd)) (ZU [2] ρ)) (fv:=fun ρ=>(dC (.int 1)) (ZU [2] ρ)) (ρ:=[some (Zp n jI),some (.lst ((kn jI n).map Zr)),some (.lst (YM M ((Zl jI n).take j))),some (Zr k)]) (b:=1) hx rfl rfl (by omega) (by rw[show((k.length:Nat):Int).toNat=k.length by omega];exact hg);rw[show((k.length:Nat):Int).toNat=k.length by omega]at this;exact this
  exact Ok.seq (.eq ha (.next ⟨_,rfl,rfl,some (Zr k),rfl⟩))
 ·obtain⟨rfl,o3,rfl⟩:=hI
  have e:(Zl jI n).take ((kn jI n).map Zr).length=Zl jI n:=zS (by unfold Zl;simp);rw[e];exact Ok.seq (.sret (.eq (a:=.lst (YM M (Zl jI n))) rfl ⟨rfl,rfl⟩))
theorem ZcP:∀{a b:List Nat},a.Pairwise (· < ·)->b.Pairwise (· < ·)->(∀x,x∈a↔x∈b)->a=b
 | [],[],_,_,_=>rfl
 | [],y::b,_,_,h=>absurd ((h y).mpr (by simp)) (by simp)
 | x::a,[],_,_,h=>absurd ((h x).mp (by simp)) (by simp)
 | x::a,y::b,ha,hb,h=>by
  have ha':=yi.mp ha;have hb':=yi.mp hb;have e:x=y:=by
   have h1:=(h x).mp (by simp);have h2:=(h y).mpr (by simp);rcases qp.mp h1 with h1 | h1
   ·exact h1
   ·rcases qp.mp h2 with h2 | h2
    ·exact h2.symm
    ·have:=ha'.1 y h2
     have:=hb'.1 x h1;omega
  subst e;rw[ZcP ha'.2 hb'.2 λz=>?_];constructor
  ·intro hz
   rcases qp.mp ((h z).mp (qM _ hz))with e | e
   ·exact absurd (ha'.1 z hz) (by omega)
   ·exact e
  ·intro hz
   rcases qp.mp ((h z).mpr (qM _ hz))with e | e
   ·exact absurd (hb'.1 z hz) (by omega)
   ·exact e
theorem Zbz {α:Type}(q:α->Bool):∀l:List α,l.length=(l.filter q).length+(l.filter λx=>!q x).length
 | []=>rfl
 | a::l=>by
  have:=Zbz q l
  cases h:q a with
  | true=>simp[qaj,h];omega
  | false=>simp[qaj,h];omega
theorem ZdG {α:Type}{p:Nat->α->Bool}{m:Nat}:∀(B:List Nat) (L:List α),(∀K∈L,∃u∈B,p u K=true)->(∀u∈B,(L.filter (p u)).length<=m)->L.length<=B.length*m
 | [],L,h,_=>by
  cases L with
  | nil=>simp
  | cons K L=>obtain⟨u,hu,_⟩:=h K (by simp);simp at hu
 | u::B,L,h,hm=>by
  have e:L.length=(L.filter (p u)).length+(L.filter λK=>!p u K).length:=Zbz (p u) L;have h1:=hm u (by simp);have h2:=ZdG B (L.filter λK=>!p u K) (λK hK=>by
   obtain⟨hL,hn⟩:=qA.mp hK;obtain⟨w,hw,pw⟩:=h K hL;rcases qp.mp hw with rfl | hw
   ·rw[pw]at hn;simp at hn
   ·exact⟨w,hw,pw⟩) (λw hw=>by
   refine zC (qcs.length_le ?_) (hm w (qM _ hw));exact qcs.filter (p w) (za (p:=λK=>!p u K) (l:=L)))
  rw[qS,qal];omega
theorem ZkL (f:Nat->Nat):∀(V:List Nat),V≠[]->∃v∈V,∀u∈V,f u<=f v
 | [],h=>absurd rfl h
 | [x],_=>⟨x,by simp,λu hu=>by rw[qU.mp hu];exact qk _⟩
 | x::y::V,_=>by
  obtain⟨v,hv,h⟩:=ZkL f (y::V) (by simp);by_cases hx:f x<=f v
  ·exact⟨v,qM _ hv,λu hu=>(qp.mp hu).elim (λe=>by rw[e];exact hx) (h u)⟩
  ·exact⟨x,by simp,λu hu=>(qp.mp hu).elim (λe=>by rw[e];exact qk _) λm=>zC (h u m) (by omega)⟩
structure Full (adj:Nat->Nat->Bool)(V K:List Nat):Prop where
 rise:K.Pairwise (· < ·)
 sub:∀o∈K,o∈V
 tie:∀a∈K,∀b∈K,a≠b->adj a b=true
 full:∀v∈V,¬∀o∈K,adj v o=true
noncomputable def mm:List Nat:=[1,1,2,3,4,6,9,12,18,27,36]
theorem Zl0:∀n≤10,∀d<n,(n-d)*mm.getD d 0<=mm.getD n 0:=by decide
theorem Zek:∀b≤10,∀a≤b,mm.getD a 0<=mm.getD b 0:=by decide
theorem ZcQ {adj:Nat->Nat->Bool}(sy:∀a b,adj a b=adj b a)(ir:∀a,adj a a=false):∀(n:Nat),n<=10->∀(V:List Nat) (L:List (List Nat)),V.length=n->L.Nodup->(∀K∈L,Full adj V K)->L.length<=mm.getD n 0:=by
 intro n
 induction n using Nat.strongRecOn with
 | _ n ih=>
  intro hn V L hV nd hL;by_cases h0:V=[]
  ·subst h0
   have hn0:n=0:=by simpa using hV.symm
   subst hn0
   match L,nd,hL with
   | [],_,_=>simp
   | [_],_,_=>simp[mm]
   | a::b::L,nd,hL=>
    exfalso;have e:∀K,Full adj [] K->K=[]:=λK h=>by
     cases K with
     | nil=>rfl
     | cons x K=>exact absurd (h.sub x (by simp)) (by simp)
    have h1:=e a (hL a (by simp));have h2:=e b (hL b (by simp));rw[h1,h2]at nd;simp at nd
  ·obtain⟨v,hv,hmax⟩:=ZkL (λu=>(V.filter (adj u)).length) V h0
   have hd:(V.filter (adj v)).length<n:=by
    rw[<-hV];refine Nat.lt_of_le_of_ne (qas _ _) λe=>?_;have:=(List.length_filter_eq_length_iff.mp e) v hv;rw[ir]at this;cases this
   have hB:(V.filter λu=>!adj v u).length=n-(V.filter (adj v)).length:=by
    have:=Zbz (adj v) V;omega
   have hc:=ZdG (p:=λu K=>decide (u∈K)) (m:=mm.getD (V.filter (adj v)).length 0) (V.filter λu=>!adj v u) L (λK hK=>?_) λu hu=>?_
   ·rw[hB]at hc
    exact zC hc (Zl0 n hn _ hd)
   ·have F:=hL K hK
    by_cases h:∃o∈K,adj v o=false
    ·obtain⟨o,ho,e⟩:=h
     exact⟨o,qA.mpr ⟨F.sub o ho,by rw[e];rfl⟩,by simpa using ho⟩
    ·exfalso
     refine F.full v hv λo ho=>?_
     cases e:adj v o with
     | true=>rfl
     | false=>exact absurd ⟨o,ho,e⟩ h
   ·have hu':=(qA.mp hu).1
    have hdu:(V.filter (adj u)).length<=(V.filter (adj v)).length:=hmax u hu';have hnd:((L.filter λK=>decide (u∈K)).map λK=>K.filter λo=>decide (o≠u)).Nodup:=by
     refine zG.mpr ((List.Nodup.sublist (za (p:=λK=>decide (u∈K)) (l:=L)) nd).imp_of_mem λ{a b} ha hb hab e=>hab ?_);obtain⟨ha1,ha2⟩:=qA.mp ha;obtain⟨hb1,hb2⟩:=qA.mp hb;simp at ha2 hb2;refine ZcP (hL a ha1).rise (hL b hb1).rise λx=>?_;by_cases hx:x=u
     ·subst hx;exact⟨λ_=>hb2,λ_=>ha2⟩
     ·have q:x∈a.filter (λo=>decide (o≠u))↔x∈b.filter λo=>decide (o≠u):=by rw[e]
      simpa[hx]using q
    have:=ih (V.filter (adj u)).length (by omega) (by omega) (V.filter (adj u)) _ rfl hnd λK hK=>?_
    ·rw[qf]at this
     exact zC this (Zek _ (by omega) _ hdu)
    ·obtain⟨K0,hK0,rfl⟩:=qt.mp hK
     obtain⟨hK1,hK2⟩:=qA.mp hK0;simp at hK2;have F:=hL K0 hK1;refine⟨F.rise.sublist za,λo ho=>?_,λa ha b hb=>F.tie a (qA.mp ha).1 b (qA.mp hb).1,λx hx z=>?_⟩
     ·obtain⟨h1,h2⟩:=qA.mp ho
      simp at h2;exact qA.mpr ⟨F.sub o h1,F.tie u hK2 o h1 (zD h2)⟩
     ·obtain⟨h1,h2⟩:=qA.mp hx
      refine F.full x h1 λo ho=>?_;by_cases ho2:o=u
      ·subst ho2;rw[sy];exact h2
      ·exact z o (qA.mpr ⟨ho,by simpa using ho2⟩)
noncomputable def RT (jI:Qa)(a b:Nat):Prop:=a<b/\(a,b)∈jI
theorem Vx {jI:Qa}:∀{n:Nat} {k:List Nat},k∈kn jI n↔k.Pairwise (RT jI)/\∀o∈k,o<n
 | 0,k=>by
  constructor
  ·intro h
   have:k=[]:=by simpa[kn]using h
   subst this;exact⟨.nil,by simp⟩
  ·rintro⟨_,h⟩
   cases k with
   | nil=>simp[kn]
   | cons a k=>exact absurd (h a (by simp)) (by omega)
 | n+1,k=>by
  rw[kn,qO];constructor
  ·rintro(h | h)
   ·have:=Vx.mp h
    exact⟨this.1,λo ho=>yD (this.2 o ho)⟩
   ·obtain⟨q,hq,rfl⟩:=qt.mp h
    obtain⟨hq1,hq2⟩:=qA.mp hq;have:=Vx.mp hq1;unfold Wl at hq2;rw[yk]at hq2;refine⟨qN.mpr ⟨this.1,by simp,λa ha b hb=>?_⟩,λo ho=>?_⟩
    ·rw[qU.mp hb]
     exact⟨this.2 a ha,by simpa using hq2 a ha⟩
    ·rcases qO.mp ho with ho | ho
     ·exact yD (this.2 o ho)
     ·rw[qU.mp ho];omega
  ·rintro⟨h1,h2⟩
   by_cases hn:n∈k
   ·right
    obtain⟨a,b,rfl⟩:=List.append_of_mem hn;have hp:=qN.mp h1;have hb:b=[]:=by
     cases b with
     | nil=>rfl
     | cons y b=>
      have r1:=(yi.mp hp.2.1).1 y (by simp);have:=h2 y (by simp);have:=r1.1;omega
    subst hb;have ha:∀o∈a,RT jI o n:=λo ho=>hp.2.2 o ho n (by simp);refine qt.mpr ⟨a,qA.mpr ⟨Vx.mpr ⟨hp.1,λo ho=>(ha o ho).1⟩,?_⟩,rfl⟩;unfold Wl;rw[yk];exact λo ho=>by simpa using(ha o ho).2
   ·left
    refine Vx.mpr ⟨h1,λo ho=>?_⟩;have:=h2 o ho;have:o≠n:=λz=>hn (z▸ho);omega
theorem Xg (jI:Qa):∀n,(kn jI n).Nodup
 | 0=>by simp[kn]
 | n+1=>by
  rw[kn];refine qN.mpr ⟨Xg jI n,?_,λa ha b hb e=>?_⟩
  ·refine zG.mpr (((Xg jI n).sublist za).imp λh e=>h ?_)
   exact List.append_cancel_right e
  ·obtain⟨q,_,rfl⟩:=qt.mp hb
   have:=(Wv ha).1 n (by rw[e];simp);omega
theorem Zb2 {jI:Qa}{n:Nat}{k:List Nat}(h:k∈kn jI n):k.Pairwise (· < ·):=(Vx.mp h).1.imp λh=>h.1
theorem Uy {R:Nat->Nat->Prop}{k:List Nat}(hr:k.Pairwise (· < ·))(h:k.Pairwise R){a b:Nat}(ha:a∈k)(hb:b∈k)(hab:a<b):R a b:=by
 obtain⟨i,hi,rfl⟩:=qcW ha;obtain⟨j,hj,rfl⟩:=qcW hb;have p1:=zE.mp hr;have p2:=zE.mp h;rcases qby i j with z | z | z
 ·exact p2 i j hi hj z
 ·subst z;exact absurd hab (yL _)
 ·have:=p1 j i hj hi z;omega
noncomputable def W5 (p:Nat)(k:List Nat):List Nat:=(k.filter λo=>decide (o<p))++p::(k.filter λo=>decide (p<o))
theorem Zbd {p:Nat}{k:List Nat}(hp:p∉k)(x:Nat):x∈W5 p k↔x=p∨x∈k:=by
 unfold W5;simp only[qO,qA,qp,decide_eq_true_eq];constructor
 ·rintro(h | h | h)
  ·exact .inr h.1
  ·exact .inl h
  ·exact .inr h.1
 ·rintro(h | h)
  ·exact .inr (.inl h)
  ·have:x≠p:=λz=>hp (z▸h)
   by_cases hx:x<p
   ·exact .inl ⟨h,hx⟩
   ·exact .inr (.inr ⟨h,by omega⟩)
theorem ZiS {p:Nat}{k:List Nat}(hk:k.Pairwise (· < ·)):(W5 p k).Pairwise (· < ·):=by
 unfold W5;refine qN.mpr ⟨hk.sublist za,yi.mpr ⟨λb hb=>?_,hk.sublist za⟩,λa ha b hb=>?_⟩
 ·simpa using(qA.mp hb).2
 ·have h1:a<p:=by simpa using(qA.mp ha).2
  rcases qp.mp hb with rfl | hb
  ·exact h1
  ·have:p<b:=by simpa using(qA.mp hb).2
   omega
theorem ZiT {p:Nat}{k:List Nat}(hp:p∉k):(W5 p k).Perm (k ++ [p]):=by
 unfold W5;have h1:(k.filter λo=>decide (p<o))=k.filter λo=>!decide (o<p):=by
  refine List.filter_congr λo ho=>?_;have:o≠p:=λz=>hp (z▸ho);rw[<-decide_not];congr 1;simp;omega
 rw[h1];refine List.perm_middle.trans ?_;refine qa2.trans ?_ (qca p k).symm;exact qa2.cons p (List.filter_append_perm (λo=>decide (o<p)) k)
theorem Zl1 {n:Nat}{jI:Qa}{k:List Nat}{p:Nat}(h:k∈kn jI n)(hp:p∉k)(hn:p<n):W5 p k∈kn jI n↔Xb n jI p k=true:=by
 have hk:=Vx.mp h;have hr:=Zb2 h;have key:Xb n jI p k=true↔∀o∈k,tied jI p o=true:=by
  unfold Xb Wf;rw[yk];constructor
  ·intro z o ho
   have:=z o ho;rw[decide_eq_true_eq,qA]at this;exact this.2
  ·intro z o ho
   rw[decide_eq_true_eq,qA,qQ];exact⟨hk.2 o ho,z o ho⟩
 rw[key,Vx];constructor
 ·rintro⟨h1,_⟩ o ho
  have hop:o≠p:=λz=>hp (z▸ho);have ir:=ZiS (p:=p) hr;have mo:=(Zbd hp o).mpr (.inr ho);have mp:=(Zbd hp p).mpr (.inl rfl);by_cases hlt:o<p
  ·rw[XX,WI hlt]
   simpa using(Uy ir h1 mo mp hlt).2
  ·have hlt:p<o:=by omega
   rw[WI hlt];simpa using(Uy ir h1 mp mo hlt).2
 ·intro z
  have zl:∀o∈k,o<p->(o,p)∈jI:=λo ho hlt=>by
   have:=z o ho;rw[XX,WI hlt]at this;simpa using this
  have zg:∀o∈k,p<o->(p,o)∈jI:=λo ho hlt=>by
   have:=z o ho;rw[WI hlt]at this;simpa using this
  refine⟨?_,λo ho=>?_⟩
  ·unfold W5
   refine qN.mpr ⟨hk.1.sublist za,yi.mpr ⟨λb hb=>?_,hk.1.sublist za⟩,λa ha b hb=>?_⟩
   ·obtain⟨hb1,hb2⟩:=qA.mp hb
    simp at hb2;exact⟨hb2,zg b hb1 hb2⟩
   ·obtain⟨ha1,ha2⟩:=qA.mp ha
    simp at ha2;rcases qp.mp hb with rfl | hb
    ·exact⟨ha2,zl a ha1 ha2⟩
    ·obtain⟨hb1,hb2⟩:=qA.mp hb
     simp at hb2;exact Uy hr hk.1 ha1 hb1 (by omega)
  ·rcases (Zbd hp o).mp ho with rfl | ho
   ·exact hn
   ·exact hk.2 o ho
theorem jo {n:Nat}{jI:Qa}(h:IsWeb n jI)(a:Nat):tied jI a a=false:=by
 unfold tied;rw[decide_eq_false_iff_not];intro z;have h1:min a a<max a a:=(TP.IsWeb.mem h z).1;omega
noncomputable def XH (n:Nat)(jI:Qa)(k:List Nat):Bool:=!(qm n).any λp=>Xb n jI p k
noncomputable def Z1 (n:Nat)(jI:Qa):List (List Nat):=(kn jI n).filter (XH n jI)
theorem ZhB {n:Nat}{jI:Qa}{k:List Nat}(h:k∈Z1 n jI):Full (tied jI) (qm n) k:=by
 obtain⟨h1,h2⟩:=qA.mp h;have hk:=Vx.mp h1;refine⟨Zb2 h1,λo ho=>qQ.mpr (hk.2 o ho),λa ha b hb hab=>?_,λv hv z=>?_⟩
 ·by_cases hlt:a<b
  ·rw[WI hlt];simpa using(Uy (Zb2 h1) hk.1 ha hb hlt).2
  ·have hlt:b<a:=by omega
   rw[XX,WI hlt];simpa using(Uy (Zb2 h1) hk.1 hb ha hlt).2
 ·unfold XH at h2
  rw[qaw,List.any_eq_false]at h2;refine h2 v hv ?_;unfold Xb Wf;rw[yk];intro o ho;rw[decide_eq_true_eq,qA,qQ];exact⟨hk.2 o ho,z o ho⟩
theorem Zfx {n:Nat}{jI:Qa}(hw:IsWeb n jI)(hn:n<=10):(Z1 n jI).length<=36:=by
 have:=ZcQ (adj:=tied jI) (XX jI) (jo hw) n hn (qm n) (Z1 n jI) (by simp) ((Xg jI n).sublist za) λK hK=>ZhB hK;exact zC this (Zek 10 (qk _) n hn)
theorem Zel {n:Nat}{jI:Qa}(h:2<=(Z1 n jI).length):∀k∈Z1 n jI,k≠[]:=by
 intro k hk e;subst e;have h2:=(qA.mp hk).2;unfold XH at h2;rw[qaw,List.any_eq_false]at h2
 cases n with
 | zero=>
  have:(Z1 0 jI).length<=(kn jI 0).length:=qas _ _;simp[kn]at this;omega
 | succ n=>exact h2 0 (by simp) (by simp[Xb])
end TP2
namespace TP3
open L2 TF TP TS
open TP2
theorem ZiU {α:Type}(l:List α)(p:α->Bool):BD [.lst (l.map λx=>D.bl (p x))]=some (.bl (l.any p)):=by
 show(YQ _).map _=_;rw[show l.map (λx=>D.bl (p x))=(l.map p).map D.bl by rw[qC];rfl,ZbE];show some (D.bl _)=some (D.bl _);rw[List.any_map];rfl
theorem ZgC (n:Nat)(jI:Qa)(hn:n<=100000)(k:List Nat)(hk:k.length<=1000)(s:Pn):UW [Xe n jI,Zr k] s=some (.bl (XH n jI k),s):=by
 refine Xd rfl (Xt (Xi ?_));have jQ:ZN Ye (Zc (Zb 0) Zd) [some (Xe n jI),some (Zr k)] s=some (nD n,s):=YB (Zh rfl rfl) (by show some (D.int (((qm n).map _).length:Nat))=_;rw[qf,qW]);have hc:=Xu (src:=[none,some 0,some 1]) (fi:=YZ (ZN Ye (Zc (Zb 0) Zd))) (τ:=ZP 0) (ft:=Yu) (fe:=ZA VP (Zc (Zb 1) (Zc (Zb 0) (Zc (Zb 2) Zd)))) (ρ:=[some (Xe n jI),some (Zr k)]) (s:=s) (ds:=Z9 0 n) (λd=>[some d,some (Xe n jI),some (Zr k)]) (λ_=>true) (λd=>.bl (Xb n jI (Yz d) k)) (Wm jQ hn) (J8 hn) (λd hd=>by
  obtain⟨i,hi,rfl⟩:=UT hd;exact⟨rfl,rfl,λ_=>ZR (Zh rfl (Zh rfl (Zh rfl rfl))) (ZbQ n jI i hi k hk s)⟩)
 rw[WQ,Us,qC]at hc;exact Zhi (YB (Zh hc rfl) (ZiU (qm n) λp=>Xb n jI p k))
noncomputable def YL (k:List Nat):List Int:=k.map λ(x:Nat)=>(x:Int)
theorem Zem (k:List Nat):Zr k=Yf (YL k):=by
 unfold Zr Yf YL;rw[qC];rfl
theorem Zaz {a b:List Nat}(h:YL a=YL b):a=b:=by
 unfold YL at h;exact(qb4 (λx y e=>by omega)).mp h
noncomputable def UD (n:Nat)(jI:Qa):List D:=(Yr ((Z1 n jI).map YL)).map Yf
theorem ZiV {n:Nat}{jI:Qa}(hw:IsWeb n jI)(hn:n<=10):U5 [.lst ((Z1 n jI).map Zr)]=some (.lst (UD n jI)):=by
 have e:(Z1 n jI).map Zr=((Z1 n jI).map YL).map Yf:=by
  rw[qC];exact qX λk _=>Zem k
 show(match Wt ((Z1 n jI).map Zr)with | some jK=>if WU jK then some (D.lst ((Yr jK).map Yf))else none | none=>none)=_;rw[e,B4];show(if WU ((Z1 n jI).map YL)then some (D.lst ((Yr ((Z1 n jI).map YL)).map Yf))else none)=_;have hl:=Zfx hw hn;have ok:WU ((Z1 n jI).map YL):=by
  refine⟨by rw[qf];omega,?_,λh2 ns hns=>?_⟩
  ·refine zG.mpr (ye.imp (λ{a b} h e=>h (Zaz e)) ((Xg jI n).sublist (za (p:=XH n jI))))
  ·obtain⟨k,hk,rfl⟩:=qt.mp hns
   rw[qf]at h2;have:=Zel h2 k hk
   cases k with
   | nil=>exact absurd rfl this
   | cons a k=>exact λz=>by cases z
 rw[if_pos ok];rfl
theorem UM (k:List Nat):(match Zr k with | .tup ds=>ds.map Yz | _=>[])=k:=by
 unfold Zr;show(k.map nD).map Yz=k;rw[qC];exact qbD k
theorem Zfy (l:List (List Nat))(f:List Nat->Bool):(((l.map Zr).filter λd=>f (match d with | .tup ds=>ds.map Yz | _=>[])).map λd=>d)=(l.filter f).map Zr:=by
 rw[qbO,qC];have:((λd=>f (match d with | .tup ds=>ds.map Yz | _=>[]))∘Zr)=f:=by
  funext k;show f (match Zr k with | .tup ds=>ds.map Yz | _=>[])=_;rw[UM]
 rw[this];rfl
theorem ZkM {jI:Qa}{n:Nat}(hn:n<=10):(kn jI n).length<=1024:=by
 have:=Jd jI n;have:2 ^ n<=2 ^ 10:=qaE (by omega) hn;omega
theorem Zdc (n:Nat)(jI:Qa)(hw:IsWeb n jI)(hn:n<=10)(s:Pn):F_full_knots [Zp n jI] s=some (.lst (UD n jI),s):=by
 refine Xd rfl (Wo (WH (ZR (Zh rfl rfl) (BX n jI (by omega) s))) (Xt (Xi ?_)));have hkn:=ZkM (jI:=jI) hn;have hc:=Xu (src:=[none,some 1]) (fi:=YU (ZA Vm (Zc (Zb 1) Zd))) (τ:=ZP 0) (ft:=YN (ZA UW (Zc (Zb 1) (Zc (Zb 0) Zd)))) (fe:=Zb 0) (ρ:=[some (Zp n jI),some (Xe n jI)]) (s:=s) (ds:=(kn jI n).map Zr) (λd=>[some d,some (Xe n jI)]) (λd=>XH n jI (match d with | .tup ds=>ds.map Yz | _=>[])) (λd=>d) (Vr (ZR (Zh rfl rfl) (BU n jI (by omega) s))) (by rw[qf,YO];omega) (λd hd=>by
  obtain⟨k,hk,rfl⟩:=qt.mp hd;have hkm:=Wv hk;refine⟨rfl,?_,λ_=>rfl⟩;rw[UM];exact Ws (ZR (Zh rfl (Zh rfl rfl)) (ZgC n jI (by omega) k (by omega) s)))
 rw[Zfy]at hc;exact YB (Zh hc rfl) (ZiV hw hn)
theorem Y6 {n:Nat}{jI:Qa}{k:List Nat}:k∈kn jI n↔k.Pairwise (· < ·)/\(∀o∈k,o<n)/\∀a∈k,∀b∈k,a≠b->tied jI a b=true:=by
 rw[Vx];constructor
 ·rintro⟨h1,h2⟩
  have hr:k.Pairwise (· < ·):=h1.imp λh=>h.1;refine⟨hr,h2,λa ha b hb hab=>?_⟩;by_cases hlt:a<b
  ·rw[WI hlt];simpa using(Uy hr h1 ha hb hlt).2
  ·have hlt:b<a:=by omega
   rw[XX,WI hlt];simpa using(Uy hr h1 hb ha hlt).2
 ·rintro⟨hr,h2,h3⟩
  refine⟨?_,h2⟩;refine qbp (λ{a b} ha hb hab=>?_) hr;refine⟨hab,?_⟩;have:=h3 a ha b hb (by omega);rw[WI hab]at this;simpa using this
noncomputable def BO (n:Nat)(f:Nat->Nat)(k:List Nat):List Nat:=(qm n).filter λx=>decide (x∈k.map f)
theorem ZgD (n:Nat):(qm n).Pairwise (· < ·):=qcB
theorem Zfz (n:Nat)(f:Nat->Nat)(k:List Nat):(BO n f k).Pairwise (· < ·):=(ZgD n).sublist za
theorem ZhC {n:Nat}{f:Nat->Nat}{k:List Nat}{x:Nat}:x∈BO n f k↔x<n/\∃a∈k,f a=x:=by
 unfold BO;rw[qA,qQ,decide_eq_true_eq,qt]
section
variable {m n:Nat}{f:Nat->Nat}{tm tn:Qa}
theorem Zb3 {l:List Nat}(h:∃r,l=0::r):ZF l∈l:=by
 have key:∀(l:List Nat) (a:Nat),l.foldl max a=a∨l.foldl max a∈l:=by
  intro l
  induction l with
  | nil=>intro a;exact .inl rfl
  | cons b l ih=>
   intro a;show l.foldl max (max a b)=a∨l.foldl max (max a b)∈b::l;rcases ih (max a b)with e | e
   ·rcases Nat.le_total a b with h | h
    ·right;rw[e,Nat.max_eq_right h];simp
    ·left;rw[e,Nat.max_eq_left h]
   ·right;exact qM _ e
 obtain⟨r,rfl⟩:=h;rcases key (0::r) 0 with e | e
 ·unfold ZF;rw[e];simp
 ·exact e
theorem Vy {l:List Nat}{x:Nat}(h:x∈l):x<=ZF l:=(Zbc l 0).2 x h
theorem Ut {n p:Nat}{jI:Qa}{k:List Nat}:Xb n jI p k=true↔∀o∈k,o<n/\tied jI p o=true:=by
 unfold Xb Wf;rw[yk];simp only[decide_eq_true_eq,qA,qQ]
end
theorem JF (jI:Qa)(a b:Nat)(s:Pn):XE [.dt (ZT [] jI),.int a,.int b] s=some (.bl (tied jI a b),s):=by
 simp[XE,ZaL,runB,Zn,Z2,ZJ,Ze,ZN,Zc,Zd,Yk,Zb,Zo,ZI,Xp,UB,Jj,two_le,Zct,ZnI,tied]
theorem ZhD {as:List Nat}{j:Nat}(hj:j<as.length):XA (as.map nD) (j:Int)=some (nD (as.getD j 0)):=by
 refine Vp ?_;rw[qu,qL,qI hj];rfl
theorem ZiW (ps:List Nat):Ye [.lst (ps.map nD)]=some (nD ps.length):=by
 show some (D.int ((ps.map nD).length:Nat))=_;rw[qf]
theorem Zb4 {d:D}(h:Zk d=true)(hd:ZX d<=60):Wz d d=some (.bl false):=by
 unfold Wz V5;rw[if_pos (by simp[h,hd]),Zcm d h];rfl
theorem ZcR:∀{ds:List D},(∀d∈ds,Zk d=true)->Yp ds=true
 | [],_=>by simp[Yp]
 | d::ds,h=>by
  simp only[Yp,zF];exact⟨h d (by simp),ZcR λd hd=>h d (by simp[hd])⟩
theorem ZcS (ns:List Int):Zk (Yf ns)=true/\ZX (Yf ns)<=1:=by
 unfold Yf;constructor
 ·simp only[Zk]
  exact ZcR λd hd=>by obtain⟨a,_,rfl⟩:=qt.mp hd;rfl
 ·have:Y2 (ns.map D.int)<=0:=Zd3 _ λd hd=>by obtain⟨a,_,rfl⟩:=qt.mp hd;simp[ZX]
  simp only[ZX];omega
theorem B6 (jK:List (List Int)):Zk (.lst (jK.map Yf))=true/\ZX (.lst (jK.map Yf))<=60:=by
 constructor
 ·simp only[Zk]
  exact ZcR λd hd=>by obtain⟨a,_,rfl⟩:=qt.mp hd;exact(ZcS a).1
 ·have:Y2 (jK.map Yf)<=1:=Zd3 _ λd hd=>by obtain⟨a,_,rfl⟩:=qt.mp hd;exact(ZcS a).2
  simp only[ZX];omega
section
variable (ap:Nat->Nat->Bool)
end
section
variable {ap:Nat->Nat->Bool}
end
section
variable {n:Nat}{A:Nat->List Nat}{ap:Nat->Nat->Bool}
end
noncomputable def UN (ns:List Int):List Nat:=ns.map Int.toNat
theorem ZfA (k:List Nat):UN (YL k)=k:=by
 unfold UN YL;rw[qC];exact qc1 k
noncomputable def Y7 (n:Nat)(jI:Qa):List (List Nat):=(Yr ((Z1 n jI).map YL)).map UN
theorem ZaR (n:Nat)(jI:Qa):(Y7 n jI).Perm (Z1 n jI):=by
 have h:=(B3 ((Z1 n jI).map YL)).map UN;rw[qC]at h;have e:(Z1 n jI).map (UN∘YL)=Z1 n jI:=by
  have:UN∘YL=id:=funext ZfA;rw[this];exact qbD _
 rw[e]at h;exact h
theorem Zl2 (n:Nat)(jI:Qa):UD n jI=(Y7 n jI).map Zr:=by
 unfold UD Y7;rw[qC];refine qX λns hns=>?_;obtain⟨K,hK,rfl⟩:=qt.mp ((B3 _).mem_iff.mp hns);show _=Zr (UN (YL K));rw[ZfA,Zem]
theorem ZbR (n:Nat)(jI:Qa):(Y7 n jI).Nodup:=(ZaR n jI).nodup_iff.mpr ((Xg jI n).sublist za)
theorem XY {n:Nat}{jI:Qa}{k:List Nat}:k∈Y7 n jI↔k∈Z1 n jI:=(ZaR n jI).mem_iff
theorem Wp {n:Nat}{jI:Qa}{k:List Nat}(h:k∈Z1 n jI):k∈kn jI n:=(qA.mp h).1
theorem Zen {n:Nat}{jI:Qa}(hw:IsWeb n jI):∀(j:Nat) (k:List Nat),n-k.length=j->k∈kn jI n->∃F∈Z1 n jI,∀x∈k,x∈F:=by
 intro j
 induction j using Nat.strongRecOn with
 | _ j ih=>
  intro k hj hk;by_cases hf:XH n jI k=true
  ·exact⟨k,qA.mpr ⟨hk,hf⟩,λx hx=>hx⟩
  ·have hf:XH n jI k=false:=by simpa using hf
   unfold XH at hf;rw[qb2,List.any_eq_true]at hf;obtain⟨p,hp,ok⟩:=hf;have hpn:=qQ.mp hp;have hpk:p∉k:=λz=>by
    have:=(Ut.mp ok p z).2;rw[jo hw]at this;cases this
   have h2:=(Zl1 hk hpk hpn).mpr ok;have hl:(W5 p k).length=k.length+1:=by rw[(ZiT hpk).length_eq];simp
   have hle:=(Wv h2).2;obtain⟨F,hF,hs⟩:=ih (n-(W5 p k).length) (by omega) (W5 p k) rfl h2;exact⟨F,hF,λx hx=>hs x ((Zbd hpk x).mpr (.inr hx))⟩
theorem ZnL {l:List Nat}{b:Nat}(h:∀x∈l,x<=b):ZF l<=b:=UP l b h 0 (zR _)
theorem ZfB {n:Nat}{jI:Qa}(hw:IsWeb n jI):Y7 n jI≠[]:=λh=>by
 obtain⟨F,hF,_⟩:=Zen hw _ [] rfl (Y6.mpr ⟨by simp,by simp,by simp⟩);have:=XY.mpr hF;rw[h]at this;simp at this
theorem B7 (k:List Nat):Zk (.lst (k.map nD))=true/\ZX (.lst (k.map nD))<=60:=by
 constructor
 ·simp only[Zk];exact ZaQ k
 ·simp only[ZX];rw[Zeh];omega
section
variable (jI:Qa)
end
section
variable {jI:Qa}{many:Nat}
end
end TP3
namespace TQ
open L2 TF TS
open TP
open TP2
open TP3
theorem ZnM {T:Nat->List D->M D}{i t:Nat}{fs:Za->M (List D)}{ρ:Za}{s s1:Pn}{ds cds:List D}{r:Option (D×Pn)}(h1:(ρ[i]?).bind id=some (.clo t cds))(h2:fs ρ s=some (ds,s1))(h3:T t (ds++cds) s1=r):BE T i fs ρ s=r:=by
 unfold BE Zo Zb Xp;rw[h1];simp only[h2];exact h3
theorem ZgE {F:List D->M D}{t:Nat}{cix:List Nat}{f:Za->M D}{ρ:Za}{s s1 s2:Pn}{d c:D}{cds:List D}(h1:f ρ s=some (d,s1))(h2:Jl ρ cix=some cds)(n1:Yq d=true)(n2:YX cds=true)(h3:F [d,.clo t cds] s1=some (c,s2))(n3:Yq c=true):UJ F t cix f ρ s=some (c,s2):=by
 unfold UJ Zo Xp;rw[h1,h2];simp only;rw[if_pos (by rw[n1,n2];rfl),h3];simp only;rw[if_pos n3];rfl
theorem JR:∀{ds:List D},(∀d∈ds,Yq d=true)->YX ds=true
 | [],_=>rfl
 | d::ds,h=>by
  show(Yq d&&YX ds)=true;rw[h d zK,JR λx (hx:x∈ds)=>h x (qM _ hx)];rfl
theorem Zl3 {n:Nat}{f:Za->M D}{ds:List D}{s:Pn}{r:Option (D×Pn)}(hl:ds.length=n)(h:f (ds.map some) s=r):VI n f ds s=r:=by
 unfold VI;rw[if_pos hl];exact h
theorem ZbA (n:Nat)(jI:Qa):Yq (Zp n jI)=true:=by
 have:YX (jI.map Zs)=true:=JR λd hd=>by obtain⟨p,_,rfl⟩:=qt.mp hd;rfl
 simp only[Zp,Yq,YX,this];rfl
theorem Zeo (lo:Int)(n:Nat):YX (Z9 lo n)=true:=JR λd hd=>by
 unfold Z9 at hd;obtain⟨i,_,rfl⟩:=qt.mp hd;rfl
theorem Zbe (l:Qa):YX (l.map Zs)=true:=JR λd hd=>by obtain⟨p,_,rfl⟩:=qt.mp hd;rfl
theorem Zal {row:D}{ds cds:List D}{t:Nat}(h:Ju row ds)(hn:ds.length<=1000)(b:Nat×Nat->Bool)(s:Pn)(hb:∀p∈Yv ds.length,Tl t ([ds.getD p.1 .non,ds.getD p.2 .non]++cds) s=some (.bl (b p),s)):Vn [row,.clo t cds] s=some (Zp ds.length ((Yv ds.length).filter b),s):=by
 have hln:∀r,ZN Ye (Zc (Zb 0) Zd) (some row::r) s=some (nD ds.length,s):=λr=>YB (Zh rfl rfl) h.len;refine Xd rfl (Wo (WH (ZR (Zh (ZaY (hln _) hn) rfl) (ZeX s hn))) (Xt (Xi ?_)));have hap:=ZjR ds.length hn;have hc:=Xu (src:=[none,some 1,some 0]) (fi:=YU (Zb 2)) (τ:=ZP 0) (ft:=YN (BE Tl 1 (Zc (Ze Zx (Zb 2) (Ze Zx (Zb 0) (dC (.int 0)))) (Zc (Ze Zx (Zb 2) (Ze Zx (Zb 0) (dC (.int 1)))) Zd)))) (fe:=Zb 0) (ρ:=[some row,some (.clo t cds),some (.lst ((Yv ds.length).map Zs))]) (s:=s) (ds:=(Yv ds.length).map Zs) (λd=>[some d,some (.clo t cds),some row]) (λd=>b (V7 d)) (λd=>d) (Vr rfl) (by rw[qf,YO];omega) λd hd=>by
  obtain⟨p,hpm,rfl⟩:=qt.mp hd;have hpp:=U0.mp hpm;refine⟨rfl,Ws (ZnM (t:=t) (cds:=cds) rfl (Zh (Zw (d:=row) (e:=nD p.1) rfl (Zw (d:=Zs p) (e:=.int 0) rfl rfl (WZ _ _)) (h.ix (by omega))) (Zh (Zw (d:=row) (e:=nD p.2) rfl (Zw (d:=Zs p) (e:=.int 1) rfl rfl (V0 _ _ _)) (h.ix (by omega))) rfl)) (hb p hpm)),λ_=>rfl⟩
 rw[Zd2 (Yv ds.length) _ b λp=>by rw[Zil]]at hc;exact Wr (Zh (hln _) (Zh (YB (Zh hc rfl) rfl) rfl)) two_le
theorem range_getD {n i:Nat}(h:i<n):(Z9 0 n).getD i .non=nD i:=by
 rw[Us];simp[qbI,h]
theorem ZgF (n:Nat)(jI:Qa)(s:Pn)(hn:n<=1000)(hl:jI.length<=100000):Za4 [Zp n jI] s=some (Zp n ((Yv n).filter λp=>!decide (p∈jI)),s):=by
 refine Xd rfl (Wo (WH (ZR (Zh rfl rfl) (UV n jI s hl))) (Xt (Xi ?_)));refine ZgE (d:=.lst (Z9 0 n)) (cds:=[.dt (ZT [] jI)]) (ZaY (Zw (d:=Zp n jI) (e:=.int 0) rfl rfl W2) hn) rfl (by simp only[Yq];exact Zeo _ _) rfl ?_ (ZbA _ _);have:=Zal (row:=.lst (Z9 0 n)) (ds:=Z9 0 n) (cds:=[.dt (ZT [] jI)]) (t:=0) (.inl rfl) (by rw[XW];exact hn) (λp=>!decide (p∈jI)) s (λp hp=>by
  rw[XW]at hp;have hpp:=U0.mp hp;rw[range_getD (by omega),range_getD (by omega)];show Za2 [nD p.1,nD p.2,.dt (ZT [] jI)] s=_;refine Zl3 rfl ?_;refine Zhi (a:=decide (p∈jI)) (ZR (Zh rfl (Zh rfl (Zh rfl rfl))) ?_);rw[JF,WI hpp.1])
 rw[XW]at this;exact this
noncomputable def Xc (lens:List Nat):Qa:=(qm lens.length).flatMap λi=>(qm (lens.getD i 0)).map λj=>(i,j)
noncomputable def Wj (lens:List Nat)(k:Nat):Qa:=(qm k).flatMap λi=>(qm (lens.getD i 0)).map λj=>(i,j)
theorem Uk (lens:List Nat)(k:Nat):Wj lens (k+1)=Wj lens k++(qm (lens.getD k 0)).map λj=>(k,j):=by
 unfold Wj;rw[qar,qbh];simp
theorem ZhE {lens:List Nat}{B:Nat}(h:∀x∈lens,x<=B)(i:Nat):lens.getD i 0<=B:=by
 rw[qL]
 cases e:lens[i]? with
 | none=>exact zR _
 | some x=>exact h x (zq e)
theorem ZfC {lens:List Nat}{B:Nat}(h:∀x∈lens,x<=B):∀k,(Wj lens k).length<=k*B
 | 0=>by simp[Wj]
 | k+1=>by
  rw[Uk,qJ,qf,qW];have:=ZfC h k;have:=ZhE h k;rw[qal];omega
theorem ZfD (lens:List Nat)(hl:lens.length<=1000)(hb:∀x∈lens,x<=1000)(s:Pn):VS [.lst (lens.map nD)] s=some (.lst ((Xc lens).map Zs),s):=by
 refine Xd rfl (jy ?_);refine Ok.seq (.sown (.eq (a:=.lst []) rfl ⟨rfl,?_⟩));show Ok _ s _;refine Ok.seq (.sfor (λi ρ s'=>s=s'/\∃o2,ρ=[some (.lst (lens.map nD)),some (.lst ((Wj lens i).map Zs)),o2]) (.eq (Wm (n:=lens.length) (YB (Zh rfl rfl) (ZiW lens)) (by omega)) ⟨⟨rfl,none,rfl⟩,λi d ρ s' hd hI=>?_,fun ρ' s' hI=>?_⟩))
 ·obtain⟨rfl,o2,rfl⟩:=hI
  obtain⟨hi,rfl⟩:=UR hd;refine⟨_,rfl,?_⟩;have hx:=ZhE hb i;have hp:=ZfC hb i;have hp2:i*1000<=1000*1000:=qai (by omega) (qk _);refine Ok.seq (.sext (ds:=(Wj lens i).map Zs) rfl (.eq (s':=s) (a:=.lst ((qm (lens.getD i 0)).map λj=>Zs (i,j))) ?_ ⟨_,rfl,?_,?_⟩))
  ·have hc:=Xu (src:=[none,some 2]) (fi:=YZ (Ze Zx (Zb 0) (Zb 2))) (τ:=ZP 0) (ft:=Yu) (fe:=Yk (Zc (Zb 1) (Zc (Zb 0) Zd))) (ρ:=[some (.lst (lens.map nD)),none,some (nD i)]) (s:=s) (ds:=Z9 0 (lens.getD i 0)) (λd=>[some d,some (nD i)]) (λ_=>true) (λd=>Zs (i,Yz d)) (Wm (Zw (d:=.lst (lens.map nD)) (e:=nD i) rfl rfl (ZhD hi)) (by omega)) (by rw[XW,YO];omega) λd hd=>by
    obtain⟨j,hj,rfl⟩:=UT hd;exact⟨rfl,rfl,λ_=>Wr (Zh rfl (Zh rfl rfl)) two_le⟩
   rw[WQ,Us,qC]at hc;exact hc
  ·rw[qf,qf,qW,YO];omega
  ·refine Ok.next ⟨_,rfl,rfl,some (nD i),?_⟩
   rw[Uk,zf,qC];rfl
 ·obtain⟨rfl,o2,rfl⟩:=hI
  refine Ok.seq (.sret (.eq rfl ⟨?_,rfl⟩));rw[XW];rfl
theorem B8 {l:Qa}{i:Nat}(h:i<l.length):(l.map Zs).getD i .non=Zs (l.getD i (0,0)):=by
 rw[qL,qu,qL,qI h];rfl
noncomputable def putB (jI:Qa)(inner:List (Qa))(a b:Nat×Nat):Bool:=if a.1=b.1 then tied (inner.getD a.1 []) a.2 b.2 else tied jI a.1 b.1
noncomputable def Ym (jI:Qa)(ws:List (Nat×Qa)):Qa:=(Yv (Xc (ws.map (·.1))).length).filter λp=>putB jI (ws.map (·.2)) ((Xc (ws.map (·.1))).getD p.1 (0,0)) ((Xc (ws.map (·.1))).getD p.2 (0,0))
noncomputable def Y1 (ws:List (Nat×Qa)):List D:=ws.map λw=>Zp w.1 w.2
theorem Zl4 {lens:List Nat}{p:Nat×Nat}:p∈Xc lens↔p.1<lens.length/\p.2<lens.getD p.1 0:=by
 unfold Xc;rw[yV];constructor
 ·rintro⟨i,hi,h⟩
  obtain⟨j,hj,rfl⟩:=qt.mp h;exact⟨qQ.mp hi,qQ.mp hj⟩
 ·rintro⟨h1,h2⟩
  exact⟨p.1,qQ.mpr h1,qt.mpr ⟨p.2,qQ.mpr h2,rfl⟩⟩
theorem ZiX (n:Nat)(jI:Qa)(ws:List (Nat×Qa))(hl:jI.length<=100000)(hw:∀w∈ws,w.2.length<=100000/\w.1<=1000)(hwl:ws.length<=1000)(hN:(Xc (ws.map (·.1))).length<=1000)(s:Pn) :
  Uo [Zp n jI,.lst (Y1 ws)] s=some (Zp (Xc (ws.map (·.1))).length (Ym jI ws),s):=by
 have hws:(Y1 ws).length<=xg:=by unfold Y1;rw[qf,YO];omega
 have hcm:=Xu (src:=[none]) (fi:=YU (Zb 1)) (τ:=ZP 0) (ft:=Yu) (fe:=ZA X6 (Zc (Zb 0) Zd)) (ρ:=[some (Zp n jI),some (.lst (Y1 ws)),some (.dt (ZT [] jI)),none,none]) (s:=s) (ds:=Y1 ws) (λd=>[some d]) (λ_=>true) (λd=>match d with | .tup [_,.tup ts]=>.dt (ZT [] (ts.map V7)) | _=>.non) (Vr rfl) hws λd hd=>by
  obtain⟨w,hm,rfl⟩:=qt.mp hd;refine⟨rfl,rfl,λ_=>ZR (Zh rfl rfl) ?_⟩;rw[UV w.1 w.2 s (hw w hm).1];show _=some (D.dt (ZT [] ((w.2.map Zs).map V7)),s);rw[qC,show(V7∘Zs)=id from rfl,qbD]
 have em:((Y1 ws).filter λ_=>true).map (λd=>match d with | D.tup [_,.tup ts]=>D.dt (ZT [] (ts.map V7)) | _=>.non)=(ws.map (·.2)).map λts=>D.dt (ZT [] ts):=by
  rw[WQ];unfold Y1;rw[qC,qC];refine qX λw _=>?_;show D.dt (ZT [] ((w.2.map Zs).map V7))=_;rw[qC,show(V7∘Zs)=id from rfl,qbD];rfl
 rw[em]at hcm;have hcl:=Xu (src:=[none]) (fi:=YU (Zb 1)) (τ:=ZP 0) (ft:=Yu) (fe:=Ze Zx (Zb 0) (dC (.int 0))) (ρ:=[some (Zp n jI),some (.lst (Y1 ws)),some (.dt (ZT [] jI)),some (.lst ((ws.map (·.2)).map λts=>D.dt (ZT [] ts))),none]) (s:=s) (ds:=Y1 ws) (λd=>[some d]) (λ_=>true) (λd=>match d with | .tup [a,_]=>a | _=>.non) (Vr rfl) hws λd hd=>by
  obtain⟨w,hm,rfl⟩:=qt.mp hd;exact⟨rfl,rfl,λ_=>Zw (d:=Zp w.1 w.2) (e:=.int 0) rfl rfl W2⟩
 have el:((Y1 ws).filter λ_=>true).map (λd=>match d with | D.tup [a,_]=>a | _=>.non)=(ws.map (·.1)).map nD:=by
  rw[WQ];unfold Y1;rw[qC,qC];rfl
 rw[el]at hcl;refine Xd rfl (Wo (WH (ZR (Zh rfl rfl) (UV n jI s hl))) (Wo (WH hcm) ?_));unfold Ba;rw[if_pos (by simp)];have hs0:=ZfD (ws.map (·.1)) (by rw[qf];exact hwl) (λx hx=>by obtain⟨w,hm,rfl⟩:=qt.mp hx;exact(hw w hm).2) s;have c1:=Zh hcl (Zf6 (ρ:=[some (Zp n jI),some (.lst (Y1 ws)),some (.dt (ZT [] jI)),some (.lst ((ws.map (·.2)).map λts=>D.dt (ZT [] ts))),none]) (s:=s));have hsp:=ZR (F:=VS) c1 hs0;show Z2 _ [some (Zp n jI),some (.lst (Y1 ws)),some (.dt (ZT [] jI)),some (.lst ((ws.map (·.2)).map λts=>D.dt (ZT [] ts))),none] s=_;refine Xi (ZgE (cds:=[.lst ((ws.map (·.2)).map λts=>D.dt (ZT [] ts)),.dt (ZT [] jI)]) hsp rfl (by simp only[Yq];exact Zbe _) ?_ ?_ (ZbA _ _))
 ·have:YX ((ws.map (·.2)).map λts=>D.dt (ZT [] ts))=true:=JR λd hd=>by obtain⟨w,_,rfl⟩:=qt.mp hd;rfl
  simp only[YX,Yq,this];rfl
 have:=Zal (row:=.lst ((Xc (ws.map (·.1))).map Zs)) (ds:=(Xc (ws.map (·.1))).map Zs) (cds:=[.lst ((ws.map (·.2)).map λts=>D.dt (ZT [] ts)),.dt (ZT [] jI)]) (t:=3) (.inl rfl) (by rw[qf];exact hN) (λp=>putB jI (ws.map (·.2)) ((Xc (ws.map (·.1))).getD p.1 (0,0)) ((Xc (ws.map (·.1))).getD p.2 (0,0))) s (λp hpm=>by
  rw[qf]at hpm;have hpp:=U0.mp hpm;rw[B8 (by omega),B8 (by omega)];generalize ha:(Xc (ws.map (·.1))).getD p.1 (0,0)=a;generalize hb:(Xc (ws.map (·.1))).getD p.2 (0,0)=b;have ham:a∈Xc (ws.map (·.1)):=by
   rw[<-ha,qL,qI (show p.1<(Xc (ws.map (·.1))).length by omega)];exact qcm _
  have hal:a.1<ws.length:=by have:=(Zl4.mp ham).1;rw[qf]at this;exact this
  show Za1 [Zs a,Zs b,.lst ((ws.map (·.2)).map λts=>D.dt (ZT [] ts)),.dt (ZT [] jI)] s=_;refine Xd rfl ?_;have c0:YN (Ze V6 (Ze Zx (Zb 0) (dC (.int 0))) (Ze Zx (Zb 1) (dC (.int 0)))) [some (Zs a),some (Zs b),some (.lst ((ws.map (·.2)).map λts=>D.dt (ZT [] ts))),some (.dt (ZT [] jI))] s=some (((a.1:Nat):Int)==((b.1:Nat):Int),s):=Ws (Zw (d:=nD a.1) (e:=nD b.1) (Zw (d:=Zs a) (e:=.int 0) rfl rfl (WZ _ _)) (Zw (d:=Zs b) (e:=.int 0) rfl rfl (WZ _ _)) (eqi _ _));unfold putB;by_cases hab:a.1=b.1
  ·rw[if_pos hab]
   have e1:(((a.1:Nat):Int)==((b.1:Nat):Int))=true:=by rw[hab];simp
   rw[e1]at c0;refine Xt (Zoc c0 (Xt (Xi (ZR (Zh (Zw (d:=.lst ((ws.map (·.2)).map λts=>D.dt (ZT [] ts))) (e:=nD a.1) (c:=.dt (ZT [] ((ws.map (·.2)).getD a.1 []))) rfl (Zw (d:=Zs a) (e:=.int 0) rfl rfl (WZ _ _)) ?_) (Zh (Zw (d:=Zs a) (e:=.int 1) rfl rfl (V0 _ _ _)) (Zh (Zw (d:=Zs b) (e:=.int 1) rfl rfl (V0 _ _ _)) rfl))) (JF _ _ _ s)))));refine Vp ?_;rw[qu,qu,qL,qu,qI hal];rfl
  ·rw[if_neg hab]
   have e1:(((a.1:Nat):Int)==((b.1:Nat):Int))=false:=by simp;omega
   rw[e1]at c0;exact Wo (Zod c0 rfl) (Xt (Xi (ZR (Zh rfl (Zh (Zw (d:=Zs a) (e:=.int 0) rfl rfl (WZ _ _)) (Zh (Zw (d:=Zs b) (e:=.int 0) rfl rfl (WZ _ _)) rfl))) (JF _ _ _ s)))))
 rw[qf]at this;exact this
noncomputable def Z8 (jI:Qa)(a b:Nat):Bool:=decide (a=b)||tied jI a b
theorem ZnN {f g:Za->M D}{ρ:Za}{s:Pn}{a b:Bool}(h:f ρ s=some (.bl a,s))(h2:a=false->g ρ s=some (.bl b,s)):JB f g ρ s=some (.bl (a||b),s):=by
 unfold JB Zo;rw[h]
 cases a with
 | true=>rfl
 | false=>exact h2 rfl
theorem eqn (a b:Nat):V6 (nD a) (nD b)=some (.bl (decide (a=b))):=by
 rw[eqi];congr 2;rw[qat,beq_iff_eq,decide_eq_true_eq];omega
theorem Zam (jI:Qa)(a b:Nat)(s:Pn):JE [.dt (ZT [] jI),nD a,nD b] s=some (.bl (Z8 jI a b),s):=
 Xd rfl (Xt (Xi (ZnN (Zw rfl rfl (eqn a b)) λ_=>ZR (Zh rfl (Zh rfl (Zh rfl rfl))) (JF jI a b s))))
theorem Zb5 (lens:List Nat):Xc lens=Wj lens lens.length:=rfl
theorem ZdH (lens:List Nat):∀k,(Wj lens k).length=((qm k).map λi=>lens.getD i 0).sum
 | 0=>rfl
 | k+1=>by
  rw[Uk,qJ,ZdH lens k,qar,zf,List.sum_append];simp
theorem ZdI (m:Nat){lens:List Nat}:∀{k:Nat},(∀i<k,lens.getD i 0=m)->Wj lens k=(qm (k*m)).map λx=>(x / m,x % m)
 | 0,_=>by simp[Wj]
 | k+1,h=>by
  rw[Uk,ZdI m λi hi=>h i (by omega),h k (by omega),qal,List.range_add,zf,qC];congr 1;refine qX λj hj=>?_;have hj:=qQ.mp hj;show(k,j)=((k*m+j) / m,(k*m+j) % m);rw[qaZ k m,Nat.mul_add_div (by omega),qcq hj,Nat.mul_add_mod,Nat.mod_eq_of_lt hj];rfl
theorem ZkN (n m:Nat):Xc (qB n m)=(qm (n*m)).map λx=>(x / m,x % m):=by
 rw[Zb5,qcD];exact ZdI m λi hi=>by rw[qL,yr,if_pos hi];rfl
noncomputable def pairT (n m:Nat)(t1 t2:Qa):Qa:=(Yv (n*m)).filter λp=>Z8 t1 (p.1 / m) (p.2 / m)&&Z8 t2 (p.1 % m) (p.2 % m)
theorem Zl5 {f g:Za->M D}{ρ:Za}{s:Pn}{a b:Bool}(h:f ρ s=some (.bl a,s))(h2:g ρ s=some (.bl b,s)):Vf f g ρ s=some (.bl (a&&b),s):=Zlq h λ_=>h2
theorem ZfE (m:Nat):∀k:Nat,(qB k [nD m]).flatten=(qB k m).map nD
 | 0=>rfl
 | k+1=>by rw[ya,ya,zJ,ZfE m k];rfl
theorem ZfF (n m:Nat)(t1 t2:Qa)(h1:t1.length<=100000)(h2:t2.length<=100000)(hn:n<=1000)(hm:m<=1000)(hN:n*m<=1000)(s:Pn):JL [Zp n t1,Zp m t2] s=some (Zp (n*m) (pairT n m t1 t2),s):=by
 have hs0:=ZfD (qB n m) (by simp;omega) (λx hx=>by rw[(List.mem_replicate.mp hx).2];exact hm) s;rw[ZkN]at hs0;have hml:XR (.lst [nD m]) (nD n)=some (.lst ((qB n m).map nD)):=by
  rw[Zej _ _ ⟨by omega,by omega,by simp only[qbH,yO,YO];omega⟩];rw[yO,ZfE]
 have c1:=Zh (f:=Ze XR (Yy (Zc (Ze Zx (Zb 1) (dC (.int 0))) Zd)) (Ze Zx (Zb 0) (dC (.int 0)))) (ρ:=[some (Zp n t1),some (Zp m t2),some (.dt (ZT [] t1)),some (.dt (ZT [] t2)),none]) (s:=s) (Zw (d:=.lst [nD m]) (e:=nD n) (Zd1 (Zh (Zw (d:=Zp m t2) (e:=.int 0) rfl rfl W2) Zf6) (by show 1<=xg;decide)) (Zw (d:=Zp n t1) (e:=.int 0) rfl rfl W2) hml) Zf6;have hsp:=ZR (F:=VS) c1 hs0;refine Xd rfl (Wo (WH (ZR (Zh rfl rfl) (UV n t1 s h1))) (Wo (WH (ZR (Zh rfl rfl) (UV m t2 s h2))) ?_));unfold Ba;rw[if_pos (by simp)];show Z2 _ [some (Zp n t1),some (Zp m t2),some (.dt (ZT [] t1)),some (.dt (ZT [] t2)),none] s=_;refine Xi (ZgE (cds:=[.dt (ZT [] t1),.dt (ZT [] t2)]) hsp rfl (by simp only[Yq];exact Zbe _) rfl ?_ (ZbA _ _));have:=Zal (row:=.lst (((qm (n*m)).map λx=>(x / m,x % m)).map Zs)) (ds:=((qm (n*m)).map λx=>(x / m,x % m)).map Zs) (cds:=[.dt (ZT [] t1),.dt (ZT [] t2)]) (t:=4) (.inl rfl) (by simp;exact hN) (λp=>Z8 t1 (p.1 / m) (p.2 / m)&&Z8 t2 (p.1 % m) (p.2 % m)) s (λp hpm=>by
  simp only[qf,qW]at hpm;have hpp:=U0.mp hpm;rw[B8 (by simp;omega),B8 (by simp;omega)];have g:∀i,i<n*m->((qm (n*m)).map λx=>(x / m,x % m)).getD i (0,0)=(i / m,i % m):=λi hi=>by
   rw[qL,qu,zI hi];rfl
  rw[g _ (by omega),g _ (by omega)];show Zan [Zs (p.1 / m,p.1 % m),Zs (p.2 / m,p.2 % m),.dt (ZT [] t1),.dt (ZT [] t2)] s=_;exact Xd rfl (Xt (Xi (Zl5 (ZR (Zh rfl (Zh (Zw (d:=Zs (p.1 / m,p.1 % m)) (e:=.int 0) rfl rfl (WZ _ _)) (Zh (Zw (d:=Zs (p.2 / m,p.2 % m)) (e:=.int 0) rfl rfl (WZ _ _)) rfl))) (Zam t1 _ _ s)) (ZR (Zh rfl (Zh (Zw (d:=Zs (p.1 / m,p.1 % m)) (e:=.int 1) rfl rfl (V0 _ _ _)) (Zh (Zw (d:=Zs (p.2 / m,p.2 % m)) (e:=.int 1) rfl rfl (V0 _ _ _)) rfl))) (Zam t2 _ _ s))))))
 simp only[qf,qW]at this;exact this
theorem mulN (a b:Nat)(h:a<1000000):VG (nD a) (nD b)=some (nD (a*b)):=by
 show(if Bq (a:Int) (b:Int)=true then some (D.int ((a:Int)*(b:Int)))else none)=_;rw[if_pos (by unfold Bq;simp;left;omega)];simp[nD]
theorem Jy (a b:Nat):Z4 (nD a) (nD b)=some (nD (a+b)):=by
 show some (D.int ((a:Int)+(b:Int)))=_;rfl
theorem maxN (a b:Nat):Jj [nD a,nD b]=some (nD (max a b)):=by
 show some (D.int (if (b:Int) > (a:Int)then (b:Int)else (a:Int)))=_;rw[Znl]
noncomputable def Webs (lim:Nat)(ws:List (Nat×Qa)):Prop:=(∀w∈ws,IsWeb w.1 w.2)/\(ws.map (·.1)).sum<=lim
theorem Webs.le {lim:Nat}{ws:List (Nat×Qa)}(h:Webs lim ws):∀w∈ws,w.1<=lim:=λw hw=>by
 have:=h.2;have h2:∀{l:List Nat} {x:Nat},x∈l->x<=l.sum:=λ{l x} hx=>by
  induction l with
  | nil=>cases hx
  | cons a l ih=>
   rw[List.sum_cons];rcases qp.mp hx with e | e
   ·omega
   ·have:=ih e;omega
 have:=h2 (qaf (f:=(·.1)) hw);omega
theorem Be (ws:List (Nat×Qa)):(Xc (ws.map (·.1))).length=(ws.map (·.1)).sum:=by
 rw[Zb5,ZdH];congr 1;apply yc;intro i;rw[qu];by_cases h:i<(ws.map (·.1)).length
 ·rw[zI h,qI h,yE,qL,qI h];rfl
 ·rw[zj (by simp at h⊢;omega),zj (by omega)];rfl
theorem ZdJ (ws:List (Nat×Qa)):Ye [.lst (Y1 ws)]=some (nD ws.length):=by
 show some (D.int ((Y1 ws).length:Nat))=_;unfold Y1;rw[qf]
structure WsOk (ws:List (Nat×Qa)):Prop where
 len:ws.length<=100
 sum:(ws.map (·.1)).sum<=24
 web:∀w∈ws,IsWeb w.1 w.2
theorem WsOk.le {ws:List (Nat×Qa)}(h:WsOk ws):∀w∈ws,w.1<=24:=Webs.le ⟨h.web,h.sum⟩
theorem WsOk.big {ws:List (Nat×Qa)}(h:WsOk ws):∀w∈ws,w.2.length<=100000/\w.1<=1000:=λw hm=>by
 have h1:=h.le w hm;have h2:=(h.web w hm).len h1;exact⟨by omega,by omega⟩
noncomputable abbrev VO (ws:List (Nat×Qa)):Nat:=(ws.map (·.1)).sum
theorem Zbf (jI:Qa)(ws:List (Nat×Qa)):IsWeb (VO ws) (Ym jI ws):=by
 show IsWeb (ws.map (·.1)).sum _;rw[<-Be];exact IsWeb.filter _
theorem ZdK (n:Nat)(jI:Qa){ws:List (Nat×Qa)}(hl:jI.length<=100000)(h:WsOk ws)(s:Pn):Uo [Zp n jI,.lst (Y1 ws)] s=some (Zp (VO ws) (Ym jI ws),s):=by
 have:=ZiX n jI ws hl h.big (by have:=h.len;omega) (by rw[Be];have:=h.sum;omega) s;rw[Be]at this;exact this
theorem ZiY {ws:List (Nat×Qa)}(h:WsOk ws)(s:Pn):JU [.lst (Y1 ws)] s=some (Zp (VO ws) (Ym [] ws),s):=
 Xd rfl (Xt (Xi (ZR (ds:=[Zp ws.length [],.lst (Y1 ws)]) (Zh (Wr (Zh (YB (Zh rfl rfl) (ZdJ ws)) (Zh rfl rfl)) two_le) (Zh rfl rfl)) (ZdK _ [] (zR _) h s))))
theorem ZgG (n:Nat):((Yv n).filter λp=>!decide (p∈([]:Qa)))=Yv n:=qaL.mpr λp _=>by simp
theorem ZiZ {ws:List (Nat×Qa)}(h:WsOk ws)(s:Pn):Ug [.lst (Y1 ws)] s=some (Zp (VO ws) (Ym (Yv ws.length) ws),s):=by
 have hln:=h.len;have ht:=ZgF ws.length [] s (by omega) (zR _);rw[ZgG]at ht;have hal:(Yv ws.length).length<=100000:=by
  have h1:=JS ws.length ws.length;have h2:ws.length*ws.length<=100*100:=qai hln hln;unfold Yv;omega
 exact Xd rfl (Xt (Xi (ZR (ds:=[Zp ws.length (Yv ws.length),.lst (Y1 ws)]) (Zh (ZR (ds:=[Zp ws.length []]) (Zh (Wr (Zh (YB (Zh rfl rfl) (ZdJ ws)) (Zh rfl rfl)) two_le) rfl) ht) (Zh rfl rfl)) (ZdK _ _ hal h s))))
noncomputable def Y4 (ws:List (Nat×Qa))(k:Nat):Nat:=(Wj (ws.map (·.1)) k).length
theorem ZcT (ws:List (Nat×Qa))(k:Nat):Y4 ws (k+1)=Y4 ws k+(ws.map (·.1)).getD k 0:=by
 unfold Y4;rw[Uk,qJ,qf,qW]
theorem ZkO (ws:List (Nat×Qa)){k l:Nat}(h:k<=l):Y4 ws k<=Y4 ws l:=by
 induction l with
 | zero=>rw[Nat.le_zero.mp h];exact qk _
 | succ l ih=>
  rcases qb1 h with h | h
  ·rw[ZcT];have:=ih (by omega);omega
  ·rw[h];exact qk _
theorem Zl6 (ws:List (Nat×Qa)):Y4 ws ws.length=VO ws:=by
 unfold Y4;rw[show VO ws=(ws.map (·.1)).sum from rfl,<-Be,Zb5,qf]
theorem ZkP (lens:List Nat){k l:Nat}(h:k<=l):∃r,Wj lens l=Wj lens k++r:=by
 induction l with
 | zero=>rw[Nat.le_zero.mp h];exact⟨[],by simp⟩
 | succ l ih=>
  rcases qb1 h with h | h
  ·obtain⟨r,e⟩:=ih (by omega)
   exact⟨r++(qm (lens.getD l 0)).map λj=>(l,j),by rw[Uk,e,qK]⟩
  ·rw[h];exact⟨[],by simp⟩
theorem ZkQ {ws:List (Nat×Qa)}{k j:Nat}(hk:k<ws.length)(hj:j<(ws.map (·.1)).getD k 0):(Xc (ws.map (·.1))).getD (Y4 ws k+j) (0,0)=(k,j):=by
 obtain⟨r,e⟩:=ZkP (ws.map (·.1)) (k:=k+1) (l:=(ws.map (·.1)).length) (by rw[qf];omega);rw[Zb5,e,Uk,qK];unfold Y4;rw[qL,zM (by omega),qae,zw (by rw[qf,qW];exact hj),qu,zI hj];rfl
theorem ZnO {ws:List (Nat×Qa)}{k j:Nat}(hk:k<ws.length)(hj:j<(ws.map (·.1)).getD k 0):Y4 ws k+j<VO ws:=by
 have h1:=ZkO ws (show k+1<=ws.length by omega);rw[ZcT,Zl6]at h1;omega
theorem Zaw {N:Nat}{B:Nat×Nat->Bool}{a b:Nat}(h:a<b)(hb:b<N):tied ((Yv N).filter B) a b=B (a,b):=by
 rw[WI h,qat,decide_eq_true_eq,qA];exact⟨λz=>z.2,λz=>⟨U0.mpr ⟨h,hb⟩,z⟩⟩
theorem ZfG {jI:Qa}{ws:List (Nat×Qa)}{k l i j:Nat}(hk:k<ws.length)(hl:l<ws.length)(hi:i<(ws.map (·.1)).getD k 0)(hj:j<(ws.map (·.1)).getD l 0)(h:Y4 ws k+i<Y4 ws l+j) :
  tied (Ym jI ws) (Y4 ws k+i) (Y4 ws l+j)=putB jI (ws.map (·.2)) (k,i) (l,j):=by
 have hb:=ZnO hl hj;unfold Ym;rw[Zaw h (by rw[Be];exact hb)];simp only[ZkQ hk hi,ZkQ hl hj]
theorem ZcU (t:Qa)(a:Nat):Z8 t a a=true:=by unfold Z8;simp
theorem Zep {n m i a:Nat}(hi:i<n)(ha:a<m):i*m+a<n*m:=by
 have h1:(i+1)*m<=n*m:=qbd m (by omega);rw[qal]at h1;omega
theorem Je {m i a:Nat}(ha:a<m):(i*m+a) / m=i/\(i*m+a) % m=a:=by
 rw[qaZ i m,Nat.mul_add_div (by omega),qcq ha,Nat.mul_add_mod,Nat.mod_eq_of_lt ha];exact⟨rfl,rfl⟩
noncomputable abbrev Wb:=Nat×Qa
noncomputable abbrev lns (ws:List Wb):List Nat:=ws.map (·.1)
theorem ZcV (t:Qa)(a b:Nat):Z8 t a b=Z8 t b a:=by
 unfold Z8;rw[XX,show decide (a=b)=decide (b=a)from decide_eq_decide.mpr eq_comm]
theorem ZcW {n m x y:Nat}{t1 t2:Qa}(h:x≠y)(hx:x<n*m)(hy:y<n*m):tied (pairT n m t1 t2) x y=(Z8 t1 (x / m) (y / m)&&Z8 t2 (x % m) (y % m)):=by
 unfold pairT;rcases Nat.lt_or_ge x y with h1 | h1
 ·rw[Zaw h1 hy]
 ·rw[XX,Zaw (by omega) hx]
  show(Z8 t1 (y / m) (x / m)&&Z8 t2 (y % m) (x % m))=_;rw[ZcV t1,ZcV t2]
theorem Zl7 (u v:Wb):Y4 [u,v] 0=0/\Y4 [u,v] 1=u.1:=by
 have h0:Y4 [u,v] 0=0:=rfl;refine⟨h0,?_⟩;rw[ZcT,h0];show 0+u.1=u.1;omega
end TQ
namespace TQ
open L2 TF TS
open TP
open TP2 hiding g_all_near F_all_near g_counted F_counted
open TP3 hiding g_full_knots F_full_knots
noncomputable abbrev Ue (n:Nat)(jI:Qa):D:=.tup [nD n,.dt (ZT [] jI)]
theorem mk0 {n:Nat}{jI:Qa}:Zx (Ue n jI) (.int 0)=some (nD n):=WZ _ _
theorem mk1 {n:Nat}{jI:Qa}:Zx (Ue n jI) (.int 1)=some (.dt (ZT [] jI)):=V0 _ _ _
theorem ZkR (n:Nat)(jI:Qa)(p:Nat)(s:Pn)(hn:n<=100000):Vw [Ue n jI,.int p] s=some (.lst ((Wf n jI p).map nD),s):=by
 refine Xd rfl (Xt (Xi ?_));unfold Wf;show _=some (D.lst (((qm n).filter λo=>tied jI p o).map λ(i:Nat)=>D.int (i:Int)),s);rw[<-ZbH];refine Xu (ds:=Z9 0 n) (λd=>[some d,some (Ue n jI),some (.int p)]) (λd=>tied jI p (Yz d)) (λd=>d) (Wm (Zw (d:=Ue n jI) (e:=.int 0) rfl rfl mk0) hn) (J8 hn) ?_;intro d hd;obtain⟨i,hi,rfl⟩:=UT hd;exact⟨rfl,Ws (ZR (Zh (Zw (d:=Ue n jI) (e:=.int 1) rfl rfl mk1) (Zh rfl (Zh rfl rfl))) (JF jI p i s)),λ_=>rfl⟩
noncomputable def gN:Za->M Out:=(Zn (YE 1 (Yk (Zc (Ze Zx (Zb 0) (dC (.int 0))) (Zc (ZA X6 (Zc (Zb 0) Zd)) Zd))))
 (Zn (Z2 (YC [none,some 1] (YZ (Ze Zx (Zb 0) (dC (.int 0)))) (ZP 0) Yu (ZA Vw (Zc (Zb 1) (Zc (Zb 0) Zd)))))
 ZJ))
theorem Zeq (n:Nat)(jI:Qa)(hn:n<=1000)(hl:jI.length<=100000)(s:Pn):runB 2 1 gN [Zp n jI] s=some (Xe n jI,s):=by
 refine Xd rfl (Wo (WH (Wr (Zh (Zw (d:=Zp n jI) (e:=.int 0) rfl rfl W2) (Zh (ZR (Zh rfl rfl) (UV n jI s hl)) rfl)) two_le)) (Xt (Xi ?_)));have hc:=Xu (src:=[none,some 1]) (fi:=YZ (Ze Zx (Zb 0) (dC (.int 0)))) (τ:=ZP 0) (ft:=Yu) (fe:=ZA Vw (Zc (Zb 1) (Zc (Zb 0) Zd))) (ρ:=[some (Zp n jI),some (Ue n jI)]) (s:=s) (ds:=Z9 0 n) (λd=>[some d,some (Ue n jI)]) (λ_=>true) (λd=>.lst ((Wf n jI (Yz d)).map nD)) (Wm (Zw (d:=Zp n jI) (e:=.int 0) rfl rfl W2) (by omega)) (J8 (by omega)) λd hd=>by
  obtain⟨i,hi,rfl⟩:=UT hd;exact⟨rfl,rfl,λ_=>ZR (Zh rfl (Zh rfl rfl)) (ZkR n jI i s (by omega))⟩
 rw[WQ,Us,qC]at hc;exact hc
theorem ZcX {n k:Nat}{g g':Za->M Out}{ds:List D}{s:Pn}(h:g (ds.map some++qB (n-k) none) s=g' (ds.map some++qB (n-k) none) s):runB n k g ds s=runB n k g' ds s:=by
 unfold runB;split
 ·unfold Zo;rw[h]
 ·rfl
end TQ
namespace TQ
open L2 TF TS
open TP
open TP2
open TP3
section
variable (ap:Nat->Nat->Bool)
end
section
variable {ap:Nat->Nat->Bool}
end
section
variable {n:Nat}{A:Nat->List Nat}{ap:Nat->Nat->Bool}
end
end TQ
namespace TP3
open L2 TF TP TS
open TP2
section
variable {n:Nat}{jI:Qa}
end
end TP3
namespace TQ
open L2 TF TS
open TP
open TP2 hiding g_all_near F_all_near g_counted F_counted
open TP3 hiding g_full_knots F_full_knots
theorem ZmE (n:Nat)(jI:Qa)(hn:n<=1000)(hl:jI.length<=100000)(s:Pn):F_all_near [Zp n jI] s=some (Xe n jI,s):=Zeq n jI hn hl s
theorem Zbg (n:Nat)(jI:Qa)(hw:IsWeb n jI)(hn:n<=10)(s:Pn):F_full_knots [Zp n jI] s=some (.lst (UD n jI),s):=by
 have hl:=hw.len (show n<=24 by omega);rw[<-Zdc n jI hw hn s];refine ZcX ?_;exact(Wo (WH (ZR (Zh rfl rfl) (ZmE n jI (by omega) (by omega) s))) rfl).trans (Wo (WH (ZR (Zh rfl rfl) (BX n jI (by omega) s))) rfl).symm
theorem BY (n:Nat)(jI:Qa)(hw:IsWeb n jI)(hn:n<=20)(s:Pn):F_counted [Zp n jI] s=some (.lst (YM (ZF (Zl jI n)) (Zl jI n)),s):=by
 have hl:=hw.len (show n<=24 by omega);rw[<-ZgB n jI hn s];refine ZcX ?_;exact(Wo (WH (ZR (Zh (ZR (Zh rfl rfl) (ZmE n jI (by omega) (by omega) s)) rfl) (BU n jI hn s))) rfl).trans (Wo (WH (ZR (Zh (ZR (Zh rfl rfl) (BX n jI (by omega) s)) rfl) (BU n jI hn s))) rfl).symm
section
variable {jI:Qa}{ws:List Wb}
noncomputable abbrev nuOf (ws:List Wb)(p:Nat):Nat:=(lns ws).getD p 0
noncomputable abbrev tiOf (ws:List Wb)(p:Nat):Qa:=(ws.map (·.2)).getD p []
theorem Zi0 {k l i j:Nat}(hk:k<ws.length)(hl:l<ws.length)(hi:i<nuOf ws k)(hj:j<nuOf ws l)(h:Y4 ws k+i≠Y4 ws l+j) :
  tied (Ym jI ws) (Y4 ws k+i) (Y4 ws l+j)=if k=l then tied (tiOf ws k) i j else tied jI k l:=by
 rcases Nat.lt_or_gt_of_ne h with h | h
 ·rw[ZfG hk hl hi hj h];rfl
 ·rw[XX,ZfG hl hk hj hi h]
  show(if l=k then tied (tiOf ws l) j i else tied jI l k)=_;by_cases e:k=l
  ·subst e;rw[if_pos rfl,if_pos rfl,XX]
  ·rw[if_neg (λz=>e z.symm),if_neg e,XX]
end
theorem ZkS {l:List Nat}{b:Nat}(h1:∀x∈l,x<=b)(h2:b∈l):ZF l=b:=Nat.le_antisymm (ZnL h1) (Vy h2)
section
variable {n m:Nat}{t1 t2 T:Qa}
theorem ZcY {x y:Nat}(hx:x<n+m)(hy:y<n+m)(ne:x≠y):tied (Ym T [(n,t1),(m,t2)]) x y=if x<n/\y<n then tied t1 x y else if n<=x/\n<=y then tied t2 (x-n) (y-n)else tied T 0 1:=by
 have inv:∀z,z<n+m->∃k i,k<2/\i<nuOf [(n,t1),(m,t2)] k/\z=Y4 [(n,t1),(m,t2)] k+i/\(k=0->z=i/\z<n)/\(k=1->z=n+i):=λz hz=>by
  obtain⟨b0,b1⟩:=Zl7 (n,t1) (m,t2);by_cases h:z<n
  ·exact⟨0,z,by omega,h,by rw[b0];omega,λ_=>⟨rfl,h⟩,λe=>by omega⟩
  ·exact⟨1,z-n,by omega,by show z-n<m;omega,by rw[b1];show z=n+(z-n);omega,λe=>by omega,λ_=>by omega⟩
 obtain⟨k,i,hk,hi,e1,f1,g1⟩:=inv x hx;obtain⟨l,j,hl,hj,e2,f2,g2⟩:=inv y hy;have:=Zi0 (jI:=T) (ws:=[(n,t1),(m,t2)]) hk hl hi hj (by rw[<-e1,<-e2];exact ne);rw[<-e1,<-e2]at this;rw[this]
 match k,l,hk,hl with
 | 0,0,_,_=>
  obtain⟨a1,a2⟩:=f1 rfl;obtain⟨a3,a4⟩:=f2 rfl;rw[if_pos rfl,if_pos ⟨a2,a4⟩,a1,a3];rfl
 | 1,1,_,_=>
  have a1:=g1 rfl;have a3:=g2 rfl;rw[if_pos rfl,if_neg (by omega),if_pos (by omega),a1,a3,qae,qae];rfl
 | 0,1,_,_=>
  obtain⟨a1,a2⟩:=f1 rfl;have a3:=g2 rfl;rw[if_neg (by omega),if_neg (by omega),if_neg (by omega)]
 | 1,0,_,_=>
  obtain⟨a1,a2⟩:=f2 rfl;have a3:=g1 rfl;rw[if_neg (by omega),if_neg (by omega),if_neg (by omega),XX]
theorem ZdL:tied (Yv 2) 0 1=true:=by decide
end
noncomputable abbrev up (n:Nat)(b:List Nat):List Nat:=b.map λx=>n+x
theorem ZcZ (n:Nat):∀{k:List Nat},k.Pairwise (· < ·)->k=(k.filter λx=>decide (x<n))++up n ((k.filter λx=>decide (n<=x)).map λx=>x-n)
 | [],_=>rfl
 | x::k,h=>by
  obtain⟨h1,h2⟩:=yi.mp h;by_cases hx:x<n
  ·rw[qbw (by simpa using hx),qbx (by simp;omega),qa5,<-ZcZ n h2]
  ·have e:k.filter (λx=>decide (x<n))=[]:=qcC.mpr λy hy=>by have:=h1 y hy;simp;omega
   have e2:k.filter (λx=>decide (n<=x))=k:=qaL.mpr λy hy=>by have:=h1 y hy;simp;omega
   rw[qbx (by simpa using hx),qbw (by simp;omega),e,e2,qap];unfold up;rw[qC,qY];congr 1
   ·simp;omega
   ·conv=>lhs;rw[<-qbD k]
    exact qX λy hy=>by have:=h1 y hy;simp;omega
theorem ZkT {n:Nat}{a b:List Nat}(ha:∀x∈a,x<n):(a++up n b).filter (λx=>decide (x<n))=a:=by
 rw[List.filter_append,qaL.mpr λx hx=>by simpa using ha x hx,qcC.mpr λx hx=>?_,zB];obtain⟨y,_,rfl⟩:=qt.mp hx;simp
theorem ZhF {n:Nat}{a b a' b':List Nat}(ha:∀x∈a,x<n)(ha':∀x∈a',x<n)(e:a++up n b=a'++up n b'):a=a'/\b=b':=by
 have h1:a=a':=by rw[<-ZkT (b:=b) ha,e,ZkT ha']
 subst h1;exact⟨rfl,(qb4 λx y h=>by omega).mp (List.append_cancel_left e)⟩
section
variable {n m:Nat}{t1 t2 T:Qa}
theorem ZhG (h1:IsWeb n t1){x y:Nat}(hx:x<n)(hy:y<n):tied (Ym T [(n,t1),(m,t2)]) x y=tied t1 x y:=by
 by_cases e:x=y
 ·subst e
  rw[jo h1];exact jo (Zbf T [(n,t1),(m,t2)]) x
 ·rw[ZcY (by omega) (by omega) e,if_pos ⟨hx,hy⟩]
theorem ZhH (h2:IsWeb m t2){x y:Nat}(hx:x<m)(hy:y<m):tied (Ym T [(n,t1),(m,t2)]) (n+x) (n+y)=tied t2 x y:=by
 by_cases e:x=y
 ·subst e
  rw[jo h2];exact jo (Zbf T [(n,t1),(m,t2)]) _
 ·rw[ZcY (by omega) (by omega) (by omega),if_neg (by omega),if_pos (by omega),qae,qae]
theorem Bz {x y:Nat}(hx:x<n)(hy:y<m):tied (Ym T [(n,t1),(m,t2)]) x (n+y)=tied T 0 1:=by
 rw[ZcY (by omega) (by omega) (by omega),if_neg (by omega),if_neg (by omega)]
theorem Zer (h1:IsWeb n t1)(h2:IsWeb m t2){k:List Nat}:k∈kn (Ym T [(n,t1),(m,t2)]) (n+m)↔∃a∈kn t1 n,∃b∈kn t2 m,k=a++up n b/\(tied T 0 1=true∨a=[]∨b=[]):=by
 constructor
 ·intro hk
  obtain⟨q1,q2,q3⟩:=Y6.mp hk;have hs:=ZcZ n q1;generalize ea:k.filter (λx=>decide (x<n))=a at hs;generalize eb:(k.filter (λx=>decide (n<=x))).map (λx=>x-n)=b at hs;have ha:∀x∈a,x∈k/\x<n:=λx hx=>by rw[<-ea]at hx;simpa using hx
  have hb:∀x∈b,n+x∈k/\x<m:=λx hx=>by
   rw[<-eb]at hx;obtain⟨y,hy,rfl⟩:=qt.mp hx;have hy:=qA.mp hy;have h3:n<=y:=by simpa using hy.2
   have:=q2 y hy.1;rw[show n+(y-n)=y by omega];exact⟨hy.1,by omega⟩
  refine⟨a,Y6.mpr ⟨ea▸q1.sublist za,λx hx=>(ha x hx).2,λx hx y hy e=>?_⟩,b,Y6.mpr ⟨?_,λx hx=>(hb x hx).2,λx hx y hy e=>?_⟩,hs,?_⟩
  ·rw[<-ZhG (m:=m) (t2:=t2) (T:=T) h1 (ha x hx).2 (ha y hy).2]
   exact q3 x (ha x hx).1 y (ha y hy).1 e
  ·rw[hs]at q1
   exact(zG.mp (qN.mp q1).2.1).imp λh=>by omega
  ·rw[<-ZhH (n:=n) (t1:=t1) (T:=T) h2 (hb x hx).2 (hb y hy).2]
   exact q3 _ (hb x hx).1 _ (hb y hy).1 (by omega)
  ·cases a with
   | nil=>exact .inr (.inl rfl)
   | cons x a=>
    cases b with
    | nil=>exact .inr (.inr rfl)
    | cons y b=>
     have hx:=ha x (by simp);have hy:=hb y (by simp);refine .inl ?_;rw[<-Bz (t1:=t1) (t2:=t2) (T:=T) hx.2 hy.2];exact q3 _ hx.1 _ hy.1 (by omega)
 ·rintro⟨a,ha,b,hb,rfl,hc⟩
  obtain⟨p1,p2,p3⟩:=Y6.mp ha;obtain⟨r1,r2,r3⟩:=Y6.mp hb;have hab:∀x∈a,∀y∈b,tied T 0 1=true:=λx hx y hy=>by
   rcases hc with h | rfl | rfl
   ·exact h
   ·cases hx
   ·cases hy
  refine Y6.mpr ⟨qN.mpr ⟨p1,zG.mpr (r1.imp λh=>by omega),λx hx y hy=>?_⟩,λo ho=>?_,λx hx y hy e=>?_⟩
  ·obtain⟨z,_,rfl⟩:=qt.mp hy
   have:=p2 x hx;omega
  ·rcases qO.mp ho with h | h
   ·have:=p2 o h;omega
   ·obtain⟨z,hz,rfl⟩:=qt.mp h
    have:=r2 z hz;omega
  ·rcases qO.mp hx with hx | hx <;> rcases qO.mp hy with hy | hy
   ·rw[ZhG h1 (p2 x hx) (p2 y hy)];exact p3 x hx y hy e
   ·obtain⟨z,hz,rfl⟩:=qt.mp hy
    rw[Bz (p2 x hx) (r2 z hz)];exact hab x hx z hz
   ·obtain⟨z,hz,rfl⟩:=qt.mp hx
    rw[XX,Bz (p2 y hy) (r2 z hz)];exact hab y hy z hz
   ·obtain⟨z,hz,rfl⟩:=qt.mp hx
    obtain⟨u,hu,rfl⟩:=qt.mp hy;rw[ZhH h2 (r2 z hz) (r2 u hu)];exact r3 z hz u hu (by omega)
noncomputable def UE (n:Nat)(A B:List (List Nat)):List (List Nat):=A.flatMap λa=>B.map λb=>a++up n b
theorem ZaA {A B:List (List Nat)}{k:List Nat}:k∈UE n A B↔∃a∈A,∃b∈B,k=a++up n b:=by
 unfold UE;simp only[yV,qt];constructor
 ·rintro⟨a,ha,b,hb,rfl⟩;exact⟨a,ha,b,hb,rfl⟩
 ·rintro⟨a,ha,b,hb,rfl⟩;exact⟨a,ha,b,hb,rfl⟩
theorem Zax {A B:List (List Nat)}(ha:A.Nodup)(hb:B.Nodup)(hl:∀a∈A,∀x∈a,x<n):(UE n A B).Nodup:=by
 unfold UE;refine qcH.mpr ⟨λa h=>zG.mpr (hb.imp λh3 e=>h3 (ZhF (hl a h) (hl a h) e).2),?_⟩;refine qbp (λ{a a'} h h' ne x hx y hy e=>?_) ha;obtain⟨b,_,rfl⟩:=qt.mp hx;obtain⟨b',_,rfl⟩:=qt.mp hy;exact ne (ZhF (hl a h) (hl a' h') e).1
theorem Zi1 (h1:IsWeb n t1)(h2:IsWeb m t2)(hT:tied T 0 1=true):(kn (Ym T [(n,t1),(m,t2)]) (n+m)).Perm (UE n (kn t1 n) (kn t2 m)):=
 (yg (Xg _ _) (Zax (Xg _ _) (Xg _ _) λa ha=>(Y6.mp ha).2.1)).mpr λk=>by
  rw[Zer h1 h2,ZaA];constructor
  ·rintro⟨a,ha,b,hb,e,_⟩;exact⟨a,ha,b,hb,e⟩
  ·rintro⟨a,ha,b,hb,e⟩;exact⟨a,ha,b,hb,e,.inl hT⟩
theorem Zi2 (h1:IsWeb n t1)(h2:IsWeb m t2)(hT:tied T 0 1=false):(kn (Ym T [(n,t1),(m,t2)]) (n+m)).Perm ([]::((kn t1 n).tail++(kn t2 m).tail.map (up n))):=by
 obtain⟨r1,e1⟩:=U8 t1 n;obtain⟨r2,e2⟩:=U8 t2 m;have n1:=Xg t1 n;have n2:=Xg t2 m;rw[e1]at n1;rw[e2]at n2;have n1:=zV.mp n1;have n2:=zV.mp n2;refine(yg (Xg _ _) ?_).mpr λk=>?_
 ·rw[e1,e2,qaG,qaG]
  refine zV.mpr ⟨λh=>?_,List.nodup_append.mpr ⟨n1.2,zG.mpr (n2.2.imp λh e=>h ((qb4 λx y h=>by omega).mp e)),λa ha b hb e=>?_⟩⟩
  ·rcases qO.mp h with h | h
   ·exact n1.1 h
   ·obtain⟨b,hb,e⟩:=qt.mp h
    have:=List.map_eq_nil_iff.mp e;exact n2.1 (this▸hb)
  ·obtain⟨c,hc,rfl⟩:=qt.mp hb
   subst e
   cases c with
   | nil=>exact n2.1 hc
   | cons y c=>
    have:n+y<n:=(Y6.mp (e1▸qM _ ha:up n (y::c)∈kn t1 n)).2.1 _ (by simp);omega
 ·rw[Zer h1 h2,e1,e2,qaG,qaG]
  simp only[hT,qR,false_or,qp,qO,qt];constructor
  ·rintro⟨a,ha,b,hb,rfl,hc⟩
   rcases hc with rfl | rfl
   ·rcases hb with rfl | hb
    ·exact .inl rfl
    ·exact .inr (.inr ⟨b,hb,rfl⟩)
   ·rcases ha with rfl | ha
    ·exact .inl rfl
    ·exact .inr (.inl (by simpa[up]using ha))
  ·rintro(rfl | h | ⟨b,hb,rfl⟩)
   ·exact⟨[],.inl rfl,[],.inl rfl,rfl,.inl rfl⟩
   ·exact⟨k,.inr h,[],.inl rfl,by simp[up],.inr rfl⟩
   ·exact⟨[],.inl rfl,b,.inr hb,rfl,.inl rfl⟩
theorem ZfH (h1:IsWeb n t1)(h2:IsWeb m t2)(hT:tied T 0 1=true):(Zl (Ym T [(n,t1),(m,t2)]) (n+m)).Perm ((Zl t1 n).flatMap λa=>(Zl t2 m).map λb=>a+b):=by
 refine((Zi1 h1 h2 hT).map qak).trans (.of_eq ?_);unfold UE Zl;rw[List.map_flatMap,List.flatMap_map];refine congrArg (λf=>List.flatMap f (kn t1 n)) (funext λa=>?_);rw[qC,qC];exact qX λb _=>by simp[up]
theorem ZfI (h1:IsWeb n t1)(h2:IsWeb m t2)(hT:tied T 0 1=false):(Zl (Ym T [(n,t1),(m,t2)]) (n+m)).Perm (0::((Zl t1 n).tail++(Zl t2 m).tail)):=by
 refine((Zi2 h1 h2 hT).map qak).trans (.of_eq ?_);unfold Zl;rw[qY,zf,qC,List.map_tail,List.map_tail];congr 2
 ·refine congrArg List.tail (qX λb _=>by simp[up])
theorem ZhI {l l':List Nat}(h:l.Perm l'):ZF l=ZF l':=by
 refine Nat.le_antisymm ?_ ?_
 ·exact UP l _ (λx hx=>Vy (h.mem_iff.mp hx)) 0 (by omega)
 ·exact UP l' _ (λx hx=>Vy (h.mem_iff.mpr hx)) 0 (by omega)
noncomputable abbrev sg (k:Nat)(f:Nat->Nat):Nat:=((qm k).map f).sum
theorem Uu (k:Nat)(f:Nat->Nat):sg (k+1) f=sg k f+f k:=by
 unfold sg;rw[qar,zf,List.sum_append];simp
theorem ZkU (k:Nat)(f g:Nat->Nat):sg k (λi=>f i+g i)=sg k f+sg k g:=by
 induction k with
 | zero=>rfl
 | succ k ih=>rw[Uu,Uu,Uu,ih];omega
theorem Zbh {k:Nat}{f g:Nat->Nat}(h:∀i<k,f i=g i):sg k f=sg k g:=by
 unfold sg;rw[qX λi hi=>h i (qQ.mp hi)]
theorem Zb6 {k:Nat}{f:Nat->Nat}(h:∀i<k,f i=0):sg k f=0:=by
 rw[Zbh h]
 induction k with
 | zero=>rfl
 | succ k ih=>rw[Uu,ih λi hi=>h i (by omega)]
theorem ZkV {k x:Nat}(h:x<k)(f:Nat->Nat):sg k (λi=>if i=x then f i else 0)=f x:=by
 induction k with
 | zero=>omega
 | succ k ih=>
  rw[Uu];by_cases e:k=x
  ·subst e
   rw[Zb6 λi hi=>if_neg (by omega),if_pos rfl,yS]
  ·rw[ih (by omega),if_neg e];rfl
noncomputable def Uf (M2:Nat)(c1:Nat)(l2:List Nat)(i s:Nat):Nat:=sg M2 λj=>if i+j=s then c1*l2.count j else 0
noncomputable def cv (M1 M2:Nat)(l1 l2:List Nat)(s:Nat):Nat:=sg M1 λi=>Uf M2 (l1.count i) l2 i s
theorem Zi3 {M2 a s:Nat}:∀{l2:List Nat},(∀x∈l2,x<M2)->(l2.map λb=>a+b).count s=Uf M2 1 l2 a s:=by
 intro l2 h;unfold Uf;by_cases hs:a<=s/\s-a<M2
 ·have e:sg M2 (λj=>if a+j=s then 1*l2.count j else 0)=sg M2 λj=>if j=s-a then l2.count j else 0:=Zbh λj _=>by
   by_cases hj:j=s-a
   ·rw[if_pos (by omega),if_pos hj,Nat.one_mul]
   ·rw[if_neg (by omega),if_neg hj]
  rw[e,ZkV hs.2];clear e h
  induction l2 with
  | nil=>rfl
  | cons x l ih=>
   rw[qY,qbT,qbT,ih];congr 1;by_cases e:x=s-a
   ·rw[if_pos (by simp;omega),if_pos (by simp;omega)]
   ·rw[if_neg (by simp;omega),if_neg (by simp;omega)]
 ·rw[Zb6 λj hj=>if_neg (by omega)]
  refine qbr.mpr λz=>?_;obtain⟨b,hb,e⟩:=qt.mp z;have:=h b hb;omega
theorem ZfJ {M1 M2 s:Nat}{l2:List Nat}(h2:∀x∈l2,x<M2):∀{l1:List Nat},(∀x∈l1,x<M1)->(l1.flatMap λa=>l2.map λb=>a+b).count s=cv M1 M2 l1 l2 s
 | [],_=>by
  unfold cv Uf;rw[Zb6 λi _=>Zb6 λj _=>by simp];rfl
 | a::l1,h=>by
  rw[qcd,qaX,Zi3 h2,ZfJ h2 λx hx=>h x (by simp[hx])];unfold cv;have e:sg M1 (λi=>Uf M2 ((a::l1).count i) l2 i s)=sg M1 λi=>(if i=a then Uf M2 1 l2 i s else 0)+Uf M2 (l1.count i) l2 i s:=Zbh λi _=>by
   rw[qbT];unfold Uf;by_cases hi:i=a
   ·rw[if_pos hi,if_pos (by simp[hi]),<-ZkU]
    exact Zbh λj _=>by
     by_cases hj:i+j=s
     ·rw[if_pos hj,if_pos hj,if_pos hj,Nat.add_mul,qbm]
     ·rw[if_neg hj,if_neg hj,if_neg hj]
   ·rw[if_neg hi,if_neg (by simpa using zD hi),qbR,yS]
  rw[e,ZkU,ZkV (h a (by simp))]
theorem ZfK {x:Nat}(h:x∈Zl t1 n):x<ZF (Zl t1 n)+1:=Nat.lt_succ_of_le (Vy h)
theorem ZgH (h1:IsWeb n t1)(h2:IsWeb m t2)(hT:tied T 0 1=true):YM (ZF (Zl (Ym T [(n,t1),(m,t2)]) (n+m))) (Zl (Ym T [(n,t1),(m,t2)]) (n+m))=(qm (ZF (Zl t1 n)+1+(ZF (Zl t2 m)+1)-1)).map λs=>nD (cv (ZF (Zl t1 n)+1) (ZF (Zl t2 m)+1) (Zl t1 n) (Zl t2 m) s):=by
 have hp:=ZfH h1 h2 hT;have e:ZF (Zl (Ym T [(n,t1),(m,t2)]) (n+m))=ZF (Zl t1 n)+ZF (Zl t2 m):=by
  rw[ZhI hp];refine ZkS (λx hx=>?_) ?_
  ·simp only[yV,qt]at hx
   obtain⟨a,ha,b,hb,rfl⟩:=hx;exact Nat.add_le_add (Vy ha) (Vy hb)
  ·exact yV.mpr ⟨_,Zb3 (Uj t1 n),qt.mpr ⟨_,Zb3 (Uj t2 m),rfl⟩⟩
 unfold YM;rw[e,show ZF (Zl t1 n)+1+(ZF (Zl t2 m)+1)-1=ZF (Zl t1 n)+ZF (Zl t2 m)+1 by omega];refine qX λs _=>?_;rw[hp.count_eq,ZfJ (λx hx=>ZfK hx) λx hx=>ZfK hx]
theorem ZgI (h1:IsWeb n t1)(h2:IsWeb m t2)(hT:tied T 0 1=false):YM (ZF (Zl (Ym T [(n,t1),(m,t2)]) (n+m))) (Zl (Ym T [(n,t1),(m,t2)]) (n+m))=nD 1::((qm (max (ZF (Zl t1 n)+1) (ZF (Zl t2 m)+1))).map λs=>nD ((Zl t1 n).count s+(Zl t2 m).count s)).drop 1:=by
 have hp:=ZfI h1 h2 hT;obtain⟨r1,e1⟩:=Uj t1 n;obtain⟨r2,e2⟩:=Uj t2 m;have z1:0∉r1:=λh=>by
  obtain⟨q1,d1⟩:=U8 t1 n;unfold Zl at e1;rw[d1,qY]at e1;have e1:q1.map qak=r1:=qcy e1;rw[<-e1]at h;obtain⟨k,hk,e⟩:=qt.mp h;have:=Xg t1 n;rw[d1]at this;exact(zV.mp this).1 (qaT e▸hk)
 have z2:0∉r2:=λh=>by
  obtain⟨q1,d1⟩:=U8 t2 m;unfold Zl at e2;rw[d1,qY]at e2;have e2:q1.map qak=r2:=qcy e2;rw[<-e2]at h;obtain⟨k,hk,e⟩:=qt.mp h;have:=Xg t2 m;rw[d1]at this;exact(zV.mp this).1 (qaT e▸hk)
 have m1:=Zb3 (Uj t1 n);have m2:=Zb3 (Uj t2 m);have g1:∀x∈Zl t1 n,x<=ZF (Zl t1 n):=λx=>Vy;have g2:∀x∈Zl t2 m,x<=ZF (Zl t2 m):=λx=>Vy;generalize Zl t1 n=l1 at *;generalize Zl t2 m=l2 at *;generalize Zl (Ym T [(n,t1),(m,t2)]) (n+m)=l at *;subst e1 e2;rw[qaG,qaG]at hp;have e:ZF l=max (ZF (0::r1)) (ZF (0::r2)):=by
  rw[ZhI hp];refine ZkS (λx hx=>?_) ?_
  ·rcases qp.mp hx with rfl | hx
   ·omega
   ·rcases qO.mp hx with h | h
    ·have:=g1 x (by simp[h]);omega
    ·have:=g2 x (by simp[h]);omega
  ·rcases Nat.le_total (ZF (0::r1)) (ZF (0::r2))with h | h
   ·rw[Nat.max_eq_right h]
    rcases qp.mp m2 with z | z
    ·rw[z];simp
    ·simp[z]
   ·rw[Nat.max_eq_left h]
    rcases qp.mp m1 with z | z
    ·rw[z];simp
    ·simp[z]
 unfold YM;rw[e,show max (ZF (0::r1)+1) (ZF (0::r2)+1)=max (ZF (0::r1)) (ZF (0::r2))+1 by omega];generalize max (ZF (0::r1)) (ZF (0::r2))=M;rw[yj,qY,qY,List.drop_one,qaG,qC,qC];have cc:∀{a b:D} {l l':List D},a=b->l=l'->a::l=b::l':=λh h'=>by rw[h,h']
 refine cc ?_ (qX λx _=>?_)
 ·rw[hp.count_eq,List.count_cons_self,qaX,qbr.mpr z1,qbr.mpr z2]
 ·show nD (l.count (x+1))=nD (List.count (x+1) (0::r1)+List.count (x+1) (0::r2))
  rw[hp.count_eq,qbK (by omega),qaX,qbK (by omega),qbK (by omega)]
theorem JW {N:Nat}{t k:List _}:XH N t k=true↔∀p<N,Xb N t p k=false:=by
 unfold XH;simp
theorem ZbS (h1:IsWeb n t1)(h2:IsWeb m t2)(hT:tied T 0 1=true){a b:List Nat}(ha:∀x∈a,x<n)(hb:∀x∈b,x<m):XH (n+m) (Ym T [(n,t1),(m,t2)]) (a++up n b)=(XH n t1 a&&XH m t2 b):=by
 have e1:∀p<n,Xb (n+m) (Ym T [(n,t1),(m,t2)]) p (a++up n b)=Xb n t1 p a:=λp hp=>qat.mpr (by
  rw[Ut,Ut];constructor
  ·intro h o ho
   exact⟨ha o ho,by rw[<-ZhG (m:=m) (t2:=t2) (T:=T) h1 hp (ha o ho)];exact(h o (by simp[ho])).2⟩
  ·intro h o ho
   rcases qO.mp ho with ho | ho
   ·exact⟨by have:=ha o ho;omega,by rw[ZhG h1 hp (ha o ho)];exact(h o ho).2⟩
   ·obtain⟨z,hz,rfl⟩:=qt.mp ho
    exact⟨by have:=hb z hz;omega,by rw[Bz hp (hb z hz)];exact hT⟩)
 have e2:∀p<m,Xb (n+m) (Ym T [(n,t1),(m,t2)]) (n+p) (a++up n b)=Xb m t2 p b:=λp hp=>qat.mpr (by
  rw[Ut,Ut];constructor
  ·intro h o ho
   exact⟨hb o ho,by rw[<-ZhH (n:=n) (t1:=t1) (T:=T) h2 hp (hb o ho)];exact(h (n+o) (by simp[up,ho])).2⟩
  ·intro h o ho
   rcases qO.mp ho with ho | ho
   ·exact⟨by have:=ha o ho;omega,by rw[XX,Bz (ha o ho) hp];exact hT⟩
   ·obtain⟨z,hz,rfl⟩:=qt.mp ho
    exact⟨by have:=hb z hz;omega,by rw[ZhH h2 hp (hb z hz)];exact(h z hz).2⟩)
 refine qat.mpr ?_;rw[zF,JW,JW,JW];constructor
 ·intro h
  exact⟨λp hp=>by rw[<-e1 p hp];exact h p (by omega),λp hp=>by rw[<-e2 p hp];exact h _ (by omega)⟩
 ·rintro⟨h3,h4⟩ p hp
  by_cases hn:p<n
  ·rw[e1 p hn];exact h3 p hn
  ·have:=e2 (p-n) (by omega)
   rw[show n+(p-n)=p by omega]at this;rw[this];exact h4 _ (by omega)
theorem Zes (h1:IsWeb n t1)(h2:IsWeb m t2)(hT:tied T 0 1=true):(UE n (Z1 n t1) (Z1 m t2)).Perm (Z1 (n+m) (Ym T [(n,t1),(m,t2)])):=by
 have nd:∀{N:Nat} {t:Qa},(Z1 N t).Nodup:=λ{N t}=>(Xg t N).sublist za;refine(yg (Zax nd nd λa ha=>(Y6.mp (Wp ha)).2.1) nd).mpr λk=>?_;rw[ZaA];constructor
 ·rintro⟨a,ha,b,hb,rfl⟩
  have ha:=qA.mp ha;have hb:=qA.mp hb;refine qA.mpr ⟨(Zer h1 h2).mpr ⟨a,ha.1,b,hb.1,rfl,.inl hT⟩,?_⟩;rw[ZbS h1 h2 hT (Y6.mp ha.1).2.1 (Y6.mp hb.1).2.1,ha.2,hb.2];rfl
 ·intro hk
  obtain⟨hk1,hk2⟩:=qA.mp hk;obtain⟨a,ha,b,hb,rfl,_⟩:=(Zer h1 h2).mp hk1;rw[ZbS h1 h2 hT (Y6.mp ha).2.1 (Y6.mp hb).2.1,zF]at hk2;exact⟨a,qA.mpr ⟨ha,hk2.1⟩,b,qA.mpr ⟨hb,hk2.2⟩,rfl⟩
end
noncomputable def Yt (m:Nat)(a b:List Nat):List Nat:=a.flatMap λx=>b.map λy=>x*m+y
section
variable {n m:Nat}{t1 t2:Qa}
theorem UX {a b:List Nat}{z:Nat}:z∈Yt m a b↔∃x∈a,∃y∈b,z=x*m+y:=by
 unfold Yt;simp only[yV,qt];constructor
 ·rintro⟨x,hx,y,hy,rfl⟩;exact⟨x,hx,y,hy,rfl⟩
 ·rintro⟨x,hx,y,hy,rfl⟩;exact⟨x,hx,y,hy,rfl⟩
theorem Zet {a b:List Nat}{z:Nat}(hb:∀y∈b,y<m)(h:z∈Yt m a b):z / m∈a/\z % m∈b:=by
 obtain⟨x,hx,y,hy,rfl⟩:=UX.mp h;rw[(Je (hb y hy)).1,(Je (hb y hy)).2];exact⟨hx,hy⟩
theorem ZhJ {a b:List Nat}{z:Nat}(h1:z / m∈a)(h2:z % m∈b):z∈Yt m a b:=UX.mpr ⟨_,h1,_,h2,by rw[qaZ];exact(Nat.div_add_mod z m).symm⟩
theorem ZdM {a b:List Nat}(ha:a.Pairwise (· < ·))(hb:b.Pairwise (· < ·))(hm:∀y∈b,y<m):(Yt m a b).Pairwise (· < ·):=by
 unfold Yt;refine qcH.mpr ⟨λx _=>zG.mpr (hb.imp λh=>by omega),ha.imp λ{x x'} h u hu v hv=>?_⟩;obtain⟨y,hy,rfl⟩:=qt.mp hu;obtain⟨y',_,rfl⟩:=qt.mp hv;have:=hm y hy;have h2:(x+1)*m<=x'*m:=qbd m h;rw[qal]at h2;omega
theorem Zb7 {k:List Nat}(h:k∈kn t1 n){x y:Nat}(hx:x∈k)(hy:y∈k):Z8 t1 x y=true:=by
 unfold Z8;by_cases e:x=y
 ·simp[e]
 ·rw[(Y6.mp h).2.2 x hx y hy e];simp
theorem Zeu {k:List Nat}(hr:k.Pairwise (· < ·))(hl:∀x∈k,x<n)(h:∀x∈k,∀y∈k,Z8 t1 x y=true):k∈kn t1 n:=Y6.mpr ⟨hr,hl,λx hx y hy e=>by
 have:=h x hx y hy;unfold Z8 at this;simpa[e]using this⟩
theorem ZhK {N:Nat}{t:Qa}{k:List Nat}(h:k∈Z1 N t){p:Nat}(hp:p<N)(ha:∀o∈k,tied t p o=true):False:=by
 have h2:=JW.mp (qA.mp h).2 p hp;have h3:Xb N t p k=true:=Ut.mpr λo ho=>⟨(Y6.mp (Wp h)).2.1 o ho,ha o ho⟩;rw[h2]at h3;cases h3
theorem Zb8 {N:Nat}{t:Qa}{k:List Nat}(h:k∈kn t N)(ha:∀p<N,(∀o∈k,tied t p o=true)->False):k∈Z1 N t:=
 qA.mpr ⟨h,JW.mpr λp hp=>by
  cases e:Xb N t p k with
  | false=>rfl
  | true=>exact(ha p hp λo ho=>(Ut.mp e o ho).2).elim⟩
theorem ZbB {N:Nat}{t:Qa}{k:List Nat}(h:k∈Z1 N t)(hN:0<N):∃x,x∈k:=by
 cases k with
 | nil=>exact(ZhK h hN λo ho=>by cases ho).elim
 | cons x k=>exact⟨x,by simp⟩
theorem Zev {N:Nat}{t:Qa}{k:List Nat}(h:k∈Z1 N t){p:Nat}(hp:p<N)(ha:∀o∈k,Z8 t p o=true):p∈k:=qaD λhn=>ZhK h hp λo ho=>by
 have:=ha o ho;unfold Z8 at this;have e:p≠o:=λe=>hn (e▸ho);simpa[e]using this
theorem ZdN {x y:Nat}(hx:x<n*m)(hy:y<n*m)(h1:Z8 t1 (x / m) (y / m)=true)(h2:Z8 t2 (x % m) (y % m)=true):Z8 (pairT n m t1 t2) x y=true:=by
 unfold Z8;by_cases e:x=y
 ·simp[e]
 ·rw[ZcW e hx hy,h1,h2];simp
theorem B9 {x y:Nat}(hx:x<n*m)(hy:y<n*m)(h:Z8 (pairT n m t1 t2) x y=true):Z8 t1 (x / m) (y / m)=true/\Z8 t2 (x % m) (y % m)=true:=by
 by_cases e:x=y
 ·subst e;exact⟨ZcU _ _,ZcU _ _⟩
 ·unfold Z8 at h
  rw[ZcW e hx hy]at h;simpa[e]using h
theorem Bf {z:Nat}(h:z<n*m):z / m<n/\z % m<m:=by
 have hm:0<m:=by
  cases m with
  | zero=>simp at h
  | succ m=>omega
 exact⟨(Nat.div_lt_iff_lt_mul hm).mpr h,qbc _ hm⟩
theorem ZgJ (h1:IsWeb n t1)(h2:IsWeb m t2)(hn:0<n)(hm:0<m){k:List Nat}:k∈Z1 (n*m) (pairT n m t1 t2)↔∃a∈Z1 n t1,∃b∈Z1 m t2,k=Yt m a b:=by
 have hnm:0<n*m:=Nat.mul_pos hn hm;constructor
 ·intro hk
  have hkn:=Wp hk;obtain⟨q1,q2,q3⟩:=Y6.mp hkn;obtain⟨z0,hz0⟩:=ZbB hk hnm;generalize ea:BO n (λz=>z / m) k=A;generalize eb:BO m (λz=>z % m) k=B;have hA:∀x,x∈A↔x<n/\∃z∈k,z / m=x:=λx=>by rw[<-ea,ZhC]
  have hB:∀x,x∈B↔x<m/\∃z∈k,z % m=x:=λx=>by rw[<-eb,ZhC]
  have iA:∀z∈k,z / m∈A:=λz hz=>(hA _).mpr ⟨(Bf (q2 z hz)).1,z,hz,rfl⟩;have iB:∀z∈k,z % m∈B:=λz hz=>(hB _).mpr ⟨(Bf (q2 z hz)).2,z,hz,rfl⟩;have nA:∀x∈A,∀y∈A,Z8 t1 x y=true:=λx hx y hy=>by
   obtain⟨_,z,hz,rfl⟩:=(hA x).mp hx;obtain⟨_,u,hu,rfl⟩:=(hA y).mp hy;exact(B9 (q2 z hz) (q2 u hu) (Zb7 hkn hz hu)).1
  have nB:∀x∈B,∀y∈B,Z8 t2 x y=true:=λx hx y hy=>by
   obtain⟨_,z,hz,rfl⟩:=(hB x).mp hx;obtain⟨_,u,hu,rfl⟩:=(hB y).mp hy;exact(B9 (q2 z hz) (q2 u hu) (Zb7 hkn hz hu)).2
  have rA:A.Pairwise (· < ·):=ea▸Zfz _ _ _;have rB:B.Pairwise (· < ·):=eb▸Zfz _ _ _;have lA:∀x∈A,x<n:=λx hx=>((hA x).mp hx).1;have lB:∀x∈B,x<m:=λx hx=>((hB x).mp hx).1;have key:∀z<n*m,(∀o∈k,Z8 t1 (z / m) (o / m)=true/\Z8 t2 (z % m) (o % m)=true)->z∈k:=λz hz h=>Zev hk hz λo ho=>ZdN hz (q2 o ho) (h o ho).1 (h o ho).2;refine⟨A,Zb8 (Zeu rA lA nA) λp hp ht=>?_,B,Zb8 (Zeu rB lB nB) λp hp ht=>?_,ZcP q1 (ZdM rA rB lB) λz=>⟨λhz=>ZhJ (iA z hz) (iB z hz),λhz=>?_⟩⟩
  ·have hy:=(Bf (q2 z0 hz0)).2
   have hd:=Je (m:=m) (i:=p) hy;have hin:=key (p*m+z0 % m) (Zep hp hy) λo ho=>by
    rw[hd.1,hd.2];exact⟨by unfold Z8;rw[ht _ (iA o ho)];simp,nB _ (iB z0 hz0) _ (iB o ho)⟩
   have:=ht p (hd.1▸iA _ hin);rw[jo h1]at this;cases this
  ·have hy:=(Bf (q2 z0 hz0)).1
   have hd:=Je (m:=m) (i:=z0 / m) hp;have hin:=key (z0 / m*m+p) (Zep hy hp) λo ho=>by
    rw[hd.1,hd.2];exact⟨nA _ (iA z0 hz0) _ (iA o ho),by unfold Z8;rw[ht _ (iB o ho)];simp⟩
   have:=ht p (hd.2▸iB _ hin);rw[jo h2]at this;cases this
  ·obtain⟨u1,u2⟩:=Zet lB hz
   refine key z ?_ λo ho=>⟨nA _ u1 _ (iA o ho),nB _ u2 _ (iB o ho)⟩;obtain⟨x,hx,y,hy,rfl⟩:=UX.mp hz;exact Zep (lA x hx) (lB y hy)
 ·rintro⟨a,ha,b,hb,rfl⟩
  obtain⟨p1,p2,p3⟩:=Y6.mp (Wp ha);obtain⟨r1,r2,r3⟩:=Y6.mp (Wp hb);obtain⟨x0,hx0⟩:=ZbB ha hn;obtain⟨y0,hy0⟩:=ZbB hb hm;have hl:∀z∈Yt m a b,z<n*m:=λz hz=>by
   obtain⟨x,hx,y,hy,rfl⟩:=UX.mp hz;exact Zep (p2 x hx) (r2 y hy)
  refine Zb8 (Zeu (ZdM p1 r1 r2) hl λx hx y hy=>?_) λp hp ht=>?_
  ·obtain⟨u1,u2⟩:=Zet r2 hx
   obtain⟨v1,v2⟩:=Zet r2 hy;exact ZdN (hl x hx) (hl y hy) (Zb7 (Wp ha) u1 v1) (Zb7 (Wp hb) u2 v2)
  ·have hw:IsWeb (n*m) (pairT n m t1 t2):=IsWeb.filter _
   have hd:=Bf hp;have i1:p / m∈a:=Zev ha hd.1 λo ho=>by
    have hz:o*m+y0∈Yt m a b:=UX.mpr ⟨o,ho,y0,hy0,rfl⟩;have:=(B9 hp (hl _ hz) (show Z8 (pairT n m t1 t2) p (o*m+y0)=true by unfold Z8;rw[ht _ hz];simp)).1;rw[(Je (r2 y0 hy0)).1]at this;exact this
   have i2:p % m∈b:=Zev hb hd.2 λo ho=>by
    have hz:x0*m+o∈Yt m a b:=UX.mpr ⟨x0,hx0,o,ho,rfl⟩;have:=(B9 hp (hl _ hz) (show Z8 (pairT n m t1 t2) p (x0*m+o)=true by unfold Z8;rw[ht _ hz];simp)).2;rw[(Je (r2 o ho)).2]at this;exact this
   have:=ht p (ZhJ i1 i2);rw[jo hw]at this;cases this
theorem UY {t:Qa}{k:List Nat}:k∈Z1 0 t↔k=[]:=by
 constructor
 ·intro h
  have:=(Wv (Wp h)).2;exact qaT (by omega)
 ·rintro rfl
  exact Zb8 (Y6.mpr ⟨.nil,by simp,by simp⟩) λp hp=>by omega
noncomputable def gl (f:List Nat->List Nat->List Nat)(A B:List (List Nat)):List (List Nat):=A.flatMap λa=>B.map (f a)
theorem ZhL {f:List Nat->List Nat->List Nat}{A B:List (List Nat)}{i:Nat}{a:List Nat}(h:A[i]?=some a):gl f (A.take (i+1)) B=gl f (A.take i) B++B.map (f a):=by
 unfold gl;rw[qbA,h,qbh];simp
theorem ZgK {f:List Nat->List Nat->List Nat}{B:List (List Nat)}:∀{A:List (List Nat)},(gl f A B).length=A.length*B.length
 | []=>by simp[gl]
 | a::A=>by
  have:=ZgK (f:=f) (B:=B) (A:=A);unfold gl at this⊢;rw[qcd,qJ,qf,this,qS,qal,qbm]
theorem ZnP {f:List Nat->List Nat->List Nat}{A B:List (List Nat)}{k:List Nat}:k∈gl f A B↔∃a∈A,∃b∈B,k=f a b:=by
 unfold gl;simp only[yV,qt];constructor
 ·rintro⟨a,ha,b,hb,rfl⟩;exact⟨a,ha,b,hb,rfl⟩
 ·rintro⟨a,ha,b,hb,rfl⟩;exact⟨a,ha,b,hb,rfl⟩
theorem Zi4 (h1:IsWeb n t1)(h2:IsWeb m t2){k:List Nat}:k∈gl (Yt m) (Y7 n t1) (Y7 m t2)↔k∈Z1 (n*m) (pairT n m t1 t2):=by
 rw[ZnP];by_cases hn:n=0
 ·subst hn
  rw[Nat.zero_mul,UY];constructor
  ·rintro⟨a,ha,b,hb,rfl⟩
   rw[UY.mp (XY.mp ha)];rfl
  ·rintro rfl
   obtain⟨b,hb⟩:=qch _ (ZfB h2);exact⟨[],XY.mpr (UY.mpr rfl),b,hb,rfl⟩
 ·by_cases hm:m=0
  ·subst hm
   rw[Nat.mul_zero,UY];have e:∀a:List Nat,Yt 0 a []=[]:=λa=>by unfold Yt;simp
   constructor
   ·rintro⟨a,ha,b,hb,rfl⟩
    rw[UY.mp (XY.mp hb)];exact e a
   ·rintro rfl
    obtain⟨a,ha⟩:=qch _ (ZfB h1);exact⟨a,ha,[],XY.mpr (UY.mpr rfl),(e a).symm⟩
  ·rw[ZgJ h1 h2 (by omega) (by omega)]
   constructor
   ·rintro⟨a,ha,b,hb,e⟩;exact⟨a,XY.mp ha,b,XY.mp hb,e⟩
   ·rintro⟨a,ha,b,hb,e⟩;exact⟨a,XY.mpr ha,b,XY.mpr hb,e⟩
theorem ZfL (h1:IsWeb n t1)(hn:n<=5):(Y7 n t1).length<=6:=by
 rw[(ZaR n t1).length_eq];have:=ZcQ (adj:=tied t1) (λa b=>XX t1 a b) (λa=>jo h1 a) n (by omega) (qm n) (Z1 n t1) qW ((Xg t1 n).sublist za) λK hK=>ZhB hK;have h5:=Zek 5 (by omega) n hn;have:mm.getD 5 0=6:=rfl;omega
theorem ZdO {k:List Nat}(h:k≠[]):YL k≠[]:=λz=>h (Zaz z)
theorem Zi5 {N:Nat}{t:Qa}(hw:IsWeb N t)(hn:N<=10){L:List (List Nat)}(hp:L.Perm (Z1 N t)):U5 [.lst (L.map Zr)]=some (.lst (UD N t)):=by
 have e:L.map Zr=(L.map YL).map Yf:=by
  rw[qC];exact qX λk _=>Zem k
 show(match Wt (L.map Zr)with | some jK=>if WU jK then some (D.lst ((Yr jK).map Yf))else none | none=>none)=_;rw[e,B4];show(if WU (L.map YL)then some (D.lst ((Yr (L.map YL)).map Yf))else none)=_;have hl:=Zfx hw hn;have nd:(Z1 N t).Nodup:=(Xg t N).sublist (za (p:=XH N t));have hpl:=hp.length_eq;have ok:WU (L.map YL):=by
  refine⟨by rw[qf];omega,zG.mpr (ye.imp (λ{a b} h e=>h (Zaz e)) (hp.nodup_iff.mpr nd)),λh2 ns hns=>?_⟩;obtain⟨k,hk,rfl⟩:=qt.mp hns;rw[qf]at h2;exact ZdO (Zel (by omega) k (hp.mem_iff.mp hk))
 rw[if_pos ok,BW (hp.map YL)];rfl
theorem Zi6 {N:Nat}{t:Qa}(hw:IsWeb N t)(hn:N<=10){L:List (List Nat)}(hl:L.length<=306)(hp:∀k,k∈L↔k∈Z1 N t)(s:Pn):By (L.map Zr) s=some (.lst (UD N t),s):=by
 have e:L.map Zr=(L.map YL).map Yf:=by
  rw[qC];exact qX λk _=>Zem k
 have nd:(Z1 N t).Nodup:=(Xg t N).sublist (za (p:=XH N t));have pm:(Wu (L.map YL)).Perm ((Z1 N t).map YL):=(yg (BT _) (zG.mpr (nd.imp λh e=>h (Zaz e)))).mpr λx=>by
  rw[JN,qt,qt];constructor
  ·rintro⟨k,hk,rfl⟩;exact⟨k,(hp k).mp hk,rfl⟩
  ·rintro⟨k,hk,rfl⟩;exact⟨k,(hp k).mpr hk,rfl⟩
 unfold By;rw[e,B4];dsimp only;rw[if_pos ⟨by rw[qf];exact hl,λh2 ns hns=>by
  obtain⟨k,hk,rfl⟩:=qt.mp hns;rw[pm.length_eq,qf]at h2;exact ZdO (Zel h2 k ((hp k).mp hk))⟩,BW pm]
 rfl
end
end TQ
namespace K11
open L2 TF TQ TS
open TP
open TP2 hiding g_all_near F_all_near g_counted F_counted
open TP3 hiding g_full_knots F_full_knots
noncomputable def Zv (k:Nat)(f:Nat->Nat):List D:=(qm k).map λi=>nD (f i)
theorem XI (k:Nat)(f:Nat->Nat):(Zv k f).length=k:=by unfold Zv;simp
theorem WS {k i:Nat}(f:Nat->Nat)(h:i<k):(Zv k f)[i]?=some (nD (f i)):=by
 unfold Zv;rw[qu,zI h];rfl
theorem ZgL {k i:Nat}(f:Nat->Nat)(h:i<k)(hk:k<=1000):Zx (.lst (Zv k f)) (nD i)=some (nD (f i)):=by
 have e:Zv k f=((qm k).map f).map nD:=by unfold Zv;rw[qC];rfl
 show XA (Zv k f) (i:Int)=_;rw[e,ZhD (by simpa using h)];simp[qbI,h]
theorem Zl8 {k i:Nat}(f:Nat->Nat)(v:Nat):(Zv k f).set i (nD v)=Zv k λs=>if s=i then v else f s:=by
 unfold Zv;apply yc;intro j;rw[List.getElem?_set,qu,qu,qf,qW];by_cases e:i=j
 ·subst e
  by_cases h:i<k
  ·rw[if_pos rfl,if_pos h,zI h];simp
  ·rw[if_pos rfl,if_neg h,zj (by simp;omega)];rfl
 ·rw[if_neg e]
  cases h:(qm k)[j]? with
  | none=>rfl
  | some x=>
   have:x=j:=by
    have:=qq.mp h;obtain⟨h1,h2⟩:=this;simpa using h2.symm
   subst this;simp[zD e]
theorem ZdP {k:Nat}{f g:Nat->Nat}(h:∀i<k,f i=g i):Zv k f=Zv k g:=qX λi hi=>by rw[h i (qQ.mp hi)]
theorem Jz (k:Nat)(f:Nat->Nat):Ye [.lst (Zv k f)]=some (nD k):=by
 show some (D.int ((Zv k f).length:Nat))=_;rw[XI]
theorem ZmF (k:Nat)(hk:k<=1000):XR (.lst [.int 0]) (nD k)=some (.lst (Zv k λ_=>0)):=by
 have e1:((k:Nat):Int).toNat=k:=by omega
 rw[Zej _ _ ⟨by omega,by omega,by rw[e1,YO];show 1*k<=_;omega⟩,e1];congr 2;apply yc;intro i;rw[List.flatten_replicate_singleton,yr];by_cases hi:i<k
 ·rw[if_pos hi,WS _ hi];rfl
 ·rw[if_neg hi,zj (by rw[XI];omega)]
theorem subN {a b:Nat}(h:b<=a):Vg (nD a) (nD b)=some (nD (a-b)):=by
 show some (D.int _)=some (D.int _);congr 2;omega
noncomputable def BP (a b:Nat)(f g:Nat->Nat)(s:Nat):Nat:=sg a λi=>sg b λj=>if i+j=s then f i*g j else 0
theorem Zi7 (a b:Nat)(f g:Nat->Nat)(ha:0<a)(hb:0<b)(ha':a<=100)(hb':b<=100)(hf:∀i,f i<1000000)(s:Pn):UO [.lst (Zv a f),.lst (Zv b g)] s=some (.lst (Zv (a+b-1) (BP a b f g)),s):=by
 apply jy;refine Ok.runB rfl ?_;refine Ok.seq (.sown (.eq (Zw (d:=.lst [.int 0]) (e:=nD (a+b-1)) (J9 rfl) (Zw (d:=nD (a+b)) (e:=nD 1) (Zw (d:=nD a) (e:=nD b) (YB (Zh rfl rfl) (Jz a f)) (YB (Zh rfl rfl) (Jz b g)) (Jy _ _)) rfl (subN (by omega))) (ZmF _ (by omega))) ⟨rfl,?_⟩));refine Ok.seq (.sfor (λi ρ s'=>s=s'/\∃o3 o4,ρ=[some (.lst (Zv a f)),some (.lst (Zv b g)),some (.lst (Zv (a+b-1) (BP i b f g))),o3,o4]) (.eq (Wm (n:=a) (YB (Zh rfl rfl) (Jz a f)) (by omega)) ⟨⟨rfl,none,none,rfl⟩,λi d ρ s' hd hI=>?_,fun ρ' s' hI=>?_⟩))
 ·obtain⟨rfl,o3,o4,rfl⟩:=hI
  obtain⟨hi,rfl⟩:=UR hd;refine⟨_,rfl,?_⟩;refine Ok.seq (.sfor (λj ρ s'=>s=s'/\∃o4,ρ=[some (.lst (Zv a f)),some (.lst (Zv b g)),some (.lst (Zv (a+b-1) λs=>BP i b f g s+sg j λj=>if i+j=s then f i*g j else 0)),some (nD i),o4]) (.eq (Wm (n:=b) (YB (Zh rfl rfl) (Jz b g)) (by omega)) ⟨⟨rfl,o4,rfl⟩,λj d ρ s' hd hJ=>?_,fun ρ' s' hJ=>?_⟩))
  ·obtain⟨rfl,o4,rfl⟩:=hJ
   obtain⟨hj,rfl⟩:=UR hd;refine⟨_,rfl,?_⟩;generalize hG:(λs=>BP i b f g s+sg j λj=>if i+j=s then f i*g j else 0)=G;have h1:Ze Z4 (Zb 3) (Zb 4) [some (.lst (Zv a f)),some (.lst (Zv b g)),some (.lst (Zv (a+b-1) G)),some (nD i),some (nD j)] s=some (nD (i+j),s):=Zw (d:=nD i) (e:=nD j) rfl rfl (Jy i j);have h2:=Zw (g:=Z4) (f:=Ze Zx (Zb 2) (Ze Z4 (Zb 3) (Zb 4))) (f2:=Ze VG (Ze Zx (Zb 0) (Zb 3)) (Ze Zx (Zb 1) (Zb 4))) (Zw (f:=Zb 2) rfl h1 (ZgL G (show i+j<a+b-1 by omega) (by omega))) (Zw (g:=VG) (Zw (f:=Zb 0) (f2:=Zb 3) rfl rfl (ZgL f hi (by omega))) (Zw (f:=Zb 1) (f2:=Zb 4) rfl rfl (ZgL g hj (by omega))) (mulN _ _ (hf i))) (Jy _ _);have h3:=ZlZ (i:=2) (j:=i+j) (fx:=fun ρ=>(Ze Z4 (Zb 3) (Zb 4)) (ZU [2] ρ)) (k:=((i+j:Nat):Int)) (Zw (d:=nD i) (e:=nD j) rfl rfl (Jy i j)) (Zm8 (fr:=true) h2 rfl) (ds:=Zv (a+b-1) G) rfl (by
    rw[XI];unfold Xz;rw[if_pos (by omega),if_pos (by omega),yO])
   refine Ok.seq (.eq h3 (.next ⟨_,rfl,rfl,some (nD j),?_⟩));rw[Zl8];show [_,_,some (D.lst (Zv (a+b-1) _)),_,_]=_;congr 5;refine ZdP λs _=>?_;rw[Uu,<-hG];by_cases e:s=i+j
   ·rw[if_pos e,if_pos e.symm,e]
    exact qaN _ _ _
   ·rw[if_neg e,if_neg (zD e)];rfl
  ·obtain⟨rfl,o4',rfl⟩:=hJ
   rw[XW];refine .next ⟨_,rfl,rfl,some (nD i),o4',?_⟩;congr 5;exact ZdP λs _=>(Uu _ _).symm
 ·obtain⟨rfl,o3,o4,rfl⟩:=hI
  rw[XW];exact Ok.seq (.sret (.eq (a:=.lst (Zv (a+b-1) (BP a b f g))) rfl ⟨rfl,rfl⟩))
theorem Zl9 {f g:Za->M D}{ρ:Za}{s:Pn}{ds es:List D}(h1:f ρ s=some (.lst ds,s))(h2:g ρ s=some (.lst es,s)):Bw f g ρ s=some (Wi ds es,s):=by
 unfold Bw Zo;simp only[h1,h2];rfl
theorem ZdQ {f:Za->M D}{fl fh:Za->M (Option Int)}{ρ:Za}{s:Pn}{ds:List D}{lo hi:Option Int}(h:f ρ s=some (.lst ds,s))(hl:fl ρ s=some (lo,s))(hh:fh ρ s=some (hi,s)):Bn f fl fh ρ s=some (.lst (W3 ds lo hi),s):=by
 unfold Bn Zo;simp only[h,hl,hh];rfl
theorem ZfM {f:Za->M D}{ρ:Za}{s:Pn}{i:Int}(h:f ρ s=some (.int i,s)):Jn f ρ s=some (some i,s):=by
 unfold Jn Zo;rw[h];rfl
theorem ZnQ (ds:List D)(k:Nat):W3 ds none (some (k:Int))=ds.take k:=by
 unfold W3;rw[HT.sIx_none,HT.sIx_nat,qbt,qco];by_cases h:k<=ds.length
 ·rw[Nat.min_eq_left h]
 ·rw[Nat.min_eq_right (by omega),zS (qk _),zS (by omega)]
theorem ZnR (ds:List D)(k:Nat):W3 ds (some (k:Int)) none=ds.drop k:=by
 unfold W3;rw[HT.sIx_none,HT.sIx_nat];by_cases h:k<=ds.length
 ·rw[Nat.min_eq_left h,zS (by rw[zN];omega)]
 ·rw[Nat.min_eq_right (by omega),zT (qk _),zT (by omega)];simp
theorem catL (a b:List D)(h:a.length+b.length<=1000):Z4 (.lst a) (.lst b)=some (.lst (a++b)):=by
 show(if a.length+b.length<=xg then some (D.lst (a++b))else none)=_;rw[if_pos (by rw[YO];omega)]
theorem catT (a b:List Nat)(h:a.length+b.length<=1000):Z4 (Zr a) (Zr b)=some (Zr (a++b)):=by
 show(if (a.map nD).length+(b.map nD).length<=xg then some (D.tup (a.map nD++b.map nD))else none)=_;rw[if_pos (by rw[qf,qf,YO];omega),<-zf];rfl
theorem Zma {a k:Nat}{f:Nat->Nat}(h:∀i,a<=i->f i=0):Zv a f++Zv k (λ_=>0)=Zv (a+k) f:=by
 apply yc;intro i;by_cases hi:i<a
 ·rw[zw (by rw[XI];exact hi),WS f hi,WS f (by omega)]
 ·rw[zM (by rw[XI];omega),XI]
  by_cases hk:i<a+k
  ·rw[WS _ (by omega),WS f hk,h i (by omega)]
  ·rw[zj (by rw[XI];omega),zj (by rw[XI];omega)]
theorem ZkW {a b k:Nat}(f g:Nat->Nat)(ha:k<=a)(hb:k<=b)(c:D->D)(hc:∀x y:Nat,c (.tup [nD x,nD y])=nD (x+y)):((Wi (Zv a f) (Zv b g)).map c).take k=Zv k λi=>f i+g i:=by
 apply yc;intro i;by_cases hi:i<k
 ·rw[zX hi,qu]
  unfold Wi;rw[qa1,WS f (by omega),WS g (by omega),WS _ hi];show some (c (.tup [nD (f i),nD (g i)]))=_;rw[hc]
 ·rw[zj (by rw[qV];omega),zj (by rw[XI];omega)]
theorem leN (a b:Nat):dLe (nD a) (nD b)=some (.bl (decide (a<=b))):=by
 show some (D.bl (decide ((a:Int)<=(b:Int))))=_;congr 2;exact decide_eq_decide.mpr (by omega)
theorem cnt0 {n:Nat}{t:Qa}{i:Nat}(h:ZF (Zl t n)+1<=i):(Zl t n).count i=0:=qbr.mpr λz=>by
 have:=Vy z;omega
theorem ZnS {n:Nat}{t:Qa}(hn:n<=5)(i:Nat):(Zl t n).count i<1000000:=by
 have h1:=List.count_le_length (a:=i) (l:=Zl t n);have h2:=Jd t n;have h3:2 ^ n<=2 ^ 5:=qaE (by omega) hn;have h4:(Zl t n).length=(kn t n).length:=by unfold Zl;simp
 omega
theorem Zi8 {k p x:Nat}{a b:List Nat}(hx:a[p]?=some x):(Yt k (a.take (p+1)) b).map nD=(Yt k (a.take p) b).map nD++b.map ((λd=>nD (x*k+Yz d))∘nD):=by
 unfold Yt;have e:(some x).toList=[x]:=rfl;rw[qbA,hx,qbh,zf,e,List.flatMap_singleton,qC];rfl
theorem ZfN {n k:Nat}{t1 t2:Qa}(hw1:IsWeb n t1)(hw2:IsWeb k t2):(gl (λa b=>a++up n b) (Y7 n t1) (Y7 k t2)).Perm (Z1 (n+k) (Ym (Yv 2) [(n,t1),(k,t2)])):=by
 have nd:(Z1 (n+k) (Ym (Yv 2) [(n,t1),(k,t2)])).Nodup:=(Xg _ _).sublist za;refine(yg (Zax (ZbR _ _) (ZbR _ _) λa h=>(Wv (Wp (XY.mp h))).1) nd).mpr λx=>?_;rw[<-(Zes hw1 hw2 ZdL).mem_iff,ZaA,ZaA];simp only[XY]
theorem ZkX (m:Int)(w:List Int):∃s',ZkH (none::some .pen::qB 12 none) ([m,0],w)=some (.rt (.bl true),s'):=by
 have ok0:X5 0 ([m,0],w):=⟨m,0,rfl,by omega,by omega⟩;suffices hh:Ok (ZkH (none::some .pen::qB 12 none)) ([m,0],w) λo s'=>o=.rt (.bl true) by
  obtain⟨o,s',e,rfl⟩:=hh;exact⟨s',e⟩
 refine Ok.seq (.sfor (λi ρ s'=>X5 (i*3000) s'/\∃o2 o3 o4 o5 o6 o7 o8 o9 o10 o11 o12 o13,ρ=[none,some .pen,o2,o3,o4,o5,o6,o7,o8,o9,o10,o11,o12,o13]) (.eq (Wm (n:=4) rfl (by omega)) ⟨⟨ok0.mono (by omega),none,none,none,none,none,none,none,none,none,none,none,none,rfl⟩,λi d ρ s' hd hI=>?_,fun ρ' s' hI=>?_⟩))
 ·obtain⟨ok1,o2,o3,o4,o5,o6,o7,o8,o9,o10,o11,o12,o13,rfl⟩:=hI
  obtain⟨hi,rfl⟩:=UR hd;refine⟨_,rfl,?_⟩;obtain⟨w1,s2,ew1,ok2,n,t1,rfl,hn,hw1⟩:=ZhA ok1 (by omega) 5 (by omega);obtain⟨w2,s3,ew2,ok3,k,t2,rfl,hk,hw2⟩:=ZhA ok2 (by omega) 5 (by omega);refine Ok.seq (.sunp (.eq (Wr (Zh (ZR (Zh rfl (Zh rfl rfl)) ew1) (Zh (ZR (Zh rfl (Zh rfl rfl)) ew2) rfl)) two_le) ⟨_,rfl,?_⟩));refine Ok.seq (jE (.eq (Zh (ZR (Zh rfl rfl) (BY n t1 hw1 (by omega) s3)) (Zh (ZR (Zh rfl rfl) (BY k t2 hw2 (by omega) s3)) rfl)) ⟨_,_,rfl,?_⟩));have hl1:=hw1.len (show n<=24 by omega);have hl2:=hw2.len (show k<=24 by omega);have hws:WsOk [(n,t1),(k,t2)]:=⟨by simp,by show n+(k+0)<=24;omega,λw hw=>by
   simp only[qp,zp,or_false]at hw;rcases hw with rfl | rfl
   ·exact hw1
   ·exact hw2⟩
  have htot:VO [(n,t1),(k,t2)]=n+k:=by show n+(k+0)=n+k;omega
  have hb:=ZiY hws s3;have ha:Ug [D.lst (Y1 [(n,t1),(k,t2)])] s3=some (Zp (VO [(n,t1),(k,t2)]) (Ym (Yv 2) [(n,t1),(k,t2)]),s3):=ZiZ hws s3;rw[htot]at hb ha;have hpb:IsWeb (n+k) (Ym [] [(n,t1),(k,t2)]):=by rw[<-htot];exact Zbf _ _
  have hpa:IsWeb (n+k) (Ym (Yv 2) [(n,t1),(k,t2)]):=by rw[<-htot];exact Zbf _ _
  have hx:∀{a b:D} {ρ:Za} {fa fb:Za->M D},fa ρ s3=some (a,s3)->fb ρ s3=some (b,s3)->Yy (Zc fa (Zc fb Zd)) ρ s3=some (.lst [a,b],s3):=λh1 h2=>Zd1 (Zh h1 (Zh h2 rfl)) two_le;have M1:ZF (Zl t1 n)<=n:=UP _ n (λx hx=>Zei hx) 0 (by omega);have M2:ZF (Zl t2 k)<=k:=UP _ k (λx hx=>Zei hx) 0 (by omega);have C1:∀i,ZF (Zl t1 n)+1<=i->(Zl t1 n).count i=0:=λi=>cnt0;have C2:∀i,ZF (Zl t2 k)+1<=i->(Zl t2 k).count i=0:=λi=>cnt0;have D1:=λi=>ZnS (t:=t1) hn i;have cb:=BY _ _ hpb (by omega) s3;have cw:=BY _ _ hpa (by omega) s3;rw[ZgI hw1 hw2 (by simp[tied])]at cb;rw[ZgH hw1 hw2 ZdL]at cw;have tt:=Zi7 (ZF (Zl t1 n)+1) (ZF (Zl t2 k)+1) (λi=>(Zl t1 n).count i) (λi=>(Zl t2 k).count i) (by omega) (by omega) (by omega) (by omega) D1 s3;have R1:YM (ZF (Zl t1 n)) (Zl t1 n)=Zv (ZF (Zl t1 n)+1) λi=>(Zl t1 n).count i:=rfl;have R2:YM (ZF (Zl t2 k)) (Zl t2 k)=Zv (ZF (Zl t2 k)+1) λi=>(Zl t2 k).count i:=rfl;have tt:UO [.lst (YM (ZF (Zl t1 n)) (Zl t1 n)),.lst (YM (ZF (Zl t2 k)) (Zl t2 k))] s3=some (.lst ((qm (ZF (Zl t1 n)+1+(ZF (Zl t2 k)+1)-1)).map λs=>nD (cv (ZF (Zl t1 n)+1) (ZF (Zl t2 k)+1) (Zl t1 n) (Zl t2 k) s)),s3):=tt;generalize hC1:(λi=>(Zl t1 n).count i)=c1 at R1 C1;generalize hC2:(λi=>(Zl t2 k).count i)=c2 at R2 C2;have C1:∀i,ZF (Zl t1 n)+1<=i->c1 i=0:=by rw[<-hC1];exact C1
  have C2:∀i,ZF (Zl t2 k)+1<=i->c2 i=0:=by rw[<-hC2];exact C2
  have cb:F_counted [Zp (n+k) (Ym [] [(n,t1),(k,t2)])] s3=some (.lst (nD 1::(Zv (max (ZF (Zl t1 n)+1) (ZF (Zl t2 k)+1)) λi=>c1 i+c2 i).drop 1),s3):=by rw[<-hC1,<-hC2];exact cb
  generalize YM (ZF (Zl t1 n)) (Zl t1 n)=r1 at R1 tt⊢;generalize YM (ZF (Zl t2 k)) (Zl t2 k)=r2 at R2 tt⊢;have A1:ZF (Zl t1 n)+1<=6:=by omega
  have A2:ZF (Zl t2 k)+1<=6:=by omega
  generalize ZF (Zl t1 n)+1=a1 at *;generalize ZF (Zl t2 k)+1=a2 at *;subst R1 R2;refine Ok.seq (.sset (.eq (YB (Zh (YB (Zh rfl rfl) (Jz a1 c1)) (Zh (YB (Zh rfl rfl) (Jz a2 c2)) rfl)) (maxN _ _)) ?_));generalize hsz:max a1 a2=sz at cb⊢;have hpad:∀{a:Nat} {c:Nat->Nat} {v:Nat} {ρ:Za},a<=10->(∀i,a<=i->c i=0)->Zb v ρ s3=some (.lst (Zv a c),s3)->Zb 7 ρ s3=some (nD sz,s3)->Ze Z4 (Zb v) (Ze XR (Yy (Zc (dC (.int 0)) Zd)) (Zb 7)) ρ s3=some (.lst (Zv (a+sz) c),s3):=λ{a c v ρ} h1 h2 h3 h4=>Zw h3 (Zw (d:=.lst [.int 0]) (J9 rfl) h4 (ZmF sz (by omega))) (by rw[catL _ _ (by rw[XI,XI];omega),Zma h2]);show Ok (Zn _ _ [none,some .pen,some (nD i),some (Zp n t1),some (Zp k t2),some (.lst (Zv a1 c1)),some (.lst (Zv a2 c2)),some (nD sz),o8,o9,o10,o11,o12,o13]) _ _;generalize hρ:([none,some .pen,some (nD i),some (Zp n t1),some (Zp k t2),some (.lst (Zv a1 c1)),some (.lst (Zv a2 c2)),some (nD sz),o8,o9,o10,o11,o12,o13]:Za)=ρ;have hc:=Xu (src:=[none,none]) (fi:=Bw (Ze Z4 (Zb 5) (Ze XR (Yy (Zc (dC (.int 0)) Zd)) (Zb 7))) (Ze Z4 (Zb 6) (Ze XR (Yy (Zc (dC (.int 0)) Zd)) (Zb 7)))) (τ:=Zg2 0 1) (ft:=Yu) (fe:=Ze Z4 (Zb 0) (Zb 1)) (ρ:=ρ) (s:=s3) (ds:=Wi (Zv (a1+sz) c1) (Zv (a2+sz) c2)) (λd=>match d with | .tup [a,b]=>[some a,some b] | _=>[]) (λ_=>true) (λd=>match d with | .tup [.int a,.int b]=>.int (a+b) | _=>.non) (Zl9 (hpad (by omega) C1 (by subst hρ;rfl) (by subst hρ;rfl)) (hpad (by omega) C2 (by subst hρ;rfl) (by subst hρ;rfl))) (by unfold Wi;rw[qbV,XI,XI,YO];omega) (λd hd=>by
   obtain⟨j,hj⟩:=zH.mp hd;unfold Wi at hj;rw[qa1]at hj;by_cases h1:j<a1+sz
   ·by_cases h2:j<a2+sz
    ·rw[WS c1 h1,WS c2 h2]at hj
     obtain rfl:=zv hj;exact⟨rfl,rfl,λ_=>rfl⟩
    ·rw[zj (show(Zv (a2+sz) c2).length<=j by rw[XI];omega)]at hj
     rw[WS c1 h1]at hj;cases hj
   ·rw[zj (show(Zv (a1+sz) c1).length<=j by rw[XI];omega)]at hj
    cases hj)
  rw[WQ]at hc;have hd:=ZdQ hc (fl:=Zhg) (fh:=Jn (Zb 7)) (lo:=none) (hi:=some (sz:Int)) rfl (ZfM (by subst hρ;rfl));rw[ZnQ,ZkW c1 c2 (by omega) (by omega) _ λx y=>rfl]at hd;refine Ok.seq (.sset (.eq hd ?_));clear hc hd hpad;subst hρ;show Ok (Zn _ _ [none,some .pen,some (nD i),some (Zp n t1),some (Zp k t2),some (.lst (Zv a1 c1)),some (.lst (Zv a2 c2)),some (nD sz),some (.lst (Zv sz λi=>c1 i+c2 i)),o9,o10,o11,o12,o13]) _ _;have hpl:∀(kk:Nat) (ff:Nat->Nat),Yp (Zv kk ff)=true/\Y2 (Zv kk ff)=0:=λkk ff=>by
   have e:Zv kk ff=((qm kk).map ff).map nD:=by unfold Zv;rw[qC];rfl
   rw[e];exact⟨ZaQ _,Zeh _⟩
  refine Ok.seq (.sif (.eq (a:=false) (Ws (Zw (d:=.lst (nD 1::(Zv sz λi=>c1 i+c2 i).drop 1)) (e:=.lst (nD 1::(Zv sz λi=>c1 i+c2 i).drop 1)) (ZR (Zh (ZR (Zh (hx rfl rfl) rfl) hb) rfl) cb) (Zw (d:=.lst [nD 1]) (e:=.lst ((Zv sz λi=>c1 i+c2 i).drop 1)) (J9 rfl) ((ZdQ rfl (lo:=some 1) (ZfM rfl) rfl).trans (by rw[show(1:Int)=((1:Nat):Int)from rfl,ZnR])) (catL _ _ (by rw[zN,XI];simp;omega))) (by
   have e:nD 1::(Zv sz λi=>c1 i+c2 i).drop 1=(1::((qm sz).map λi=>c1 i+c2 i).drop 1).map nD:=by
    unfold Zv;rw[qY,<-List.map_drop,<-List.map_drop,qC];rfl
   rw[e];exact Zb4 (B7 _).1 (B7 _).2))) (.next ?_)))
  refine Ok.seq (.sif (.eq (a:=false) (Ws (Zw (ZR (Zh (ZR (Zh (hx rfl rfl) rfl) ha) rfl) cw) (ZR (Zh rfl (Zh rfl rfl)) tt) (by
   have e:∀(kk:Nat) (ff:Nat->Nat),((qm kk).map λs=>nD (ff s))=((qm kk).map ff).map nD:=λkk ff=>by rw[qC];rfl
   rw[e];exact Zb4 (B7 _).1 (B7 _).2))) (.next ?_)))
  clear tt cw cb;refine Ok.seq (.sown (.eq (a:=.lst []) rfl ⟨rfl,?_⟩));refine Ok.seq (.sown (.eq (a:=.lst []) rfl ⟨rfl,?_⟩));have f1:=Zbg n t1 hw1 (by omega) s3;have f2:=Zbg k t2 hw2 (by omega) s3;rw[Zl2]at f1 f2;have L1:=ZfL hw1 hn;have L2:=ZfL hw2 hk;have K1:∀a∈Y7 n t1,a.length<=5/\∀x∈a,x<n:=λa h=>⟨zC (Wv (Wp (XY.mp h))).2 hn,(Wv (Wp (XY.mp h))).1⟩;have K2:∀a∈Y7 k t2,a.length<=5/\∀x∈a,x<k:=λa h=>⟨zC (Wv (Wp (XY.mp h))).2 hk,(Wv (Wp (XY.mp h))).1⟩;generalize hA:Y7 n t1=A at f1 L1 K1;generalize hB:Y7 k t2=B at f2 L2 K2;have gl_le:∀(f:List Nat->List Nat->List Nat) (j:Nat),(gl f (A.take j) B).length<=36:=λf j=>by
   rw[ZgK,qV];exact qai (show min j A.length<=6 by omega) L2
  have f1':YU (ZA F_full_knots (Zc (Zb 3) Zd)) [none,some .pen,some (nD i),some (Zp n t1),some (Zp k t2),some (.lst (Zv a1 c1)),some (.lst (Zv a2 c2)),some (nD sz),none,none,o10,o11,o12,o13] s3=some (A.map Zr,s3):=Vr (ZR (Zh rfl rfl) f1);refine Ok.seq (.sfor (λj ρ s'=>s3=s'/\∃o10 o11 o12 o13,ρ=[none,some .pen,some (nD i),some (Zp n t1),some (Zp k t2),some (.lst (Zv a1 c1)),some (.lst (Zv a2 c2)),some (nD sz),some (.lst ((gl (λa b=>a++up n b) (A.take j) B).map Zr)),some (.lst ((gl (Yt k) (A.take j) B).map Zr)),o10,o11,o12,o13]) (.eq f1' ⟨⟨rfl,o10,o11,o12,o13,rfl⟩,λj d ρ s' hd hJ=>?_,fun ρ' s' hJ=>?_⟩))
  ·obtain⟨rfl,o10,o11,o12,o13,rfl⟩:=hJ
   rw[qu]at hd;obtain⟨a,ha',rfl⟩:=yA.mp hd;have hak:=K1 a (zq ha');refine⟨_,rfl,?_⟩;have f2':YU (ZA F_full_knots (Zc (Zb 4) Zd)) [none,some .pen,some (nD i),some (Zp n t1),some (Zp k t2),some (.lst (Zv a1 c1)),some (.lst (Zv a2 c2)),some (nD sz),none,none,some (Zr a),o11,o12,o13] s3=some (B.map Zr,s3):=Vr (ZR (Zh rfl rfl) f2);refine Ok.seq (.sfor (λl ρ s'=>s3=s'/\∃o11 o12 o13,ρ=[none,some .pen,some (nD i),some (Zp n t1),some (Zp k t2),some (.lst (Zv a1 c1)),some (.lst (Zv a2 c2)),some (nD sz),some (.lst ((gl (λa b=>a++up n b) (A.take j) B++(B.take l).map λb=>a++up n b).map Zr)),some (.lst ((gl (Yt k) (A.take j) B++(B.take l).map λb=>Yt k a b).map Zr)),some (Zr a),o11,o12,o13]) (.eq f2' ⟨⟨rfl,o11,o12,o13,by simp⟩,λl d ρ s' hd hJ=>?_,fun ρ' s' hJ=>?_⟩))
   ·obtain⟨rfl,o11,o12,o13,rfl⟩:=hJ
    rw[qu]at hd;obtain⟨b,hb',rfl⟩:=yA.mp hd;have hbk:=K2 b (zq hb');have hll:l<B.length:=(qq.mp hb').1;refine⟨_,rfl,?_⟩;have z1:=gl_le (λa b=>a++up n b) j;have z2:=gl_le (Yt k) j;generalize hX:gl (λa b=>a++up n b) (A.take j) B++(B.take l).map (λb=>a++up n b)=X;generalize hY:gl (Yt k) (A.take j) B++(B.take l).map (λb=>Yt k a b)=Y;have lX:X.length<=100:=by rw[<-hX,qJ,qf,qV];omega
    have lY:Y.length<=100:=by rw[<-hY,qJ,qf,qV];omega
    have hc:=Xu (src:=[none,some 3]) (fi:=X0 (Zb 11)) (τ:=ZP 0) (ft:=Yu) (fe:=Ze Z4 (Ze Zx (Zb 1) (dC (.int 0))) (Zb 0)) (ρ:=[none,some .pen,some (nD i),some (Zp n t1),some (Zp k t2),some (.lst (Zv a1 c1)),some (.lst (Zv a2 c2)),some (nD sz),none,none,some (Zr a),some (Zr b),o12,o13]) (s:=s3) (ds:=b.map nD) (λd=>[some d,some (Zp n t1)]) (λ_=>true) (λd=>nD (n+Yz d)) (Zb1 rfl) (by rw[qf,YO];omega) (λd hd=>by
     obtain⟨x,hx,rfl⟩:=qt.mp hd;exact⟨rfl,rfl,λ_=>Zw (d:=nD n) (e:=nD x) (Zw (d:=Zp n t1) (e:=.int 0) rfl rfl W2) rfl (Jy _ _)⟩)
    rw[WQ,qC]at hc;have e1:b.map ((λd=>nD (n+Yz d))∘nD)=(up n b).map nD:=by unfold up;rw[qC];rfl
    rw[e1]at hc;refine Ok.seq (.sapp (ds:=X.map Zr) rfl (by rw[qf,YO];omega) (.eq (Zw (d:=Zr a) (e:=Zr (up n b)) rfl (YB (Zh hc rfl) rfl) (catT _ _ (by unfold up;rw[qf];omega))) ?_));refine Ok.seq (.sown (.eq (a:=.lst []) rfl ⟨rfl,?_⟩));have hit:X0 (Zb 10) [none,some .pen,some (nD i),some (Zp n t1),some (Zp k t2),some (.lst (Zv a1 c1)),some (.lst (Zv a2 c2)),some (nD sz),none,none,some (Zr a),some (Zr b),none,o13] s3=some (a.map nD,s3):=Zb1 rfl;refine Ok.seq (.sfor (λp ρ s'=>s3=s'/\∃o13,ρ=[none,some .pen,some (nD i),some (Zp n t1),some (Zp k t2),some (.lst (Zv a1 c1)),some (.lst (Zv a2 c2)),some (nD sz),some (.lst (X.map Zr ++ [Zr (a++up n b)])),some (.lst (Y.map Zr)),some (Zr a),some (Zr b),some (.lst ((Yt k (a.take p) b).map nD)),o13]) (.eq hit ⟨⟨rfl,o13,rfl⟩,λp d ρ s' hd hP=>?_,fun ρ' s' hP=>?_⟩))
    ·obtain⟨rfl,o13,rfl⟩:=hP
     rw[qu]at hd;obtain⟨x,hx',rfl⟩:=yA.mp hd;have hxn:=hak.2 x (zq hx');refine⟨_,rfl,?_⟩;have hpl:(Yt k (a.take p) b).length<=25:=by
      have:∀(l:List Nat),(Yt k l b).length=l.length*b.length:=λl=>by
       unfold Yt
       induction l with
       | nil=>simp
       | cons y l ih=>rw[qcd,qJ,ih,qf,qS,qal,qbm]
      rw[this,qV];exact qai (show min p a.length<=5 by omega) hbk.1
     have hc2:=Xu (src:=[none,some 13,some 4]) (fi:=X0 (Zb 11)) (τ:=ZP 0) (ft:=Yu) (fe:=Ze Z4 (Ze VG (Zb 1) (Ze Zx (Zb 2) (dC (.int 0)))) (Zb 0)) (ρ:=[none,some .pen,some (nD i),some (Zp n t1),some (Zp k t2),some (.lst (Zv a1 c1)),some (.lst (Zv a2 c2)),some (nD sz),none,none,some (Zr a),some (Zr b),none,some (nD x)]) (s:=s3) (ds:=b.map nD) (λd=>[some d,some (nD x),some (Zp k t2)]) (λ_=>true) (λd=>nD (x*k+Yz d)) (Zb1 rfl) (by rw[qf,YO];omega) (λd hd=>by
      obtain⟨y,hy,rfl⟩:=qt.mp hd;exact⟨rfl,rfl,λ_=>Zw (d:=nD (x*k)) (e:=nD y) (Zw (d:=nD x) (e:=nD k) rfl (Zw (d:=Zp k t2) (e:=.int 0) rfl rfl W2) (mulN _ _ (by omega))) rfl (Jy _ _)⟩)
     rw[WQ,qC]at hc2;refine Ok.seq (.sext (ds:=(Yt k (a.take p) b).map nD) rfl (.eq hc2 ⟨_,rfl,by rw[qf,qf,YO];omega,?_⟩));refine .next ⟨_,rfl,rfl,some (nD x),?_⟩;rw[Zi8 hx'];rfl
    ·obtain⟨rfl,o13',rfl⟩:=hP
     rw[qf,zS (qk _)];refine Ok.seq (.sapp (ds:=Y.map Zr) rfl (by rw[qf,YO];omega) (.eq (a:=Zr (Yt k a b)) (YB (Zh rfl rfl) rfl) ?_));refine .next ⟨_,rfl,rfl,some (Zr b),some (.lst ((Yt k a b).map nD)),o13',?_⟩;have e3:∀(F:List Nat->List Nat),(B.take (l+1)).map F=(B.take l).map F ++ [F b]:=λF=>by
      rw[qbA,hb',zf];rfl
     rw[e3,e3,<-qK,<-qK,hX,hY,zf,zf];rfl
   ·obtain⟨rfl,o11',o12',o13',rfl⟩:=hJ
    rw[qf,zS (qk _)];refine .next ⟨_,rfl,rfl,some (Zr a),o11',o12',o13',?_⟩;rw[ZhL ha',ZhL ha']
  ·obtain⟨rfl,o10',o11',o12',o13',rfl⟩:=hJ
   rw[qf,zS (qk _),<-hA,<-hB];have fw:=Zbg _ _ hpa (by omega) s3;have pm:=ZfN hw1 hw2;refine Ok.seq (.sif (.eq (a:=false) (Ws (Zw (ZR (Zh (ZR (Zh (hx rfl rfl) rfl) ha) rfl) fw) (YB (Zh rfl rfl) (Zi5 hpa (by omega) pm)) (Zb4 (B6 _).1 (B6 _).2))) (.next ?_)));have hle:(YN (Ze dLe (Ze VG (Ze Zx (Zb 3) (dC (.int 0))) (Ze Zx (Zb 4) (dC (.int 0)))) (dC (.int 10)))) [none,some .pen,some (nD i),some (Zp n t1),some (Zp k t2),some (.lst (Zv a1 c1)),some (.lst (Zv a2 c2)),some (nD sz),some (.lst ((gl (λa b=>a++up n b) (Y7 n t1) (Y7 k t2)).map Zr)),some (.lst ((gl (Yt k) (Y7 n t1) (Y7 k t2)).map Zr)),o10',o11',o12',o13'] s3=some (decide (n*k<=10),s3):=Ws (Zw (d:=nD (n*k)) (e:=nD 10) (Zw (d:=nD n) (e:=nD k) (Zw (d:=Zp n t1) (e:=.int 0) rfl rfl W2) (Zw (d:=Zp k t2) (e:=.int 0) rfl rfl W2) (mulN _ _ (by omega))) rfl (leN _ _));by_cases h10:n*k<=10
   ·rw[decide_eq_true h10]at hle
    have hpp:IsWeb (n*k) (pairT n k t1 t2):=IsWeb.filter _;have fp:=Zbg _ _ hpp h10 s3;have ss:=Zi6 hpp h10 (L:=gl (Yt k) (Y7 n t1) (Y7 k t2)) (by rw[ZgK,hA,hB];exact zC (qai L1 L2) (by omega)) (λx=>Zi4 hw1 hw2) s3;refine Ok.seq (.sif (.eq (a:=false) (Znq hle (Ws (Zw (ZR (Zh (ZR (Zh rfl (Zh rfl rfl)) (ZfF n k t1 t2 (by omega) (by omega) (by omega) (by omega) (by omega) s3)) rfl) fp) ss (Zb4 (B6 _).1 (B6 _).2)))) (.next ?_)));exact .next ⟨_,rfl,ok3.mono (by omega),_,_,_,_,_,_,_,_,_,_,_,_,rfl⟩
   ·rw[decide_eq_false h10]at hle
    refine Ok.seq (.sif (.eq (a:=false) (Znp hle) (.next ?_)));exact .next ⟨_,rfl,ok3.mono (by omega),_,_,_,_,_,_,_,_,_,_,_,_,rfl⟩
 ·obtain⟨ok1,o2,o3,o4,o5,o6,o7,o8,o9,o10,o11,o12,o13,rfl⟩:=hI
  exact Ok.seq (.sret (.eq (a:=.bl true) rfl rfl))
end K11
namespace K11
open L2 TF TQ
open TP
open TP2 hiding g_all_near F_all_near g_counted F_counted
open TP3 hiding g_full_knots F_full_knots
theorem ZnT {P:xC}{w:World}{K:qj}{mg:Str->Option Value}{base:Heap}{kf a_p:Addr}{jN fd_p:xB}{L:List (Addr×Str)}(lo:WN L)(F:Fun K "law" "law" s_law kf jN)(T:Txt mg)(FP:FnOk P w K mg base ZQ 1 a_p fd_p ["script"] (Zmo K))(hmp:mg "_law_tpen" = some (.ref a_p))(hkp:yW K (.ref a_p)=true)(hbp:Wd K fd_p ["script"] [])(j9:ZY P w K mg base 1 "_law_ttimes" 2 true Z6 UO)(kb:ZY P w K mg base 2 "_law_tweb" 2 true (W4 Vh L) US)(km:ZY P w K mg base 7 "beside" 1 false (Y0 L) JU)(ki:ZY P w K mg base 6 "by_pairs" 2 false (Y0 L) JL)(kc:ZY P w K mg base 4 "counted" 1 true Z6 F_counted)(jU:ZY P w K mg base 4 "full_knots" 1 true Z6 F_full_knots)(jZ:ZY P w K mg base 7 "wholly_tied" 1 false (Y0 L) Ug) :
  FnOk P w K mg base ZQ 8 kf jN ["script"] (Zgh K L):=by
 have nd:=Zgz.nd;refine F.ok Zgz (λvs H Q E h=>?_) λcdv A outer s0 H vs Q E hr h=>?_
 ·obtain⟨a,ns,rfl,_⟩:=h
  rfl
 ·obtain⟨a,ns,rfl,sq,hl,hTb,hQ⟩:=h
  refine⟨_,WD (Uw (i:=1) nd rfl (zt rfl) (ZgR (FP.mono (by decide)) hr rfl hmp hkp hbp .nil Zju (Y5 (pv 0) Xv))) (ZjT (GG:=(W4 Vh L)) λG hG=>ZlT lo T hr j9 kb km ki kc jU jZ G hG),?_⟩;refine⟨.ref a,rfl,a,ns,rfl,sq,hl,λp wa m H' st kp hp hw=>?_⟩;obtain⟨s',hs'⟩:=ZkX m (WT ns);exact ZiC (n:=12) st hTb kp hp hw hQ hs'
noncomputable def ZmG:List DRow:=[dR "pairs_of" 1 189 2 1 15 196 true "tiefold.things" 187,
 dR "near" 3 201 9 2 22 204 false "tiefold.webs" 199,
 dR "all_near" 4 207 11 1 27 210 false "tiefold.webs" 199,
 dR "are_tied" 5 213 14 3 32 219 true "tiefold.webs" 199,
 dR "marked_ties" 6 222 16 1 39 225 false "tiefold.webs" 199,
 dR "turned" 7 228 18 1 44 233 true "tiefold.webs" 199,
 dR "web_where" 8 236 21 2 51 239 false "tiefold.webs" 199,
 dR "full_knots" 10 244 25 1 56 247 false "tiefold.knots" 242,
 dR "counted" 11 250 28 1 61 253 false "tiefold.knots" 242,
 dR "all_knots" 12 256 34 1 66 259 false "tiefold.knots" 242,
 dR "is_near_all" 13 262 39 3 71 265 false "tiefold.knots" 242,
 dR "is_full" 14 268 41 2 76 271 false "tiefold.knots" 242,
 dR "beside" 16 276 44 1 81 280 true "tiefold.joined" 274,
 dR "wholly_tied" 17 283 46 1 88 287 true "tiefold.joined" 274,
 dR "put_in" 18 290 48 2 95 293 false "tiefold.joined" 274,
 dR "by_pairs" 19 296 57 2 100 304 true "tiefold.joined" 274,
 dR "is_same_or_tied" 20 307 64 3 107 313 true "tiefold.joined" 274,
 dR "spots" 21 316 66 1 114 319 false "tiefold.joined" 274,
 dR "_law_tpen" 23 324 72 1 119 327 false "law_tiefold_k11_whole_knots_of_joined_webs" 322,
 dR "_law_tdraw" 24 330 77 2 124 338 true "law_tiefold_k11_whole_knots_of_joined_webs" 322,
 dR "_law_tweb" 25 341 88 2 131 353 true "law_tiefold_k11_whole_knots_of_joined_webs" 322,
 dR "_law_ttimes" 26 356 101 2 138 364 true "law_tiefold_k11_whole_knots_of_joined_webs" 322,
 dR "law" 27 367 107 1 145 370 false "law_tiefold_k11_whole_knots_of_joined_webs" 322]
noncomputable def KF (P:Params):qj:=Zos ZV 181 ([dE P "__name__" 165 (.str "law_tiefold_k11_whole_knots_of_joined_webs" 322)] ++ [dE P "__doc__" 166 (.none)] ++ [dE P "__package__" 167 (.none)] ++ [dE P "__loader__" 168 (.builtin "__main__.__loader__#opaque")] ++ [dE P "__spec__" 169 (.none)]++dRs P [nE "__annotations__" 170 6,nE "__builtins__" 171 4] ++ [dE P "__file__" 173 (.str "/claim/cut.py" 172)] ++ [dE P "__cached__" 174 (.none)]++dRs P [nE "pairs_of" 198 21,nE "near" 206 26,nE "all_near" 212 31,nE "are_tied" 221 38,nE "marked_ties" 227 43,nE "turned" 235 50,nE "web_where" 241 55,nE "full_knots" 249 60,nE "counted" 255 65,nE "all_knots" 261 70,nE "is_near_all" 267 75,nE "is_full" 273 80,nE "beside" 282 87,nE "wholly_tied" 289 94,nE "put_in" 295 99,nE "by_pairs" 306 106,nE "is_same_or_tied" 315 113,nE "spots" 321 118,nE "_law_tpen" 329 123,nE "_law_tdraw" 340 130,nE "_law_tweb" 355 137,nE "_law_ttimes" 366 144,nE "law" 372 149]) 32 ZmG
noncomputable def asF:List Addr:=[3,20,21,25,26,30,31,37,38,42,43,49,50,54,55,59,60,64,65,69,70,74,75,79,80,86,87,93,94,98,99,105,106,112,113,117,118,122,123,129,130,136,137,143,144,148,149]
theorem eF:∀P,asF=(KF P).map (·.1):=λ_=>by kernel_rfl
theorem okF (P:Params):Zeg (KF P) ZV ZmG:=by
 repeat refine⟨⟨by kernel_rfl,by kernel_rfl,by kernel_rfl⟩,?_⟩
 exact trivial
noncomputable abbrev LF:List (Addr×Str):=[(96,(qy "put_in.<locals>.are_tied_there")),(101,(qy "by_pairs.<locals>.are_tied_there")),(45,(qy "turned.<locals>.<lambda>"))]
theorem ZnU {P:xC}{w:World}{h:Heap}{mg:Str->Option Value}{fa:Addr}(X:(KF w.params).In h)(G:h.Ns mainGlobals mg)(hfa:mg "law" = some (.ref fa)) :
  ∃fd:xB,(∀(s:Shared) (v:Value),BindsTo s fd ⟨[v],[]⟩ [("script",v)])/\∀base:Heap,(KF w.params).In base->base.Ns mainGlobals mg->yp base 98 96->yp base 105 101->yp base 49 45->Ud mg base->FnOk P w (KF w.params) mg base ZQ 8 fa fd ["script"] (Zgh (KF w.params) LF):=by
 have lo:WN LF:=TF.lok_nd (by decide);have zn:∀x,qcr (KF w.params) mainGlobals x=some none->mg x=none:=λ_ z=>PySem.W.mg_none_of X G z;have T:Txt mg:=⟨zn _ (by kernel_rfl),zn _ (by kernel_rfl),zn _ (by kernel_rfl),zn _ (by kernel_rfl),zn _ (by kernel_rfl),zn _ (by kernel_rfl),zn _ (by kernel_rfl),zn _ (by kernel_rfl),zn _ (by kernel_rfl),zn _ (by kernel_rfl),zn _ (by kernel_rfl),zn _ (by kernel_rfl)⟩;have mk:=@mkc P w (KF w.params) mg;have at_:=λj {r} e=>@ZnH _ h mg _ _ (okF w.params) X G j r e;obtain⟨f1,_,F1,m1,_⟩:=at_ 21 rfl;obtain⟨f2,_,F2,m2,_⟩:=at_ 19 rfl;obtain⟨f3,_,F3,m3,_⟩:=at_ 20 rfl;obtain⟨f4,_,F4,m4,_⟩:=at_ 4 rfl;obtain⟨f5,_,F5,m5,_⟩:=at_ 17 rfl;obtain⟨f6,_,F6,m6,_⟩:=at_ 0 rfl;obtain⟨f7,_,F7,m7,_⟩:=at_ 6 rfl;obtain⟨f8,_,F8,m8,_⟩:=at_ 3 rfl;obtain⟨f9,_,F9,m9,e9⟩:=at_ 14 rfl;obtain⟨f10,_,F10,m10,_⟩:=at_ 12 rfl;obtain⟨f11,_,F11,m11,_⟩:=at_ 16 rfl;obtain⟨f12,_,F12,m12,e12⟩:=at_ 15 rfl;obtain⟨f13,_,F13,m13,_⟩:=at_ 10 rfl;obtain⟨f14,_,F14,m14,_⟩:=at_ 9 rfl;obtain⟨f15,_,F15,m15,_⟩:=at_ 1 rfl;obtain⟨f16,_,F16,m16,_⟩:=at_ 2 rfl;obtain⟨f17,_,F17,m17,_⟩:=at_ 8 rfl;obtain⟨f18,_,F18,m18,_⟩:=at_ 11 rfl;obtain⟨f19,_,F19,m19,_⟩:=at_ 7 rfl;obtain⟨f20,_,F20,m20,e20⟩:=at_ 5 rfl;obtain⟨f21,_,F21,m21,_⟩:=at_ 13 rfl;obtain⟨f22,_,F22,m22,_⟩:=at_ 18 rfl;obtain⟨f23,_,F23,m23,_⟩:=at_ 22 rfl
 cases hfa.symm.trans m23
 have kr:=λb=>mk b F6 m6 (Zfs F6 T );have kz:VJ P w (KF w.params) mg 5 "web_where" 2 false (VH P w (KF w.params) mg 4 2 Tl) Vn:=⟨f7,_,_,λb=>Zed F7 T (kr b),m7,F7.kp,bdc ["row","tied"] F7⟩;have jT:=λb=>mk b F8 m8 (Zfq F8 T );have jR:=λb=>mk b F11 m11 (ZaP F11 T (jT b));obtain⟨oc,od,kV,doc,pm,an,cdv,ct,osl,rfl,lk,hcd⟩:=F23.ex;refine⟨y8 "law" "law" (WG s_law) (Wa s_law) (ZH s_law) .none kV doc pm an cdv ct,λs v=>.of_eq rfl,λbase _ _ hC9 hC12 hC20 hBm=>?_⟩;have j9:=mk base F1 m1 (ZcO F1 T );have ky:=mk base F2 m2 (Zdb F2 T );have j7:ZY P w (KF w.params) mg base 1 "_law_tdraw" 2 true (W4 Vh LF) We:=Zj2 ky Zj3;have kb:=mk base F3 m3 (Zee F3 T lo j7);have jL:=mk base F4 m4 (ZcJ F4 T );have ko:=mk base F5 m5 (ZkG F5 T );have kw:=kr base;have jS:=kz;have kh:=jT base;have kj:=mk base F9 m9 (ZiN F9 T lo jL ko jS jT (tP:=96) e9 hC9 hBm (by simp));have km:=mk base F10 m10 (ZiO F10 T lo kj);have kB:=jR base;have ki:=mk base F12 m12 (Zfu F12 T lo jL ko jS jR (tP:=101) e12 hC12 hBm (by simp));have jY:=mk base F13 m13 (ZcK F13 T );have ka:=mk base F14 m14 (Zec F14 T jY);have kA:=mk base F15 m15 (ZlS F15 T kh);have ke:=mk base F16 m16 (Zfr F16 T jL kA);have kc:=mk base F17 m17 (Zgx F17 T ka ke);have kq:=mk base F18 m18 (Zgy F18 T jY);have jU:=mk base F19 m19 (Zc9 F19 T ka ke kq);have kx:=mk base F20 m20 (ZiP F20 T lo jL jS jT (tP:=45) e20 hC20 hBm (by simp));have jZ:=mk base F21 m21 (ZcN F21 T lo kj kx);exact ZnT lo F23 T (Zef F22 T) m22 F22.kp (bdc ["script"] F22) j9 kb km ki kc jU jZ
noncomputable def tb:List (Str×Addr×Addr):=[("put_in",98,96),("by_pairs",105,101),("turned",49,45)]
theorem ZnV:∀P q,(P,q)∈LF->∃x c,(x,c,P)∈tb:=by
 intro P q h;simp only[qp,Prod.mk.injEq,zp,or_false]at h;rcases h with⟨rfl,_⟩ | ⟨rfl,_⟩ | ⟨rfl,_⟩
 ·exact⟨"put_in",98,by simp[tb]⟩
 ·exact⟨"by_pairs",105,by simp[tb]⟩
 ·exact⟨"turned",49,by simp[tb]⟩
noncomputable def qF:xC:=PySem.W.view PySem.Challenge.pw_tiefold_k11_whole_knots_of_joined_webs [1,3,4,5,6,7,8,10,11,12,13,14,16,17,18,19,20,21,23,24,25,26,27]
theorem walk {loose:List Str}{XP:(Str->Option Value)->Heap->Prop}{YP:World->Heap->Prop}(hY:∀(w:World) (h:Heap),YP w h->(KF w.params).In h) :
  qcP qF loose XP YP PySem.Challenge.rw_tiefold_k11_whole_knots_of_joined_webs.row.toRowW (ZgA s_law) [] (λf vs=>qcM f vs):=
 Zj5 (K:=KF) (tb:=tb) (n:=63) (k:=8) (x:="script") (CX:=λ_=>ZQ) (sp:=λw=>Zgh (KF w.params) LF) rfl (by decide) rfl ⟨rfl,by decide,by decide,rfl⟩ hY
  (qac.mpr ⟨yI.mp (by kernel_rfl),qac.mpr ⟨yI.mp (by kernel_rfl),qac.mpr ⟨yI.mp (by kernel_rfl),(λ_ h=>nomatch h)⟩⟩⟩)
  (λw=>qac.mpr ⟨by kernel_rfl,qac.mpr ⟨by kernel_rfl,qac.mpr ⟨by kernel_rfl,(λ_ h=>nomatch h)⟩⟩⟩) (λw=>by kernel_rfl)
  (λw mg fa h h1 h2 h3=>let ⟨fd,hb,hF⟩:=ZnU h1 h2 h3;⟨fd,hb,λbase g1 g2 g3 g4=>hF base g1 g2 (g3 ("put_in",98,96) (by simp[tb])) (g3 ("by_pairs",105,101) (by simp[tb])) (g3 ("turned",49,45) (by simp[tb])) g4⟩)
  (λ_ _ a ns hl hS hTb=>⟨a,ns,rfl,hS,hl,Zgi (tb:=tb) ZnV hTb,λ_=>rfl⟩) λ_ _ _ _ _ z=>z
theorem left:PySem.W.LeftO PySem.Challenge.rw_tiefold_k11_whole_knots_of_joined_webs.prog qF [] (λs=>PySem.W.xlAt qF [] s&&PySem.W.recOk PySem.Challenge.rw_tiefold_k11_whole_knots_of_joined_webs.row.records s) (qaO KF asF eF).obs (qaO KF asF eF).val 1528:=λw=>by kernel_rfl
theorem said:PySem.Challenge.rw_tiefold_k11_whole_knots_of_joined_webs.wellSaid=true:=by kernel_rfl
end K11
open PySem.W
set_option maxRecDepth 100000 in
set_option maxHeartbeats 0 in
theorem PySem.Challenge.cw_tiefold_k11_whole_knots_of_joined_webs_holds : PySem.Challenge.rw_tiefold_k11_whole_knots_of_joined_webs.Holds := by
 refine TF.head_of (q:=K11.qF) (K:=K11.KF) (st:=K11.s_law) K11.said K11.left (by kernel_rfl) (by kernel_rfl) (by kernel_rfl) (by decide +kernel) ⟨rfl,rfl,rfl,rfl,rfl,by decide +kernel⟩ ?hw rfl (K11.walk λw h Y=>kIn_of Y)
 case hw=>w_witness2
