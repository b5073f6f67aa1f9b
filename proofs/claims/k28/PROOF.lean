import PyProof.Rows.All
import Wide.All
import OpenK.AllK
import Wide.FinOn
import Lean
import PyProof.EqAt
import PyProof.EqKinds
import PyProof.TupleCall
import KE.KLam
import PyProof.ZipIter
import PyProof.WalksEnum
import PyProof.WalkInts
import PyProof.SeqI3
import PyProof.Rows.SeqMore
import PyProof.Rows.SortWalk
import PyProof.Draws
import PyProof.EnumMake
import PyProof.DictIter
import KE.KSortTup
import PyProof.Rows.SeqMore2
import PyProof.Rows.RuleIs
import PyProof.Rows.SetFrom
import PyProof.WalksMore
import PyProof.MinMaxWalk
import OpenK.KMore
import PyProof.Rows.SortRuns
import PyProof.Rows.SortRunsK
import KE.KDictSum
import PyProof.ExcClass2
import PyProof.ExcBaseAll.ValueError
import OpenK.KRaise
import KE.KTryMore
import PyProof.ExcAttrAll.ValueError
import PyProof.NsDelKeeps
import PyProof.DictFindH
import PyProof.DictRoadsH
import PyProof.Rows.CountFlat
import PyProof.Rows.RuleN_abs
import PyProof.FitsBits
import PySem.Challenge.RW_tiefold_k28_weights_looked_at
-- CHANGE: your row's module here,as the last of these rows
open PySem.W renaming Frag->qd,kia_one->zt,fnOf->zv,findIn->zG,keepIn->zH,emptyDict->zI,instObj->zR,kla_fn->zY,CodeHd->zZ,envX->yp,kHook->yC,codeIn->yL,callWith_K->qaa,plainGet->qaB,plainGet_of->qaP,lookIn->qaS,tabObj->qaT,hasDictIn->qba,nsIn->qbx,takerIn->qbK,cellsFrom_some->qbP,methodCall_KW->qbW,hideAll_size->qb0,hideAll_none->qb1,WalkO->qcb,hideAll_get->qcc,isFn->qck
open List renaming length_map->qe,replicate->qf,range->qm,mem_map->qu,map_map->qz,mem_filter->qA,mem_cons->qB,getElem?_eq_some_iff->qC,getElem?_set_ne->qD,getElem?_map->qI,length_range->qL,mem_append_right->qM,map_append->qP,length_append->qQ,map_cons->qS,map_congr_left->qT,getElem?_set_self->qU,mem_append->qV,mem_cons_of_mem->qW,getElem?_eq_getElem->qX,mem_range->qY,filter_sublist->za,length_cons->zb,lookup_cons->zd,size_toArray->ze,getElem?_append_left->zh,mem_of_getElem?->zp,append_nil->zu,length_filter_le->zD,all_eq_true->zF,toArray->zJ,getElem?_append_right->zM,not_mem_nil->zN,pairwise_cons->zO,mem_singleton->zP,pairwise_iff_getElem->zQ,range_succ->zU,getElem?_replicate->zW,range_succ_eq_map->z5,nodup_cons->z9,drop_eq_getElem_cons->yd,pairwise_append->yg,length_take->yn,filter_eq_self->yy,length_eq_zero_iff->yB,filter_map->yG,append_assoc->yJ,any_cons->yR,filterMap_cons->yV,getElem?_range->yW,length_nil->yY,getElem?_zip_eq_some->y4,mem_filterMap->y9,filter_append->qaj,take_sublist->qaq,filter_congr->qas,reverse_cons->qat,length_drop->qaC,of_mem_zip->qaI,foldl->qaJ,drop_eq_nil_iff->qaN,replicate_succ->qaQ,mem_map_of_mem->qaR,lookup->qaU,map_id->qaV,all_cons->qa5,any_eq_false->qa9,ext_getElem?->qbc,pairwise_map->qbe,getElem?_take_of_lt->qbm,map->qbp,all_map->qbq,getElem_mem->qbs,Sublist->qbt,getElem_map->qbv,idxOf_lt_length_iff->qbw,map_nil->qbz,eq_of_mem_replicate->qbD,take_of_length_le->qbQ,drop_of_length_le->qbV,take_succ->qbY,getElem?_eq_none->qbZ,mem_append_left->qb3,range_eq_range'->qb8,forall_mem_cons->qb9,Pairwise->qca,length_reverse->qce,getElem_of_mem->qch,length_pos_iff->qcj,getD->qco,length->qcs
open PySem.Heap renaming get?_push_of_some->qj,lt_size->qy,get?_push_size->qE,get?_update_other->zx,get?_update_self->qaG,SameBut->qbl,get?_none_of_le->qb2,get?_update_ne->qcf
open Nat renaming le_refl->qk,le_trans->qp,lt_of_lt_of_le->qH,ne_of_lt->qK,zero_le->zr,lt_of_le_of_lt->zE,pow_le_pow_right->zV,lt_irrefl->yc,mul_le_mul->yj,lt_succ_self->yk,mul_le_mul_left->yz,le_of_lt->y8,lt_trichotomy->qau,lt_succ_of_lt->qav,lt_trans->qaM,pos_of_ne_zero->qa2,mul_comm->qbn,strongRecOn->qbN,le_of_eq->qcl,zero_add->qcm,succ->qcv
open Or renaming inl->qt,inr->z7
open PySem.Value renaming ref->qw,bool->zf,none->zk,int->qaX,type->qbh,str->qbJ,notImplemented->qb5,float->qcr
open PySem.PassesOwn renaming never->qG
open Ne renaming symm->qJ
open PySem.Str renaming ofString->qN
open PyProof.Rows renaming slot_tuple_getitem->qO,callWith_type1->z6
open Classical renaming byContradiction->qR,choose_spec->zC,choose->qby
open Int renaming mul_le_mul_of_nonneg_right->qZ,gcd->zj,le_of_lt->zK,mul_nonneg->z0,mul_comm->yq,mul_zero->yt,le_of_eq->yu,mul_assoc->yD,emod_lt_of_pos->yF,mul_le_mul_of_nonneg_left->yI,toNat_natCast->yK,le_of_mul_le_mul_right->yU,ediv_mul_cancel->yX,emod_nonneg->y6,zero_add->qak,natAbs_mul->qal,fmod_nonneg_of_pos->qaA,mul_pos->qaW,mul_lt_mul_of_pos_right->qa1,fdiv_eq_ediv_of_nonneg->qa4,lt_of_mul_lt_mul_right->qa7,natAbs_add_le->qbf,gcd_dvd_right->qbg,mul_neg_of_pos_of_neg->qbi,mul_neg_of_neg_of_pos->qbj,gcd_comm->qbA,mul_ediv_cancel_left->qbB,le_trans->qbC,eq_ofNat_of_zero_le->qbG,pos_of_mul_pos_left->qbI,mul_add->qbT,neg_mul->qbU,toNat_of_nonneg->qci,add_zero->qcn,le_refl->qct,mul_one->qcu
open Bool renaming and_eq_true->zc,and_eq_true_iff->yN,and_self->yS,false_ne_true->qab,eq_iff_iff->qaO,false_eq_true->qaZ,true_and->qa8,or_eq_true->qbL
open PySem.Builtin.Slice renaming slicePlaces->zi,sliceApplied->yP,sliceAdjust->yZ
open PySem renaming mem_of_lookup->zm,Within->qbk,call->qb6
open PySem.PyData renaming hasDict->zo,leavesShort->z8,showable->yb,depth->qai,bulk->qay,leavesShortAll->qaH,showableAll->qaY,hasDictAll->qbd,depthAll->qbM,bulkAll->qbX
open PySem.Obj renaming mapSeq->zq
open PySem.NameKind renaming free->zw,cell->yT
open PySem.F renaming plain_min_loop->zy,slot_int_rmul->zT,plainAttrs_list->yA,slot_tuple_mul->yH,args_tuple_add_2->qac,slot_list_append->qae,type_list_append->qaf,slot_list_getattribute->qag,args_tuple_mul_2->qah,entry_tuple_add->qam,entry_tuple_mul->qap,args_int_rmul_2->qar,slot_tuple_add->qaw,entry_min_loop->qaz,slot_int_index->qaD,entry_int_rmul->qaE,fills_int_mul->qaK,slot_list_index->qbH
open False renaming elim->zB
open True renaming intro->zL
open Option.some renaming inj->zS
open Array renaming length_toList->zX,toList_append->qcd
open PySem.Around renaming under_plainId->yf,frames_deeper->qb4
open Option renaming isSome_iff_exists->ym,map_some->qaL,isSome_map->qbb,bind_some->qbo,map_eq_some_iff->qbS
open PySem.AutoSeq1 renaming sub_tuple_tuple->yo,sub_tuple_list->qan,sub_list_tuple->qao,sub_list_list->qax,idx_int->qbu
open ForInStep renaming yield->yE
open PySem.SeqAt renaming EqAt->yM,RcNeAt->qbr,RcAt->qb7
open PySem.Paired renaming length->yO
open PySem.Builtin.Tuple renaming tupleItemsOf->yQ,tupleTooMany->qa6
open PySem.Builtin.List renaming listTooLong->qad
open PyProof.Rows.IsTup renaming new->qaF
open PySem.Builtin.Builtins renaming bindParams->qa0
open PySem.Calls renaming Name_function_global->qa3
open PySem.Builtin.Range renaming rangeSize->qbE
open PySem.Builtin.Dict renaming updateFrom->qbF
open List.cons renaming injEq->qbO
open Prod.mk renaming inj->qbR
open PySem.Builtin.Int renaming intBits->qcg
open Sum renaming inl->qcp,inr->qcq
open PySem PySem.Spec PyProof.Rows
open PySem renaming wpAny_bind→xa,wpAny_pure→xb,wpAny_mono→xc,wpAny→xf,sizeLine→xg,starEach→xh,keywordEach→xi,bootBuiltins→xj,compareOp→xk,wpAny_newObj_type→xl,codeAny_builtin→xm,codeAny→xo,backToKw→xp,attributeBase→xq,swapsWith→xr,wpAny_seqItems→xt,wpAny_tryCatch→xu,wpAny_holding→xw,wpAny_letGo→xy,wpAny_updateSeq→xz,wpAny_call→xA,model→xB,FuncData→xC,Program→xD,Around→xE
abbrev xF:=PySem.Value->PySem.Shared->Prop
set_option maxHeartbeats 8000000
abbrev Qa:=List (Nat×Nat)
abbrev Qb:=List (PySem.Addr×PySem.Obj)
set_option genSizeOfSpec false
set_option bootstrap.genMatcherCode false
local macro_rules|`(tactic|omega)=>`(tactic|first|with_reducible assumption|with_reducible exact qk _|with_reducible exact zr _|exact qp (by with_reducible assumption) (by decide)|exact y8 (by with_reducible assumption)|lia|omega (config:={}))
set_option Elab.async false
set_option linter.all false
set_option maxRecDepth 100000
namespace L2
noncomputable abbrev Ye:=Sum Int Str
noncomputable def BF:Ye->Value->Bool
 | .inl k,v=>Value.isInt k v
 | .inr x,v=>Value.isStrOf x v
noncomputable def keyH (w:World):Ye->Int
 | .inl k=>hashInt k
 | .inr x=>hashStr w x
theorem V5:∀{k:Ye} {v:Value},BF k v=true->(∃i t,k=qcp i/\v=qaX i t)∨(∃x t,k=qcq x/\v=qbJ x t)
 | .inl i,v,h=>by
  obtain⟨t,e⟩:=Value.isInt_shape h;exact .inl ⟨i,t,rfl,e⟩
 | .inr x,v,h=>by
  obtain⟨t,e⟩:=Value.isStrOf_shape h;exact .inr ⟨x,t,rfl,e⟩
theorem Zj6 (i:Int)(t:Tok):BF (.inl i) (.int i t)=true:=by simp[BF,Value.isInt]
theorem Zj7 (x:Str)(t:Tok):BF (.inr x) (.str x t)=true:=by simp[BF,Value.isStrOf]
theorem Zpj (a b:Int):decide ((qcp a:Ye)=qcp b)=(a==b):=by
 grind
theorem Zpk (a b:Str):decide ((qcq a:Ye)=qcq b)=decide (a=b):=by
 simp
theorem Zpl (a:Int)(b:Str):decide ((qcp a:Ye)=qcq b)=false:=decide_eq_false (λq=>nomatch q)
theorem Zpm (a:Str)(b:Int):decide ((qcq a:Ye)=qcp b)=false:=decide_eq_false (λq=>nomatch q)
noncomputable def WT (prog:xD)(w:World):PySem.KeyKind prog w Ye where
 is:=BF
 hash:=keyH w
 inj:=λv a b ha hb=>by
  rcases V5 ha with⟨i,t,rfl,rfl⟩ | ⟨x,t,rfl,rfl⟩
  ·rcases V5 hb with⟨j,u,rfl,e⟩ | ⟨y,u,rfl,e⟩
   ·injection e with e1 _;rw[e1]
   ·exact nomatch e
  ·rcases V5 hb with⟨j,u,rfl,e⟩ | ⟨y,u,rfl,e⟩
   ·exact nomatch e
   ·injection e with e1 _;rw[e1]
 byValue:=λk v h=>by
  rcases V5 h with⟨i,t,rfl,rfl⟩ | ⟨x,t,rfl,rfl⟩ <;> rfl
 pyHash:=λhv h=>by
  rcases V5 hv with⟨i,t,rfl,rfl⟩ | ⟨x,t,rfl,rfl⟩
  ·exact wpAny_pyHash_int h
  ·exact wpAny_pyHash_str h
 eqBool:=λhu hv h=>by
  rcases V5 hu with⟨i,t,rfl,rfl⟩ | ⟨x,t,rfl,rfl⟩
  ·rcases V5 hv with⟨j,u,rfl,rfl⟩ | ⟨y,u,rfl,rfl⟩
   ·rw[Zpj]at h;exact wpAny_eqBool_int h
   ·rw[Zpl]at h;exact yM.int_str i t y u _ _ _ _ h
  ·rcases V5 hv with⟨j,u,rfl,rfl⟩ | ⟨y,u,rfl,rfl⟩
   ·rw[Zpm]at h;exact yM.str_int x t j u _ _ _ _ h
   ·rw[Zpk]at h;exact wpAny_eqBool_str h
 «strs»:=λk x t v h=>by
  rcases V5 h with⟨i,u,rfl,e⟩ | ⟨y,u,rfl,e⟩
  ·exact nomatch e
  ·injection e with e1 _
   subst e1
   cases v <;> rfl
theorem ZgI (prog:xD)(w:World)(i:Int)(t:Tok):(WT prog w).is (.inl i) (.int i t)=true:=Zj6 i t
theorem ZgJ (prog:xD)(w:World)(x:Str)(t:Tok):(WT prog w).is (.inr x) (.str x t)=true:=Zj7 x t
inductive V where
 | non | bl (b:Bool) | int (i:Int) | str (x:Str) | byt (b:Array UInt8) | flt (b:UInt64) | ref (a:Addr) | ty (n:String)
 deriving DecidableEq
noncomputable def ZQ:V->Value->Prop
 | .non,u=>u=zk
 | .bl b,u=>u=zf b
 | .int i,u=>∃t,u=qaX i t
 | .str x,u=>∃t,u=qbJ x t
 | .byt b,u=>∃t,u=Value.bytes b t
 | .flt b,u=>∃t,u=qcr b t
 | .ref a,u=>u=qw a
 | .ty n,u=>u=qbh n
noncomputable abbrev ZH:List V->List Value->Prop:=Paired ZQ
theorem ZH.length (r:ZH xs us):xs.length=us.length:=yO r
theorem ZH.get:∀{xs:List V} {us:List Value} {i:Nat} {x:V},ZH xs us->xs[i]?=some x->∃u,us[i]?=some u/\ZQ x u
 | _,_,_,_,.nil,e=>by simp at e
 | _,_,0,_,.cons r _,e=>by simp_all
 | _,_,i+1,x,.cons _ t,e=>by
  obtain⟨u,h1,h2⟩:=ZH.get t (by simpa using e);simp_all
theorem ZH.set (r:ZQ x u):∀{xs:List V} {us:List Value} (i:Nat),ZH xs us->ZH (xs.set i x) (us.set i u)
 | _,_,_,.nil=>.nil
 | _,_,0,.cons _ t=>.cons r t
 | _,_,i+1,.cons q t=>.cons q (ZH.set r i t)
theorem ZH.append:∀{xs ys:List V} {us ws:List Value},ZH xs us->ZH ys ws->ZH (xs++ys) (us++ws)
 | _,_,_,_,.nil,s=>s
 | _,_,_,_,.cons r t,s=>.cons r (ZH.append t s)
theorem ZH.take:∀{xs:List V} {us:List Value} (n:Nat),ZH xs us->ZH (xs.take n) (us.take n)
 | _,_,0,_=>.nil
 | _,_,_+1,.nil=>.nil
 | _,_,n+1,.cons r t=>.cons r (ZH.take n t)
theorem ZH.drop:∀{xs:List V} {us:List Value} (n:Nat),ZH xs us->ZH (xs.drop n) (us.drop n)
 | _,_,0,r=>r
 | _,_,_+1,.nil=>.nil
 | _,_,n+1,.cons _ t=>ZH.drop n t
noncomputable def Up:Option V->Option Value->Prop
 | some v,some u=>ZQ v u
 | none,none=>True
 | _,_=>False
noncomputable def KV {κ:Type}:List (κ×V)->List (κ×Value)->Prop:=Paired λ(p:κ×V) (q:κ×Value)=>p.1=q.1/\ZQ p.2 q.2
noncomputable def kV:Ye->V
 | .inl i=>.int i
 | .inr x=>.str x
inductive HO where
 | lst (xs:List V)
 | tup (xs:List V)
 | dK (kvs:List (Ye×V)) | dT (kvs:List (List Ye×V))
 | set (S:Int->Bool) (n:Nat)
 | ins (C dx:Addr) (fs:List (Str×V))
 | own (x:Addr)
 | xd (fs:List (Str×V))
 | met (f x:Addr)
 | rng (lo hi:Int)
 | frz (o:Obj) (u:HO)
 | tbl (ps:Array Value)
 | ext (φ:Heap->Prop)
noncomputable abbrev Hp:=Addr->Option HO
noncomputable def Zs (H:Hp)(a:Addr)(o:HO):Hp:=λb=>if b=a then some o else H b
theorem Z1:Zs H a o a=some o:=by unfold Zs;simp
theorem Zv (h:b≠a):Zs H a o b=H b:=by unfold Zs;simp_all
theorem Zjm:Zs (Zs H a o) a u=Zs H a u:=by
 unfold Zs;simp_all
theorem ZoU {H:Hp}(h:H a=some o)(h':H b=some u)(d:o≠u):a≠b:=by
 intro e;simp_all
theorem YC {H:Hp}(h:H a=some o)(h':H b=none):a≠b:=by
 intro e;simp_all
section
variable (P:xD)(w:World)
noncomputable def YQ (H:Hp)(h:Heap)(a:Addr):HO->Prop
 | .lst xs=>xs.length<=xg/\∃(jR:List Value) (n:Nat),ZH xs jR/\h.get? a=some { cls:=.type "list",data:=.seq jR.toArray n }
 | .tup xs=>xs.length<=xg/\∃jR:List Value,ZH xs jR/\IsTup h a jR.toArray
 | .dK kvs=>kvs.length<=xg/\(a==sysModules)=false/\∃vs,KV kvs vs/\h.DictOf (WT P w) a vs
 | .dT kvs=>kvs.length<=xg/\(a==sysModules)=false/\∃xs:List (List Ye×Addr×Value),
   Paired (λ(p:List Ye×V) (q:List Ye×Addr×Value)=>p.1=q.1/\H q.2.1=some (.tup (p.1.map kV))/\ZQ p.2 q.2.2) kvs xs/\
   ∃o es ep,h.get? a=some o/\o.ExactDict/\o.data=.dict es ep/\es.toList=xs.map (entryOfKey (tupleKind (WT P w)))/\(xs.map (·.1)).Nodup
 | .set S n=>h.SetOf (intKind P w) a S n
 | .ins C dx fs=>H dx=some (.own a)/\fs.length<=1000/\dx≠a/\h.get? a=some (zR C dx)/\
   ∃mA,h.Ns1 dx mA/\(∀f,Up (fs.lookup f) (mA f))/\qbk mA (fs.map (·.1))
 | .own _=>∃o,h.get? a=some o
 | .xd fs=>∃mA,h.Ns1 a mA/\∀f,Up (fs.lookup f) (mA f)
 | .rng lo hi=>∃t u v,h.get? a=some { cls:=.type "range",data:=.fields #[.int lo t,.int hi u,.int 1 v] }
 | .frz o u=>h.get? a=some o/\YQ H h a u
 | .tbl ps=>h.get? a=some { cls:=.none,data:=.fields ps }
 | .met f x=>h.get? a=some (PySem.W.methodObj (.ref f) (.ref x))
 | .ext φ=>φ h/\(∃o,h.get? a=some o)/\∀h1 h2:Heap,φ h1->(∀o,h1.get? a=some o->h2.get? a=some o)->φ h2
noncomputable def YE (H:Hp)(h:Heap):Prop:=∀a o,H a=some o->YQ P w H h a o
end
section
variable {P:xD}{w:World}{H H':Hp}{h h':Heap}{a:Addr}{o:HO}
theorem YQ.lt (x:YQ P w H h a o):a<h.objs.size:=by
 cases o with
 | lst xs=>obtain⟨_,_,_,_,e⟩:=x;exact qy e
 | tup xs=>obtain⟨_,_,_,p⟩:=x;exact p.lt
 | dK kvs=>obtain⟨_,_,_,_,o,_,_,e,_⟩:=x;exact qy e
 | dT kvs=>obtain⟨_,_,_,_,o,_,_,e,_⟩:=x;exact qy e
 | set S n=>obtain⟨o,_,_,_,e,_⟩:=x;exact qy e
 | ins C dx fs=>obtain⟨_,_,_,e,_⟩:=x;exact qy e
 | own y=>obtain⟨_,e⟩:=x;exact qy e
 | xd fs=>obtain⟨_,⟨_,_,_,e,_⟩,_⟩:=x;exact qy e
 | rng lo hi=>obtain⟨_,_,_,e⟩:=x;exact qy e
 | frz ob u=>obtain⟨e,_⟩:=x;exact qy e
 | tbl ps=>exact qy (show h.get? a=some _ from x)
 | met f y=>exact qy (show h.get? a=some _ from x)
 | ext φ=>obtain⟨_,⟨_,e⟩,_⟩:=x;exact qy e
theorem Paired.mapP {F G:α->β->Prop}:∀{l₁:List α} {l₂:List β},Paired F l₁ l₂->(∀a b,F a b->G a b)->Paired G l₁ l₂
 | _,_,.nil,_=>.nil
 | _,_,.cons r t,f=>.cons (f _ _ r) (Paired.mapP t f)
theorem YQ.stay (x:YQ P w H h a o)(k:∀b u,(b=a∨H b=some (.own a))->h.get? b=some u->h'.get? b=some u)
  (ho:∀b,H b=some (.own a)->H' b=some (.own a)) (ht:∀b xs,H b=some (.tup xs)->H' b=some (.tup xs)):YQ P w H' h' a o:=by
 induction o with
 | lst xs=>obtain⟨z,jR,n,r,e⟩:=x;exact⟨z,jR,n,r,k _ _ (.inl rfl) e⟩
 | tup xs=>obtain⟨z,jR,r,ob,e,c⟩:=x;exact⟨z,jR,r,ob,k _ _ (.inl rfl) e,c⟩
 | dK kvs=>obtain⟨z,y,vs,r,ob,es,ep,e,c⟩:=x;exact⟨z,y,vs,r,ob,es,ep,k _ _ (.inl rfl) e,c⟩
 | dT kvs=>
  obtain⟨z,y,xs,r,ob,es,ep,e,c⟩:=x;exact⟨z,y,xs,Paired.mapP r λp q z=>⟨z.1,ht _ _ z.2.1,z.2.2⟩,ob,es,ep,k _ _ (.inl rfl) e,c⟩
 | set S n=>obtain⟨ob,es,ep,t,e,c⟩:=x;exact⟨ob,es,ep,t,k _ _ (.inl rfl) e,c⟩
 | ins C dx fs=>
  obtain⟨d,z,ne,e,mA,⟨od,es,ep,e2,c⟩,r⟩:=x;exact⟨ho _ d,z,ne,k _ _ (.inl rfl) e,mA,⟨od,es,ep,k _ _ (.inr d) e2,c⟩,r⟩
 | own y=>obtain⟨ob,e⟩:=x;exact⟨ob,k _ _ (.inl rfl) e⟩
 | xd fs=>obtain⟨mA,⟨od,es,ep,e,c⟩,r⟩:=x;exact⟨mA,⟨od,es,ep,k _ _ (.inl rfl) e,c⟩,r⟩
 | rng lo hi=>obtain⟨t,u,v,e⟩:=x;exact⟨t,u,v,k _ _ (.inl rfl) e⟩
 | frz ob u ih=>obtain⟨e,q⟩:=x;exact⟨k _ _ (.inl rfl) e,ih q⟩
 | tbl ps=>
  have e:=x;exact k a _ (.inl rfl) e
 | met f y=>
  have e:=x;exact k a _ (.inl rfl) e
 | ext φ=>obtain⟨p,⟨o,e⟩,st⟩:=x;exact⟨st _ _ p λo q=>k _ _ (.inl rfl) q,⟨o,k _ _ (.inl rfl) e⟩,st⟩
theorem YE.lt (x:YE P w H h)(e:H a=some o):a<h.objs.size:=(x a o e).lt
theorem YE.fresh (x:YE P w H h)(e:h.objs.size<=a):H a=none:=by
 cases q:H a with
 | none=>rfl
 | some u=>exact absurd (qH (x.lt q) e) (yc _)
theorem YE.kept (x:YE P w H h)(k:∀b u,h.get? b=some u->h'.get? b=some u):YE P w H h':=λa o e=>
 (x a o e).stay (λb u _ q=>k b u q) (λ_ q=>q) λ_ _ q=>q
theorem YE.laid (x:YE P w H h)(k:∀b u,h.get? b=some u->h'.get? b=some u)(hp:h.objs.size<=a)(new:YQ P w (Zs H a o) h' a o):YE P w (Zs H a o) h':=λb u e=>by
 have hn:=x.fresh hp;by_cases hb:b=a
 ·subst hb;rw[Z1]at e;grind
 ·rw[Zv hb]at e
  exact(x b u e).stay (λc v _ q=>k c v q) (λc q=>by rw[Zv (YC q hn)];exact q) λc xs q=>by rw[Zv (YC q hn)];exact q
end
noncomputable def Rd (H:Hp)(a:Addr)(u:HO):Prop:=H a=some u∨∃o,H a=some (.frz o u)
theorem Rd.ok (r:Rd H a u)(x:YE P w H h):YQ P w H h a u:=by
 rcases r with r | ⟨o,r⟩
 ·exact x a u r
 ·obtain⟨_,q⟩:=x a _ r
  exact q
noncomputable def Mut:Option HO->Prop
 | some (.lst _)=>True
 | some (.dK _)=>True
 | some (.dT _)=>True
 | some (.set _ _)=>True
 | some (.ins _ _ _)=>True
 | some (.ext _)=>True
 | _=>False
section
variable {P:xD}{w:World}{H:Hp}{h h':Heap}{x e:Addr}{o':HO}
theorem YE.write (ok:YE P w H h)(mu:Mut (H x))(he:e=x∨H e=some (.own x))(k:∀b u,b≠e->h.get? b=some u->h'.get? b=some u)(heo:∃u,h'.get? e=some u)
  (new:YQ P w (Zs H x o') h' x o'):YE P w (Zs H x o') h':=λb u q=>by
 have nown:∀c y,H c=some (.own y)->c≠x:=λc y r z=>by subst z;rw[r]at mu;exact mu
 have ntup:∀c xs,H c=some (.tup xs)->c≠x:=λc xs r z=>by subst z;rw[r]at mu;exact mu
 by_cases hb:b=x
 ·subst hb;rw[Z1]at q;grind
 ·rw[Zv hb]at q
  by_cases hbe:b=e
  ·have q':H b=some (.own x):=by
    grind
   rw[q]at q';cases q';obtain⟨v,hv⟩:=heo;exact⟨v,by simp_all⟩
  ·refine(ok b u q).stay (λc v hc r=>k c v ?_ r) (λc r=>by rw[Zv (nown c b r)];exact r) λc xs r=>by rw[Zv (ntup c xs r)];exact r
   grind
end
structure Un (fs ex:List Addr)(H H':Hp)(h h':Heap):Prop where
 keep:∀b o,h.get? b=some o->H b=none->b∉fs->b∉ex->h'.get? b=some o
 slot:∀b o,h.get? b=some o->H b=none->b∈fs->b∉ex->∃sl,h'.get? b=some { o with slots:=sl }
 free:∀b o,h.get? b=some o->H b=none->b∉ex->H' b=none
 there:∀b o,h.get? b=some o->b∉ex->∃o',h'.get? b=some o'
 tups:∀b xs,H b=some (.tup xs)->H' b=some (.tup xs)
 frzs:∀b o u,H b=some (.frz o u)->H' b=some (.frz o u)
 tbls:∀b ps,H b=some (.tbl ps)->∃more,H' b=some (.tbl (ps++more))
section
variable {fs fs' ex ex':List Addr}{H H1 H2:Hp}{h h1 h2 h':Heap}{a x e:Addr}{o:HO}
theorem Un.any (u:Un fs ex H H1 h h1)(q:h.get? b=some ob)(n:H b=none)(hx:b∉ex):∃sl,h1.get? b=some { ob with slots:=sl }:=by
 by_cases hb:b∈fs
 ·exact u.slot b ob q n hb hx
 ·exact⟨ob.slots,u.keep b ob q n hb hx⟩
theorem Un.kept (k:∀b u,h.get? b=some u->h'.get? b=some u):Un fs ex H H h h':=
 ⟨λb ob q _ _ _=>k b ob q,λb ob q _ _ _=>⟨ob.slots,k b ob q⟩,λ_ _ _ n _=>n,λb ob q _=>⟨ob,k b ob q⟩,λ_ _ q=>q,λ_ _ _ q=>q,λ_ ps q=>⟨#[],by rw[q];simp⟩⟩
theorem Un.refl:Un fs ex H H h h:=Un.kept λ_ _ q=>q
theorem Un.laid (k:∀b u,h.get? b=some u->h'.get? b=some u)(hp:h.objs.size<=a)(hn:H a=none):Un fs ex H (Zs H a o) h h' where
 keep:=λb u q _ _ _=>k b u q
 slot:=λb u q _ _ _=>⟨u.slots,k b u q⟩
 free:=λb u q n _=>by rw[Zv (qK (qH (qy q) hp))];exact n
 there:=λb u q _=>⟨u,k b u q⟩
 tups:=λb xs q=>by rw[Zv (YC q hn)];exact q
 frzs:=λb u xs q=>by rw[Zv (YC q hn)];exact q
 tbls:=λb ps q=>⟨#[],by rw[Zv (YC q hn),q];simp⟩
theorem Un.write (mu:Mut (H x))(he:e=x∨H e=some (.own x))(k:∀b u,b≠e->h.get? b=some u->h'.get? b=some u)(heo:∃u,h'.get? e=some u):Un fs ex H (Zs H x o) h h':=by
 have hx:∀b,H b=none->b≠x:=λb n z=>by subst z;rw[n]at mu;exact mu
 have hb:∀b,H b=none->b≠e:=λb n z=>by
  simp_all
 have hm:∀b u,H b=some u->¬Mut (some u)->b≠x:=λb u q nm z=>by simp_all
 refine⟨λb u q n _ _=>k b u (hb b n) q,λb u q n _ _=>⟨u.slots,k b u (hb b n) q⟩,λb u q n _=>by rw[Zv (hx b n)];exact n,λb u q _=>?_,
  λb xs q=>by rw[Zv (hm b _ q λz=>z)];exact q,λb u xs q=>by rw[Zv (hm b _ q λz=>z)];exact q,λb ps q=>⟨#[],by rw[Zv (hm b _ q λz=>z),q];simp⟩⟩
 by_cases hbe:b=e
 ·simp_all
 ·exact⟨u,k b u hbe q⟩
end
noncomputable def trk (h:Heap)(H:Hp):List Addr:=(qm h.objs.size).filter λa=>(H a).isSome
noncomputable def hidT (h:Heap)(H:Hp):Heap:=PySem.W.hideAll h (trk h H)
theorem Zj8 (h:Heap)(H:Hp):(hidT h H).objs.size=h.objs.size:=qb0 _ _
theorem Zlf (e:h.get? b=some o)(n:H b=none):(hidT h H).get? b=some o:=
 qcc _ e λhm=>by
  have q:=(qA.mp hm).2;simp_all
theorem Znt (e:(hidT h H).get? b=some o):h.get? b=some o/\H b=none:=by
 have e':=PySem.W.of_hideAll (trk h H) e;refine⟨e',?_⟩
 cases q:H b with
 | none=>rfl
 | some x=>
  have hm:b∈trk h H:=qA.mpr ⟨qY.mpr (qy e'),by simp[q]⟩;have z:(hidT h H).get? b=none:=qb1 (trk h H) hm
  grind
structure Mod (K:qd)(mg:Str->Option Value)(base:Heap):Prop where
 kin:K.In base
 glob:base.Ns mainGlobals mg
 blt:∃mb,base.Ns builtinsNs mb/\∀x:Str,x≠"__name__"->mb x=xj x
 nolimit:base.NoLimit
structure Cx where
 prog:xD
 w:World
 K:qd
 mg:Str->Option Value
 base:Heap
 A:xE
 N:List Str
 s₀:Shared
 H₀:Hp
 env:Env
 outer:List Env
 stack:List Env
 ex:List Addr
 fn:Str->Bool
 calm:Bool
 pn:Qb
 xe:xF
noncomputable def Wx (l:List Env):List Addr:=l.filterMap (·.frame)
noncomputable abbrev Cx.fs (X:Cx):List Addr:=Wx X.outer
noncomputable def Vis (sc:Scope)(x:Str):Prop:=sc.names.lookup x=some .local∨sc.names.lookup x=some .cell∨sc.names.lookup x=some .free
noncomputable def WR (sc:Scope)(x:Str):Prop:=sc.names.lookup x=some .local∨sc.names.lookup x=some .cell
noncomputable def Look (env:Env)(h:Heap)(m:Str->Option Value)(x:Str)(u:Value):Prop:=
 (env.kindOf x=some .local/\m x=some u)∨((env.kindOf x=some .cell∨env.kindOf x=some .free)/\∃c,env.cells.lookup x=some c/\h.IsCell c (some u))
structure Cx.Ok (X:Cx):Prop where
 mod:Mod X.K X.mg X.base
 kind:X.env.scope.kind=.function
 glob:X.env.globals=mainGlobals
 blt:X.env.builtins=builtinsNs
 above:X.s₀.heap.objs.size<=X.env.locals
 inj:∀x y c,X.env.cells.lookup x=some c->X.env.cells.lookup y=some c->x=y
 has:∀x,(X.env.kindOf x=some .cell∨X.env.kindOf x=some .free)->∃c,X.env.cells.lookup x=some c
 cab:∀x c,X.fn x=true->X.env.cells.lookup x=some c->X.s₀.heap.objs.size<=c
 hd:X.calm=true->X.A.handled=none
 frames:X.A.frames=some X.stack
 stk:X.stack=X.outer∨(X.stack=X.env::X.outer/\X.env.frame=some X.env.locals)
 exf:∀b∈X.ex,b≠X.env.locals/\∀x c,X.env.cells.lookup x=some c->c≠b
 bs:∀b o,X.base.get? b=some o->X.s₀.heap.get? b=some o/\X.H₀ b=none
 bsz:X.base.objs.size<=X.s₀.heap.objs.size
 noex:∀b o,X.base.get? b=some o->b∉X.ex
 exfs:∀b∈X.ex,b∉X.fs
 funs:X.s₀.heap.FunFrames X.base X.outer
 frf:∀b∈X.fs,X.H₀ b=none
structure Inv (X:Cx)(jN:Qb)(σ:List (Option V))(H:Hp)(s:Shared):Prop where
 ok:X.Ok
 os:s.os=X.s₀.os
 bare:AllBare s.gens
 base:Un X.fs X.ex X.H₀ H X.s₀.heap s.heap
 loc:∃m,s.heap.Ns X.env.locals m/\∀(i:Nat) (x:Str) (v:V),X.N[i]?=some x->σ[i]?=some (some v)->Vis X.env.scope x->∃u,ZQ v u/\Look X.env s.heap m x u
 cell:∀x c,X.env.cells.lookup x=some c->∃v,s.heap.IsCell c v
 free:H X.env.locals=none
 freeC:∀x c,X.env.cells.lookup x=some c->H c=none
 pin:∀p∈X.pn++jN,s.heap.get? p.1=some p.2/\H p.1=none/\p.1≠X.env.locals/\p.1∉X.fs/\∀v,p.2.data≠.cell v
 hok:YE X.prog X.w H s.heap
 len:σ.length=X.N.length
section
variable {X:Cx}{jN:Qb}{σ:List (Option V)}{H H':Hp}{s:Shared}{h':Heap}
theorem Cx.Ok.nofr (ok:X.Ok)(e:X.base.get? b=some o):b∉X.fs:=λhb=>by
 have:=(ok.funs.mem hb).1
 grind
theorem Inv.bs (I:Inv X jN σ H s):∀b o,X.base.get? b=some o->s.heap.get? b=some o/\H b=none:=λb o e=>
 ⟨I.base.keep b o (I.ok.bs b o e).1 (I.ok.bs b o e).2 (I.ok.nofr e) (I.ok.noex b o e),I.base.free b o (I.ok.bs b o e).1 (I.ok.bs b o e).2 (I.ok.noex b o e)⟩
theorem Inv.bk (I:Inv X jN σ H s):∀b o,X.base.get? b=some o->s.heap.get? b=some o:=λb o e=>(I.bs b o e).1
theorem Inv.mod (I:Inv X jN σ H s):Mod X.K X.mg X.base:=I.ok.mod
theorem Inv.kIn (I:Inv X jN σ H s):X.K.In s.heap:=I.ok.mod.kin.keeps I.bk
theorem Inv.lt (I:Inv X jN σ H s):X.env.locals<s.heap.objs.size:=let ⟨_,hn,_⟩:=I.loc;hn.lt
theorem Inv.sz (I:Inv X jN σ H s):X.s₀.heap.objs.size<=s.heap.objs.size:=qp I.ok.above (y8 I.lt)
theorem Inv.nofs (I:Inv X jN σ H s){a:Addr}(h:s.heap.objs.size<=a):a∉X.fs:=λhb=>by
 obtain⟨_,o,ho,_⟩:=I.ok.funs.mem hb;exact absurd (qH (qy ho) (qp I.sz h)) (yc _)
theorem Inv.cne (I:Inv X jN σ H s):∀x c,X.env.cells.lookup x=some c->c≠X.env.locals:=λx c e z=>by
 obtain⟨v,o,ho,hd⟩:=I.cell x c e;obtain⟨m,⟨o',es,ep,ho',hd',_⟩,_⟩:=I.loc
 grind
theorem Inv.funs (I:Inv X jN σ H s):s.heap.FunFrames X.base X.outer:=by
 have all:∀(l:List Env),(∀b∈Wx l,b∈X.fs)->X.s₀.heap.FunFrames X.base l->s.heap.FunFrames X.base l:=by
  intro l
  induction l with
  | nil=>intro _ _;trivial
  | cons env r ih=>
   intro hs hl;obtain⟨hk,⟨L,o,hf,hn,ho,hd⟩,hr⟩:=hl;have hL:=hs L (by unfold Wx;simp_all);obtain⟨sl,e⟩:=I.base.slot L o ho (I.ok.frf L hL) hL λz=>I.ok.exfs L z hL;exact⟨hk,⟨L,_,hf,hn,e,hd⟩,ih (λb hb=>hs b (by unfold Wx;rw[yV,hf];exact qW _ hb)) hr⟩
 exact all X.outer (λ_ hb=>hb) I.ok.funs
theorem Inv.stack (I:Inv X jN σ H s):s.heap.FunFrames X.base X.stack:=by
 rcases I.ok.stk with e | ⟨e,hf⟩
 ·rw[e];exact I.funs
 ·rw[e]
  obtain⟨m,hn,_⟩:=I.loc;refine .cons (by rw[I.ok.kind];decide) hf hn ?_ I.funs;exact qb2 (qp I.ok.bsz I.ok.above)
theorem Inv.stkSub (I:Inv X jN σ H s):∀b∈Wx X.stack,b∈X.env.locals::X.fs:=λb hb=>by
 rcases I.ok.stk with e | ⟨e,hf⟩
 ·simp_all
 ·rw[e]at hb
  unfold Wx at hb;rw[yV,hf]at hb;exact hb
theorem Inv.stkFree (I:Inv X jN σ H s):∀b∈Wx X.stack,H b=none:=λb hb=>by
 rcases qB.mp (I.stkSub b hb)with e | hb
 ·rw[e];exact I.free
 ·obtain⟨_,o,ho,_⟩:=I.ok.funs.mem hb
  exact I.base.free b o ho (I.ok.frf b hb) λz=>I.ok.exfs b z hb
theorem Inv.step {ch:List Addr}(I:Inv X jN σ H s)
  (hch:∀b∈ch,(b∈X.ex∨X.s₀.heap.objs.size<=b)/\b≠X.env.locals/\(∀x c,X.env.cells.lookup x=some c->c≠b)/\∀p∈X.pn++jN,p.1≠b)
  (keep:∀b o,b≠X.env.locals->b∉X.fs->b∉ch->s.heap.get? b=some o->H b=none->h'.get? b=some o)
  (slot:∀b o,b≠X.env.locals->b∈X.fs->b∉ch->s.heap.get? b=some o->H b=none->∃sl,h'.get? b=some { o with slots:=sl }) (free:∀b o,b∉ch->s.heap.get? b=some o->H b=none->H' b=none)
  (there:∀b o,b∉ch->s.heap.get? b=some o->∃o',h'.get? b=some o')
  (tups:∀b xs,H b=some (.tup xs)->H' b=some (.tup xs)) (frzs:∀b o u,H b=some (.frz o u)->H' b=some (.frz o u)) (tbls:∀b ps,H b=some (.tbl ps)->∃more,H' b=some (.tbl (ps++more)))
  (ns:∀m,s.heap.Ns X.env.locals m->h'.Ns X.env.locals m) (hok:YE X.prog X.w H' h') (hg:AllBare g') :
  Inv X jN σ H' { s with heap:=h',gens:=g',drawn:=d',toks:=t' }:=by
 have neL:∀b o,X.s₀.heap.get? b=some o->b≠X.env.locals:=λb o e=>qK (qH (qy e) I.ok.above);have neC:∀b o,X.s₀.heap.get? b=some o->b∉X.ex->b∉ch:=λb o e hx hb=>by
  rcases (hch b hb).1 with z | z
  ·exact hx z
  ·exact absurd (qH (qy e) z) (yc _)
 have cellK:∀x c,X.env.cells.lookup x=some c->∀v,s.heap.IsCell c v->h'.IsCell c v:=λx c e v ⟨o,ho,hd⟩=>by
  have nch:c∉ch:=λz=>(hch c z).2.2.1 x c e rfl;by_cases hc:c∈X.fs
  ·obtain⟨sl,q⟩:=slot c o (I.cne x c e) hc nch ho (I.freeC x c e)
   exact⟨_,q,hd⟩
  ·exact⟨o,keep c o (I.cne x c e) hc nch ho (I.freeC x c e),hd⟩
 refine⟨I.ok,I.os,hg,⟨λb o e n hb hx=>?_,λb o e n hb hx=>?_,λb o e n hx=>?_,λb o e hx=>?_,λb xs e=>tups b xs (I.base.tups b xs e),λb o xs e=>frzs b o xs (I.base.frzs b o xs e),λb ps e=>?_⟩,?_,λx c e=>?_,?_,λx c e=>?_,λp hp=>?_,hok,I.len⟩
 ·exact keep b o (neL b o e) hb (neC b o e hx) (I.base.keep b o e n hb hx) (I.base.free b o e n hx)
 ·obtain⟨sl,e1⟩:=I.base.slot b o e n hb hx
  obtain⟨sl',e2⟩:=slot b _ (neL b o e) hb (neC b o e hx) e1 (I.base.free b o e n hx);exact⟨sl',e2⟩
 ·obtain⟨o',e1⟩:=I.base.there b o e hx
  exact free b o' (neC b o e hx) e1 (I.base.free b o e n hx)
 ·obtain⟨o',e1⟩:=I.base.there b o e hx
  exact there b o' (neC b o e hx) e1
 ·obtain⟨m1,e1⟩:=I.base.tbls b ps e
  obtain⟨m2,e2⟩:=tbls b _ e1;exact⟨m1++m2,by rw[e2,Array.append_assoc]⟩
 ·obtain⟨m,hn,hl⟩:=I.loc
  refine⟨m,ns m hn,λi x v e1 e2 e3=>?_⟩;obtain⟨u,r,l⟩:=hl i x v e1 e2 e3;refine⟨u,r,?_⟩;rcases l with l | ⟨k,c,e,z⟩
  ·exact .inl l
  ·exact .inr ⟨k,c,e,cellK x c e _ z⟩
 ·obtain⟨v,z⟩:=I.cell x c e
  exact⟨v,cellK x c e v z⟩
 ·obtain⟨m,⟨o,_,_,ho,_⟩,_⟩:=I.loc
  exact free _ o (λz=>(hch _ z).2.1 rfl) ho I.free
 ·obtain⟨v,o,ho,hd⟩:=I.cell x c e
  exact free c o (λz=>(hch c z).2.2.1 x c e rfl) ho (I.freeC x c e)
 ·obtain⟨e,n,ne,nf,d⟩:=I.pin p hp
  have nch:=λz=>(hch p.1 z).2.2.2 p hp rfl;exact⟨keep p.1 p.2 ne nf nch e n,free p.1 p.2 nch e n,ne,nf,d⟩
theorem Inv.un (I:Inv X jN σ H s)(u:Un X.fs [] H H' s.heap h')(hok:YE X.prog X.w H' h'):Inv X jN σ H' { s with heap:=h',toks:=t' }:=by
 obtain⟨m,⟨o,es,ep,ho,r⟩,_⟩:=id I.loc;obtain⟨sl,hL⟩:=u.any ho I.free (by simp);exact I.step (ch:=[]) (λ_ z=>nomatch z) (λb o _ hb _ e n=>u.keep b o e n hb (by simp)) (λb o _ hb _ e n=>u.slot b o e n hb (by simp)) (λb o _ e n=>u.free b o e n (by simp)) (λb o _ e=>u.there b o e (by simp)) u.tups u.frzs u.tbls (λm' hm=>by
  obtain⟨o',es',ep',ho',r'⟩:=hm;rw[ho]at ho';cases ho';exact⟨_,es',ep',hL,r'⟩) hok I.bare
theorem Inv.call (I:Inv X jN σ H s)(u:Un (Wx X.stack) ch H H' s.heap h')(hok:YE X.prog X.w H' h')(hg:AllBare g')
  (hch:∀b∈ch,(b∈X.ex∨X.s₀.heap.objs.size<=b)/\b≠X.env.locals/\(∀x c,X.env.cells.lookup x=some c->c≠b)/\∀p∈X.pn++jN,p.1≠b) :
  Inv X jN σ H' { s with heap:=h',gens:=g',drawn:=d',toks:=t' }:=by
 obtain⟨m,⟨o,es,ep,ho,r⟩,_⟩:=id I.loc;obtain⟨sl,hL⟩:=u.any ho I.free λz=>(hch _ z).2.1 rfl;exact I.step hch (λb o hL hb hc e n=>u.keep b o e n (λz=>(qB.mp (I.stkSub b z)).elim hL hb) hc) (λb o _ _ hc e n=>u.any e n hc) (λb o hc e n=>u.free b o e n hc) (λb o hc e=>u.there b o e hc) u.tups u.frzs u.tbls (λm' hm=>by
  obtain⟨o',es',ep',ho',r'⟩:=hm;rw[ho]at ho';cases ho';exact⟨_,es',ep',hL,r'⟩) hok hg
theorem Inv.turned (I:Inv X jN σ H s)(k:∀b o,b≠it->s.heap.get? b=some o->h'.get? b=some o)(hn:H it=none)(hL:it≠X.env.locals)
  (h1:it∈X.ex∨X.s₀.heap.objs.size<=it) (h2:∀x c,X.env.cells.lookup x=some c->c≠it) (h3:∀p∈X.pn++jN,p.1≠it):Inv X jN σ H { s with heap:=h',toks:=t' }:=by
 have nit:∀b u,H b=some u->b≠it:=λb u e z=>by grind
 refine I.step (ch:=[it]) (λb hb=>?_) (λb o _ _ hc e _=>k b o (λz=>hc (by simp[z])) e) (λb o _ _ hc e _=>⟨o.slots,k b o (λz=>hc (by simp[z])) e⟩) (λ_ _ _ _ n=>n)
  (λb o hc e=>⟨o,k b o (λz=>hc (by simp[z])) e⟩) (λ_ _ e=>e) (λ_ _ _ e=>e) (λb ps e=>⟨#[],by rw[e];simp⟩) (λm hm=>?_) (λb u e=>?_) I.bare
 ·have e:=by simpa using hb
  subst e;exact⟨h1,hL,h2,h3⟩
 ·obtain⟨o,es,ep,ho,r⟩:=hm
  exact⟨o,es,ep,k _ o (qJ hL) ho,r⟩
 ·refine(I.hok b u e).stay (λc v hc q=>k c v ?_ q) (λ_ q=>q) λ_ _ q=>q
  rcases hc with z | z
  ·rw[z];exact nit b u e
  ·exact nit c _ z
theorem Inv.tok (I:Inv X jN σ H s)(t:Nat):Inv X jN σ H { s with toks:=t }:=I.un Un.refl I.hok
theorem Inv.kept (I:Inv X jN σ H s)(k:∀b u,s.heap.get? b=some u->h'.get? b=some u):Inv X jN σ H { s with heap:=h',toks:=t' }:=I.un (Un.kept k) (I.hok.kept k)
theorem Inv.laid {a:Addr}(I:Inv X jN σ H s)(k:∀b u,s.heap.get? b=some u->h'.get? b=some u)(hp:s.heap.objs.size<=a)(new:YQ X.prog X.w (Zs H a o) h' a o) :
  Inv X jN σ (Zs H a o) { s with heap:=h',toks:=t' }:=I.un (Un.laid k hp (I.hok.fresh hp)) (I.hok.laid k hp new)
theorem Inv.write (I:Inv X jN σ H s)(mu:Mut (H x))(he:e=x∨H e=some (.own x))(k:∀b u,b≠e->s.heap.get? b=some u->h'.get? b=some u)(heo:∃u,h'.get? e=some u)
  (new:YQ X.prog X.w (Zs H x o) h' x o):Inv X jN σ (Zs H x o) { s with heap:=h',toks:=t' }:=I.un (Un.write mu he k heo) (I.hok.write mu he k heo new)
theorem Inv.pins_of (I:Inv X jN σ H s)(h:∀p∈pins',s.heap.get? p.1=some p.2/\H p.1=none/\p.1≠X.env.locals/\p.1∉X.fs/\∀v,p.2.data≠.cell v):Inv X pins' σ H s:=
 ⟨I.ok,I.os,I.bare,I.base,I.loc,I.cell,I.free,I.freeC,λp hp=>(qV.mp hp).elim (λz=>I.pin p (qb3 _ z)) (h p),I.hok,I.len⟩
theorem ZgK {N:List Str}(hN:N.Nodup){i:Nat}(a:N[i]?=some x)(b:N[j]?=some x):i=j:=by
 obtain⟨h1,e1⟩:=qC.mp a;obtain⟨h2,e2⟩:=qC.mp b;exact(List.getElem_inj hN).mp (e1.trans e2.symm)
theorem Zj9 (I:Inv X jN σ H s)(hN:X.N.Nodup)(hi:X.N[i]?=some x)(hx:WR X.env.scope x)(r:ZQ v u)
  (h:∀s',Inv X jN (σ.set i (some v)) H s'->(∃a,qbl a s.heap s'.heap/\(a=X.env.locals∨X.env.cells.lookup x=some a))->Q () s') (hf:X.fn x=true∨X.env.scope.names.lookup x=some .local:=by first | exact .inl rfl | exact .inr rfl | assumption):xf M A (storeName X.env x u) Q E s:=by
 obtain⟨m,hn,hl⟩:=id I.loc;have hcls:(X.env.scope.kind == .class||(X.env.scope.kind == .module&&X.env.locals != X.env.globals))=false:=by rw[I.ok.kind];rfl
 have hiσ:i < σ.length:=by rw[I.len];exact(qC.mp hi).1
 have cne:=I.cne;have tracked:∀{a:Addr} {h':Heap},(∃o,s.heap.get? a=some o/\H a=none)->qbl a s.heap h'->YE X.prog X.w H h':=λ{a h'} ha hs b ob e=>by
  obtain⟨_,_,hfree⟩:=ha;refine(I.hok b ob e).stay (λc w' hc q=>(hs.2 c ?_).trans q) (λ_ q=>q) λ_ _ q=>q;rintro rfl;rcases hc with rfl | hc
  ·rw[hfree]at e;cases e
  ·rw[hfree]at hc;cases hc
 rcases hx with hk | hk
 ·refine wpAny_storeName_local hk hn (λh' hn' hs=>?_) hcls
  obtain⟨oL,_,_,hoL,_⟩:=id hn;refine h _ ⟨I.ok,I.os,I.bare,⟨λb o e n hb hx=>?_,λb o e n hb hx=>?_,I.base.free,λb o e hx=>?_,I.base.tups,I.base.frzs,I.base.tbls⟩,⟨_,hn',λj y v' e1 e2 e3=>?_⟩,λy c e=>?_,I.free,I.freeC,λp hp=>?_,tracked ⟨oL,hoL,I.free⟩ hs,by simpa using I.len⟩ ⟨_,hs,.inl rfl⟩
  ·exact(hs.2 b (qK (qH (qy e) I.ok.above))).trans (I.base.keep b o e n hb hx)
  ·obtain⟨sl,e1⟩:=I.base.slot b o e n hb hx
   exact⟨sl,(hs.2 b (qK (qH (qy e) I.ok.above))).trans e1⟩
  ·obtain⟨o',e1⟩:=I.base.there b o e hx
   exact⟨o',(hs.2 b (qK (qH (qy e) I.ok.above))).trans e1⟩
  ·by_cases hj:j=i
   ·subst hj
    rw[hi]at e1;cases e1;rw[qU hiσ]at e2
    cases e2
    exact⟨u,r,.inl ⟨hk,by simp⟩⟩
   ·rw[qD (qJ hj)]at e2
    obtain⟨u',r',q⟩:=hl j y v' e1 e2 e3;refine⟨u',r',?_⟩;rcases q with⟨k,e⟩ | ⟨k,c,e,z⟩
    ·refine .inl ⟨k,?_⟩
     have:y≠x:=λe=>hj (ZgK hN e1 (e▸hi));simp[this,e]
    ·exact .inr ⟨k,c,e,z.sameBut hs (cne y c e)⟩
  ·obtain⟨w',z⟩:=I.cell y c e
   exact⟨w',z.sameBut hs (cne y c e)⟩
  ·obtain⟨e,n,ne,nf,d⟩:=I.pin p hp
   exact⟨(hs.2 p.1 ne).trans e,n,ne,nf,d⟩
 ·have hfn:X.fn x=true:=by
   rcases hf with z | z
   ·exact z
   ·rw[z]at hk;cases hk
  obtain⟨c,hc⟩:=I.ok.has x (.inl hk);obtain⟨w',z⟩:=I.cell x c hc;refine wpAny_storeName_cell I.ok.kind hk hc z (λh' hc' hs=>?_);obtain⟨oc,hoc,hocd⟩:=id z;refine h { s with heap:=h' } ⟨I.ok,I.os,I.bare,⟨λb o e n hb hx=>?_,λb o e n hb hx=>?_,I.base.free,λb o e hx=>?_,I.base.tups,I.base.frzs,I.base.tbls⟩,⟨m,hn.sameBut hs (qJ (cne x c hc)),λj y v' e1 e2 e3=>?_⟩,λy c' e=>?_,I.free,I.freeC,λp hp=>?_,tracked ⟨oc,hoc,I.freeC x c hc⟩ hs,by simpa using I.len⟩ ⟨c,hs,.inr hc⟩
  ·exact(hs.2 b (qK (qH (qy e) (I.ok.cab x c hfn hc)))).trans (I.base.keep b o e n hb hx)
  ·obtain⟨sl,e1⟩:=I.base.slot b o e n hb hx
   exact⟨sl,(hs.2 b (qK (qH (qy e) (I.ok.cab x c hfn hc)))).trans e1⟩
  ·obtain⟨o',e1⟩:=I.base.there b o e hx
   exact⟨o',(hs.2 b (qK (qH (qy e) (I.ok.cab x c hfn hc)))).trans e1⟩
  ·by_cases hj:j=i
   ·subst hj
    rw[hi]at e1;cases e1;rw[qU hiσ]at e2
    cases e2
    exact⟨u,r,.inr ⟨.inl hk,c,hc,hc'⟩⟩
   ·rw[qD (qJ hj)]at e2
    obtain⟨u',r',q⟩:=hl j y v' e1 e2 e3;refine⟨u',r',?_⟩;rcases q with q | ⟨k,c',e,z'⟩
    ·exact .inl q
    ·refine .inr ⟨k,c',e,z'.sameBut hs ?_⟩
     rintro rfl;exact hj (ZgK hN e1 (I.ok.inj _ _ _ e hc▸hi))
  ·by_cases hcc:c'=c
   ·subst hcc;exact⟨_,hc'⟩
   ·obtain⟨w2,z2⟩:=I.cell y c' e
    exact⟨w2,z2.sameBut hs hcc⟩
  ·obtain⟨e,n,ne,nf,d⟩:=I.pin p hp
   refine⟨(hs.2 p.1 ?_).trans e,n,ne,nf,d⟩;intro q;simp_all
theorem ZbX (I:Inv X jN σ H s)(hN:X.N.Nodup)(hi:X.N[i]?=some x)(hx:WR X.env.scope x)(r:ZQ v u)
  (h:∀s',Inv X jN (σ.set i (some v)) H s'->Q () s') (hf:X.fn x=true∨X.env.scope.names.lookup x=some .local:=by first | exact .inl rfl | exact .inr rfl | assumption):xf M A (storeName X.env x u) Q E s:=
 Zj9 I hN hi hx r (λs' I' _=>h s' I') hf
theorem Inv.call' (I:Inv X jN σ H s)(ho:s'.os=s.os)(u:Un (Wx X.stack) ch H H' s.heap s'.heap)(hok:YE X.prog X.w H' s'.heap)(hg:AllBare s'.gens)
  (hch:∀b∈ch,(b∈X.ex∨X.s₀.heap.objs.size<=b)/\b≠X.env.locals/\(∀x c,X.env.cells.lookup x=some c->c≠b)/\∀p∈X.pn++jN,p.1≠b):Inv X jN σ H' s':=by
 obtain⟨h',g',d',t',o'⟩:=s';have e:=ho;subst e;exact I.call u hok hg hch
end
noncomputable abbrev XK:=Value->Option Addr->Hp->Prop
noncomputable abbrev St:=List (Option V)
noncomputable abbrev VK:=V->Hp->Prop
noncomputable abbrev TE:=St->Hp->VK->Prop
noncomputable abbrev TT:=St->Hp->(Bool->Hp->Prop)->Prop
noncomputable abbrev TA:=St->Hp->(List V->Hp->Prop)->Prop
structure Ends where
 nx:St->Hp->Prop
 rt:VK
 bk:St->Hp->Prop:=λ_ _=>False
 ct:St->Hp->Prop:=λ_ _=>False
noncomputable abbrev TS:=Ends->St->Hp->Prop
noncomputable def EP (X:Cx)(jN:Qb)(σ:St)(Q:VK)(u:Value)(s':Shared):Prop:=∃v H',Inv X jN σ H' s'/\ZQ v u/\Q v H'
noncomputable def TP (X:Cx)(jN:Qb)(σ:St)(Q:Bool->Hp->Prop)(b:Bool)(s':Shared):Prop:=∃H',Inv X jN σ H' s'/\Q b H'
noncomputable def AP (X:Cx)(jN:Qb)(σ:St)(Q:List V->Hp->Prop)(us:List Value)(s':Shared):Prop:=∃vs H',Inv X jN σ H' s'/\ZH vs us/\Q vs H'
noncomputable def SP (X:Cx)(jN:Qb)(D:Ends)(f:Flow)(s':Shared):Prop:=
 match f with
 | .next=>∃σ' H',Inv X jN σ' H' s'/\D.nx σ' H'
 | .brk=>∃σ' H',Inv X jN σ' H' s'/\D.bk σ' H'
 | .cont=>∃σ' H',Inv X jN σ' H' s'/\D.ct σ' H'
 | .ret u=>∃v σ' H',Inv X jN σ' H' s'/\ZQ v u/\D.rt v H'
noncomputable def PE (X:Cx)(e:Expr)(t:TE):Prop:=
 ∀(jN:Qb) (s:Shared) (σ:St) (H:Hp) (Q:VK),Inv X jN σ H s->t σ H Q->xf (xB X.prog X.w) X.A (eval e X.env) (EP X jN σ Q) X.xe s
noncomputable def PT (X:Cx)(e:Expr)(t:TT):Prop:=
 ∀(jN:Qb) (s:Shared) (σ:St) (H:Hp) (Q:Bool->Hp->Prop),Inv X jN σ H s->t σ H Q->xf (xB X.prog X.w) X.A (isTrue e X.env (eval e X.env)) (TP X jN σ Q) X.xe s
noncomputable def PW (X:Cx)(e:Expr)(t:TT):Prop:=
 ∀(whole:Sem Value) (jN:Qb) (s:Shared) (σ:St) (H:Hp) (Q:Bool->Hp->Prop),Inv X jN σ H s->t σ H Q->xf (xB X.prog X.w) X.A (isTrue e X.env whole) (TP X jN σ Q) X.xe s
theorem PW.pt (h:PW X e t):PT X e t:=h _
noncomputable def PA (X:Cx)(es:List Expr)(t:TA):Prop:=
 ∀(pos:Pos) (jN:Qb) (s:Shared) (σ:St) (H:Hp) (Q:List V->Hp->Prop),Inv X jN σ H s->t σ H Q->xf (xB X.prog X.w) X.A (spliced (backTo pos (xh es X.env))) (AP X jN σ Q) X.xe s
noncomputable def PS (X:Cx)(st:Stmt)(t:TS):Prop:=
 ∀(jN:Qb) (s:Shared) (σ:St) (H:Hp) (D:Ends),Inv X jN σ H s->t D σ H->xf (xB X.prog X.w) X.A (exec st X.env) (SP X jN D) X.xe s
noncomputable def XV (X:Cx)(st:List Stmt)(t:TS):Prop:=
 ∀(jN:Qb) (s:Shared) (σ:St) (H:Hp) (D:Ends),Inv X jN σ H s->t D σ H->xf (xB X.prog X.w) X.A (execs st X.env) (SP X jN D) X.xe s
theorem ZK {t:Sem α}{Q Q':α->Shared->Prop}(h:xf M A t Q E s)(hQ:∀a s,Q a s->Q' a s):xf M A t Q' E s:=xc h hQ λ_ _ x=>x
section
variable {X:Cx}
noncomputable def Yd (i:Nat):TE:=fun σ H Q=>∃v,σ[i]?=some (some v)/\Q v H
noncomputable def tC (v:V):TE:=λ_ H Q=>Q v H
theorem Zpn {pos:Pos}(hN:X.N[i]?=some x)(hv:Vis X.env.scope x)(hd:(x==("__debug__" : Str))=false:=by decide)(hcd:(x==("__classdict__" : Str))=false:=by decide):PE X (.Name x pos) (Yd i):=by
 intro jN s σ H Q I h;obtain⟨v,e,h⟩:=h;obtain⟨m,hn,hl⟩:=I.loc;obtain⟨u,r,l⟩:=hl i x v hN e hv;have fin:EP X jN σ Q u s:=⟨v,H,I,r,h⟩;rcases l with⟨hk,hm⟩ | ⟨hk,c,hc,hcell⟩
 ·exact wpAny_Name (wpAny_loadName_local I.ok.kind hk hn hm fin) hd
 ·rcases hk with hk | hk
  ·exact wpAny_Name (wpAny_loadName_cell I.ok.kind hk hc hcell fin) hd
  ·exact wpAny_Name (wpAny_loadName_free I.ok.kind hk hc hcell fin hcd) hd
theorem Xa:PE X (.Constant (.int i) j pos) (tC (.int i)):=λ_ _ _ H _ I h=>wpAny_Constant_int ⟨.int i,H,I.tok _,⟨_,rfl⟩,h⟩
theorem ZqB:PE X (.Constant (.bool b) j pos) (tC (.bl b)):=λ_ _ _ H _ I h=>Constant_bool ⟨.bl b,H,I,rfl,h⟩
theorem Zpo:PE X (.Constant .none j pos) (tC .non):=λ_ _ _ H _ I h=>Constant_none ⟨.non,H,I,rfl,h⟩
theorem Zpp:PE X (.Constant (.str x) j pos) (tC (.str x)):=λ_ _ _ H _ I h=>Calls.Constant_str ⟨.str x,H,I.tok _,⟨_,rfl⟩,h⟩
noncomputable def Gl (X:Cx)(x:Str):Prop:=X.env.kindOf x=some .globalImplicit
theorem ZfQ {σ:St}(I:Inv X jN σ H s)(hg:Gl X x)(hm:X.mg x=some u)(h:Q u s)
  (hd:(x==("__debug__" : Str))=false:=by decide):xf (xB X.prog X.w) X.A (eval (.Name x pos) X.env) Q E s:=
 qa3 I.ok.kind hg (Calls.loadGlobal_global (by rw[I.ok.glob];exact I.mod.glob.keeps I.bk) hm h) hd
theorem JB {E:xF}{σ:St}{pos:Pos}(I:Inv X jN σ H s)(hg:Gl X x)(hm:X.mg x=none)(hv:xj x=some u)(h:Q u s)
  (hn:x≠"__name__":=by decide) (hd:(x==("__debug__" : Str))=false:=by decide):xf (xB X.prog X.w) X.A (eval (.Name x pos) X.env) Q E s:=by
 obtain⟨mb,h1,h2⟩:=I.mod.blt;exact qa3 I.ok.kind hg (Calls.loadGlobal_builtin (by rw[I.ok.glob];exact I.mod.glob.keeps I.bk) hm (by rw[I.ok.blt];exact h1.keeps I.bk) ((h2 x hn).trans hv) h) hd
theorem Znu {pos:Pos}(hg:Gl X x)(hm:X.mg x=none)(hv:xj x=some u)(r:ZQ v u)(hn:x≠"__name__":=by decide)(hd:(x==("__debug__" : Str))=false:=by decide):PE X (.Name x pos) (tC v):=
 λ_ _ _ H _ I h=>JB I hg hm hv ⟨v,H,I,r,h⟩ hn hd
variable {a b:Expr}{ta tb:TE}{pos:Pos}
noncomputable def tB (t:TE):TT:=fun σ H Q=>t σ H λx H1=>∃c,x=.bl c/\Q c H1
theorem Zpq (h:PE X e t)(he:∀whole,isTrue e X.env whole=(do let v<-whole;standAt e.pos;holding [v] (truthy v)):=by intro _;rfl):PT X e (tB t):=by
 intro jN s σ H Q I hw;refine isTrue_plain (ZK (h jN s σ H _ I hw) λv s1 ⟨x,H1,I1,r1,q1⟩=>?_) (he _);obtain⟨d,rfl,q⟩:=q1
 cases r1
 exact wpAny_truthy_bool ⟨H1,I1,q⟩
variable {tA tB':TT}{rest:List Expr}
noncomputable def tAnd (t u:TT):TT:=fun σ H Q=>t σ H λc H1=>if c=true then u σ H1 Q else Q false H1
noncomputable def tOr (t u:TT):TT:=fun σ H Q=>t σ H λc H1=>if c=true then Q true H1 else u σ H1 Q
noncomputable def tNot (t:TT):TT:=fun σ H Q=>t σ H λc H1=>Q (!c) H1
theorem Znv (ha:PT X a tA):PW X (.BoolOp .And [a] pos) tA:=by
 intro wh jN s σ H Q I h;refine isTrue_and (ZK (ha jN s σ H Q I h) λc s1 e=>?_)
 cases c with
 | true=>exact isTrue_and_nil e
 | false=>exact e
theorem Zpr (ha:PT X a tA):PW X (.BoolOp .Or [a] pos) tA:=by
 intro wh jN s σ H Q I h;refine isTrue_or (ZK (ha jN s σ H Q I h) λc s1 e=>?_)
 cases c with
 | false=>exact isTrue_or_nil e
 | true=>exact e
theorem Zps (ha:PT X a tA)(hb:PW X (.BoolOp .And (b::rest) pos) tB'):PW X (.BoolOp .And (a::b::rest) pos) (tAnd tA tB'):=by
 intro wh jN s σ H Q I h;refine isTrue_and (ZK (ha jN s σ H _ I h) λc s1 ⟨H1,I1,q1⟩=>?_)
 cases c with
 | true=>exact hb wh jN s1 σ H1 Q I1 q1
 | false=>exact⟨H1,I1,q1⟩
theorem ZqC (ha:PT X a tA)(hb:PW X (.BoolOp .Or (b::rest) pos) tB'):PW X (.BoolOp .Or (a::b::rest) pos) (tOr tA tB'):=by
 intro wh jN s σ H Q I h;refine isTrue_or (ZK (ha jN s σ H _ I h) λc s1 ⟨H1,I1,q1⟩=>?_)
 cases c with
 | true=>exact⟨H1,I1,q1⟩
 | false=>exact hb wh jN s1 σ H1 Q I1 q1
theorem Zpt (ha:PT X a tA):PT X (.UnaryOp .Not a pos) (tNot tA):=by
 intro jN s σ H Q I h;exact isTrue_not (ha jN s σ H (λc H1=>Q (!c) H1) I h)
noncomputable def ZqD (ta tb:TE):TE:=fun σ H Q=>ta σ H λx H1=>∃c,x=.bl c/\if c=true then tb σ H1 Q else Q (.bl false) H1
noncomputable def tOrV (ta tb:TE):TE:=fun σ H Q=>ta σ H λx H1=>∃c,x=.bl c/\if c=true then Q (.bl true) H1 else tb σ H1 Q
noncomputable def ZqE (ta:TE):TE:=fun σ H Q=>ta σ H λx H1=>∃c,x=.bl c/\Q (.bl (!c)) H1
theorem Zpu (h:PE X a t):PE X (.BoolOp op [a] pos) t:=λjN s σ H Q I hw=>BoolOp_one (h jN s σ H Q I hw)
theorem Zpv (ha:PE X a ta)(hb:PE X (.BoolOp .And (b::rest) pos) tb):PE X (.BoolOp .And (a::b::rest) pos) (ZqD ta tb):=by
 intro jN s σ H Q I h;refine BoolOp_and (ZK (ha jN s σ H _ I h) λv s1 ⟨x,H1,I1,r1,q1⟩=>?_);obtain⟨c,rfl,q1⟩:=q1
 cases r1
 refine wpAny_truthy_bool ?_
 cases c with
 | true=>exact hb jN s1 σ H1 Q I1 q1
 | false=>exact⟨.bl false,H1,I1,rfl,q1⟩
theorem ZqF (ha:PE X a ta)(hb:PE X (.BoolOp .Or (b::rest) pos) tb):PE X (.BoolOp .Or (a::b::rest) pos) (tOrV ta tb):=by
 intro jN s σ H Q I h;refine BoolOp_or (ZK (ha jN s σ H _ I h) λv s1 ⟨x,H1,I1,r1,q1⟩=>?_);obtain⟨c,rfl,q1⟩:=q1
 cases r1
 refine wpAny_truthy_bool ?_
 cases c with
 | false=>exact hb jN s1 σ H1 Q I1 q1
 | true=>exact⟨.bl true,H1,I1,rfl,q1⟩
theorem Zpw (ha:PE X a ta):PE X (.UnaryOp .Not a pos) (ZqE ta):=by
 intro jN s σ H Q I h;refine UnaryOp_ (ZK (ha jN s σ H _ I h) λv s1 ⟨x,H1,I1,r1,q1⟩=>?_);obtain⟨c,rfl,q1⟩:=q1
 cases r1
 exact not_of (wpAny_truthy_bool ⟨.bl (!c),H1,I1,rfl,q1⟩)
noncomputable def tIf (t:TT)(ta tb:TE):TE:=fun σ H Q=>t σ H λc H1=>if c=true then ta σ H1 Q else tb σ H1 Q
theorem Zlg (hc:PT X c tA)(ha:PE X a ta)(hb:PE X b tb):PE X (.IfExp c a b pos) (tIf tA ta tb):=by
 intro jN s σ H Q I h;refine wpAny_IfExp (ZK (hc jN s σ H _ I h) λd s1 ⟨H1,I1,q1⟩=>?_)
 cases d with
 | true=>exact ha jN s1 σ H1 Q I1 q1
 | false=>exact hb jN s1 σ H1 Q I1 q1
end
noncomputable def ZV (K:qd)(H:Hp)(a:Addr)(xs:List V):Prop:=
 Rd H a (.lst xs)∨
  ∃(o:Obj) (jR:Array Value) (n:Nat),K.lookup a=some o/\o.cls=.type "list"/\o.dict=none/\o.data=.seq jR n/\jR.size<=xg/\ZH xs jR.toList
noncomputable def Z0 (K:qd)(H:Hp)(a:Addr)(xs:List V):Prop:=
 Rd H a (.tup xs)∨
  ∃(o:Obj) (jR:Array Value) (n:Nat),K.lookup a=some o/\o.cls=.type "tuple"/\o.data=.seq jR n/\jR.size<=xg/\ZH xs jR.toList
noncomputable def absV:Value->Option V
 | .none=>some .non
 | .bool b=>some (.bl b)
 | .int i _=>some (.int i)
 | .str x _=>some (.str x)
 | .bytes b _=>some (.byt b)
 | .float b _=>some (.flt b)
 | .ref a=>some (.ref a)
 | .type n=>some (.ty n)
 | _=>none
theorem ZQ.abs (r:ZQ x u):absV u=some x:=by
 cases x with
 | non=>cases r;rfl
 | bl _=>cases r;rfl
 | int _=>obtain⟨t,rfl⟩:=r;rfl
 | str _=>obtain⟨t,rfl⟩:=r;rfl
 | byt _=>obtain⟨t,rfl⟩:=r;rfl
 | flt _=>obtain⟨t,rfl⟩:=r;rfl
 | ref _=>cases r;rfl
 | ty _=>cases r;rfl
theorem ZQ.inj (r:ZQ x u)(q:ZQ y u):x=y:=zS (r.abs.symm.trans q.abs)
theorem ZH.inj:∀{xs ys:List V} {us:List Value},ZH xs us->ZH ys us->xs=ys
 | _,_,_,.nil,.nil=>rfl
 | _,_,_,.cons r t,.cons r' t'=>by rw[r.inj r',ZH.inj t t']
section
variable {X:Cx}{jN:Qb}{σ:St}{H:Hp}{s:Shared}{a:Addr}{xs ys:List V}
theorem ZV.of {K:qd}(h:H a=some (.lst xs)):ZV K H a xs:=.inl (.inl h)
theorem Z0.of {K:qd}(h:H a=some (.tup xs)):Z0 K H a xs:=.inl (.inl h)
theorem Inv.list (I:Inv X jN σ H s)(h:ZV X.K H a xs):∃jR:List Value,ZH xs jR/\PlainL s.heap a jR.toArray/\xs.length<=xg:=by
 rcases h with h | ⟨o,jR,n,hk,hc,hd,hs,hz,r⟩
 ·obtain⟨z,jR,n,r,e⟩:=h.ok I.hok
  exact⟨jR,r,⟨_,n,e,rfl,rfl,rfl⟩,z⟩
 ·refine⟨jR.toList,r,⟨o,n,I.kIn a o hk,hc,hd,by omega⟩,?_⟩
  have e:=r.length
  grind
theorem Inv.tuple (I:Inv X jN σ H s)(h:Z0 X.K H a xs):∃jR:List Value,ZH xs jR/\IsTup s.heap a jR.toArray/\xs.length<=xg:=by
 rcases h with h | ⟨o,jR,n,hk,hc,hs,hz,r⟩
 ·obtain⟨z,jR,r,p⟩:=h.ok I.hok
  exact⟨jR,r,p,z⟩
 ·refine⟨jR.toList,r,⟨o,I.kIn a o hk,hc,n,by omega⟩,?_⟩
  have e:=r.length;simp_all
theorem Inv.list_inj (I:Inv X jN σ H s)(h:ZV X.K H a xs)(h':ZV X.K H a ys):xs=ys:=by
 obtain⟨jR,r,⟨o,n,e,_,_,d⟩,_⟩:=I.list h;obtain⟨its',r',⟨o',n',e',_,_,d'⟩,_⟩:=I.list h';have:jR=its':=by grind
 subst this;exact r.inj r'
theorem Inv.tuple_inj (I:Inv X jN σ H s)(h:Z0 X.K H a xs)(h':Z0 X.K H a ys):xs=ys:=by
 obtain⟨jR,r,⟨o,e,_,n,d⟩,_⟩:=I.tuple h;obtain⟨its',r',⟨o',e',_,n',d'⟩,_⟩:=I.tuple h';have:jR=its':=by grind
 subst this;exact r.inj r'
end
noncomputable abbrev Cx.wish (X:Cx)(E:xF):Cx:={ X with xe:=E }
noncomputable abbrev Cx.nox (X:Cx):Cx:=X.wish λ_ _=>False
theorem Cx.Ok.wish {X:Cx}(ok:X.Ok)(E:xF):(X.wish E).Ok:=
 ⟨ok.mod,ok.kind,ok.glob,ok.blt,ok.above,ok.inj,ok.has,ok.cab,ok.hd,ok.frames,ok.stk,ok.exf,ok.bs,ok.bsz,ok.noex,ok.exfs,ok.funs,ok.frf⟩
theorem Cx.Ok.unwish {X:Cx}(ok:(X.wish E).Ok):X.Ok:=
 ⟨ok.mod,ok.kind,ok.glob,ok.blt,ok.above,ok.inj,ok.has,ok.cab,ok.hd,ok.frames,ok.stk,ok.exf,ok.bs,ok.bsz,ok.noex,ok.exfs,ok.funs,ok.frf⟩
section
variable {X:Cx}{jN:Qb}{σ:St}{H:Hp}{s:Shared}{E:xF}
theorem Inv.wish (I:Inv X jN σ H s)(E:xF):Inv (X.wish E) jN σ H s:=⟨I.ok.wish E,I.os,I.bare,I.base,I.loc,I.cell,I.free,I.freeC,I.pin,I.hok,I.len⟩
theorem Inv.unwish (I:Inv (X.wish E) jN σ H s):Inv X jN σ H s:=⟨I.ok.unwish,I.os,I.bare,I.base,I.loc,I.cell,I.free,I.freeC,I.pin,I.hok,I.len⟩
theorem SP.unwish (h:SP (X.wish E) jN D f s'):SP X jN D f s':=by
 cases f with
 | next=>obtain⟨σ',H',I,q⟩:=h;exact⟨σ',H',I.unwish,q⟩
 | brk=>obtain⟨σ',H',I,q⟩:=h;exact⟨σ',H',I.unwish,q⟩
 | cont=>obtain⟨σ',H',I,q⟩:=h;exact⟨σ',H',I.unwish,q⟩
 | ret u=>obtain⟨v,σ',H',I,r,q⟩:=h;exact⟨v,σ',H',I.unwish,r,q⟩
theorem PE.nox (h:PE X.nox e t):PE X e t:=λjN s σ H Q I hw=>
 xc (h jN s σ H Q (I.wish _) hw) (λ_ _ ⟨v,H',I',r,q⟩=>⟨v,H',I'.unwish,r,q⟩) λ_ _ z=>zB z
theorem XV.nox {st:List Stmt}(h:XV X.nox st t):XV X st t:=λjN s σ H D I hw=>
 xc (h jN s σ H D (I.wish _) hw) (λ_ _ q=>q.unwish) λ_ _ z=>zB z
end
section
variable {X:Cx}{st:Stmt}{rest:List Stmt}{t u:TS}{e:Expr}{te:TE}{pos:Pos}
noncomputable def ZqG:TS:=λD σ H=>D.nx σ H
noncomputable def BW (t u:TS):TS:=λD σ H=>t { D with nx:=u D } σ H
theorem Zdn:XV X [] ZqG:=λ_ _ σ H _ I h=>wpAny_execs_nil ⟨σ,H,I,h⟩
theorem XZ (h1:PS X st t)(h2:XV X rest u):XV X (st::rest) (BW t u):=by
 intro jN s σ H D I h;refine wpAny_execs_cons (ZK (h1 jN s σ H { D with nx:=u D } I h) λf s1 q=>?_)
 cases f with
 | next=>
  obtain⟨σ',H',I',q⟩:=q;exact h2 jN s1 σ' H' D I' q
 | ret v=>exact q
 | brk=>exact q
 | cont=>exact q
theorem Js (h1:PS X st t):XV X [st] t:=by
 intro jN s σ H D I h;refine wpAny_execs_cons (ZK (h1 jN s σ H D I h) λf s1 q=>?_)
 cases f with
 | next=>exact wpAny_execs_nil q
 | ret v=>exact q
 | brk=>exact q
 | cont=>exact q
theorem Inv.quiet {σ:St}(I:Inv X jN σ H s):interactive X.env=false:=by simp[interactive,I.ok.kind]
noncomputable def JI (te:TE):TS:=λD σ H=>te σ H λ_ H1=>D.nx σ H1
theorem ZbY (he:PE X e te)(hs:xr e none pos.line X.env=pure false:=by rfl):PS X (.Expr e pos) (JI te):=by
 intro jN s σ H D I h;exact wpAny_Expr_any (ZK (he jN s σ H _ I h) λv s1 ⟨x,H1,I1,r1,q1⟩=>⟨σ,H1,I1,q1⟩) I.quiet hs
noncomputable def tRet (te:TE):TS:=λD σ H=>te σ H D.rt
theorem Zh9 (he:PE X e te):PS X (.Return (some e) pos) (tRet te):=by
 intro jN s σ H D I h;exact wpAny_Return_some (ZK (he jN s σ H _ I h) λv s1 ⟨x,H1,I1,r1,q1⟩=>⟨x,σ,H1,I1,r1,q1⟩)
noncomputable def tIfS (c:TT)(t u:TS):TS:=λD σ H=>c σ H λb H1=>if b=true then t D σ H1 else u D σ H1
theorem Zjn (hc:PT X c tc)(ha:XV X a t)(hb:XV X b u):PS X (.If c a b pos) (tIfS tc t u):=by
 intro jN s σ H D I h;refine wpAny_If (ZK (hc jN s σ H _ I h) λd s1 ⟨H1,I1,q1⟩=>?_)
 cases d with
 | true=>exact ha jN s1 σ H1 D I1 q1
 | false=>exact hb jN s1 σ H1 D I1 q1
end
noncomputable abbrev TG:=V->St->Hp->(St->Hp->Prop)->Prop
noncomputable abbrev TGs:=List V->St->Hp->(St->Hp->Prop)->Prop
noncomputable def PG (X:Cx)(target:Expr)(t:TG):Prop:=
 ∀(jN:Qb) (s:Shared) (σ:St) (H:Hp) (v:V) (u:Value) (Q:St->Hp->Prop),Inv X jN σ H s->ZQ v u->t v σ H Q->
  xf (xB X.prog X.w) X.A (assign target X.env u) (λ_ s'=>∃σ' H',Inv X jN σ' H' s'/\Q σ' H') X.xe s
noncomputable def PGs (X:Cx)(ts:List Expr)(t:TGs):Prop:=
 ∀(jN:Qb) (s:Shared) (σ:St) (H:Hp) (vs:List V) (us:List Value) (Q:St->Hp->Prop),Inv X jN σ H s->ZH vs us->t vs σ H Q->
  xf (xB X.prog X.w) X.A (assignInOrder ((assignEach ts X.env).map (·.2)) us) (λ_ s'=>∃σ' H',Inv X jN σ' H' s'/\Q σ' H') X.xe s
noncomputable abbrev TSet:=V->V->V->Hp->(Hp->Prop)->Prop
noncomputable def PSet (X:Cx)(t:TSet):Prop:=
 ∀(jN:Qb) (s:Shared) (σ:St) (H:Hp) (o i v:V) (ov iv u:Value) (Q:Hp->Prop),Inv X jN σ H s->ZQ o ov->ZQ i iv->ZQ v u->t o i v H Q->
  xf (xB X.prog X.w) X.A (setItem ov iv u) (λ_ s'=>∃H',Inv X jN σ H' s'/\Q H') X.xe s
section
variable {X:Cx}{pos:Pos}
noncomputable def BG (i:Nat):TG:=λv σ H Q=>Q (σ.set i (some v)) H
theorem Vy (hN:X.N.Nodup)(hi:X.N[i]?=some x)(hx:WR X.env.scope x)(hf:X.fn x=true∨X.env.scope.names.lookup x=some .local:=by first | exact .inl rfl | exact .inr rfl | assumption):PG X (.Name x pos) (BG i):=by
 intro jN s σ H v u Q I r h;exact wpAny_assign_Name (ZbX I hN hi hx r (λs' I'=>⟨_,H,I',h⟩) hf)
noncomputable def gNil:TGs:=λvs σ H Q=>vs=[]/\Q σ H
noncomputable def Zlh (t:TG)(u:TGs):TGs:=λvs σ H Q=>∃v r,vs=v::r/\t v σ H fun σ' H'=>u r σ' H' Q
theorem Zdo:PGs X [] gNil:=by
 intro jN s σ H vs us Q I r h;obtain⟨e,h⟩:=h;exact assignInOrder_nil ⟨σ,H,I,h⟩
theorem UH (h1:PG X e t)(h2:PGs X es u)
  (hs:(assignEach (e::es) X.env).map (·.2)=assign e X.env::(assignEach es X.env).map (·.2):=by rfl):PGs X (e::es) (Zlh t u):=by
 intro jN s σ H vs us Q I r h;obtain⟨v,vr,e1,h⟩:=h;subst e1
 cases r with
 | cons r rr=>
  rw[hs];refine assignInOrder_cons (ZK (h1 jN s σ H _ _ _ I r h) λ_ s1 ⟨σ1,H1,I1,q1⟩=>?_);exact h2 jN s1 σ1 H1 _ _ Q I1 rr q1
noncomputable def gTup (K:qd)(n:Nat)(t:TGs):TG:=λv σ H Q=>∃a xs,v=.ref a/\Z0 K H a xs/\xs.length=n/\t xs σ H Q
theorem Zpx {k:Nat}(hc:X.calm=true)(h:PGs X es t)
  (hn:(assignEach es X.env).length=n:=by rfl) (hst:(assignEach es X.env).findIdx? (·.1)=none:=by rfl):PG X (.Tuple es k pos) (gTup X.K n t):=by
 intro jN s σ H v u Q I r hw;obtain⟨a,xs,e1,hq,hl,hw⟩:=hw;subst e1
 cases r
 obtain⟨jR,rv,ht,hz⟩:=I.tuple hq;refine assign_Tuple_tuple (I.ok.hd hc) ht (by simp[hn,<-hl,rv.length]) hst λh' hx=>?_;have I1:Inv X jN σ H { s with heap:=h' }:=I.kept λb o e=>hx b o (qK (qy e)) e;exact h jN _ σ H xs _ Q I1 (by omega) hw
noncomputable def gSub (to ti:TE)(t:TSet):TG:=λv σ H Q=>to σ H λo H1=>ti σ H1 λi H2=>t o i v H2 λH3=>Q σ H3
theorem ZdG (ho:PE X o to)(hi:PE X i ti)(hs:PSet X t)
  (ha:∀v,assign (.Subscript o i pos) X.env v=(do
   let ov<-holding [v] (eval o X.env)
   let iv<-holding [v,ov] (eval i X.env)
   standAt pos
   holding [v,ov,iv] (setItem ov iv v)
   release [v,ov,iv] []):=by intro _;rfl):PG X (.Subscript o i pos) (gSub to ti t):=by
 intro jN s σ H v u Q I r h;rw[ha];refine xa (xw (ZK (ho jN s σ H _ I h) λov s1 ⟨x,H1,I1,r1,q1⟩=>?_));refine xa (xw (ZK (hi jN s1 σ H1 _ I1 q1) λiv s2 ⟨y,H2,I2,r2,q2⟩=>?_));refine xa (wpAny_standAt (xa (xw (ZK (hs jN s2 σ H2 x y v ov iv u _ I2 r1 r2 r q2) λ_ s3 ⟨H3,I3,q3⟩=>?_))));exact wpAny_release ⟨σ,H3,I3,q3⟩
noncomputable def UX (te:TE)(g:TG):TS:=λD σ H=>te σ H λx H1=>g x σ H1 D.nx
theorem Bx (he:PE X e te)(hg:PG X tg g)(hs:swapsWithSole [tg] e pos.line X.env=pure false:=by rfl)(hw:swappedStores [tg] e X.env=pure none:=by rfl)
  (h1:(assignEach [tg] X.env).map (·.2)=[assign tg X.env]:=by rfl):PS X (.Assign [tg] e pos) (UX te g):=by
 intro jN s σ H D I h;refine wpAny_Assign_stores (ZK (he jN s σ H _ I h) λv s1 ⟨x,H1,I1,r1,q1⟩=>?_) hs hw;rw[h1];exact ZK (hg jN s1 σ H1 x v _ I1 r1 q1) λ_ s2 q=>q
theorem Ub (hN:X.N.Nodup)(hi:X.N[i]?=some x)(hx:WR X.env.scope x)(he:PE X e te)(hs:xr e (some (.Name x pos')) pos.line X.env=pure false:=by rfl)(hf:X.fn x=true∨X.env.scope.names.lookup x=some .local:=by first | exact .inl rfl | exact .inr rfl | assumption) :
  PS X (.Assign [.Name x pos'] e pos) (UX te (BG i)):=by
 intro jN s σ H D I h;refine wpAny_Assign_Name (ZK (he jN s σ H _ I h) λv s1 ⟨y,H1,I1,r1,q1⟩=>?_) hs;exact ZbX I1 hN hi hx r1 (λs2 I2=>⟨_,H1,I2,q1⟩) hf
noncomputable def tPar (i j:Nat)(ta:TA):TS:=λD σ H=>ta σ H λvs H1=>∃v w,vs=[v,w]/\D.nx ((σ.set i (some v)).set j (some w)) H1
theorem Zpy (hc:X.calm=true)(hN:X.N.Nodup)(hi:X.N[i]?=some x)(hj:X.N[j]?=some y)(hij:i≠j)
  (hx:X.env.scope.names.lookup x=some .local) (hy:X.env.scope.names.lookup y=some .local) (ha:PA X [a,b] ta)
  (hw:swappedStores [.Tuple [.Name x px,.Name y py] kt pt] (.Tuple [a,b] k2 pt2) X.env=pure (some [x,y]))
  (hs:swapsWithSole [.Tuple [.Name x px,.Name y py] kt pt] (.Tuple [a,b] k2 pt2) pos.line X.env=pure false:=by rfl) :
  PS X (.Assign [.Tuple [.Name x px,.Name y py] kt pt] (.Tuple [a,b] k2 pt2) pos) (tPar i j ta):=by
 intro jN s σ H D I h;rw[exec_Assign_arm];refine xa (wpAny_standAt ?_);rw[hs];refine xa (xb ?_);rw[if_neg (by decide)];refine xa (Tuple_ (ZK (ha _ jN s σ H _ I h) λus s1 ⟨vs,H1,I1,r1,q1⟩=>?_));obtain⟨v,w,e1,q1⟩:=q1;subst e1;obtain⟨u1,u2,rfl,rv,rw'⟩:∃u1 u2,us=[u1,u2]/\ZQ v u1/\ZQ w u2:=by
  cases r1 with
  | cons p q=>
   cases q with
   | cons p' q'=>
    cases q'
    exact⟨_,_,rfl,p,p'⟩
 refine xl ?_ (by show 2<=xg;decide);have I2:Inv X jN σ H1 { s1 with heap:=s1.heap.push { cls:=.type "tuple",data:=.seq [u1,u2].toArray } }:=I1.kept (t':=s1.toks) λb o e=>qj _ e;rw[hw];refine xa (xb ?_);show xf (xB X.prog X.w) X.A (do rule "assign.swapped-stores";let items<-unpackItems (.ref s1.heap.objs.size) 2 none;assignInOrder [λv=>bindName X.env y v,λv=>bindName X.env x v] items.reverse;pure Flow.next) _ _ _;refine xa (wpAny_rule (xa (unpackItems_tuple (items:=#[u1,u2]) (I.ok.hd hc) (qaF s1.heap _) λh' hx'=>?_)));have I3:=I2.kept (t':=s1.toks) λb o e=>hx' b o (qK (qy e)) e;refine xa (assignInOrder_cons (wpAny_bindName (ZbX I3 hN hj (.inl hy) rw' (λs2 I4=>?_) (.inr hy))));refine assignInOrder_cons (wpAny_bindName (ZbX I4 hN hi (.inl hx) rv (λs3 I5=>assignInOrder_nil (xb ?_)) (.inr hx)));rw[List.set_comm _ _ (qJ hij)]at I5;exact⟨_,H1,I5,q1⟩
end
section
variable {X:Cx}{pos:Pos}
noncomputable def Zpz (c:TT)(tb:TS):TS:=λD σ H=>∃W:Nat->St->Hp->Prop,(∃m,W m σ H)/\∀m σ H,W m σ H->
 c σ H λb H1=>if b=true then ∃N:St->Hp->Prop,(∀σ' H',N σ' H'->∃m',m'<m/\W m' σ' H')/\tb { D with nx:=N,ct:=N,bk:=D.nx } σ H1 else D.nx σ H1
theorem ZgL (hp:PassesOwn (xB X.prog X.w) X.A X.env X.xe)(hc:PT X c tc)(hb:XV X body tb):PS X (.While c body [] pos) (Zpz tc tb):=by
 intro jN s σ H D I h;obtain⟨W,⟨m0,w0⟩,turn⟩:=h;refine wpAny_While (codeAny_whileLoop (λn s'=>∃σ' H',Inv X jN σ' H' s'/\W n σ' H') ?_ m0 ⟨σ,H,I,w0⟩);rintro n s1 ⟨σ1,H1,I1,w1⟩;refine wpAny_passesOwn hp (ZK (hc jN s1 σ1 H1 _ I1 (turn n σ1 H1 w1)) λb s2 ⟨H2,I2,q2⟩=>?_)
 cases b with
 | true=>
  obtain⟨N,hN,q2⟩:=q2;refine wpAny_passesOwn hp (ZK (hb jN s2 σ1 H2 _ I2 q2) λf s3 q3=>?_)
  cases f with
  | next=>
   obtain⟨σ3,H3,I3,n3⟩:=q3;obtain⟨m',hm,w3⟩:=hN σ3 H3 n3;exact⟨m',hm,σ3,H3,I3,w3⟩
  | cont=>
   obtain⟨σ3,H3,I3,n3⟩:=q3;obtain⟨m',hm,w3⟩:=hN σ3 H3 n3;exact⟨m',hm,σ3,H3,I3,w3⟩
  | brk=>exact q3
  | ret v=>exact q3
 | false=>
  exact wpAny_execs_nil ⟨σ1,H2,I2,q2⟩
end
structure It where
 go:Nat->Hp->Prop
 yld:Nat->Hp->V->Hp->Prop
 stop:Nat->Hp->Prop
noncomputable def W5 (X:Cx)(jN:Qb)(H:Hp)(b:Addr):Prop:=
 H b=none/\b≠X.env.locals/\b∉X.fs/\(b∈X.ex∨X.s₀.heap.objs.size<=b)/\(∀x c,X.env.cells.lookup x=some c->c≠b)/\∀p∈X.pn++jN,p.1≠b
theorem Inv.fpOk {σ:St}{b:Addr}(I:Inv X jN σ H s)(hb:s.heap.objs.size<=b)(hn:H' b=none):W5 X jN H' b:=by
 refine⟨hn,Nat.ne_of_gt (qH I.lt hb),I.nofs hb,.inr (qp I.sz hb),λx c e z=>?_,λp hp z=>?_⟩
 ·obtain⟨v,q⟩:=I.cell x c e
  exact absurd (qH q.lt (by simp_all)) (yc _)
 ·exact absurd (qH (qy (I.pin p hp).1) (by simp_all)) (yc _)
structure Turn (P:xD)(w:World)(K:qd)(tg:Expr)(J:It)(fp:List Addr)(it:Addr)(tn:Nat->Heap->Prop):Prop where
 mem:it∈fp
 obj:∀i h,tn i h->∀b∈fp,∃o,h.get? b=some o/\∀v,o.data≠.cell v
 keep:∀i h h',tn i h->(∀b∈fp,∀o,h.get? b=some o->h'.get? b=some o)->tn i h'
 item:∀(X:Cx),X.prog=P->X.w=w->X.K=K->X.calm=true->∀(i:Nat) (jN:Qb) (s:Shared) (σ:St) (H:Hp) (E:xF),Inv X jN σ H s->(∀b∈fp,W5 X jN H b)->tn i s.heap->J.go i H->
  xf (xB P w) X.A (pyNext (.ref it)) (λr s1=>∃u,r=some u/\
   xf (xB P w) X.A (letOwnedTupleGo tg (.ref it) u) (λ_ s2=>∃x H',Inv X jN σ H' s2/\ZQ x u/\J.yld i H x H'/\tn (i+1) s2.heap/\∀b∈fp,H' b=none) E s1) E s
 done:∀(X:Cx),X.prog=P->X.w=w->X.K=K->X.calm=true->∀(i:Nat) (jN:Qb) (s:Shared) (σ:St) (H:Hp) (E:xF),Inv X jN σ H s->(∀b∈fp,W5 X jN H b)->tn i s.heap->J.stop i H->
  xf (xB P w) X.A (pyNext (.ref it)) (λr s1=>r=none/\Inv X jN σ H s1) E s
 self:∀(A:xE) (i:Nat) (s:Shared) (Q:xF) (E:xF),tn i s.heap->Q (.ref it) s->xf (xB P w) A (pyIter (.ref it)) Q E s
noncomputable abbrev TI:=St->Hp->(It->Hp->Prop)->Prop
noncomputable def PIE (X:Cx)(jN:Qb)(σ:St)(tg:Expr)(R:It->Hp->Prop)(itv:Value)(s2:Shared):Prop:=
 ∃(it:Addr) (fp:List Addr) (tn:Nat->Heap->Prop) (J:It) (H':Hp),itv=.ref it/\Inv X jN σ H' s2/\Turn X.prog X.w X.K tg J fp it tn/\tn 0 s2.heap/\(∀b∈fp,W5 X jN H' b)/\R J H'
noncomputable def PI (X:Cx)(tg iter:Expr)(wi:TI):Prop:=
 ∀(jN:Qb) (s:Shared) (σ:St) (H:Hp) (R:It->Hp->Prop),Inv X jN σ H s->wi σ H R->
  xf (xB X.prog X.w) X.A (eval iter X.env) (λv s1=>xf (xB X.prog X.w) X.A (pyIter v) (PIE X jN σ tg R) X.xe s1) X.xe s
theorem Zli (ho : s.heap.get? it = some o)(hc : o.cls = .type n)(hd : o.data = .fields vs)
    (hn : ["enumerate", "zip", "dict_itemiterator", "dict_reverseitemiterator", "odict_iterator", "itertools.zip_longest", "itertools.pairwise"].contains n = false) (hQ : Q () s) : xf M A (letOwnedTupleGo tg (.ref it) u) Q E s := by
  unfold letOwnedTupleGo
  cases tg <;> first
    | exact xb hQ
    | (cases u <;> first
        | exact xb hQ
        | (refine xa (wpAny_load ho ?_)
           rw[hc, hd];show xf M A (if (["enumerate", "zip", "dict_itemiterator", "dict_reverseitemiterator", "odict_iterator", "itertools.zip_longest", "itertools.pairwise"].contains n && vs[0]? == some (rawInt _)) = true then _ else _) Q E s;rw[if_neg (by intro h; rw[hn] at h; cases h)];exact xb hQ))
noncomputable def Itl (K:qd)(a:Addr):It:=
 ⟨λi H=>∃xs x,ZV K H a xs/\xs[i]?=some x,λi H x H'=>H'=H/\∀xs,ZV K H a xs->xs[i]?=some x,λi H=>∃xs,ZV K H a xs/\xs.length<=i⟩
noncomputable def Itt (K:qd)(a:Addr):It:=
 ⟨λi H=>∃xs x,Z0 K H a xs/\xs[i]?=some x,λi H x H'=>H'=H/\∀xs,Z0 K H a xs->xs[i]?=some x,λi H=>∃xs,Z0 K H a xs/\xs.length<=i⟩
noncomputable def Itr (lo:Int)(n:Nat):It:=⟨λi _=>i<n,λi H x H'=>H'=H/\x=.int (lo+i),λi _=>n<=i⟩
theorem Zka {K:qd}(a it:Addr):Turn P w K tg (Itl K a) [it] it (λi h=>h.IsListIter it a i) where
 mem:=by simp
 obj:=λi h st b hb=>by
  have e:b=it:=by simpa using hb
  subst e;obtain⟨o,e,c,d⟩:=st;exact⟨o,e,λv z=>by rw[d]at z;cases z⟩
 keep:=λi h h' st k=>st.at λo e=>k it (by simp) o e
 item:=by
  intro X hP hw hK hc i jN s σ H E I hf st hg;subst hP hw hK;obtain⟨xs,x,hq,hx⟩:=hg;obtain⟨jR,rv,p,hz⟩:=I.list hq;obtain⟨u,hu,ru⟩:=rv.get hx;obtain⟨f0,f1,f2,f3,f4,f5⟩:=hf it (by simp);refine wpAny_pyNext_list_item st p.isList (x:=u) (by simpa using hu) λh' st' sb=>?_;have I1:Inv X jN σ H { s with heap:=h' }:=I.turned (t':=s.toks) (λb o hb e=>(sb.2 b hb).trans e) f0 f1 f3 f4 f5;obtain⟨o,e,c,d⟩:=id st';exact⟨u,rfl,Zli (s:={ s with heap:=h' }) e c d (by decide) ⟨x,H,I1,ru,⟨rfl,λys hy=>by rw[I.list_inj hy hq];exact hx⟩,st',λb hb=>(hf b hb).1⟩⟩
 done:=by
  intro X hP hw hK hc i jN s σ H E I hf st hg;subst hP hw hK;obtain⟨xs,hq,hx⟩:=hg;obtain⟨jR,rv,p,hz⟩:=I.list hq;obtain⟨f0,f1,f2,f3,f4,f5⟩:=hf it (by simp);have hl:=rv.length;exact wpAny_pyNext_list_end (I.ok.hd hc) st p.isList (by simp;omega) λh' eb=>⟨rfl,I.turned (λb o hb e=>eb b o hb e) f0 f1 f3 f4 f5⟩
 self:=λ_ _ _ _ _ st h=>wpAny_pyIter_listiter st h
theorem Zia {K:qd}(a it:Addr):Turn P w K tg (Itt K a) [it] it (λi h=>h.IsTupleIter it a i) where
 mem:=by simp
 obj:=λi h st b hb=>by
  have e:b=it:=by simpa using hb
  subst e;obtain⟨o,e,c,d⟩:=st;exact⟨o,e,λv z=>by rw[d]at z;cases z⟩
 keep:=λi h h' st k=>st.at λo e=>k it (by simp) o e
 item:=by
  intro X hP hw hK hc i jN s σ H E I hf st hg;subst hP hw hK;obtain⟨xs,x,hq,hx⟩:=hg;obtain⟨jR,rv,p,hz⟩:=I.tuple hq;obtain⟨u,hu,ru⟩:=rv.get hx;obtain⟨f0,f1,f2,f3,f4,f5⟩:=hf it (by simp);refine wpAny_pyNext_tuple_item st (show s.heap.IsTuple a jR.toArray from p) (x:=u) (by simpa using hu) λh' st' sb=>?_;have I1:Inv X jN σ H { s with heap:=h' }:=I.turned (t':=s.toks) (λb o hb e=>(sb.2 b hb).trans e) f0 f1 f3 f4 f5;obtain⟨o,e,c,d⟩:=id st';exact⟨u,rfl,Zli (s:={ s with heap:=h' }) e c d (by decide) ⟨x,H,I1,ru,⟨rfl,λys hy=>by rw[I.tuple_inj hy hq];exact hx⟩,st',λb hb=>(hf b hb).1⟩⟩
 done:=by
  intro X hP hw hK hc i jN s σ H E I hf st hg;subst hP hw hK;obtain⟨xs,hq,hx⟩:=hg;obtain⟨jR,rv,p,hz⟩:=I.tuple hq;obtain⟨f0,f1,f2,f3,f4,f5⟩:=hf it (by simp);have hl:=rv.length;exact wpAny_pyNext_tuple_end (I.ok.hd hc) st (show s.heap.IsTuple a jR.toArray from p) (by simp;omega) λh' eb=>⟨rfl,I.turned (λb o hb e=>eb b o hb e) f0 f1 f3 f4 f5⟩
 self:=λ_ _ _ _ _ st h=>wpAny_pyIter_tupleiter st h
theorem Zib {K:qd}(it:Addr)(lo:Int)(n:Nat):Turn P w K tg (Itr lo n) [it] it (λi h=>IsRangeIter h it (lo+(i:Nat)*1) ((n:Int)-(i:Nat)) 1) where
 mem:=by simp
 obj:=λi h st b hb=>by
  have e:b=it:=by simpa using hb
  subst e;exact⟨_,st,λv z=>by
   have z':Data.fields _=Data.cell v:=z
   cases z'⟩
 keep:=λi h h' st k=>k it (by simp) _ st
 item:=by
  intro X hP hw hK hc i jN s σ H E I hf st hg;subst hP hw hK;obtain⟨f0,f1,f2,f3,f4,f5⟩:=hf it (by simp);have W:=Walks.range (prog:=X.prog) (w:=X.w) (I.ok.hd hc) it lo 1 n;refine W.item i s _ _ hg st λv h' tk hv st' kk=>?_;obtain⟨t,rfl⟩:=hv;have I1:Inv X jN σ H { s with heap:=h',toks:=tk }:=I.turned (λb o hb e=>kk b o (by simpa using hb) e) f0 f1 f3 f4 f5;refine⟨_,rfl,Zli st' rfl rfl (by decide) ⟨.int (lo+i),H,I1,⟨t,?_⟩,⟨rfl,rfl⟩,st',λb hb=>(hf b hb).1⟩⟩;simp
 done:=by
  intro X hP hw hK hc i jN s σ H E I hf st hg;obtain⟨f0,f1,f2,f3,f4,f5⟩:=hf it (by simp);exact wpAny_pyNext_range_end (I.ok.hd hc) st (by have:n<=i:=hg;omega) λh' eb=>⟨rfl,I.turned (λb o hb e=>eb b o hb e) f0 f1 f3 f4 f5⟩
 self:=λ_ _ _ _ _ st h=>wpAny_pyIter_rangeiter st h
section
variable {X:Cx}{tg:Expr}
noncomputable def ZqH (K:qd)(tl:TE):TI:=fun σ H R=>tl σ H λx H1=>∃a,x=.ref a/\(∃xs,ZV K H1 a xs)/\R (Itl K a) H1
noncomputable def iTup (K:qd)(tl:TE):TI:=fun σ H R=>tl σ H λx H1=>∃a,x=.ref a/\(∃xs,Z0 K H1 a xs)/\R (Itt K a) H1
theorem Znw (hl:PE X l tl):PI X tg l (ZqH X.K tl):=by
 intro jN s σ H R I h;refine ZK (hl jN s σ H _ I h) λv s1 ⟨x,H1,I1,r1,q1⟩=>?_;obtain⟨a,e,⟨xs,hq⟩,q⟩:=q1;subst e
 cases r1
 obtain⟨jR,rv,p,hz⟩:=I1.list hq;refine wpAny_pyIter_list p.isList ?_;refine⟨s1.heap.objs.size,[s1.heap.objs.size],_,_,H1,rfl,I1.kept λb o e=>qj _ e,Zka a _,⟨_,qE _ rfl,rfl,rfl⟩,λb hb=>?_,q⟩;have e:=by simpa using hb
 subst e;exact I1.fpOk (qk _) (I1.hok.fresh (qk _))
theorem ZpA (hl:PE X l tl):PI X tg l (iTup X.K tl):=by
 intro jN s σ H R I h;refine ZK (hl jN s σ H _ I h) λv s1 ⟨x,H1,I1,r1,q1⟩=>?_;obtain⟨a,e,⟨xs,hq⟩,q⟩:=q1;subst e
 cases r1
 obtain⟨jR,rv,p,hz⟩:=I1.tuple hq;refine wpAny_pyIter_tuple (show s1.heap.IsTuple a jR.toArray from p) ?_;refine⟨s1.heap.objs.size,[s1.heap.objs.size],_,_,H1,rfl,I1.kept λb o e=>qj _ e,Zia a _,⟨_,qE _ rfl,rfl,rfl⟩,λb hb=>?_,q⟩;have e:=by simpa using hb
 subst e;exact I1.fpOk (qk _) (I1.hok.fresh (qk _))
theorem ZgM {σ:St}{lo:Int}(I:Inv X jN σ H s)(h1:-(2 ^ 62)<=lo)(h2:lo<2 ^ 62)(h3:-(2 ^ 62)<=hi)(h4:hi<2 ^ 62)
  (q:R (Itr lo (hi-lo).toNat) H):xf (xB X.prog X.w) X.A (pyIter (.ref s.heap.objs.size)) (PIE X jN σ tg R) E { s with heap:=s.heap.push { cls:=.type "range",data:=.fields #[.int lo t,.int hi u,.int 1 v] },toks:=tk }:=by
 refine wpAny_pyIter_range (IsRange.new ..) (small_one h1 h2 h3 h4) ?_;have I1:Inv X jN σ H { s with heap:=s.heap.push { cls:=.type "range",data:=.fields #[.int lo t,.int hi u,.int 1 v] },toks:=tk }:=I.kept λb o e=>qj _ e;refine⟨(s.heap.push { cls:=.type "range",data:=.fields #[.int lo t,.int hi u,.int 1 v] }).objs.size,[(s.heap.push { cls:=.type "range",data:=.fields #[.int lo t,.int hi u,.int 1 v] }).objs.size],_,_,H,rfl,
  I1.kept λb o e=>qj _ e,Zib _ lo (hi-lo).toNat,?_,λb hb=>?_,q⟩
 ·have e1:lo+((0:Nat):Int)*1=lo:=by simp
  have e2:(((hi-lo).toNat:Nat):Int)-((0:Nat):Int)=qbE lo hi 1:=by rw[rangeSize_one];grind
  rw[e1,e2];exact qE _ rfl
 ·have e:b=(s.heap.push { cls:=.type "range",data:=.fields #[.int lo t,.int hi u,.int 1 v] }).objs.size:=by simpa using hb
  subst e;exact I1.fpOk (qk _) (I1.hok.fresh (qk _))
noncomputable def ZqI (ta:TA):TI:=fun σ H R=>ta σ H λvs H1=>∃j:Int,vs=[.int j]/\-(2 ^ 62)<=j/\j<2 ^ 62/\R (Itr 0 j.toNat) H1
noncomputable def ZqJ (ta:TA):TI:=fun σ H R=>ta σ H λvs H1=>∃i j:Int,vs=[.int i,.int j]/\(-(2 ^ 62)<=i/\i<2 ^ 62/\-(2 ^ 62)<=j/\j<2 ^ 62)/\R (Itr i (j-i).toNat) H1
theorem Zfe (hg:Gl X "range")(hm:X.mg "range" = none)(ha:PA X [a] ta)(hs:xh [a] X.env=[(false,eval a X.env)]:=by rfl):PI X tg (.Call (.Name "range" p) [a] [] pos) (ZqI ta):=by
 intro jN s σ H R I h;refine Call_ (JB I hg hm boot_range (z6 (ZK (ha pos jN s σ H _ I h) λus s1 ⟨vs,H1,I1,r1,q1⟩=>?_) hs rfl));obtain⟨j,e,q1,q2,q⟩:=q1;subst e
 cases r1 with
 | cons r rr=>
  cases rr
  obtain⟨t,rfl⟩:=r;exact call_range_1 (ZgM I1 (by omega) (by omega) q1 q2 (by simp_all))
theorem Zkb {p pos:Pos}(hg:Gl X "range")(hm:X.mg "range" = none)(ha:PA X [a,b] ta)(hs:xh [a,b] X.env=[(false,eval a X.env),(false,eval b X.env)]:=by rfl)(hs2:xh [b] X.env=[(false,eval b X.env)]:=by rfl) :
  PI X tg (.Call (.Name "range" p) [a,b] [] pos) (ZqJ ta):=by
 intro jN s σ H R I h;refine Call_ (JB I hg hm boot_range (z6 (ZK (ha pos jN s σ H _ I h) λus s1 ⟨vs,H1,I1,r1,q1⟩=>?_) (by rw[hs,hs2]) (by rw[hs2];rfl)));obtain⟨i,j,e,⟨q1,q2,q3,q4⟩,q⟩:=q1;subst e
 cases r1 with
 | cons r rr=>
  cases rr with
  | cons r' rr=>
   cases rr
   obtain⟨t,rfl⟩:=r;obtain⟨t',rfl⟩:=r';exact call_range_2 (ZgM I1 q1 q2 q3 q4 q)
noncomputable def tFor (wi:TI)(g:TG)(tb:TS):TS:=λD σ H=>wi σ H λJ H1=>∃W:Nat->Nat->St->Hp->Prop,(∃m,W 0 m σ H1)/\∀i m σ H,W i m σ H->
 (J.stop i H/\D.nx σ H)∨(J.go i H/\∃N:St->Hp->Prop,(∀σ' H',N σ' H'->∃m',m'<m/\W (i+1) m' σ' H')/\∀x H',J.yld i H x H'->g x σ H' fun σ2 H2=>tb { D with nx:=N,ct:=N,bk:=D.nx } σ2 H2)
noncomputable def ZdH (fp:List Addr)(h:Heap):Qb:=fp.filterMap λb=>(h.get? b).map λo=>(b,o)
theorem Bh (hb:b∈fp)(e:h.get? b=some o):(b,o)∈ZdH fp h:=y9.mpr ⟨b,hb,by rw[e];rfl⟩
theorem Zkc (hp:p∈ZdH fp h):p.1∈fp/\h.get? p.1=some p.2:=by
 obtain⟨b,hb,e⟩:=y9.mp hp
 cases q:h.get? b with
 | none=>simp_all
 | some o=>
  rw[q]at e;have e':=zS e;subst e';exact⟨hb,q⟩
theorem Inv.pinned {σ:St}(I:Inv X jN σ H s)(hf:∀b∈fp,W5 X jN H b)(ho:∀b∈fp,∃o,s.heap.get? b=some o/\∀v,o.data≠.cell v):Inv X (jN++ZdH fp s.heap) σ H s:=
 I.pins_of λp hp=>(qV.mp hp).elim (λz=>I.pin p (qM _ z)) λz=>by
  obtain⟨hb,e⟩:=Zkc z;obtain⟨f0,f1,f2,_⟩:=hf p.1 hb;obtain⟨o,e',d⟩:=ho p.1 hb;simp_all
theorem Inv.unpinned {σ:St}(I:Inv X (jN++pl) σ H s):Inv X jN σ H s:=I.pins_of λp hp=>I.pin p (qM _ (qb3 _ hp))
theorem Zlj (hp:PassesOwn (xB X.prog X.w) X.A X.env X.xe)(hc:X.calm=true)(hi:PI X tg iter wi)(hg:PG X tg g)(hb:XV X body tb)
  (hs:∀x,foldedSetIterable iter X.env x=pure x:=by intro _;rfl):PS X (.For tg iter body [] pos) (tFor wi g tb):=by
 intro jN s σ H D I h;refine wpAny_For (ZK (hi jN s σ H _ I h) λv s1 h1=>ZK h1 λitv s2 h2=>?_) hs;obtain⟨it,fp,tn,J,H2,e,I2,T,j8,f2,W,⟨m0,w0⟩,turn⟩:=h2;subst e
 -- what stays true of the iterator's objects through the loop
 have stat:∀{H':Hp},(∀b∈fp,H' b=none)->∀b∈fp,W5 X jN H' b:=λhn b hb=>⟨hn b hb,(f2 b hb).2⟩;refine codeAny_forLoop_any (λn s'=>∃i σ' H',Inv X jN σ' H' s'/\tn i s'.heap/\(∀b∈fp,H' b=none)/\W i n σ' H') ?_ m0 ⟨0,σ,H2,I2,j8,λb hb=>(f2 b hb).1,w0⟩;rintro n s3 ⟨i,σ3,H3,I3,st3,fr3,w3⟩;rcases turn i n σ3 H3 w3 with⟨stop,qn⟩ | ⟨go,N,hN,step⟩
 ·refine wpAny_passesOwn hp (ZK (T.done X rfl rfl rfl hc i jN s3 σ3 H3 X.xe I3 (stat fr3) st3 stop) λr s4 ⟨hr,I4⟩=>?_)
  subst hr;exact wpAny_execs_nil ⟨σ3,H3,I4,qn⟩
 ·refine wpAny_passesOwn hp (ZK (T.item X rfl rfl rfl hc i jN s3 σ3 H3 X.xe I3 (stat fr3) st3 go) λr s4 ⟨u,hr,h4⟩=>?_)
  subst hr;refine wpAny_passesOwn hp (ZK h4 λ_ s5 ⟨x,H5,I5,r5,y5,st5,fr5⟩=>?_);have I5':=I5.pinned (stat fr5) (T.obj _ _ st5);refine wpAny_passesOwn hp (ZK (hg _ s5 σ3 H5 x u _ I5' r5 (step x H5 y5)) λ_ s6 ⟨σ6,H6,I6,q6⟩=>?_);refine wpAny_passesOwn hp (ZK (hb _ s6 σ6 H6 _ I6 q6) λf s7 q7=>?_);have again:∀{σ7:St} {H7:Hp},Inv X (jN++ZdH fp s5.heap) σ7 H7 s7->N σ7 H7->∃m,m<n/\∃i σ' H',Inv X jN σ' H' s7/\tn i s7.heap/\(∀b∈fp,H' b=none)/\W i m σ' H':=λ{σ7 H7} I7 n7=>by
   obtain⟨m',hm,w7⟩:=hN σ7 H7 n7;refine⟨m',hm,i+1,σ7,H7,I7.unpinned,T.keep _ _ _ st5 λb hb o e=>(I7.pin (b,o) (qM _ (qM _ (Bh hb e)))).1,λb hb=>?_,w7⟩;obtain⟨o,e,d⟩:=T.obj _ _ st5 b hb;exact(I7.pin (b,o) (qM _ (qM _ (Bh hb e)))).2.1
  cases f with
  | next=>obtain⟨σ7,H7,I7,n7⟩:=q7;exact again I7 n7
  | cont=>obtain⟨σ7,H7,I7,n7⟩:=q7;exact again I7 n7
  | brk=>obtain⟨σ7,H7,I7,q7⟩:=q7;exact⟨σ7,H7,I7.unpinned,q7⟩
  | ret v=>obtain⟨x7,σ7,H7,I7,r7,q7⟩:=q7;exact⟨x7,σ7,H7,I7.unpinned,r7,q7⟩
end
noncomputable abbrev R2:=V->V->Hp->VK->Prop
noncomputable def Yo (X:Cx)(f:Value->Value->Sem Value)(r:R2):Prop:=
 ∀(jN:Qb) (s:Shared) (σ:St) (H:Hp) (x y:V) (v u:Value) (Q:VK),Inv X jN σ H s->ZQ x v->ZQ y u->r x y H Q->
  xf (xB X.prog X.w) X.A (f v u) (EP X jN σ Q) X.xe s
noncomputable def UnR (X:Cx)(f:Value->Sem Value)(r:V->Hp->VK->Prop):Prop:=
 ∀(jN:Qb) (s:Shared) (σ:St) (H:Hp) (x:V) (v:Value) (Q:VK),Inv X jN σ H s->ZQ x v->r x H Q->
  xf (xB X.prog X.w) X.A (f v) (EP X jN σ Q) X.xe s
noncomputable def Wg (X:Cx)(f:Value)(r:List V->Hp->VK->Prop):Prop:=
 ∀(jN:Qb) (s:Shared) (σ:St) (H:Hp) (xs:List V) (us:List Value) (Q:VK),Inv X jN σ H s->ZH xs us->r xs H Q->
  xf (xB X.prog X.w) X.A (call f us) (EP X jN σ Q) X.xe s
noncomputable def WH (r:R2)(ta tb:TE):TE:=fun σ H Q=>ta σ H λx H1=>tb σ H1 λy H2=>r x y H2 Q
noncomputable def tUn (r:V->Hp->VK->Prop)(ta:TE):TE:=fun σ H Q=>ta σ H λx H1=>r x H1 Q
noncomputable def rI (C:Int->Int->Prop)(g:Int->Int->V):R2:=λx y H Q=>∃i j,x=.int i/\y=.int j/\C i j/\Q (g i j) H
noncomputable def VJ (g:Int->Int->V):R2:=λx y H Q=>∃i j,x=.int i/\y=.int j/\Q (g i j) H
noncomputable def rU (g:Int->V):V->Hp->VK->Prop:=λx H Q=>∃i,x=.int i/\Q (g i) H
section
variable {X:Cx}{a b c:Expr}{ta tb tc:TE}{pos:Pos}
theorem binT (ha:PE X a ta)(hb:PE X b tb){σ:St}{R:V->V->Hp->Prop}(I:Inv X jN σ H s)
  (h:ta σ H λx H1=>tb σ H1 λy H2=>R x y H2) {f:Value->Value->Sem Value}
  (hf:∀v u s2 x y H2,Inv X jN σ H2 s2->ZQ x v->ZQ y u->R x y H2->xf (xB X.prog X.w) X.A (f v u) Q X.xe s2) :
  xf (xB X.prog X.w) X.A (eval a X.env) (λv s₁=>xf (xB X.prog X.w) X.A (eval b X.env) (λu s₂=>xf (xB X.prog X.w) X.A (f v u) Q X.xe s₂) X.xe s₁) X.xe s:=by
 refine ZK (ha jN s σ H _ I h) λv s1 ⟨x,H1,I1,r1,q1⟩=>?_;refine ZK (hb jN s1 σ H1 _ I1 q1) λu s2 ⟨y,H2,I2,r2,q2⟩=>?_;exact hf v u s2 x y H2 I2 r1 r2 q2
theorem Uj (ho:Yo X (binaryOp op) r)(ha:PE X a ta)(hb:PE X b tb):PE X (.BinOp a op b pos) (WH r ta tb):=by
 intro jN s σ H Q I h;exact wpAny_BinOp (binT ha hb I h λv u s2 x y H2 I2 rx ry q=>ho jN s2 σ H2 x y v u Q I2 rx ry q)
theorem ZoV (ho:UnR X (unaryOp op) r)(ha:PE X a ta):PE X (.UnaryOp op a pos) (tUn r ta):=by
 intro jN s σ H Q I h;exact UnaryOp_ (ZK (ha jN s σ H _ I h) λv s1 ⟨x,H1,I1,r1,q1⟩=>ho jN s1 σ H1 x v Q I1 r1 q1)
theorem J3 {g:Int->Int->Int}
  (rule:∀(i j:Int) (t u:Tok) (s:Shared) (Q:xF) (E:xF),C i j->Q (.int (g i j) s.toks) { s with toks:=s.toks+1 }->xf (xB X.prog X.w) X.A (f (.int i t) (.int j u)) Q E s) :
  Yo X f (rI C λi j=>.int (g i j)):=by
 intro jN s σ H x y v u Q I rx ry h;obtain⟨i,j,rfl,rfl,hc,q⟩:=h;obtain⟨t,rfl⟩:=rx;obtain⟨t',rfl⟩:=ry;exact rule i j t t' s _ _ hc ⟨.int (g i j),H,I.tok _,⟨_,rfl⟩,q⟩
theorem opI0 {g:Int->Int->Int}
  (rule:∀(i j:Int) (t u:Tok) (s:Shared) (Q:xF) (E:xF),Q (.int (g i j) s.toks) { s with toks:=s.toks+1 }->xf (xB X.prog X.w) X.A (f (.int i t) (.int j u)) Q E s) :
  Yo X f (VJ λi j=>.int (g i j)):=by
 intro jN s σ H x y v u Q I rx ry h;obtain⟨i,j,rfl,rfl,q⟩:=h;obtain⟨t,rfl⟩:=rx;obtain⟨t',rfl⟩:=ry;exact rule i j t t' s _ _ ⟨.int (g i j),H,I.tok _,⟨_,rfl⟩,q⟩
theorem opB0 {g:Int->Int->Bool}
  (rule:∀(i j:Int) (t u:Tok) (s:Shared) (Q:xF) (E:xF),Q (.bool (g i j)) s->xf (xB X.prog X.w) X.A (f (.int i t) (.int j u)) Q E s) :
  Yo X f (VJ λi j=>.bl (g i j)):=by
 intro jN s σ H x y v u Q I rx ry h;obtain⟨i,j,rfl,rfl,q⟩:=h;obtain⟨t,rfl⟩:=rx;obtain⟨t',rfl⟩:=ry;exact rule i j t t' s _ _ ⟨.bl (g i j),H,I,rfl,q⟩
noncomputable def CDiv (i j:Int):Prop:=0<j/\j<1073741824
noncomputable def CPow (i j:Int):Prop:=0<=j/\j<=1000000/\i.natAbs<2 ^ 64
noncomputable def CMul (i j:Int):Prop:=(-(2 ^ 64)<i/\i<2 ^ 64)∨(-(2 ^ 64)<j/\j<2 ^ 64)
theorem CMul.ok (h:CMul i j):IntMulOk i j:=by
 rcases h with⟨h1,h2⟩ | ⟨h1,h2⟩
 ·exact .of_left (intBits_le_64 h1 h2)
 ·exact .of_right (intBits_le_64 h1 h2)
theorem Zic:Yo X (binaryOp .Add) (VJ λi j=>.int (i+j)):=opI0 λ_ _ _ _ _ _ _ q=>add_int q
theorem ZpB:Yo X (binaryOp .Sub) (VJ λi j=>.int (i-j)):=opI0 λ_ _ _ _ _ _ _ q=>sub_int q
theorem Zid:Yo X (binaryOp .Mult) (rI CMul λi j=>.int (i*j)):=J3 λ_ _ _ _ _ _ _ hc q=>mul_int q hc.ok
theorem Znx:Yo X (binaryOp .FloorDiv) (rI CDiv λi j=>.int (i / j)):=J3 λi j _ _ _ _ _ hc q=>by
 have h1:=hc.1;have h2:=hc.2;exact floordiv_int (by omega) (by rw[qa4 i (by omega)];exact q) (.inl (PyProof.noPylong_small (by omega)))
theorem ZfR:Yo X (binaryOp .Mod) (rI (λ_ j=>0<j) λi j=>.int (i % j)):=J3 λi j _ _ _ _ _ hc q=>by
 exact mod_int' (by omega) (by rw[Int.fmod_eq_emod_of_nonneg i (by omega)];exact q)
theorem Zny:Yo X (binaryOp .Mod) (rI (λ_ j=>j≠0) λi j=>.int (i.fmod j)):=J3 λ_ _ _ _ _ _ _ hc q=>mod_int' hc q
theorem ZpC:Yo X (binaryOp .Pow) (rI CPow λi j=>.int (i ^ j.toNat)):=J3 λ_ _ _ _ _ _ _ hc q=>pow_int_small hc.1 hc.2.1 hc.2.2 q
theorem unI {g:Int->Int}
  (rule:∀(i:Int) (t:Tok) (s:Shared) (Q:xF) (E:xF),Q (.int (g i) s.toks) { s with toks:=s.toks+1 }->xf (xB X.prog X.w) X.A (f (.int i t)) Q E s) :
  UnR X f (rU λi=>.int (g i)):=by
 intro jN s σ H x v Q I rx h;obtain⟨i,rfl,q⟩:=h;obtain⟨t,rfl⟩:=rx;exact rule i t s _ _ ⟨.int (g i),H,I.tok _,⟨_,rfl⟩,q⟩
theorem Zlk:UnR X (unaryOp .USub) (rU λi=>.int (-i)):=unI λ_ _ _ _ _ q=>neg_int q
end
section
variable {X:Cx}{a b c:Expr}{ta tb tc:TE}{pos:Pos}
theorem Zll {σ:St}(I:Inv X jN σ H s)(q:Q (.bl k) H)(e:k=k'):EP X jN σ Q (.bool k') s:=by
 subst e;exact⟨.bl k,H,I,rfl,q⟩
theorem Zlm:Yo X (xk .Lt) (VJ λi j=>.bl (decide (i<j))):=opB0 λ_ _ _ _ _ _ _ q=>lt_int q
theorem ZqK:Yo X (xk .LtE) (VJ λi j=>.bl (decide (i<=j))):=opB0 λ_ _ _ _ _ _ _ q=>le_int q
theorem ZoW:Yo X (xk .Gt) (VJ λi j=>.bl (decide (j<i))):=opB0 λ_ _ _ _ _ _ _ q=>gt_int q
theorem ZqL:Yo X (xk .GtE) (VJ λi j=>.bl (decide (j<=i))):=opB0 λ_ _ _ _ _ _ _ q=>ge_int q
theorem ZpD:Yo X (xk .Is) (λx y H Q=>y=.non/\Q (.bl (decide (x=.non))) H):=by
 intro jN s σ H x y v u Q I rx ry h;obtain⟨rfl,q⟩:=h
 cases ry
 refine is_none_gen (Zll I q ?_)
 cases x <;> first
  | (rfl)
  | (obtain⟨t,rfl⟩:=rx;rfl)
theorem Znz:Yo X (xk .IsNot) (λx y H Q=>y=.non/\Q (.bl (!decide (x=.non))) H):=by
 intro jN s σ H x y v u Q I rx ry h;obtain⟨rfl,q⟩:=h
 cases ry
 refine isnot_none_gen (Zll I q ?_)
 cases x <;> first
  | (rfl)
  | (obtain⟨t,rfl⟩:=rx;rfl)
theorem Yo.or (h:Yo X f r)(h':Yo X f r'):Yo X f (λx y H Q=>r x y H Q∨r' x y H Q):=by
 intro jN s σ H x y v u Q I rx ry q;rcases q with q | q
 ·exact h jN s σ H x y v u Q I rx ry q
 ·exact h' jN s σ H x y v u Q I rx ry q
theorem ZdI (b:Expr)(h:op≠.In:=by decide)(h2:op≠.NotIn:=by decide):behindInMarks op b=false:=by
 have e1:(op==CmpOp.In)=false:=by grind
 have e2:(op==CmpOp.NotIn)=false:=by grind
 cases b <;> simp[behindInMarks,e1,e2]
theorem ZnA (ho:Yo X (xk op) r)(ha:PE X a ta)(hb:PE X b tb)(hm:behindInMarks op b=false):PE X (.Compare a [op] [b] pos) (WH r ta tb):=by
 intro jN s σ H Q I h;exact wpAny_Compare1 (binT ha hb I h λv u s2 x y H2 I2 rx ry q=>ho jN s2 σ H2 x y v u Q I2 rx ry q) hm
noncomputable def ZqM (t:TE):TT:=fun σ H Q=>t σ H λx H'=>∃k,x=.bl k/\Q k H'
theorem ZbZ (ho:Yo X (xk op) r)(ha:PE X a ta)(hb:PE X b tb)(hm:behindInMarks op b=false):PT X (.Compare a [op] [b] pos) (ZqM (WH r ta tb)):=by
 intro jN s σ H Q I h;refine wpAny_isTrue_Compare1 (ZK (ha jN s σ H _ I h) λv s1 ⟨x,H1,I1,r1,q1⟩=>ZK (hb jN s1 σ H1 _ I1 q1) λu s2 ⟨y,H2,I2,r2,q2⟩=>
  ZK (ho jN s2 σ H2 x y v u _ I2 r1 r2 q2) λc s3 ⟨z,H3,I3,r3,k,e,q3⟩=>?_) hm
 subst e
 cases r3
 exact wpAny_truthy_bool ⟨H3,I3,q3⟩
theorem ZdJ:(xg:Nat)<2 ^ 63:=by decide
theorem WZ (r:ZH [x] us):∃u,us=[u]/\ZQ x u:=by
 cases r with
 | cons r1 r2=>cases r2;exact⟨_,rfl,r1⟩
theorem Zln (r:ZH [x,y] us):∃u w',us=[u,w']/\ZQ x u/\ZQ y w':=by
 cases r with
 | cons r1 r2=>
  cases r2 with
  | cons r3 r4=>cases r4;exact⟨_,_,rfl,r1,r3⟩
theorem Zkd (hc:X.calm=true):Wg X (.builtin "max") (λxs H Q=>∃i j,xs=[.int i,.int j]/\Q (.int (if j > i then j else i)) H):=by
 intro jN s σ H xs us Q I r h;obtain⟨i,j,rfl,q⟩:=h;obtain⟨u,w',rfl,⟨t,rfl⟩,⟨t',rfl⟩⟩:=Zln r;refine max_two_ints (I.ok.hd hc) λh' tk k=>⟨_,H,I.kept k,?_,q⟩;by_cases hj:j > i
 ·rw[if_pos hj,if_pos hj];exact⟨_,rfl⟩
 ·rw[if_neg hj,if_neg hj];exact⟨_,rfl⟩
theorem Zke (hc:X.calm=true):Wg X (.builtin "min") (λxs H Q=>∃i j,xs=[.int i,.int j]/\Q (.int (if j<i then j else i)) H):=by
 intro jN s σ H xs us Q I r h;obtain⟨i,j,rfl,q⟩:=h;obtain⟨u,w',rfl,⟨t,rfl⟩,⟨t',rfl⟩⟩:=Zln r;refine min_two_ints (I.ok.hd hc) λh' tk k=>⟨_,H,I.kept k,?_,q⟩;by_cases hj:j<i
 ·rw[if_pos hj,if_pos hj];exact⟨_,rfl⟩
 ·rw[if_neg hj,if_neg hj];exact⟨_,rfl⟩
end
structure ObjM (h:Heap)(x dx C:Addr)(mA:Str->Option Value):Prop where
 obj:h.get? x=some (zR C dx)
 ns:h.Ns1 dx mA
 ne:dx≠x
theorem Zkf {h:Heap}(n:h.Ns1 dx mA):∃od,h.get? dx=some od/\∀name,qaS name od=some (mA name):=by
 obtain⟨o,es,ep,ho,hd,hk,_,hm⟩:=n;refine⟨o,ho,λname=>?_⟩;have e:=hm name;unfold nsFind findBy at e;rw[<-Array.find?_toList]at e;unfold qaS;rw[hd];dsimp only;split
 ·simp_all
 ·rename_i q
  rw[q]at e;have a:es.toList.any (·.refKey)=false:=by
   rw[qa9];intro y hy;obtain⟨z,t,hkey⟩:=hk y (Array.mem_toList_iff.mp hy);simp[DictEntry.refKey,hkey]
  grind
theorem ObjM.look (I:ObjM h x dx C mA):∃od,PySem.W.InstAt h x (zR C dx) C (some od)/\∀name,qaS name od=some (mA name):=
 let ⟨od,ho,hl⟩:=Zkf I.ns
 ⟨od,⟨I.obj,rfl,rfl,ho⟩,hl⟩
section
variable {prog:xD}{w:World}{A:xE}{E:xF}{s:Shared}{K:qd}{x dx C f:Addr}{mA:Str->Option Value}{name:Str}{v:Value}
theorem ZnB (X:K.In s.heap)(I:ObjM s.heap x dx C mA)(hg:qaB K C name=true)(hh:qba K C=true)
  (ha:zG K (.ref C) name=some none) (hv:mA name=some v) (hv':PySem.W.handedIn v=true) (h:Q v { s with toks:=s.toks+1 }) :
  xf (xB prog w) A (getAttr (.ref x) name expr) Q E s:=by
 obtain⟨od,J,hl⟩:=I.look;exact PySem.W.get_value X J (qaP hg).1 (PySem.W.findObj_own hh ha rfl (by rw[hl,hv])) hv' h
theorem Zlo (X:K.In s.heap)(I:ObjM s.heap x dx C mA)(hg:qaB K C name=true)
  (hf:zG K (.ref C) name=some (some (.ref f))) (ht:qck K (.ref f)=true) (hv:mA name=none) (h:Q (.ref f,[.ref x]) s) :
  xf (xB prog w) A (getMethod (.ref x) name pl) Q E s:=by
 obtain⟨od,J,hl⟩:=I.look;exact PySem.W.method_fn X J (qaP hg).1 (qaP hg).2 hf (beq_iff_eq.mp ht) (by show(qaS name od).map (·.isSome)=some false;simp_all) h
theorem ZnC (X:K.In s.heap)(I:ObjM s.heap x dx C mA)
  (hs:zG K (.ref C) "__setattr__" = some (some (.builtin "object.__setattr__"))) (hp:PySem.W.plainOver K C=true) (ht:qbK K C name=some none) (hh:qba K C=true)
  (hw:qbk mA ns) (hsz:ns.length<=xg)
  (h:∀h',ObjM h' x dx C (λy=>if y=name then some v else mA y)->qbl dx s.heap h'->Q () { s with heap:=h',toks:=s.toks+2 }) :
  xf (xB prog w) A (setAttr (.ref x) name v) Q E s:=by
 obtain⟨od,J,hl⟩:=I.look;refine PySem.W.set_plain X J hs (PySem.W.osa_open X J hp ht λb=>?_);obtain⟨cd,hc,hd'⟩:=PySem.W.any_some hh;have hx:=I.obj;refine xa (xb (xa (xa (wpAny_loadPart hx (xa (PySem.W.Looks.here (PySem.W.looks_clsIn X hc) ?_))))));rw[hd'];refine xb (xa (xb (xa ?_)));refine wpAny_nsSet1 I.ns λh' hn2 hs2=>?_;obtain⟨oD,esD,epD,hoD,hdD,hcD⟩:=hn2.count (qbk.cons name v hw);refine xa (wpAny_lookBehind hoD (by rw[hdD];exact pastItsLine_dict (qp hcD (by grind))) ?_);exact xb (h _ ⟨(hs2.2 _ (qJ I.ne)).trans I.obj,hn2,I.ne⟩ hs2)
theorem Zlp (X:K.In s.heap)(hm:PySem.W.makesIn K C=true)
  (hi:zG K (.ref C) "__init__" = some (some (.ref f))) (hf:PySem.W.typeIn K (.ref f)=some (.type "function"))
  (h:xo (xB prog w) (A.under (.builtin "type.__call__" ⟨.ref C::vs,kw⟩)) (.call (.ref f) ⟨.ref (s.heap.objs.size+1)::vs,kw⟩) (PySem.W.InitBack (s.heap.objs.size+1) R)
   { s with heap:=(s.heap.push zI).push (zR C s.heap.objs.size) }) :
  xo (xB prog w) A (.call (.ref C) ⟨vs,kw⟩) R s:=by
 exact PySem.W.make_core (PySem.W.makes_of X hm) (PySem.W.looks_findIn X hi) (λself=>PySem.W.bind_fn X self hf) (.inl rfl) h
end
noncomputable def YU (f:Str)(v:V):List (Str×V)->List (Str×V)
 | []=>[(f,v)]
 | (g,x)::r=>if g=f then (g,v)::r else (g,x)::YU f v r
theorem ZcW (f g:Str)(v:V):∀fs:List (Str×V),(YU f v fs).lookup g=if g=f then some v else fs.lookup g
 | []=>by
  show qaU g [(f,v)]=_
  grind
 | (k,x)::r=>by
  have ih:=ZcW f g v r;rw[show YU f v ((k,x)::r)=(if k=f then (k,v)::r else (k,x)::YU f v r)from rfl]
  grind
theorem ZcE (f:Str)(v:V):∀fs:List (Str×V),f∈(YU f v fs).map (·.1)/\∀g,g∈fs.map (·.1)->g∈(YU f v fs).map (·.1)
 | []=>⟨by simp[YU],λg h=>by simp at h⟩
 | (k,x)::r=>by
  obtain⟨i1,i2⟩:=ZcE f v r;rw[show YU f v ((k,x)::r)=(if k=f then (k,v)::r else (k,x)::YU f v r)from rfl]
  grind
theorem ZcX (f:Str)(v:V):∀fs:List (Str×V),(YU f v fs).length<=fs.length+1
 | []=>by simp[YU]
 | (k,x)::r=>by
  have ih:=ZcX f v r;rw[show YU f v ((k,x)::r)=(if k=f then (k,v)::r else (k,x)::YU f v r)from rfl]
  grind
theorem jC (r:Up (some v) o):∃u,o=some u/\ZQ v u:=by
 cases o with
 | none=>exact(show False from r).elim
 | some u=>exact⟨u,rfl,r⟩
theorem jD (r:Up none o):o=none:=by
 cases o with
 | none=>rfl
 | some u=>exact(show False from r).elim
theorem Zkg (r:ZQ v u):PySem.W.handedIn u=true:=by
 cases v with
 | non=>cases (show u=zk from r);rfl
 | bl b=>cases (show u=zf b from r);rfl
 | int i=>obtain⟨t,e⟩:=(show ∃t,u=qaX i t from r);cases e;rfl
 | str x=>obtain⟨t,e⟩:=(show ∃t,u=qbJ x t from r);cases e;rfl
 | byt b=>obtain⟨t,e⟩:=(show ∃t,u=Value.bytes b t from r);cases e;rfl
 | flt b=>obtain⟨t,e⟩:=(show ∃t,u=qcr b t from r);cases e;rfl
 | ref a=>cases (show u=qw a from r);rfl
 | ty n=>cases (show u=qbh n from r);rfl
section
variable {P:xD}{w:World}{H H':Hp}{h h':Heap}{a C dx:Addr}{fs fs':List (Str×V)}
theorem Zdp (hok:YE P w H h)(e:H a=some (.ins C dx fs)):∃mA,ObjM h a dx C mA/\(∀f,Up (fs.lookup f) (mA f))/\qbk mA (fs.map (·.1))/\fs.length<=1000/\H dx=some (.own a):=by
 obtain⟨d,z,ne,ob,mA,n,r,q⟩:=(show YQ P w H h a (.ins C dx fs)from hok a _ e);exact⟨mA,⟨ob,n,ne⟩,r,q,z,d⟩
end
structure Cls (K:qd)(C:Addr):Prop where
 pg:qaB K C Str.empty=true
 hd:qba K C=true
 po:PySem.W.plainOver K C=true
 sa:zG K (.ref C) "__setattr__" = some (some (.builtin "object.__setattr__"))
theorem Cls.get {K:qd}(c:Cls K C)(f:Str):qaB K C f=true:=c.pg
noncomputable def Xd (K:qd)(C:Addr)(f:Str):Prop:=zG K (.ref C) f=some none
theorem Xd.taker {K:qd}(n:Xd K C f):qbK K C f=some none:=by
 unfold qbK;rw[show zG K (.ref C) f=some none from n];rfl
structure Meth (K:qd)(C:Addr)(m:Str)(f:Addr):Prop where
 at_:zG K (.ref C) m=some (some (.ref f))
 fn:qck K (.ref f)=true
 kp:zH K (.ref f)=true
section
variable {X:Cx}{jN:Qb}{σ:St}{H:Hp}{s:Shared}{a C dx:Addr}{fs:List (Str×V)}{f:Str}{v:V}{A:xE}{E:xF}
theorem Zie (I:Inv X jN σ H s)(e:H a=some (.ins C dx fs))(c:Cls X.K C)(n:Xd X.K C f)(l:fs.lookup f=some v)
  (h:∀u s',Inv X jN σ H s'->ZQ v u->Q u s'):xf (xB X.prog X.w) A (getAttr (.ref a) f b) Q E s:=by
 obtain⟨mA,O,r,_,_,_⟩:=Zdp I.hok e;obtain⟨u,hu,ru⟩:=jC (by rw[<-l];exact r f);exact ZnB I.kIn O (c.get f) c.hd n hu (Zkg ru) (h u _ (I.tok _) ru)
theorem ZdK (I:Inv X jN σ H s)(e:H a=some (.ins C dx fs))(c:Cls X.K C)(k:Meth X.K C m g)(l:fs.lookup m=none)
  (h:Q (.ref g,[.ref a]) s):xf (xB X.prog X.w) A (getMethod (.ref a) m pl) Q E s:=by
 obtain⟨mA,O,r,_,_,_⟩:=Zdp I.hok e;have hn:=jD (by rw[<-l];exact r m);exact Zlo I.kIn O (c.get m) k.at_ k.fn hn h
theorem Zif (I:Inv X jN σ H s)(e:H a=some (.ins C dx fs))(c:Cls X.K C)(n:Xd X.K C f)(hl:fs.length<1000)(ry:ZQ y u)
  (h:∀s',Inv X jN σ (Zs H a (.ins C dx (YU f y fs))) s'->Q () s'):xf (xB X.prog X.w) A (setAttr (.ref a) f u) Q E s:=by
 obtain⟨mA,O,r,wi,_,ho⟩:=Zdp I.hok e;have hz:(fs.map (·.1)).length<=xg:=by rw[qe,sizeLine_eq];omega
 refine ZnC I.kIn O c.sa c.po n.taker c.hd wi hz λh' O' sb=>h _ ?_;have hd:∃o,h'.get? dx=some o:=let ⟨o,_,_,e',_⟩:=O'.ns;⟨o,e'⟩;refine I.write (x:=a) (e:=dx) (by rw[e];exact zL) (.inr ho) (λb q hb z=>(sb.2 b hb).trans z) hd ?_;refine⟨by rw[Zv O.ne];exact ho,?_,O.ne,O'.obj,_,O'.ns,λg=>?_,λg hg=>?_⟩
 ·have:=ZcX f y fs;omega
 ·rw[ZcW]
  by_cases q:g=f
  ·rw[if_pos q,if_pos q];exact ry
  ·simp_all
 ·by_cases q:g=f
  ·rw[q];exact(ZcE f y fs).1
  ·refine(ZcE f y fs).2 g (wi g λz=>hg ?_)
   grind
theorem jI (I:Inv X jN σ H s):Inv X jN σ (Zs (Zs H s.heap.objs.size (.own (s.heap.objs.size+1))) (s.heap.objs.size+1) (.ins C s.heap.objs.size []))
  { s with heap:=(s.heap.push zI).push (zR C s.heap.objs.size) }:=by
 have e1:(s.heap.push zI).get? s.heap.objs.size=some zI:=qE s.heap rfl;have e2:((s.heap.push zI).push (zR C s.heap.objs.size)).get? (s.heap.objs.size+1)=some (zR C s.heap.objs.size):=by
  have:=qE (s.heap.push zI) (o:=zR C s.heap.objs.size) rfl;simp_all
 have e3:(s.heap.push zI).Ns s.heap.objs.size (λ_=>none):=⟨zI,#[],_,e1,rfl,(λe he=>absurd he (by simp)),λ_=>rfl⟩;have I1:=I.laid (o:=.own (s.heap.objs.size+1)) (t':=s.toks) (λb u q=>qj _ q) (qk _) ⟨_,e1⟩;refine I1.laid (λb u q=>qj _ q) (qcl (Heap.size_push _ _)) ?_;have ne:s.heap.objs.size≠s.heap.objs.size+1:=qK (yk _);refine⟨by rw[Zv ne,Z1],zr _,ne,e2,λ_=>none,(Heap.Ns1.of_empty e3).at λo q=>qj _ q,λ_=>zL,λy hy=>absurd rfl hy⟩
theorem ZnD (hb:xq e f env (eval e env)=eval e env)
  (h:xf (xB prog w) A (eval e env) (λo s₁=>xf (xB prog w) A (getAttr o f true) Q E s₁) E s):xf (xB prog w) A (eval (.Attribute e f pos) env) Q E s:=
 Attribute_any_ h (by rw[arm_eval_Attribute,hb])
end
noncomputable def tFld (K:qd)(ta:TE)(f:Str):TE:=fun σ H Q=>ta σ H λx H1=>∃a C dx fs v,x=.ref a/\H1 a=some (.ins C dx fs)/\Cls K C/\Xd K C f/\fs.lookup f=some v/\Q v H1
noncomputable def sFld (K:qd)(ta tv:TE)(f:Str):TS:=λD σ H=>tv σ H λy H1=>ta σ H1 λx H2=>∃a C dx fs,x=.ref a/\H2 a=some (.ins C dx fs)/\Cls K C/\Xd K C f/\fs.length<1000/\
 D.nx σ (Zs H2 a (.ins C dx (YU f y fs)))
section
variable {X:Cx}{o e value:Expr}{f:Str}{pos pos' tpos:Pos}{ta tv:TE}
theorem UL (he:PE X e ta)(hb:xq e f X.env (eval e X.env)=eval e X.env):PE X (.Attribute e f pos) (tFld X.K ta f):=by
 intro jN s σ H Q I h;refine ZnD hb (ZK (he jN s σ H _ I h) λu s1 ⟨x,H1,I1,rx,a,C,dx,fs,v,ex,ea,c,n,l,q⟩=>?_);subst ex;obtain rfl:u=qw a:=rx;exact Zie I1 ea c n l λu' s2 I2 ru=>⟨v,H1,I2,ru,q⟩
theorem By (ha:PE X o ta)(hv:PE X value tv)(hs:xr value (some (.Attribute o f pos')) pos.line X.env=pure false):PS X (.Assign [.Attribute o f pos'] value pos) (sFld X.K ta tv f):=by
 intro jN s σ H D I h;refine plainObj_wpAny_Assign_Attribute (ZK (hv jN s σ H _ I h) λu s1 ⟨y,H1,I1,ry,q⟩=>ZK (ha jN s1 σ H1 _ I1 q) λov s2 ⟨x,H2,I2,rx,a,C,dx,fs,ex,ea,c,n,l,q2⟩=>?_) hs;subst ex;obtain rfl:ov=qw a:=rx;exact Zif I2 ea c n l ry λs3 I3=>⟨σ,_,I3,q2⟩
end
section
variable {X:Cx}{jN:Qb}{σ:St}{H:Hp}{s:Shared}{A:xE}{E:xF}{Q:xF}{c:Value}{b:Bool}
inductive TyOf (K:qd)(H:Hp):V->Value->Prop where
 | non:TyOf K H .non (.type "NoneType")
 | bl (x:Bool):TyOf K H (.bl x) (.type "bool")
 | int (i:Int):TyOf K H (.int i) (.type "int")
 | str (x:Str):TyOf K H (.str x) (.type "str")
 | flt (x:UInt64):TyOf K H (.flt x) (.type "float")
 | lst {a:Addr} {xs:List V} (e:H a=some (.lst xs)):TyOf K H (.ref a) (.type "list")
 | frz {a:Addr} {o:Obj} {xs:List V} (e:H a=some (.frz o (.lst xs))):TyOf K H (.ref a) (.type "list")
 | tup {a:Addr} {xs:List V} (e:H a=some (.tup xs)):TyOf K H (.ref a) (.type "tuple")
 | dK {a:Addr} {kvs:List (Ye×V)} (e:H a=some (.dK kvs)):TyOf K H (.ref a) (.type "dict")
 | dT {a:Addr} {kvs:List (List Ye×V)} (e:H a=some (.dT kvs)):TyOf K H (.ref a) (.type "dict")
 | ins {a C dx:Addr} {fs:List (Str×V)} (e:H a=some (.ins C dx fs)) (cl:Cls K C) (ha:zG K (.ref C) "__class__" = some (some (.builtin "object.__class__")))
   (hn:PySem.W.specialIn K (.builtin "object.__class__") "__get__" = some (some (.builtin "getset_descriptor.__get__"))) (htk:PySem.W.takesIn K (.builtin "object.__class__")=some true)
   (hm:PySem.W.mroIn K C (.type "object")=some true):TyOf K H (.ref a) (.ref C)
theorem Zkh (I:Inv X jN σ H s)(rx:ZQ x u)(ty:TyOf X.K H x t)(e:PySem.W.kitOne X.K t c=some b)(h:∀tk,Q (.bool b) { s with toks:=tk }) :
  xf (xB X.prog X.w) A (call (.builtin "isinstance") [u,c]) Q E s:=by
 cases ty with
 | non=>cases (show u=zk from rx);exact zt PySem.W.kitx_none I.kIn zL e (λz=>nomatch z) h
 | bl y=>cases (show u=zf y from rx);exact zt PySem.W.kitx_bool I.kIn zL e (λz=>nomatch z) h
 | int i=>obtain⟨t,q⟩:=(show ∃t,u=qaX i t from rx);cases q;exact zt PySem.W.kitx_int I.kIn zL e (λz=>nomatch z) h
 | str y=>obtain⟨t,q⟩:=(show ∃t,u=qbJ y t from rx);cases q;exact zt PySem.W.kitx_str I.kIn zL e (λz=>nomatch z) h
 | flt y=>obtain⟨t,q⟩:=(show ∃t,u=qcr y t from rx);cases q;exact zt PySem.W.kitx_float I.kIn zL e (λz=>nomatch z) h
 | @lst a xs ea=>
  cases (show u=qw a from rx)
  obtain⟨_,_,n,_,h1⟩:=(show YQ X.prog X.w H s.heap a (.lst xs)from I.hok a _ ea);exact zt PySem.W.kitx_list I.kIn ⟨_,h1,rfl⟩ e (λz=>nomatch z) h
 | @frz a ob xs ea=>
  cases (show u=qw a from rx)
  obtain⟨_,_,_,n,_,h1⟩:=(show YQ X.prog X.w H s.heap a (.frz ob (.lst xs))from I.hok a _ ea);exact zt PySem.W.kitx_list I.kIn ⟨_,h1,rfl⟩ e (λz=>nomatch z) h
 | @tup a xs ea=>
  cases (show u=qw a from rx)
  obtain⟨_,_,_,p⟩:=(show YQ X.prog X.w H s.heap a (.tup xs)from I.hok a _ ea);obtain⟨o,h1,h2,_⟩:=p;exact zt PySem.W.kitx_tuple I.kIn ⟨o,h1,h2⟩ e (λz=>nomatch z) h
 | @dK a kvs ea=>
  cases (show u=qw a from rx)
  obtain⟨_,_,vs,_,p⟩:=(show YQ X.prog X.w H s.heap a (.dK kvs)from I.hok a _ ea);obtain⟨o,es,ep,h1,h2,_⟩:=p;exact zt PySem.W.kitx_dict I.kIn ⟨o,h1,h2.1⟩ e (λz=>nomatch z) h
 | @dT a kvs ea=>
  cases (show u=qw a from rx)
  obtain⟨_,_,xs,_,o,es,ep,h1,h2,_⟩:=(show YQ X.prog X.w H s.heap a (.dT kvs)from I.hok a _ ea);exact zt PySem.W.kitx_dict I.kIn ⟨o,h1,h2.1⟩ e (λz=>nomatch z) h
 | @ins a C dx fs ea cl ha hn htk hm=>
  cases (show u=qw a from rx)
  obtain⟨mA,O,_⟩:=Zdp I.hok ea;obtain⟨od,J,_⟩:=O.look;exact zt (PySem.W.kitx_own (cl.get _) cl.hd ha hn htk hm) I.kIn J e (λz=>nomatch z) h
end
structure Room (k:Nat)(A:xE):Prop where
 hd:A.handled=none
 dp:A.depth+3*k+5<recursionLimit
 un:A.units+16*k+200<cLine
 gd:A.guards=some []
theorem Room.mono (r:Room k A)(h:j<=k):Room j A:=⟨r.hd,by have:=r.dp;omega,by have:=r.un;omega,r.gd⟩
theorem Room.deeper (r:Room (k+1) A)(env:Env):Room k (A.deeper env):=
 ⟨r.hd,by have:=r.dp;show A.depth+1+3*k+5<_;omega,by have:=r.un;show A.units+3+16*k+200<_;omega,r.gd⟩
theorem Zig {A:xE}:(A.under (.builtin "type.__call__" ⟨.ref C::us,kw⟩)).depth=A.depth+1:=by
 rfl
theorem Zih {A:xE}:(A.under (.builtin "type.__call__" ⟨.ref C::us,kw⟩)).units=A.units+1:=by
 rfl
theorem Room.make (r:Room (k+1) A)(C:Addr)(us:List Value)(kw:List (Str×Value)):Room k (A.under (.builtin "type.__call__" ⟨.ref C::us,kw⟩)):=
 ⟨r.hd,by have:=r.dp;rw[Zig];omega,by have:=r.un;rw[Zih];omega,by first | exact r.gd | (rfl)⟩
theorem Room.depth (r:Room k A):A.depth<recursionLimit:=by have:=r.dp;omega
theorem Room.units (r:Room k A):A.units+64<cLine:=by have:=r.un;omega
theorem Room.units0 (r:Room k A):A.units<cLine:=by have:=r.un;omega
noncomputable def VU:TA:=λ_ H Q=>Q [] H
noncomputable def Uk (ta:TE)(tr:TA):TA:=fun σ H Q=>ta σ H λx H1=>tr σ H1 λxs H2=>Q (x::xs) H2
section
variable {X:Cx}{e:Expr}{es:List Expr}{te:TE}{t:TA}{pos:Pos}
theorem X4:PA X [] VU:=λ_ _ _ _ H Q I h=>Calls.spliced_nil ⟨[],H,I,.nil,h⟩
theorem Xt (ha:PE X e te)(hr:PA X es t)(hs:xh (e::es) X.env=(false,eval e X.env)::xh es X.env:=by rfl):PA X (e::es) (Uk te t):=by
 intro pos jN s σ H Q I h;rw[hs];refine Calls.spliced_cons (ZK (ha jN s σ H _ I h) λu s1 ⟨x,H1,I1,r1,q1⟩=>?_);exact ZK (hr pos jN s1 σ H1 _ I1 q1) λus s2 ⟨xs,H2,I2,r2,q2⟩=>⟨x::xs,H2,I2,.cons r1 r2,q2⟩
noncomputable def tTup (t:TA):TE:=fun σ H Q=>t σ H λxs H1=>xs.length<=xg/\∀p,H1 p=none->Q (.ref p) (Zs H1 p (.tup xs))
noncomputable def tLst (t:TA):TE:=fun σ H Q=>t σ H λxs H1=>xs.length<=xg/\∀p,H1 p=none->Q (.ref p) (Zs H1 p (.lst xs))
theorem ZpE (h:PA X es t):PE X (.Tuple es x1 pos) (tTup t):=by
 intro jN s σ H Q I hq;refine wpAny_Tuple_spliced (ZK (h pos jN s σ H _ I hq) λus s1 ⟨xs,H1,I1,r,z,q⟩=>⟨by rw[<-r.length];exact z,?_⟩);have hf:=I1.hok.fresh (qk _);refine⟨.ref s1.heap.objs.size,Zs H1 s1.heap.objs.size (.tup xs),I1.laid (λb u e=>qj _ e) (qk _) ?_,rfl,q _ hf⟩;exact⟨z,us,r,⟨_,qE _ rfl,rfl,_,rfl⟩⟩
theorem Zlq (h:PA X es t):PE X (.List es pos) (tLst t):=by
 intro jN s σ H Q I hq;refine wpAny_List_spliced (ZK (h pos jN s σ H _ I hq) λus s1 ⟨xs,H1,I1,r,z,q⟩=>⟨by rw[<-r.length];exact z,?_⟩);have hf:=I1.hok.fresh (qk _);refine⟨.ref s1.heap.objs.size,Zs H1 s1.heap.objs.size (.lst xs),I1.laid (λb u e=>qj _ e) (qk _) ?_,rfl,q _ hf⟩;exact⟨z,us,0,r,qE _ rfl⟩
end
noncomputable abbrev Sp:=List V->Hp->VK->XK->Prop
noncomputable abbrev Uy:=List Env->Hp->Shared->XK->xF
structure Env0 (P:xD)(w:World)(K:qd)(mg:Str->Option Value)(base:Heap)(A:xE)(outer:List Env)(s:Shared)(H:Hp):Prop where
 frames:A.frames=some outer
 mod:Mod K mg base
 bs:∀b o,base.get? b=some o->s.heap.get? b=some o/\H b=none
 bsz:base.objs.size<=s.heap.objs.size
 funs:s.heap.FunFrames base outer
 frf:∀b∈Wx outer,H b=none
 hok:YE P w H s.heap
 bare:AllBare s.gens
noncomputable def CE (outer:List Env)(P:xD)(w:World)(H:Hp)(s:Shared)(Q:VK)(u:Value)(s':Shared):Prop:=
 ∃v H',s'.os=s.os/\AllBare s'.gens/\Un (Wx outer) [] H H' s.heap s'.heap/\YE P w H' s'.heap/\ZQ v u/\Q v H'
noncomputable def CR (CX:Uy)(outer:List Env)(P:xD)(w:World)(H:Hp)(s:Shared)(Q:VK)(E:XK)(r:Result)(s':Shared):Prop:=
 match r with
 | .ok (.ret u)=>CE outer P w H s Q u s'
 | .ok _=>False
 | .error e=>CX outer H s E e s'
structure FnOk (P:xD)(w:World)(K:qd)(mg:Str->Option Value)(base:Heap)(CX:Uy)(k:Nat)(f:Addr)(fd:xC)(ps:List Str)(sp:Sp):Prop where
 len:∀vs H Q E,sp vs H Q E->vs.length=ps.length
 run:∀(A:xE) (outer:List Env) (s:Shared) (H:Hp) (args:Args) (us:List Value) (vs:List V) (Q:VK) (E:XK),Room k A->Env0 P w K mg base A outer s H->BindsTo s fd args (ps.zip us)->ZH vs us->sp vs H Q E->
  xo (xB P w) A (.call (.ref f) args) (CR CX outer P w H s Q E) s
theorem FnOk.mono {K:qd}(F:FnOk P w K mg base CX j f fd ps sp)(h:j<=k) :
  FnOk P w K mg base CX k f fd ps sp:=⟨F.len,λA outer s H args us vs Q E hr=>F.run A outer s H args us vs Q E (hr.mono h)⟩
theorem FnOk.imp {K:qd}(F:FnOk P w K mg base CX k f fd ps sp)
  (h:∀vs H Q E,sp' vs H Q E->sp vs H Q E):FnOk P w K mg base CX k f fd ps sp':=
 ⟨λvs H Q E q=>F.len vs H Q E (h _ _ _ _ q),λA outer s H args us vs Q E hr he hb hv hs=>F.run A outer s H args us vs Q E hr he hb hv (h _ _ _ _ hs)⟩
theorem Env0.make {K:qd}(e:Env0 P w K mg base A outer s H)(C:Addr)(us:List Value)(kw:List (Str×Value)) :
  Env0 P w K mg base (A.under (.builtin "type.__call__" ⟨.ref C::us,kw⟩)) outer s H:=⟨by first | exact e.frames | (rfl),e.mod,e.bs,e.bsz,e.funs,e.frf,e.hok,e.bare⟩
section
variable {X:Cx}{jN:Qb}{σ:St}{H:Hp}{s s':Shared}
theorem Inv.env0 (I:Inv X jN σ H s):Env0 X.prog X.w X.K X.mg X.base X.A X.stack s H:=
 ⟨I.ok.frames,I.ok.mod,I.bs,qp I.ok.bsz I.sz,I.stack,I.stkFree,I.hok,I.bare⟩
theorem Inv.after (I:Inv X jN σ H s)(h:CE X.stack X.prog X.w H s Q u s'):EP X jN σ Q u s':=by
 obtain⟨v,H',os,bare,un,hok,r,q⟩:=h;obtain⟨hh,g,d,t,os'⟩:=s';obtain rfl:os'=s.os:=os;exact⟨v,H',I.call un hok bare (λb z=>absurd z (by simp)),r,q⟩
end
noncomputable def ZqN (sp:Sp)(dvs:List V)(E:XK)(t:TA):TE:=fun σ H Q=>t σ H λvs H1=>sp (vs++dvs) H1 Q E
noncomputable def Zjo (C:Addr)(m:Str)(sp:Sp)(dvs:List V)(E:XK)(ta:TE)(t:TA):TE:=fun σ H Q=>ta σ H λx H1=>∃a dx fs,x=.ref a/\H1 a=some (.ins C dx fs)/\fs.lookup m=none/\
 t σ H1 λvs H2=>sp (x::(vs++dvs)) H2 Q E
noncomputable def ZqO (C:Addr)(sp:Sp)(dvs:List V)(E:XK)(t:TA):TE:=fun σ H Q=>t σ H λvs H1=>∀x dx,H1 x=none->H1 dx=none->dx≠x->
 sp (.ref x::(vs++dvs)) (Zs (Zs H1 dx (.own x)) x (.ins C dx [])) (λv H2=>v=.non/\Q (.ref x) H2) E
noncomputable def Xb (K:qd)(fd:xC)(ps:List Str)(ds:List Value):Prop:=
 ∀(s:Shared) (us:List Value),K.In s.heap->(us++ds).length=ps.length->BindsTo s fd ⟨us,[]⟩ (ps.zip (us++ds))
theorem Xb.all {K:qd}(h:∀us:List Value,us.length=ps.length->bindArgs fd ⟨us,[]⟩=pure (ps.zip us)):Xb K fd ps []:=λs us _ hl=>by
 rw[zu]at hl⊢;exact .of_eq (h us hl)
noncomputable def UM (CX:Uy)(X:Cx)(E:XK):Prop:=∀(jN:Qb) (σ:St) (H:Hp) (s:Shared) (e:Value) (s':Shared),Inv X jN σ H s->CX X.stack H s E e s'->X.xe e s'
section
variable {X:Cx}{CX:Uy}{k:Nat}{f C:Addr}{fd:xC}{ps:List Str}{sp:Sp}{dvs:List V}{ds:List Value}{E:XK}{x m:Str}{p pos apos:Pos}{e o:Expr}{es:List Expr}{ta:TE}{t:TA}
theorem ZfS {σ:St}(F:FnOk X.prog X.w X.K X.mg X.base CX k f fd ps sp)(hr:Room k X.A)(hb:Xb X.K fd ps ds)(hd:ZH dvs ds)(hx:UM CX X E)
  (I:Inv X jN σ H s) (r:ZH vs us) (h:sp (vs++dvs) H Q E):xf (xB X.prog X.w) X.A (call (.ref f) us) (EP X jN σ Q) X.xe s:=by
 have r2:=r.append hd;have hl:(us++ds).length=ps.length:=by rw[<-r2.length];exact F.len _ _ _ _ h
 refine xA (codeAny_mono (F.run X.A X.stack s H ⟨us,[]⟩ (us++ds) (vs++dvs) Q E hr I.env0 (hb s us I.kIn hl) r2 h) λr s' hq=>?_)
 cases r with
 | error e=>exact hx jN σ H s e s' I hq
 | ok fl=>
  cases fl with
  | ret u=>exact I.after hq
  | next=>exact zB hq
  | brk=>exact zB hq
  | cont=>exact zB hq
theorem ZnE (F:FnOk X.prog X.w X.K X.mg X.base CX k f fd ps sp)(hr:Room k X.A)(hg:Gl X x)(hm:X.mg x=some (.ref f))(hk:zH X.K (.ref f)=true)(hb:Xb X.K fd ps ds)(hd:ZH dvs ds)(hx:UM CX X E)
  (ha:PA X (e::es) t) (hdb:(x==("__debug__" : Str))=false:=by decide) (he:xh (e::es) X.env=(false,eval e X.env)::xh es X.env:=by rfl) (hpl:(backTo pos (xh es X.env)).any (·.1)=false:=by rfl) :
  PE X (.Call (.Name x p) (e::es) [] pos) (ZqN sp dvs E t):=by
 intro jN s σ H Q I h;refine wpAny_Call_Name_kw (ZfQ I hg hm ?_ hdb);refine qaa I.ok.mod.kin hk (ZK (ha pos jN s σ H _ I h) λus s1 ⟨vs,H1,I1,r,q⟩=>⟨I1.kIn,?_⟩) he hpl;exact ZfS F hr hb hd hx I1 r q
theorem Zjp {pl:Sem Bool}(he:PE X o ta)(c:Cls X.K C)(hm:Meth X.K C m f)(F:FnOk X.prog X.w X.K X.mg X.base CX k f fd ps sp)(hr:Room k X.A)(hb:Xb X.K fd ps ds)(hd:ZH dvs ds)(hx:UM CX X E)(ha:PA X (e::es) t)
  (hst:xh (e::es) X.env=(false,eval e X.env)::xh es X.env:=by rfl) (hpl:(backTo pos (xh es X.env)).any (·.1)=false:=by rfl)
  (ht:eval (.Call (.Attribute o m apos) (e::es) [] pos) X.env=(do
   let ov<-eval o X.env
   standAt apos.atName
   let (f,first)<-holding [ov] (getMethod ov m pl)
   callWith pos f first (backTo pos (xh (e::es) X.env)) (xp pos (xi [] X.env))):=by rfl) :
  PE X (.Call (.Attribute o m apos) (e::es) [] pos) (Zjo C m sp dvs E ta t):=by
 intro jN s σ H Q I h;refine qbW (ZK (he jN s σ H _ I h) λu s1 ⟨x,H1,I1,rx,a,dx,fs,ex,ea,l,q⟩=>?_) ht;subst ex;obtain rfl:u=qw a:=rx;refine ZdK I1 ea c hm l ?_;refine qaa I.ok.mod.kin hm.kp (ZK (ha pos jN s1 σ H1 _ I1 q) λus s2 ⟨vs,H2,I2,r,q2⟩=>⟨I2.kIn,?_⟩) hst hpl;exact ZfS (vs:=.ref a::vs) F hr hb hd hx I2 (.cons rfl r) q2
theorem ZgN (he:PE X o ta)(c:Cls X.K C)(hm:Meth X.K C m f)(F:FnOk X.prog X.w X.K X.mg X.base CX k f fd ps sp)(hr:Room k X.A)(hb:Xb X.K fd ps ds)(hd:ZH dvs ds)(hx:UM CX X E)
  (ht:eval (.Call (.Attribute o m apos) [] [] pos) X.env=(do
   let ov<-eval o X.env
   standAt apos.atName
   let (f,first)<-holding [ov] (getMethod ov m pl)
   callWith pos f first (backTo pos (xh [] X.env)) (xp pos (xi [] X.env))):=by rfl) :
  PE X (.Call (.Attribute o m apos) [] [] pos) (Zjo C m sp dvs E ta VU):=by
 intro jN s σ H Q I h;refine qbW (ZK (he jN s σ H _ I h) λu s1 ⟨x,H1,I1,rx,a,dx,fs,ex,ea,l,q⟩=>?_) ht;subst ex;obtain rfl:u=qw a:=rx;refine ZdK I1 ea c hm l ?_;exact PySem.W.callWith_K0 I1.kIn hm.kp (ZfS (vs:=[.ref a]) F hr hb hd hx I1 (.cons rfl .nil) q)
structure Mk (K:qd)(C f:Addr):Prop where
 makes:PySem.W.makesIn K C=true
 init:zG K (.ref C) "__init__" = some (some (.ref f))
 fn:qck K (.ref f)=true
 kp:zH K (.ref C)=true
theorem Zlr {σ:St}(M:Mk X.K C f)(F:FnOk X.prog X.w X.K X.mg X.base CX k f fd ps sp)(hr:Room (k+1) X.A)(hb:Xb X.K fd ps ds)(hd:ZH dvs ds)
  (hx:UM CX X E) (I:Inv X jN σ H s) (r:ZH vs us)
  (h:∀x dx,H x=none->H dx=none->dx≠x->sp (.ref x::(vs++dvs)) (Zs (Zs H dx (.own x)) x (.ins C dx [])) (λv H2=>v=.non/\Q (.ref x) H2) E) :
  xf (xB X.prog X.w) X.A (call (.ref C) us) (EP X jN σ Q) X.xe s:=by
 have hq:=h (s.heap.objs.size+1) s.heap.objs.size (I.hok.fresh (Nat.le_succ _)) (I.hok.fresh (qk _)) (qK (yk _));have I2:=jI (C:=C) I;have r2:ZH (V.ref (s.heap.objs.size+1)::(vs++dvs)) (qw (s.heap.objs.size+1)::(us++ds)):=.cons rfl (r.append hd);have hl:=by
  have e:=r2.length;rw[F.len _ _ _ _ hq]at e;exact e.symm
 refine xA (Zlp I.kIn M.makes M.init (beq_iff_eq.mp M.fn) (codeAny_mono (F.run _ X.stack _ _ ⟨qw (s.heap.objs.size+1)::us,[]⟩ (qw (s.heap.objs.size+1)::(us++ds)) _ _ E (hr.make C us [])
  (I2.env0.make C us []) (hb _ (qw (s.heap.objs.size+1)::us) I2.kIn hl) r2 hq) λr s' hq'=>?_))
 cases r with
 | error e=>exact hx jN σ _ _ e s' I2 hq'
 | ok fl=>
  cases fl with
  | ret u=>
   obtain⟨v,H',I3,rv,ev,q3⟩:=I2.after hq';subst ev;exact⟨rv,⟨V.ref (s.heap.objs.size+1),H',I3,rfl,q3⟩⟩
  | next=>exact zB hq'
  | brk=>exact zB hq'
  | cont=>exact zB hq'
theorem ZnF (M:Mk X.K C f)(F:FnOk X.prog X.w X.K X.mg X.base CX k f fd ps sp)(hr:Room (k+1) X.A)(hg:Gl X x)(hm:X.mg x=some (.ref C))(hb:Xb X.K fd ps ds)(hd:ZH dvs ds)(hx:UM CX X E)
  (ha:PA X (e::es) t) (hdb:(x==("__debug__" : Str))=false:=by decide) (he:xh (e::es) X.env=(false,eval e X.env)::xh es X.env:=by rfl) (hpl:(backTo pos (xh es X.env)).any (·.1)=false:=by rfl) :
  PE X (.Call (.Name x p) (e::es) [] pos) (ZqO C sp dvs E t):=by
 intro jN s σ H Q I h;refine wpAny_Call_Name_kw (ZfQ I hg hm ?_ hdb);refine qaa I.ok.mod.kin M.kp (ZK (ha pos jN s σ H _ I h) λus s1 ⟨vs,H1,I1,r,q⟩=>⟨I1.kIn,?_⟩) he hpl;exact Zlr M F hr hb hd hx I1 r q
end
noncomputable def PK (X:Cx)(kws:List Keyword)(t:TA):Prop:=
 ∀(pos:Pos) (jN:Qb) (s:Shared) (σ:St) (H:Hp) (Q:List V->Hp->Prop),Inv X jN σ H s->t σ H Q->xf (xB X.prog X.w) X.A (evalAll ((xp pos (xi kws X.env)).map (·.2))) (AP X jN σ Q) X.xe s
section
variable {X:Cx}{CX:Uy}{k:Nat}{f C:Addr}{fd:xC}{ps ks:List Str}{sp:Sp}{E:XK}{x m:Str}{p pos apos kpos:Pos}{e o:Expr}{es:List Expr}{kws:List Keyword}{te ta:TE}{t tk:TA}{nm:Option Str}
theorem ZpF:PK X [] VU:=λ_ _ _ _ H Q I h=>wpAny_evalAll_nil ⟨[],H,I,.nil,h⟩
theorem ZnG (ha:PE X e te)(hr:PK X kws t):PK X (⟨nm,e,kpos⟩::kws) (Uk te t):=by
 intro pos jN s σ H Q I h;refine wpAny_evalAll_cons (xa (ZK (ha jN s σ H _ I h) λu s1 ⟨x,H1,I1,r1,q1⟩=>xa (wpAny_standAt (xb ?_))));exact ZK (hr pos jN s1 σ H1 _ I1 q1) λus s2 ⟨xs,H2,I2,r2,q2⟩=>⟨x::xs,H2,I2,.cons r1 r2,q2⟩
variable {g:List Value->List Value->List Value}{gV:List V->List V->List V}
end
structure FnScope (N P:List Str)(sc:Scope):Prop where
 kind:sc.kind=.function
 co:sc.isCoroutine=false
 gen:sc.isGenerator=false
 nd:N.Nodup
 pre:N.take P.length=P
 par:∀x∈P,sc.names.lookup x=some .local∨sc.names.lookup x=some .cell
 nofree:∀y∈sc.names,y.2≠.free
theorem Zff {kindOf:Str->Option NameKind}:∀{binds:List (Str×Value)} {m:Str->Option Value},(∀v,(x,v)∉binds)->bindL kindOf binds m x=m x
 | [],_,_=>rfl
 | (n,v)::r,m,h=>by
  unfold bindL;rw[Zff λw hw=>h w (qW _ hw)];split
  ·grind
  ·rfl
theorem Zfg {kindOf:Str->Option NameKind}:∀{binds:List (Str×Value)} {m:Str->Option Value},(∀v,(x,v)∉binds)->bindC kindOf binds m x=m x
 | [],_,_=>rfl
 | (n,v)::r,m,h=>by
  unfold bindC;rw[Zfg λw hw=>h w (qW _ hw)];split
  ·rfl
  ·grind
theorem Zfh {kindOf:Str->Option NameKind}:∀{P:List Str} {vs:List Value} {i:Nat} {m:Str->Option Value},P.Nodup->P[i]?=some x->vs[i]?=some v->kindOf x=some .local->
  bindL kindOf (P.zip vs) m x=some v
 | [],_,_,_,_,h,_,_=>by simp at h
 | _::_,[],_,_,_,_,h,_=>by simp at h
 | p::P,w::vs,0,m,nd,h1,h2,hk=>by
  simp at h1 h2;subst h1;subst h2;show bindL kindOf ((p,w)::P.zip vs) m p=_;unfold bindL;rw[Zff λv hv=>(z9.mp nd).1 (qaI hv).1,if_pos hk];simp
 | p::P,w::vs,i+1,m,nd,h1,h2,hk=>by
  show bindL kindOf ((p,w)::P.zip vs) m x=_;exact Zfh (z9.mp nd).2 (by simpa using h1) (by simpa using h2) hk
theorem Zfi {kindOf:Str->Option NameKind}:∀{P:List Str} {vs:List Value} {i:Nat} {m:Str->Option Value},P.Nodup->P[i]?=some x->vs[i]?=some v->kindOf x≠some .local->
  bindC kindOf (P.zip vs) m x=some v
 | [],_,_,_,_,h,_,_=>by simp at h
 | _::_,[],_,_,_,_,h,_=>by simp at h
 | p::P,w::vs,0,m,nd,h1,h2,hk=>by
  simp at h1 h2;subst h1;subst h2;show bindC kindOf ((p,w)::P.zip vs) m p=_;unfold bindC;rw[Zfg λv hv=>(z9.mp nd).1 (qaI hv).1,if_neg hk];simp
 | p::P,w::vs,i+1,m,nd,h1,h2,hk=>by
  show bindC kindOf ((p,w)::P.zip vs) m x=_;exact Zfi (z9.mp nd).2 (by simpa using h1) (by simpa using h2) hk
noncomputable def start (N:List Str)(vs:List V):St:=vs.map some++qf (N.length-vs.length) none
noncomputable def Vn (CX:Uy)(P:xD)(w:World)(K:qd)(mg:Str->Option Value)(base:Heap)(N:List Str)(qual:Str)(scope:Scope)(f:Addr)(cd:Value)(A:xE)(outer:List Env)(s:Shared)(H:Hp)(E:XK):Cx where
 prog:=P
 w:=w
 K:=K
 mg:=mg
 base:=base
 A:=A.deeper (envOfC qual scope s.heap.objs.size f cd)
 N:=N
 s₀:=s
 H₀:=H
 env:=envOfC qual scope s.heap.objs.size f cd
 outer:=outer
 stack:=envOfC qual scope s.heap.objs.size f cd::outer
 ex:=[]
 calm:=true
 fn:=λ_=>true
 pn:=[]
 xe:=λe s'=>xf (xB P w) (A.deeper (envOfC qual scope s.heap.objs.size f cd)) (leaving (envOfC qual scope s.heap.objs.size f cd) e) (λ_ s''=>CX outer H s E e s'') (λe' s''=>CX outer H s E e' s'') s'
theorem ZgO {sc:Scope}(h:sc.names.lookup x=some .cell):∃c,(cellsFrom n sc.names []).lookup x=some c:=by
 have q:=qbP sc.names n [] (.inl h);exact ym.mp q
theorem Zki {K:qd}
  (S:FnScope N ps scope) (hd:A.handled=none) (e0:Env0 P w K mg base A outer s H) (hl:vs.length=ps.length) (r:ZH vs us)
  (x:InCallC s s.heap.objs.size (bindL (envOfC qual scope s.heap.objs.size f cd).kindOf (ps.zip us) λ_=>none) (cellsFrom (s.heap.objs.size+1) scope.names []) (bindC (envOfC qual scope s.heap.objs.size f cd).kindOf (ps.zip us) λ_=>none) s1) :
  Inv (Vn CX P w K mg base N qual scope f cd A outer s H E) [] (start N vs) H s1:=by
 have hpl:ps.length<=N.length:=by have:=congrArg qcs S.pre;rw[yn]at this;omega
 obtain⟨h1,tk,rfl,hk⟩:=x.done;have noA:∀b:Addr,b∉(Vn CX P w K mg base N qual scope f cd A outer s H E).ex:=λb z=>absurd (show b∈([]:List Addr)from z) (by simp);refine⟨⟨e0.mod,S.kind,rfl,rfl,qk _,λy z c h1 h2=>?_,λy hy=>?_,λy c _ h=>?_,λ_=>hd,qb4 e0.frames,.inr ⟨rfl,rfl⟩,λb z=>absurd z (noA b),e0.bs,e0.bsz,λb _ _=>noA b,λb z=>absurd z (noA b),e0.funs,e0.frf⟩,
  rfl,e0.bare,Un.kept hk,⟨_,x.toInCall.ns,λi y v h1 h2 h3=>?_⟩,λy c h=>⟨_,x.cell y c h⟩,e0.hok.fresh (qk _),λy c h=>?_,λp hp=>absurd (show p∈([]:Qb)from hp) (by simp),e0.hok.kept hk,?_⟩
 ·exact name_of_addr x.apart (zm h1) (zm h2)
 ·have hy:scope.names.lookup y=some .cell∨scope.names.lookup y=some .free:=hy
  rcases hy with hy | hy
  ·exact ZgO hy
  ·exact absurd rfl (S.nofree _ (zm hy))
 ·exact y8 (x.above y c (zm h))
 ·have hi:i<vs.length:=by
   unfold start at h2;by_cases hi:i<vs.length
   ·exact hi
   ·rw[zM (by simpa using hi)]at h2
    rw[zW]at h2;split at h2 <;> cases h2
  have ha:vs[i]?=some v:=by
   unfold start at h2;rw[zh (by simpa using hi),qI]at h2
   cases e:vs[i]? with
   | none=>rw[e]at h2;cases h2
   | some a=>rw[e]at h2;cases h2;rfl
  obtain⟨u,hu,rv⟩:=r.get ha;have hp:ps[i]?=some y:=by
   rw[<-S.pre,qbm (by omega)];exact h1
  have ndP:ps.Nodup:=by rw[<-S.pre];exact S.nd.sublist (qaq _ _)
  refine⟨u,rv,?_⟩;rcases S.par y (zp hp)with k | k
  ·exact .inl ⟨k,Zfh ndP hp hu k⟩
  ·obtain⟨c,e⟩:=ZgO (n:=s.heap.objs.size+1) k
   refine .inr ⟨.inl k,c,e,?_⟩;have q:=x.cell y c e;rw[Zfi ndP hp hu (by show scope.names.lookup y≠_;simp_all)]at q;exact q
 ·exact e0.hok.fresh (y8 (x.above y c (zm h)))
 ·unfold start
  show _=N.length
  grind
theorem ZoX {K:qd}{kV:Value}
  (lk:K.lookup f=some ⟨oc,od,.func (zv name qual params body scope dV kV doc pm an cdv ct),osl⟩) (hcd:yL K cdv qual=true) (S:FnScope N ps scope)
  (len:∀vs H Q E,sp vs H Q E->vs.length=ps.length)
  (hbody:∀(A:xE) (outer:List Env) (s:Shared) (H:Hp) (vs:List V) (Q:VK) (E:XK),Room k (A.deeper (envOfC qual scope s.heap.objs.size f cdv))->sp vs H Q E->
   ∃t,XV (Vn CX P w K mg base N qual scope f cdv A outer s H E) body t/\t { nx:=λ_ H'=>Q .non H',rt:=Q } (start N vs) H) :
  FnOk P w K mg base CX (k+1) f (zv name qual params body scope dV kV doc pm an cdv ct) ps sp:=by
 refine⟨len,λA outer s H args us vs Q E hr e0 hb r hsp=>?_⟩;have hl:=len _ _ _ _ hsp;have KX:K.In s.heap:=e0.mod.kin.keeps λb o e=>(e0.bs b o e).1;have lim:s.heap.NoLimit:=e0.mod.nolimit.keeps λb o e=>(e0.bs b o e).1;have hkind:∀y∈ps.zip us,scope.names.lookup y.1=some .local∨(scope.names.lookup y.1=some .cell/\((cellsFrom (s.heap.objs.size+1) scope.names []).lookup y.1).isSome=true):=λ⟨n,v⟩ hy=>by
  rcases S.par n (qaI hy).1 with q | q
  ·exact .inl q
  ·exact .inr ⟨q,qbP _ _ _ (.inl q)⟩
 refine codeAny_call_function hr.depth (KX _ _ lk) rfl S.co S.gen rfl (PySem.W.codeRec_of KX hcd) (hb _ _ _ _ ?_);refine wpAny_newFunctionEnv_cells S.kind hkind λenv he s1 x=>?_;subst he;refine⟨lim.keeps x.toInCall.keep,codeAny_func ?_⟩;obtain⟨t,ht,hq⟩:=hbody A outer s H vs Q E (hr.deeper _) hsp;have I:Inv (Vn CX P w K mg base N qual scope f cdv A outer s H E) [] (start N vs) H s1:=Zki S hr.hd e0 hl r x;refine xc (ht [] s1 (start N vs) H _ I hq) (λfl s' hs=>?_) λe s' hs=>hs;have fin:∀{σ':St} {H':Hp} {v:V} {u:Value},Inv (Vn CX P w K mg base N qual scope f cdv A outer s H E) [] σ' H' s'->ZQ v u->Q v H'->CE outer P w H s Q u s':=
  λ{σ' H' v u} J rv q=>⟨v,H',J.os,J.bare,J.base,J.hok,rv,q⟩
 cases fl with
 | ret u=>
  obtain⟨v,σ',H',J,rv,q⟩:=hs;exact fin J rv q
 | next=>
  obtain⟨σ',H',J,q⟩:=hs;exact fin (v:=V.non) J rfl q
 | brk=>
  obtain⟨_,_,_,q⟩:=hs;simp_all
 | cont=>
  obtain⟨_,_,_,q⟩:=hs;simp_all
section
variable {X:Cx}{x:Str}{p pos:Pos}{e:Expr}{es:List Expr}{t:TA}{id T:String}{r:List V->Hp->VK->Prop}
noncomputable def tCB (r:List V->Hp->VK->Prop)(t:TA):TE:=fun σ H Q=>t σ H λvs H1=>r vs H1 Q
theorem Za4 (hc:Wg X (.builtin id) r)(hg:Gl X x)(hm:X.mg x=none)(hv:xj x=some (.builtin id))(ha:PA X (e::es) t)(hn:x≠"__name__":=by decide)(hdb:(x==("__debug__" : Str))=false:=by decide)
  (he:xh (e::es) X.env=(false,eval e X.env)::xh es X.env:=by rfl) (hpl:(backTo pos (xh es X.env)).any (·.1)=false:=by rfl):PE X (.Call (.Name x p) (e::es) [] pos) (tCB r t):=by
 intro jN s σ H Q I h;refine wpAny_Call_Name_kw (JB I hg hm hv ?_ hn hdb);exact PyProof.Rows.callWith_builtin1 (ZK (ha pos jN s σ H _ I h) λus s1 ⟨vs,H1,I1,r1,q1⟩=>hc jN s1 σ H1 vs us Q I1 r1 q1) he hpl
theorem Zfj (hc:Wg X (.type T) r)(hg:Gl X x)(hm:X.mg x=none)(hv:xj x=some (.type T))(ha:PA X (e::es) t)(hn:x≠"__name__":=by decide)(hdb:(x==("__debug__" : Str))=false:=by decide)
  (he:xh (e::es) X.env=(false,eval e X.env)::xh es X.env:=by rfl) (hpl:(backTo pos (xh es X.env)).any (·.1)=false:=by rfl):PE X (.Call (.Name x p) (e::es) [] pos) (tCB r t):=by
 intro jN s σ H Q I h;refine wpAny_Call_Name_kw (JB I hg hm hv ?_ hn hdb);exact z6 (ZK (ha pos jN s σ H _ I h) λus s1 ⟨vs,H1,I1,r1,q1⟩=>hc jN s1 σ H1 vs us Q I1 r1 q1) he hpl
end
end L2
namespace HT
noncomputable def lexLt:List Int->List Int->Bool
 | [],[]=>false
 | [],_::_=>true
 | _::_,[]=>false
 | x::xs,y::ys=>if x=y then lexLt xs ys else decide (x<y)
theorem Zii (x y:Int)(xs ys:List Int):lexLt (x::xs) (y::ys)=if x=y then lexLt xs ys else decide (x<y):=rfl
theorem ZeT:lexLt [] []=false:=rfl
theorem ZdL (y:Int)(ys:List Int):lexLt [] (y::ys)=true:=rfl
theorem ZdM (x:Int)(xs:List Int):lexLt (x::xs) []=false:=rfl
theorem Zls (A:xE)(s:Shared)(a:Int)(t:Tok)(c:Int)(u:Tok):∃e,yM A s (.int a t) (.int c u) e/\(e=true↔a=c):=
 ⟨(a==c),yM.int_int a t c u,by simp⟩
theorem Zlt (A:xE)(s:Shared)(a:Int)(t:Tok)(c:Int)(u:Tok)(prog:xD)(w:World)(E:xF)(Q:xF)(h:Q (.bool (decide (a<c))) s) :
  xf (xB prog w) A (richCompare .Lt (.int a t) (.int c u)) Q E s:=
 (PyProof.Rows.lt_int h:xf (xB prog w) A (xk .Lt (.int a t) (.int c u)) Q E s)
section
open PySem.SeqAt
open PySem.AutoSeq1 (wpAny_loadPart')
open PySem.MeetsSeq PySem.MeetsSeq2 PySem.MeetsSeq3
theorem ZeU (l b:Addr)(items items2:Array Value)(n n2:Nat)(dd dd2:Option Addr)(sl sl2:Array (Option Value))(ns ms:List Int)(hi:IntsAre items.toList ns)(hj:IntsAre items2.toList ms) :
  Meets (Builtin.«tuple.__lt__» ⟨[.ref l,.ref b],[]⟩)
   (λ_ R s=>s.heap.get? l=some { cls:=.type "tuple",dict:=dd,data:=.seq items n,slots:=sl }/\s.heap.get? b=some { cls:=.type "tuple",dict:=dd2,data:=.seq items2 n2,slots:=sl2 }/\
    R (.ok (.ret (.bool (lexLt ns ms)))) s):=
 .of_wp λprog w A R s h=>by
  obtain⟨hp,g,d,tk,os⟩:=s;obtain⟨hl,hb,h⟩:=h;have f2:=yo;have z1:items.size=ns.length:=by rw[<-hi.length];simp
  have z2:items2.size=ms.length:=by rw[<-hj.length];simp
  wp_walk using wpAny_loadPart' hl,wpAny_loadPart' hb,wpAny_forIn_list _ (λrest b s'=>b.1=none/\s'=⟨hp,g,d,tk,os⟩/\∃(vs ws:List Value) (ns' ms':List Int),rest=vs.zip ws/\
   IntsAre vs ns'/\IntsAre ws ms'/\ns'.length+items2.size=ms'.length+items.size/\R (.ok (.ret (.bool (lexLt ns' ms')))) ⟨hp,g,d,tk,os⟩) _
  case turn=>
   rintro⟨y,x⟩ rest b s' ⟨hb',rfl,vs,ws,ns',ms',hz,hvi,hwi,jV,hR⟩
   cases hvi with
   | nil=>rw[List.zip_nil_left]at hz;cases hz
   | cons a t hvi'=>
    cases hwi with
    | nil=>rw[List.zip_nil_right]at hz;cases hz
    | cons c u hwi'=>
     rw[List.zip_cons_cons]at hz;injection hz with hyx hrest;injection hyx with hy hx;subst hy hx;rw[Zii]at hR;simp only[zb]at jV;obtain⟨e,he,hiff⟩:=Zls A.in1 ⟨hp,g,d,tk,os⟩ a t c u;refine xa (he prog w _ _ ?_)
     cases e with
     | true=>
      rw[if_pos (hiff.mp rfl)]at hR
      wp_walk
      exact⟨rfl,rfl,_,_,_,_,hrest,hvi',hwi',by omega,hR⟩
     | false=>
      rw[if_neg (λq=>absurd (hiff.mpr q) qab)]at hR;have hri:=Zlt A.in1 ⟨hp,g,d,tk,os⟩ a t c u prog w
      wp_walk using hri
      exact⟨_,rfl,by simpa using hR⟩
  case fin=>
   rintro⟨b1,b2⟩ s' ⟨hb',rfl,vs,ws,ns',ms',hz,hvi,hwi,jV,hR⟩;simp only at hb';subst hb';have hv:lexLt ns' ms'=decide (items.size<items2.size):=by
    cases hvi with
    | nil=>
     cases hwi with
     | nil=>
      simp only[yY]at jV;rw[ZeT];exact(decide_eq_false (by omega)).symm
     | cons c u hw=>
      simp only[yY,zb]at jV;rw[ZdL];exact(decide_eq_true (by omega)).symm
    | cons a t hv=>
     cases hwi with
     | nil=>
      simp only[yY,zb]at jV;rw[ZdM];exact(decide_eq_false (by omega)).symm
     | cons c u hw=>
      rw[List.zip_cons_cons]at hz
      cases hz
   rw[hv]at hR
   wp_walk
   exact⟨_,rfl,by simpa[Builtin.Tuple.tupleCompareSizes]using hR⟩
  case h=>
   exact⟨rfl,rfl,items.toList,items2.toList,ns,ms,rfl,hi,hj,by omega,h⟩
end
section
variable {prog:xD}{w:World}{A:xE}{E:xF}{s:Shared}
theorem lt_tupInts (hl:IsTup s.heap l items)(hb:IsTup s.heap b items2)(hi:IntsAre items.toList ns)(hj:IntsAre items2.toList ms)
  (hu:A.units<cLine) (h:Q (.bool (lexLt ns ms)) s):xf (xB prog w) A (xk .Lt (.ref l) (.ref b)) Q E s:=by
 obtain⟨⟨cls,dd,data,sl⟩,ho,hc,n,hd⟩:=id hl;obtain⟨⟨cls2,dd2,data2,sl2⟩,ho2,hc2,n2,hd2⟩:=id hb;subst hc hd hc2 hd2;exact richCompare_meets_room (op:=.Lt) ⟨_,ho,rfl⟩ ⟨_,ho2,rfl⟩ PySem.F.slot_tuple_lt PySem.F.entry_tuple_lt (PySem.F.args_tuple_lt_2 _ _) (ZeU l b items items2 n n2 dd dd2 sl sl2 ns ms hi hj)
  ⟨ho,ho2,show zf (lexLt ns ms)≠qb5/\Q (.bool (lexLt ns ms)) s from⟨(λx=>nomatch x),h⟩⟩ hu
theorem cat_tup (ht:IsTup s.heap t vs.toArray)(hb:IsTup s.heap b ws.toArray)(hv:vs≠[])
  (h1:ws=[]->Q (.ref t) s) (h2:ws≠[]->Q (.ref s.heap.objs.size) { s with heap:=s.heap.push { cls:=.type "tuple",data:=.seq (vs++ws).toArray } })
  (hsz:vs.length+ws.length<=xg):xf (xB prog w) A (binaryOp .Add (.ref t) (.ref b)) Q E s:=by
 obtain⟨⟨cls,dd,data,sl⟩,ho,hc,n,hd⟩:=id ht;obtain⟨⟨cls2,dd2,data2,sl2⟩,ho2,hc2,n2,hd2⟩:=id hb;subst hc hd hc2 hd2;have e:vs.toArray++ws.toArray=(vs++ws).toArray:=by simp
 by_cases hw:ws=[]
 ·exact concat_meets ⟨_,ho,rfl⟩ ⟨_,ho2,rfl⟩ noFill_tuple_add seq_tuple_add qaw qam (qac _ _)
   (tuple_addW1 t b vs.toArray ws.toArray n n2 dd dd2 sl sl2 (by simpa using hv) (by simp[hw])) ⟨ho,ho2,h1 hw⟩
 ·refine concat_meets ⟨_,ho,rfl⟩ ⟨_,ho2,rfl⟩ noFill_tuple_add seq_tuple_add qaw qam (qac _ _)
   (tuple_addW2 t b vs.toArray ws.toArray n n2 dd dd2 sl sl2 (by simpa using hv) (by simp_all) (by omega)) ⟨ho,ho2,?_⟩
  rw[e];exact h2 hw
noncomputable def sIx (n d:Nat):Option Int->Nat
 | none=>d
 | some v=>if v<0 then (v+(n:Int)).toNat else min v.toNat n
theorem sIx_none (n d:Nat):sIx n d none=d:=rfl
theorem sIx_nat (n d k:Nat):sIx n d (some (k:Int))=min k n:=by
 rfl
theorem ZpG (n d:Nat)(hd:d<=n)(o:Option Int):sIx n d o<=n:=by
 cases o with
 | none=>exact hd
 | some v=>
  show(if v<0 then (v+(n:Int)).toNat else min v.toNat n)<=n;by_cases hv:v<0
  ·grind
  ·rw[if_neg hv];exact Nat.min_le_right _ _
theorem Zjq (v:Int)(n d:Nat):(if v<0 then max (v+(n:Int)) 0 else min v (n:Int))=((sIx n d (some v):Nat):Int):=by
 show(if v<0 then max (v+(n:Int)) 0 else min v (n:Int))=(((if v<0 then (v+(n:Int)).toNat else min v.toNat n):Nat):Int)
 grind
theorem Zij (lo hi:Option Int)(n:Nat):yZ lo hi 1 (n:Int)=(((sIx n 0 lo:Nat):Int),((sIx n n hi:Nat):Int)):=by
 refine Prod.ext ?_ ?_
 ·cases lo with
  | none=>rfl
  | some v=>exact Zjq v n 0
 ·cases hi with
  | none=>rfl
  | some v=>exact Zjq v n n
theorem Zik (i j:Nat):zi (i:Int) (j:Int) 1=j-i:=by
 unfold zi;simp
 grind
theorem ZdN (p:IsPart v o)(h:Q o s):xf (xB prog w) A (Builtin.Slice.slicePartIndex v) Q E s:=by
 cases p with
 | none=>exact slicePart_none h
 | int i t=>exact slicePart_int h
theorem ZaM {lo:Option Int}{n:Nat}(hs:s.heap.IsSliceOf sl vl vu .none)(pl:IsPart vl lo)(pu:IsPart vu hi)
  (h:Q (((sIx n 0 lo:Nat):Int),1,sIx n n hi-sIx n 0 lo) s):xf (xB prog w) A (yP (.ref sl) (pure (n:Int))) Q E s:=by
 obtain⟨os,hos,hcs,hds⟩:=id hs;refine xa (xa (wpAny_field hos hds (x:=vl) rfl (xa (wpAny_field hos hds (x:=vu) rfl (xa (wpAny_field hos hds rfl (xb ?_)))))));refine xa (slicePart_none ?_);refine xa (ZdN pl (xa (ZdN pu (xa (xb ?_)))));show xf _ _ (match yZ lo hi 1 (n:Int)with | (lo,hi)=>pure (lo,(1:Int),zi lo hi 1)) _ _ s;rw[Zij lo hi n];show xf _ _ (pure (((sIx n 0 lo:Nat):Int),(1:Int),zi ((sIx n 0 lo:Nat):Int) ((sIx n n hi:Nat):Int) 1)) _ _ s;rw[Zik];exact xb h
theorem Zlu (xs:Array Value)(i k:Nat):((qm k).filterMap λ(m:Nat)=>xs[((i:Int)+(m:Int)*1).toNat]?).toArray=((xs.toList.drop i).take k).toArray:=by
 have e:(λ(m:Nat)=>xs[((i:Int)+(m:Int)*1).toNat]?)=λm=>xs[i+m]?:=by
  funext m
  grind
 rw[e];have:=pick_run xs i k;have e2:((λx=>xs[x]?)∘λx=>i+x)=λm=>xs[i+m]?:=rfl;simp_all
theorem getItem_tuple_cut {lo:Option Int}(ht:IsTup s.heap t items)(hs:s.heap.IsSliceOf sl vl vu .none)(pl:IsPart vl lo)(pu:IsPart vu hi)
  (hw:¬(sIx items.size 0 lo=0/\sIx items.size items.size hi=items.size))
  (h:Q (.ref s.heap.objs.size) { s with heap:=s.heap.push { cls:=.type "tuple",data:=.seq ((items.toList.drop (sIx items.size 0 lo)).take (sIx items.size items.size hi-sIx items.size 0 lo)).toArray } })
  (hsz:items.size<=xg):xf (xB prog w) A (getItem (.ref t) (.ref sl)) Q E s:=by
 have htake:sizeOk (.seq ((items.toList.drop (sIx items.size 0 lo)).take (sIx items.size items.size hi-sIx items.size 0 lo)).toArray):=by
  show((items.toList.drop (sIx items.size 0 lo)).take (sIx items.size items.size hi-sIx items.size 0 lo)).toArray.size<=xg;rw[ze,yn,qaC,zX];omega
 have hj:sIx items.size items.size hi<=items.size:=ZpG _ _ (qk _) hi;obtain⟨os,hos,hcs,hds⟩:=id hs;have hTs:s.TypeIs (.ref sl) "slice":=⟨os,hos,hcs⟩;unfold getItem
 try with_reducible refine xw ?_
 first | refine xa (xb ?_) | skip
 refine xa (wpAny_sequenceKey ht.typeIs (by decide) ?_);refine xa (wpAny_callSpecial?_slot (name:=qN "__getitem__") ht.typeIs qO
  (wpAny_call_entry qO ht.typeIs entry_tuple_getitem ?_ (args_tuple_getitem _ _)))
 show xf _ _ (yQ (.ref t) >>= _) _ _ s;refine xa (tupleItemsOf_ ht ?_);refine xa (wpAny_typeOf hTs ?_);rw[if_pos (by decide)];refine xa (ZaM hs pl pu ?_);have hno:¬((((sIx items.size 0 lo:Nat):Int)==0&&(1:Int)==1&&(sIx items.size items.size hi-sIx items.size 0 lo)==items.size)=true):=by
  intro q;rw[zc,zc]at q;have q1:((sIx items.size 0 lo:Nat):Int)=0:=eq_of_beq q.1.1;have q2:=eq_of_beq q.2;omega
 show xf _ _ (if (((sIx items.size 0 lo:Nat):Int)==0&&(1:Int)==1&&(sIx items.size items.size hi-sIx items.size 0 lo)==items.size)=true then _ else _) _ _ s;rw[if_neg hno,Zlu]
 first
  | exact xa (xl (xb ⟨_,rfl,xb h⟩) htake)
  | rfl
  | rfl
  | rfl
end
end HT
namespace L2
noncomputable abbrev TO:=St->Hp->(Option Int->Hp->Prop)->Prop
noncomputable def PO (X:Cx)(e:Option Expr)(t:TO):Prop:=
 ∀(jN:Qb) (s:Shared) (σ:St) (H:Hp) (Q:Option Int->Hp->Prop),Inv X jN σ H s->t σ H Q->
  xf (xB X.prog X.w) X.A (evalPart e X.env) (λu s'=>∃o H',Inv X jN σ H' s'/\IsPart u o/\Q o H') X.xe s
noncomputable def ZnH:TO:=λ_ H Q=>Q none H
noncomputable def ZqP (t:TE):TO:=fun σ H Q=>t σ H λx H1=>∃i,x=.int i/\Q (some i) H1
theorem Zaq:∀{us:List Value},ZH (ns.map V.int) us->IntsAre us ns:=by
 induction ns with
 | nil=>intro us r;cases r;exact .nil
 | cons n ns ih=>
  intro us r
  cases r with
  | cons r1 r2=>
   obtain⟨t,e⟩:=r1;subst e;exact .cons n t (ih r2)
section
variable {X:Cx}{e:Expr}{te:TE}{lo hi:Option Expr}{tl th:TO}{pos p2:Pos}
theorem ZnI:PO X none ZnH:=by
 intro jN s σ H Q I h;exact xb ⟨none,H,I,.none,h⟩
theorem ZnJ (h:PE X e te):PO X (some e) (ZqP te):=by
 intro jN s σ H Q I hw;refine ZK (h jN s σ H _ I hw) λu s1 ⟨x,H1,I1,r1,q1⟩=>?_;obtain⟨i,rfl,q⟩:=q1;obtain⟨t,rfl⟩:=r1;exact⟨some i,H1,I1,.int i t,q⟩
noncomputable def U9 (X:Cx)(r:V->Option Int->Option Int->Hp->VK->Prop):Prop:=
 ∀(jN:Qb) (s:Shared) (σ:St) (H:Hp) (x:V) (v vl vu:Value) (lo hi:Option Int) (sl:Addr) (Q:VK),Inv X jN σ H s->ZQ x v->s.heap.IsSliceOf sl vl vu .none->IsPart vl lo->IsPart vu hi->r x lo hi H Q->
  ∃T id,typeLookup (.type T) "__getitem__" = pure (some (.builtin id))/\s.TypeIs v T/\xf (xB X.prog X.w) X.A (getItem v (.ref sl)) (EP X jN σ Q) X.xe s
theorem U9.or (h:U9 X r)(h':U9 X r'):U9 X (λx lo hi H Q=>r x lo hi H Q∨r' x lo hi H Q):=by
 intro jN s σ H x v vl vu lo hi sl Q I rx hs pl pu q;rcases q with q | q
 ·exact h jN s σ H x v vl vu lo hi sl Q I rx hs pl pu q
 ·exact h' jN s σ H x v vl vu lo hi sl Q I rx hs pl pu q
noncomputable def tSl (r:V->Option Int->Option Int->Hp->VK->Prop)(te:TE)(tl th:TO):TE:=fun σ H Q=>te σ H λx H1=>tl σ H1 λl H2=>th σ H2 λu H3=>r x l u H3 Q
theorem Zlv (hr:U9 X r)(he:PE X e te)(hl:PO X lo tl)(hu:PO X hi th):PE X (.Subscript e (.Slice lo hi none p2) pos) (tSl r te tl th):=by
 intro jN s σ H Q I h;refine Subscript_ (ZK (he jN s σ H _ I h) λv s1 ⟨x,H1,I1,r1,q1⟩=>?_);refine wpAny_Slice (ZK (hl jN s1 σ H1 _ I1 q1) λvl s2 ⟨l,H2,I2,pl,q2⟩=>ZK (hu jN s2 σ H2 _ I2 q2) λvu s3 ⟨u,H3,I3,pu,q3⟩=>?_);refine xb ?_;have I4:Inv X jN σ H3 { s3 with heap:=s3.heap.push { cls:=.type "slice",data:=.fields #[vl,vu,.none] } }:=I3.kept λb ob q=>qj _ q;obtain⟨T,id,hT,ht,hg⟩:=hr jN { s3 with heap:=s3.heap.push { cls:=.type "slice",data:=.fields #[vl,vu,.none] } } σ H3 x v vl vu l u s3.heap.objs.size Q I4 r1 (Heap.IsSliceOf.new ..) pl pu q3;exact tail_any ht hT hg (by rfl)
noncomputable def UY (xs:List V)(lo hi:Option Int):List V:=(xs.drop (HT.sIx xs.length 0 lo)).take (HT.sIx xs.length xs.length hi-HT.sIx xs.length 0 lo)
theorem ZcY (xs:List V)(lo hi:Option Int):(UY xs lo hi).length<=xs.length:=by
 unfold UY;rw[yn,qaC];omega
noncomputable def rSlT (K:qd):V->Option Int->Option Int->Hp->VK->Prop:=λx lo hi H Q=>∃a xs,x=.ref a/\Z0 K H a xs/\
 ¬(HT.sIx xs.length 0 lo=0/\HT.sIx xs.length xs.length hi=xs.length)/\∀p,H p=none->Q (.ref p) (Zs H p (.tup (UY xs lo hi)))
theorem ZpH:U9 X (rSlT X.K):=by
 intro jN s σ H x v vl vu lo hi sl Q I rx hs pl pu h;obtain⟨a,xs,rfl,hx,hw,q⟩:=h
 cases rx
 obtain⟨jR,r,ht,hz⟩:=I.tuple hx;have jV:jR.toArray.size=xs.length:=(r.length.symm);refine⟨"tuple",_,qO.lookup,ht.typeIs,?_⟩;refine HT.getItem_tuple_cut ht hs pl pu (by rw[jV];exact hw) ?_ (by rw[jV];exact hz);rw[jV];refine⟨.ref s.heap.objs.size,_,I.laid (λb ob q=>qj _ q) (qk _) ?_,rfl,q _ (I.hok.fresh (qk _))⟩;exact⟨qp (ZcY xs lo hi) hz,_,(r.drop (HT.sIx xs.length 0 lo)).take (HT.sIx xs.length xs.length hi-HT.sIx xs.length 0 lo),qaF _ _⟩
noncomputable def rLtT (K:qd):R2:=λx y H Q=>∃a b ns ms,x=.ref a/\y=.ref b/\Z0 K H a (ns.map V.int)/\Z0 K H b (ms.map V.int)/\Q (.bl (HT.lexLt ns ms)) H
theorem ZpI (hu:X.A.units<cLine):Yo X (xk .Lt) (rLtT X.K):=by
 intro jN s σ H x y v u Q I rx ry h;obtain⟨a,b,ns,ms,rfl,rfl,ha,hb,q⟩:=h
 cases rx
 cases ry
 obtain⟨jR,r1,p1,_⟩:=I.tuple ha;obtain⟨ki,r2,p2,_⟩:=I.tuple hb;have i1:=Zaq r1;have i2:=Zaq r2;exact HT.lt_tupInts p1 p2 i1 i2 hu ⟨.bl (HT.lexLt ns ms),H,I,rfl,q⟩
noncomputable def ZqQ (K:qd):R2:=λx y H Q=>∃a b xs ys,x=.ref a/\y=.ref b/\Z0 K H a xs/\Z0 K H b ys/\xs≠[]/\xs.length+ys.length<=xg/\
 (ys=[]->Q (.ref a) H)/\(ys≠[]->∀p,H p=none->Q (.ref p) (Zs H p (.tup (xs++ys))))
theorem ZH.nil_iff (r:ZH xs us):us=[]↔xs=[]:=by
 cases r with
 | nil=>simp
 | cons _ _=>simp
theorem ZnK:Yo X (binaryOp .Add) (ZqQ X.K):=by
 intro jN s σ H x y v u Q I rx ry h;obtain⟨a,b,xs,ys,rfl,rfl,ha,hb,hx,hz,q1,q2⟩:=h
 cases rx
 cases ry
 obtain⟨jR,r1,p1,_⟩:=I.tuple ha;obtain⟨ki,r2,p2,_⟩:=I.tuple hb;refine HT.cat_tup p1 p2 (λz=>hx (r1.nil_iff.mp z)) (λz=>⟨.ref a,H,I,rfl,q1 (r2.nil_iff.mp z)⟩) (λz=>?_) (by rw[<-r1.length,<-r2.length];exact hz);refine⟨.ref s.heap.objs.size,_,I.laid (λb ob q=>qj _ q) (qk _) ?_,rfl,q2 (λw=>z (r2.nil_iff.mpr w)) _ (I.hok.fresh (qk _))⟩;exact⟨by simp_all,_,r1.append r2,qaF _ _⟩
end
noncomputable def Xp (n:Nat)(i:Int):Option Nat:=if 0<=i then (if i<n then some i.toNat else none)else if -(n:Int)<=i then some (i+n).toNat else none
noncomputable def Xz {α:Type}(xs:List α)(i:Int):Option α:=(Xp xs.length i).bind λj=>xs[j]?
theorem Zjr (h:Xp n i=some j):seqIndex? i n=some j/\j<n/\-(n:Int)<=i/\i<n:=by
 unfold Xp at h;by_cases h0:0<=i
 ·rw[if_pos h0]at h
  by_cases h1:i<n
  ·rw[if_pos h1]at h
   have e:=zS h;exact⟨by rw[seqIndex_of h0 h1,e],by omega,by omega,h1⟩
  ·simp_all
 ·rw[if_neg h0]at h
  by_cases h1:-(n:Int)<=i
  ·rw[if_pos h1]at h
   have e:=zS h;exact⟨by rw[seqIndex_neg (by omega) h1,e],by omega,h1,by omega⟩
  ·simp_all
theorem Zjs {xs:List α}{v:α}(h:Xz xs i=some v):∃j,seqIndex? i xs.length=some j/\xs[j]?=some v/\j<xs.length/\-(xs.length:Int)<=i/\i<xs.length:=by
 unfold Xz at h
 cases e:Xp xs.length i with
 | none=>simp_all
 | some j=>
  rw[e]at h;obtain⟨h1,h2,h3,h4⟩:=Zjr e;exact⟨j,h1,h,h2,h3,h4⟩
theorem Vf {xs:List α}{j:Nat}{v:α}(h:xs[j]?=some v):Xz xs (j:Int)=some v:=by
 have hj:=(qC.mp h).1;have e:Xp xs.length (j:Int)=some j:=by
  unfold Xp;simp_all
 unfold Xz;rw[e];exact h
noncomputable def ZfT (b:Expr):Prop:=∀o i,subscripted b false o i=operate [o,i] (getItem o i)
noncomputable def Ja (X:Cx)(r:R2):Prop:=
 ∀(value slice:Expr) (jN:Qb) (s:Shared) (σ:St) (H:Hp) (x y:V) (v u:Value) (Q:VK),Inv X jN σ H s->ZQ x v->ZQ y u->r x y H Q->
  subscripted slice false v u=operate [v,u] (getItem v u)->xf (xB X.prog X.w) X.A (subscriptTail value slice v u) (EP X jN σ Q) X.xe s
noncomputable def MtR (X:Cx)(id:String)(r:V->List V->Hp->VK->Prop):Prop:=
 ∀(jN:Qb) (s:Shared) (σ:St) (H:Hp) (x:V) (xs:List V) (v:Value) (us:List Value) (Q:VK),Inv X jN σ H s->ZQ x v->ZH xs us->r x xs H Q->
  xf (xB X.prog X.w) X.A (call (.builtin id) (v::us)) (EP X jN σ Q) X.xe s
section
variable {X:Cx}{a b:Expr}{ta tb:TE}{pos:Pos}
theorem Ja.or (h:Ja X r)(h':Ja X r'):Ja X (λx y H Q=>r x y H Q∨r' x y H Q):=by
 intro value slice jN s σ H x y v u Q I rx ry q hs;rcases q with q | q
 ·exact h value slice jN s σ H x y v u Q I rx ry q hs
 ·exact h' value slice jN s σ H x y v u Q I rx ry q hs
theorem W0 (hr:Ja X r)(ha:PE X a ta)(hb:PE X b tb)(hs:ZfT b):PE X (.Subscript a b pos) (WH r ta tb):=by
 intro jN s σ H Q I h;exact Subscript_ (binT ha hb I h λv u s2 x y H2 I2 rx ry q=>hr a b jN s2 σ H2 x y v u Q I2 rx ry q (hs _ _))
noncomputable def rIxL (K:qd):R2:=λx y H Q=>∃p xs i v,x=.ref p/\y=.int i/\ZV K H p xs/\Xz xs i=some v/\Q v H
noncomputable def rIxT (K:qd):R2:=λx y H Q=>∃p xs i v,x=.ref p/\y=.int i/\Z0 K H p xs/\Xz xs i=some v/\Q v H
theorem WU:Ja X (rIxL X.K):=by
 intro value slice jN s σ H x y v u Q I rx ry h hs;obtain⟨p,xs,i,z,rfl,rfl,hq,he,q⟩:=h
 cases rx
 obtain⟨t,rfl⟩:=ry;obtain⟨jR,r,pl,hz⟩:=I.list hq;obtain⟨j,h1,h2,h3,h4,h5⟩:=Zjs he;obtain⟨w,ew,rw'⟩:=r.get h2;have hl:=r.length;have hn:=ZdJ;have fin:EP X jN σ Q w s:=⟨z,H,I,rw',q⟩;by_cases h0:0<=i
 ·have hj:i.toNat=j:=by
   rw[seqIndex_of h0 h5]at h1;exact zS h1
  exact item_listR pl.isList h0 (by omega) (by rw[hj];simpa using ew) fin hs
 ·have hj:(i+(jR.toArray.size:Int)).toNat=j:=by
   rw[seqIndex_neg (by omega) h4]at h1;simp_all
  exact subscriptTail_builtinR pl.isList.typeIs slot_list_getitem.lookup
   (wpAny_getItem_list_neg pl.isList (by omega) (by simp_all) (by omega) (by rw[hj];simpa using ew) ⟨rfl,fin⟩) hs
theorem ZpJ:Ja X (rIxT X.K):=by
 intro value slice jN s σ H x y v u Q I rx ry h hs;obtain⟨p,xs,i,z,rfl,rfl,hq,he,q⟩:=h
 cases rx
 obtain⟨t,rfl⟩:=ry;obtain⟨jR,r,pl,hz⟩:=I.tuple hq;obtain⟨j,h1,h2,h3,h4,h5⟩:=Zjs he;obtain⟨w,ew,rw'⟩:=r.get h2;have hl:=r.length;have hn:=ZdJ;have fin:EP X jN σ Q w s:=⟨z,H,I,rw',q⟩;exact subscriptTail_builtinR pl.typeIs slot_tuple_getitem.lookup
  (getItem_tuple (j:=j) pl (by omega) (by omega) (by simp_all) (by simpa using ew) ⟨rfl,fin⟩) hs
theorem Zil (jR:List Value)(n j:Nat)(u:Value):zq (·.setIfInBounds j u) { cls:=.type "list",data:=.seq jR.toArray n } = { cls:=.type "list",data:=.seq (jR.set j u).toArray n }:=by
 simp[zq]
theorem Inv.lst {σ:St}(I:Inv X jN σ H s)(h:H p=some (.lst xs)) :
  ∃(jR:List Value) (n:Nat),ZH xs jR/\s.heap.get? p=some { cls:=.type "list",data:=.seq jR.toArray n }/\xs.length<=xg:=by
 obtain⟨z,jR,n,r,e⟩:=I.hok p _ h;exact⟨jR,n,r,e,z⟩
theorem Inv.lstUpd {σ:St}{jR:List Value}(I:Inv X jN σ H s)(h:H p=some (.lst xs))
  (ho:s.heap.get? p=some { cls:=.type "list",data:=.seq jR.toArray n }) (hf:f { cls:=.type "list",data:=.seq jR.toArray n } = { cls:=.type "list",data:=.seq its'.toArray n' }) (r:ZH ys its') (hz:ys.length<=xg) (t:Nat) :
  Inv X jN σ (Zs H p (.lst ys)) { s with heap:=s.heap.update p f,toks:=t }:=by
 have e:(s.heap.update p f).get? p=some { cls:=.type "list",data:=.seq its'.toArray n' }:=by
  rw[qaG f ho (by rw[hf] <;> rfl),hf]
 refine I.write (by rw[h];trivial) (.inl rfl) (λb u hb q=>(zx _ _ (qJ hb)).trans q) ⟨_,e⟩ ?_;exact⟨hz,its',n',r,e⟩
noncomputable def ZgP:V->V->V->Hp->(Hp->Prop)->Prop:=λo i v H Q=>∃p xs k j,o=.ref p/\i=.int k/\H p=some (.lst xs)/\Xp xs.length k=some j/\Q (Zs H p (.lst (xs.set j v)))
theorem Za5:PSet X ZgP:=by
 intro jN s σ H o i v ov iv u Q I ro ri rv h;obtain⟨p,xs,k,j,rfl,rfl,hp,hj,q⟩:=h
 cases ro
 obtain⟨t,rfl⟩:=ri;obtain⟨jR,n,r,ho,hz⟩:=I.lst hp;obtain⟨h1,h2,h3,h4⟩:=Zjr hj;have hl:=r.length;have hn:=ZdJ;have I':Inv X jN σ (Zs H p (.lst (xs.set j v))) { s with heap:=s.heap.update p (zq (·.setIfInBounds j u)) }:=
  I.lstUpd hp ho (Zil jR n j u) (r.set rv j) (by rw[List.length_set];exact hz) s.toks
 by_cases h0:0<=k
 ·have hk:k.toNat=j:=by
   rw[seqIndex_of h0 h4]at h1;exact zS h1
  exact PySem.W.ki_setAt ho h0 (by omega) (by rw[ze,<-hl];exact h4) (by rw[hk];exact⟨_,I',q⟩)
 ·have hk:(k+(jR.toArray.size:Int)).toNat=j:=by
   rw[seqIndex_neg (by omega) h3]at h1;simp_all
  exact PySem.W.ki_setBack ho (by omega) (by simp_all) (by omega) (by rw[hk];exact⟨_,I',q⟩)
theorem ZfU (lo hi:Option Int)(n:Nat):(sliceBounds lo hi none n).1=((HT.sIx n 0 lo:Nat):Int)/\(sliceBounds lo hi none n).2.1=((HT.sIx n n hi:Nat):Int)/\(sliceBounds lo hi none n).2.2=1:=by
 refine⟨?_,?_,rfl⟩
 ·cases lo with
  | none=>simp[sliceBounds,HT.sIx]
  | some i=>
   simp only[sliceBounds,HT.sIx,Option.getD_none,show(1:Int) > 0 by decide,if_true];by_cases h:i<0
   ·simp only[h,if_true] <;> omega
   ·simp only[h,if_false] <;> omega
 ·cases hi with
  | none=>rfl
  | some i=>
   simp only[sliceBounds,HT.sIx,Option.getD_none,show(1:Int) > 0 by decide,if_true];by_cases h:i<0
   ·simp only[h,if_true] <;> omega
   ·simp only[h,if_false] <;> omega
theorem ZeV (jR:List Value)(lo hi:Option Int):slicePick jR.toArray lo hi none=((jR.drop (HT.sIx jR.length 0 lo)).take (HT.sIx jR.length jR.length hi-HT.sIx jR.length 0 lo)).toArray:=by
 obtain⟨h1,h2,h3⟩:=ZfU lo hi jR.toArray.size;unfold slicePick;rw[h1,h2,h3];simp only[sliceRange_one,pick_run] <;> rfl
noncomputable def rSlL (K:qd):V->Option Int->Option Int->Hp->VK->Prop:=λx lo hi H Q=>∃a xs,x=.ref a/\ZV K H a xs/\∀p,H p=none->Q (.ref p) (Zs H p (.lst (UY xs lo hi)))
theorem ZnL:U9 X (rSlL X.K):=by
 intro jN s σ H x v vl vu lo hi sl Q I rx hs pl pu h;obtain⟨a,xs,rfl,hx,q⟩:=h
 cases rx
 obtain⟨jR,r,ht,hz⟩:=I.list hx;have jV:=r.length;refine⟨"list",_,slot_list_getitem.lookup,ht.isList.typeIs,?_⟩;refine wpAny_getItem_list_slice ht.isList hs pl pu .none (by simp) ?_ (by grind);rw[ZeV,<-jV];refine⟨.ref s.heap.objs.size,_,I.laid (λb ob q=>qj _ q) (qk _) ?_,rfl,q _ (I.hok.fresh (qk _))⟩;exact⟨qp (ZcY xs lo hi) hz,_,0,(r.drop (HT.sIx xs.length 0 lo)).take (HT.sIx xs.length xs.length hi-HT.sIx xs.length 0 lo),qE _ rfl⟩
theorem B9:Wg X (.builtin "len") (λxs H Q=>∃p ys,xs=[.ref p]/\(ZV X.K H p ys∨Z0 X.K H p ys)/\Q (.int ys.length) H):=by
 intro jN s σ H xs us Q I r h;obtain⟨p,ys,rfl,hq,q⟩:=h;obtain⟨u,rfl,rx⟩:=WZ r
 cases rx
 have hn:=ZdJ;rcases hq with hq | hq
 ·obtain⟨jR,r',pl,hz⟩:=I.list hq
  have jV:=r'.length;exact Calls.call_len_list pl.isList (by simp only[ze] <;> omega) ⟨.int ys.length,H,I.tok _,⟨s.toks+1,by simp_all⟩,q⟩
 ·obtain⟨jR,r',pl,hz⟩:=I.tuple hq
  have jV:=r'.length;exact len_tuple pl (by simp only[ze] <;> omega) ⟨.int ys.length,H,I.tok _,⟨s.toks+1,by simp_all⟩,q⟩
theorem ZfV:Wg X (.type "list") (λxs H Q=>∃p ys,xs=[.ref p]/\(ZV X.K H p ys∨Z0 X.K H p ys)/\∀l,H l=none->Q (.ref l) (Zs H l (.lst ys))):=by
 intro jN s σ H xs us Q I r h;obtain⟨p,ys,rfl,hq,q⟩:=h;obtain⟨u,rfl,rx⟩:=WZ r
 cases rx
 have fin:∀(jR:List Value),ZH ys jR->ys.length<=xg->∀(h':Heap) (c':Nat),(∀b o',s.heap.get? b=some o'->h'.get? b=some o')->
   h'.get? s.heap.objs.size=some { cls:=.type "list",dict:=none,data:=.seq jR.toArray c',slots:=#[] }->EP X jN σ Q (.ref s.heap.objs.size) { s with heap:=h' }:=λjR r' hz h' c' kp e=>
  ⟨.ref s.heap.objs.size,_,I.laid kp (qk _) (show YQ X.prog X.w _ h' _ (.lst ys)from⟨hz,jR,c',r',e⟩),rfl,q _ (I.hok.fresh (qk _))⟩
 rcases hq with hq | hq
 ·obtain⟨jR,r',pl,hz⟩:=I.list hq
  have jV:=r'.length;obtain⟨o,ho,hc,n,hd⟩:=pl.isList;exact call_list_seq p (.inl rfl) ho hc hd (λh' c' kp e=>fin jR r' hz h' c' kp e) (by simp_all)
 ·obtain⟨jR,r',pl,hz⟩:=I.tuple hq
  have jV:=r'.length;obtain⟨o,ho,hc,n,hd⟩:=pl;exact call_list_seq p (.inr rfl) ho hc hd (λh' c' kp e=>fin jR r' hz h' c' kp e) (by simp_all)
theorem ZeW:Wg X (.type "tuple") (λxs H Q=>∃p ys,xs=[.ref p]/\((ZV X.K H p ys/\∀l,H l=none->Q (.ref l) (Zs H l (.tup ys)))∨(Z0 X.K H p ys/\Q (.ref p) H))):=by
 intro jN s σ H xs us Q I r h;obtain⟨p,ys,rfl,h⟩:=h;obtain⟨u,rfl,rx⟩:=WZ r
 cases rx
 rcases h with⟨hq,q⟩ | ⟨hq,q⟩
 ·obtain⟨jR,r',pl,hz⟩:=I.list hq
  have jV:=r'.length;refine call_tuple_list pl.isList (λh' kp=>?_) (by simp_all);have I1:Inv X jN σ H { s with heap:=h' }:=I.kept kp;have I2:Inv X jN σ (Zs H h'.objs.size (.tup ys)) { s with heap:=h'.push { cls:=.type "tuple",data:=.seq jR.toArray } }:=
   I1.laid (λb o e=>qj _ e) (qk _) (show YQ X.prog X.w _ _ _ (.tup ys)from⟨hz,jR,r',qaF _ _⟩)
  exact⟨.ref h'.objs.size,_,I2,rfl,q _ (I1.hok.fresh (qk _))⟩
 ·obtain⟨jR,r',pl,hz⟩:=I.tuple hq
  exact call_tuple_same pl ⟨.ref p,H,I,rfl,q⟩
noncomputable def tyV (K:qd)(T:String)(x:V)(H:Hp):Prop:=match x with
 | .str _=>T = "str"
 | .int _=>T = "int"
 | .ref p=>(T = "list"/\∃xs,ZV K H p xs)∨(T = "tuple"/\∃o,K.lookup p=some o/\o.cls=.type "tuple"/\o.dict=none)∨
   (T = "dict"/\((∃kvs,H p=some (.dK kvs))∨∃kvs,H p=some (.dT kvs)))∨(T = "set"/\∃S n,H p=some (.set S n))
 | _=>False
theorem ZpK {σ:St}(I:Inv X jN σ H s)(r:ZQ x v)(ty:tyV X.K T x H) :
  s.TypeIs v T/\∀a,v=.ref a->∃ob,s.heap.get? a=some ob/\ob.dict=none:=by
 cases x with
 | str z=>
  obtain⟨t,rfl⟩:=r
  cases (show T = "str" from ty)
  exact⟨typeIs_str s z t,λ_ e=>nomatch e⟩
 | int i=>
  obtain⟨t,rfl⟩:=r
  cases (show T = "int" from ty)
  exact⟨typeIs_int s i t,λ_ e=>nomatch e⟩
 | ref p=>
  cases r
  rcases ty with⟨rfl,xs,hq⟩ | ⟨rfl,o,hk,hc,hd⟩ | ⟨rfl,hk⟩ | ⟨rfl,S,n,hk⟩
  ·obtain⟨jR,_,pl,_⟩:=I.list hq
   refine⟨pl.isList.typeIs,λa e=>?_⟩
   cases e
   obtain⟨o,n,e,c,hd,_⟩:=pl;exact⟨o,e,hd⟩
  ·refine⟨⟨o,I.kIn p o hk,hc⟩,λa e=>?_⟩
   cases e
   exact⟨o,I.kIn _ o hk,hd⟩
  ·have z:∃o,s.heap.get? p=some o/\o.ExactDict:=by
    rcases hk with⟨kvs,hk⟩ | ⟨kvs,hk⟩
    ·obtain⟨_,_,_,_,o,_,_,e,ex,_⟩:=I.hok p _ hk
     exact⟨o,e,ex⟩
    ·obtain⟨_,_,_,_,o,_,_,e,ex,_⟩:=I.hok p _ hk
     exact⟨o,e,ex⟩
   obtain⟨o,e,ex⟩:=z;refine⟨⟨o,e,ex.1⟩,λa e2=>?_⟩
   cases e2
   exact⟨o,e,ex.2.1⟩
  ·obtain⟨o,_,_,_,e,ex,_⟩:=I.hok p _ hk
   refine⟨⟨o,e,ex.1⟩,λa e2=>?_⟩
   cases e2
   exact⟨o,e,ex.2.1⟩
 | _=>exact zB ty
noncomputable def B1 (K:qd)(T:String)(r:V->List V->Hp->VK->Prop)(to:TE)(t:TA):TE:=fun σ H Q=>to σ H λx H1=>tyV K T x H1/\t σ H1 λxs H2=>r x xs H2 Q
variable {o e:Expr}{es:List Expr}{to:TE}{t:TA}{name:Str}{apos cpos:Pos}{T id:String}{r:V->List V->Hp->VK->Prop}
theorem Zjt (pa:PlainAttrs T)(slot:Slot T name id)(hty:typeOf (.builtin id)=pure (.type "method_descriptor"))(hm:MtR X id r)(ho:PE X o to)(ha:PA X (e::es) t)
  (hbase:xq o name X.env (eval o X.env)=eval o X.env:=by rfl)
  (hfew:((backTo cpos (xh (e::es) X.env)).all (λx=>!x.1)&&(xp cpos (xi [] X.env)).all (λx=>x.1.isSome)
   && decide ((e::es).length+([]:List Keyword).length+(if ([]:List Keyword).isEmpty then 0 else 1)<30))=true:=by rfl)
  (hline:(apos.endLine==cpos.line)=true:=by rfl) (hs:xh (e::es) X.env=(false,eval e X.env)::xh es X.env:=by rfl) (hplain:(backTo cpos (xh es X.env)).any (·.1)=false:=by rfl) :
  PE X (.Call (.Attribute o name apos) (e::es) [] cpos) (B1 X.K T r to t):=by
 intro jN s σ H Q I h;refine wpAny_Call_method_late hbase hfew hline rfl (ZK (ho jN s σ H _ I h) λv s1 ⟨x,H1,I1,r1,ty,q1⟩=>?_);obtain⟨h1,h2⟩:=ZpK I1 r1 ty;refine⟨T,id,pa,slot,hty,h1,h2,?_⟩;have hA:=ha cpos jN s1 σ H1 _ I1 q1;rw[hs]at hA⊢;refine Calls.callWith_builtin (by show(false||(backTo cpos (xh es X.env)).any (·.1))=false;rw[hplain] <;> rfl) (Calls.evalArgs_plain ?_);exact ZK hA λus s2 ⟨vs,H2,I2,r2,q2⟩=>hm jN s2 σ H2 x vs v us Q I2 r1 r2 q2
end
noncomputable def MtM (X:Cx)(id:String)(r:V->List V->Hp->VK->Prop):Prop:=
 ∀(jN:Qb) (s:Shared) (σ:St) (H:Hp) (x:V) (xs:List V) (v:Value) (us:List Value) (Q:VK),Inv X jN σ H s->ZQ x v->ZH xs us->r x xs H Q->
  xf (xB X.prog X.w) X.A (call (.builtin id) (v::us)) (EP X jN σ Q) X.xe s
theorem ZH.one:∀{x:V} {us:List Value},ZH [x] us->∃u,us=[u]/\ZQ x u
 | _,_,.cons r .nil=>⟨_,rfl,r⟩
theorem ZH.two:∀{x y:V} {us:List Value},ZH [x,y] us->∃u v,us=[u,v]/\ZQ x u/\ZQ y v
 | _,_,_,.cons r (.cons q .nil)=>⟨_,_,rfl,r,q⟩
theorem ZH.rep (h:ZH xs us):∀k:Nat,ZH (qf k xs).flatten (qf k us).flatten
 | 0=>.nil
 | k+1=>by
  exact ZH.append h (ZH.rep h k)
theorem ZcF (jR:List Value):∀(k:Nat) (kg:List Value),
  qaJ (λx1 x2=>x1++x2) kg.toArray (qf k jR.toArray)=(kg++(qf k jR).flatten).toArray
 | 0,kg=>by simp
 | k+1,kg=>by
  have e:kg.toArray++jR.toArray=(kg++jR).toArray:=by simp
  have e2:(kg++jR)++(qf k jR).flatten=kg++(qf (k+1) jR).flatten:=by
   grind
  rw[<-e2,<-ZcF jR k (kg++jR),<-e,qaQ,List.foldl_cons]
section
variable {X:Cx}{jN:Qb}{σ:St}{H:Hp}{s:Shared}{l b:Addr}{xs ys zs:List V}
theorem Inv.lset {jR:List Value}(I:Inv X jN σ H s)(hH:H l=some (.lst xs))
  (e:s.heap.get? l=some { cls:=.type "list",data:=.seq jR.toArray n }) (hf:f jR.toArray=its'.toArray) (hv:ZH ys its') (hz:ys.length<=xg) :
  Inv X jN σ (Zs H l (.lst ys)) { s with heap:=s.heap.update l (zq f),toks:=t' }:=by
 have q:=PySem.IsL.update e f;rw[hf]at q;refine I.write (by rw[hH];exact trivial) (.inl rfl) (λb' u hb hu=>(zx s.heap (zq f) (qJ hb)).trans hu) ⟨_,q⟩ ?_;exact⟨hz,its',_,hv,q⟩
theorem Inv.lnew (I:Inv X jN σ H s)(hv:ZH ys jR)(hz:ys.length<=xg) :
  Inv X jN σ (Zs H s.heap.objs.size (.lst ys)) { s with heap:=s.heap.push { cls:=.type "list",data:=.seq jR.toArray },toks:=t' }:=
 I.laid (λ_ _ q=>qj _ q) (qk _) ⟨hz,jR,0,hv,qE _ rfl⟩
theorem Inv.fresh (I:Inv X jN σ H s):H s.heap.objs.size=none:=I.hok.fresh (qk _)
theorem Inv.lstM (I:Inv X jN σ H s)(hH:H l=some (.lst xs)):xs.length<=xg/\∃(jR:List Value) (n:Nat),ZH xs jR/\xs.length=jR.length/\s.heap.get? l=some { cls:=.type "list",data:=.seq jR.toArray n }:=by
 obtain⟨z,jR,n,r,e⟩:=I.hok l _ hH;exact⟨z,jR,n,r,r.length,e⟩
theorem Zlw (h:n<=xg):qad n=false:=by
 unfold qad
 grind
end
section
variable {X:Cx}
noncomputable def Bp:V->List V->Hp->VK->Prop:=λx vs H Q=>∃l xs y,x=.ref l/\vs=[y]/\H l=some (.lst xs)/\xs.length<xg/\Q .non (Zs H l (.lst (xs ++ [y])))
theorem Zbp:MtM X "list.append" Bp:=by
 intro jN s σ H x vs v us Q I rx rv h;obtain⟨l,xs,y,rfl,rfl,hH,hz,q⟩:=h
 cases rx
 obtain⟨u,rfl,ru⟩:=rv.one;obtain⟨z,jR,n,r,hl,e⟩:=I.lstM hH;refine call_meets F.slot_list_append ⟨_,e,rfl⟩ F.entry_list_append (F.args_list_append_2 _ _) (PySem.list_append l jR.toArray n u (by grind)) ⟨e,?_⟩;refine⟨.non,_,I.lset hH e (by simp) (r.append (.cons ru .nil)) ?_,rfl,q⟩
 grind
noncomputable def rCat:R2:=λx y H Q=>∃l b xs zs,x=.ref l/\y=.ref b/\H l=some (.lst xs)/\H b=some (.lst zs)/\xs.length+zs.length<=xg/\∀p,H p=none->Q (.ref p) (Zs H p (.lst (xs++zs)))
theorem ZpL:Yo X (binaryOp .Add) rCat:=by
 intro jN s σ H x y v u Q I rx ry h;obtain⟨l,b,xs,zs,rfl,rfl,hH,hB,hz,q⟩:=h
 cases rx
 cases ry
 obtain⟨z,jR,n,r,hl,e⟩:=I.lstM hH;obtain⟨z2,ki,n2,r2,hl2,e2⟩:=I.lstM hB;refine PySem.P.add_list e e2 ?_ (by simp_all);have ea:jR.toArray++ki.toArray=(jR++ki).toArray:=by simp
 rw[ea];exact⟨.ref _,_,I.lnew (r.append r2) (by simp_all),rfl,q _ I.fresh⟩
noncomputable def rRep:R2:=λx y H Q=>∃l k xs,x=.ref l/\y=.int k/\H l=some (.lst xs)/\-(2 ^ 63)<=k/\k<2 ^ 63/\xs.length*k.toNat<=xg/\
 ∀p,H p=none->Q (.ref p) (Zs H p (.lst (qf k.toNat xs).flatten))
theorem ZfW {α:Type}(xs:List α)(k:Nat):(qf k xs).flatten.length=k*xs.length:=by
 simp
theorem ZpM:Yo X (binaryOp .Mult) rRep:=by
 intro jN s σ H x y v u Q I rx ry h;obtain⟨l,k,xs,rfl,rfl,hH,h1,h2,hz,q⟩:=h
 cases rx
 obtain⟨t,rfl⟩:=ry;obtain⟨z,jR,n,r,hl,e⟩:=I.lstM hH;have jV:jR.toArray.size*k.toNat<=xg:=by rw[ze,<-hl];exact hz
 have hcap:¬jR.toArray.size*k.toNat > (2 ^ 63-1) / 8:=by
  have:(xg:Nat)<=(2 ^ 63-1) / 8:=by decide
  omega
 have hfit:¬(!Builtin.List.listFitsIndex k)=true:=by
  rw[fitsIndex_both h1 h2];exact qab
 have hlong:¬qad (jR.toArray.size*k.toNat)=true:=by
  rw[Zlw jV];exact qab
 have hnew:qaJ (λx1 x2=>x1++x2) #[] (qf (if jR.toArray.isEmpty=true then 0 else k.toNat) jR.toArray)=(qf k.toNat jR).flatten.toArray:=by
  have f0:∀m,qaJ (λx1 x2=>x1++x2) #[] (qf m jR.toArray)=(qf m jR).flatten.toArray:=λm=>by
   have:=ZcF jR m [];simp_all
  rw[f0]
  cases jR with
  | nil=>simp
  | cons a r'=>rfl
 refine wpAny_binaryOp_repeat_ref (by decide) ⟨_,e,rfl⟩ (λs'=>typeIs_int s' k t) noFill_list_mul qaK zT repeat_list qaD.lookup
  (call_meets zT (typeIs_int s k t) qaE (qar _ _) (int___rmul___int_list k t l jR.toArray n)
   ⟨e,rfl,⟨_,e,rfl⟩,call_meets F.slot_list_mul ⟨_,e,rfl⟩ F.entry_list_mul (F.args_list_mul_2 _ _) (AutoListH.list___mul___list_int_3 l jR.toArray n k t hfit hcap hlong) ⟨e,?_⟩⟩)
 rw[hnew];exact⟨.ref _,_,I.lnew (r.rep k.toNat) (by rw[ZfW,qbn];exact hz),rfl,q _ I.fresh⟩
end
section
variable {prog:xD}{w:World}{A:xE}{E:xF}{s:Shared}
end
section
variable {X:Cx}
end
section
variable {κ:Type}[DecidableEq κ]
noncomputable def YY (kvs:List (κ×V))(k:κ):Option V:=(kvs.find? λkv=>decide (kv.1=k)).map (·.2)
noncomputable def Y3 (kvs:List (κ×V))(k:κ)(v:V):List (κ×V):=
 if (kvs.any λkv=>decide (kv.1=k))=true then kvs.map (λkv=>if kv.1=k then (kv.1,v)else kv)else kvs ++ [(k,v)]
theorem Vw {p:κ×V}(e:p.1=k):YY (p::r) k=some p.2:=by simp[YY,e]
theorem Vx {p:κ×V}(e:¬p.1=k):YY (p::r) k=YY r k:=by simp[YY,e]
theorem Zb0 (k:κ):∀kvs:List (κ×V),(kvs.any λkv=>decide (kv.1=k))=(YY kvs k).isSome
 | []=>rfl
 | p::r=>by
  rw[yR];by_cases e:p.1=k
  ·simp only[Vw e,decide_eq_true e,Bool.true_or,Option.isSome_some]
  ·rw[Vx e,decide_eq_false e];exact Zb0 k r
theorem ZgQ (k j:κ)(y:V):∀kvs:List (κ×V),YY (kvs.map λkv=>if kv.1=k then (kv.1,y)else kv) j=(YY kvs j).map λx=>if j=k then y else x
 | []=>rfl
 | p::r=>by
  have ih:=ZgQ k j y r;rw[qS];by_cases h:p.1=k
  ·rw[if_pos h]
   by_cases e:p.1=j
   ·rw[Vw (p:=(p.1,y)) e,Vw e,qaL,if_pos (e.symm.trans h)]
   ·rw[Vx (p:=(p.1,y)) e,Vx e,ih]
  ·rw[if_neg h]
   by_cases e:p.1=j
   ·rw[Vw e,Vw e,qaL,if_neg (λz=>h (e.trans z))]
   ·rw[Vx e,Vx e,ih]
theorem Zfk (k j:κ)(y:V):∀kvs:List (κ×V),YY kvs k=none->YY (kvs ++ [(k,y)]) j=if j=k then some y else YY kvs j
 | [],_=>by
  by_cases e:k=j
  ·rw[if_pos e.symm];exact Vw e
  ·rw[if_neg (λz=>e z.symm)];exact Vx e
 | p::r,hn=>by
  rw[List.cons_append];have hk:¬p.1=k:=λz=>by rw[Vw z]at hn;cases hn
  rw[Vx hk]at hn;have ih:=Zfk k j y r hn;by_cases e:p.1=j
  ·rw[Vw e,Vw e,if_neg (λz=>hk (e.trans z))]
  ·rw[Vx e,Vx e,ih]
theorem Zlx (kvs:List (κ×V))(k j:κ)(y:V):YY (Y3 kvs k y) j=if j=k then some y else YY kvs j:=by
 unfold Y3;by_cases a:(kvs.any λkv=>decide (kv.1=k))=true
 ·rw[if_pos a,ZgQ]
  rw[Zb0]at a;by_cases e:j=k
  ·obtain⟨x,hx⟩:=ym.mp a
   grind
  ·simp_all
 ·rw[if_neg a]
  refine Zfk k j y kvs ?_;rw[Zb0]at a;simp_all
theorem Bd (kvs:List (κ×V))(k:κ)(v:V):(Y3 kvs k v).length<=kvs.length+1:=by
 unfold Y3;split
 ·simp
 ·simp
theorem Up.isSome_eq (r:Up o u):o.isSome=u.isSome:=by
 cases o with
 | none=>cases u with
  | none=>rfl
  | some _=>exact(show False from r).elim
 | some _=>cases u with
  | none=>exact(show False from r).elim
  | some _=>rfl
theorem KV.val (r:KV kvs vs)(k:κ):Up (YY kvs k) (valueAt vs k):=by
 induction r with
 | nil=>exact zL
 | @cons p q ps qs h t ih=>
  obtain⟨h1,h2⟩:=h;by_cases e:p.1=k
  ·have e':=h1.symm.trans e
   have b:valueAt (q::qs) k=some q.2:=by simp[valueAt,e']
   rw[Vw e,b];exact h2
  ·have e':¬q.1=k:=λz=>e (h1.trans z)
   have b:valueAt (q::qs) k=valueAt qs k:=by simp[valueAt,e']
   rw[Vx e,b];exact ih
theorem KV.any (r:KV kvs vs)(k:κ):(kvs.any λkv=>decide (kv.1=k))=vs.any λkv=>decide (kv.1=k):=by
 induction r with
 | nil=>rfl
 | cons h t ih=>simp_all
theorem KV.repl (r:KV kvs vs)(k:κ)(ry:ZQ y u) :
  KV (kvs.map λkv=>if kv.1=k then (kv.1,y)else kv) (vs.map λkv=>if kv.1=k then (kv.1,u)else kv):=by
 induction r with
 | nil=>exact .nil
 | @cons p q ps qs h t ih=>
  refine .cons ?_ ih;by_cases e:p.1=k
  ·simp_all
  ·simp_all
theorem KV.put (r:KV kvs vs)(k:κ)(ry:ZQ y u):KV (Y3 kvs k y) (stored vs k u):=by
 unfold Y3 stored;rw[r.any k];by_cases e:(vs.any λkv=>decide (kv.1=k))=true
 ·rw[if_pos e,if_pos e];exact r.repl k ry
 ·rw[if_neg e,if_neg e];exact Paired.snoc r ⟨rfl,ry⟩
theorem KV.length {kvs:List (κ×V)}(r:KV kvs vs):kvs.length=vs.length:=yO r
end
theorem ZgR (r:ZQ (kV k) u):(WT P w).is k u=true:=by
 cases k with
 | inl i=>obtain⟨t,e⟩:=(show ∃t,u=qaX i t from r);subst e;exact ZgI P w i t
 | inr x=>obtain⟨t,e⟩:=(show ∃t,u=qbJ x t from r);subst e;exact ZgJ P w x t
theorem Zfl:∀{ks:List Ye} {us:List Value},ZH (ks.map kV) us->ItemsAre (WT P w) ks us
 | [],_,r=>by cases r;exact .nil
 | k::ks,_,r=>by
  cases r with
  | cons h t=>exact .cons (ZgR h) (Zfl t)
noncomputable abbrev KT (H:Hp):List (List Ye×V)->List (List Ye×Addr×Value)->Prop:=Paired λp q=>p.1=q.1/\H q.2.1=some (.tup (p.1.map kV))/\ZQ p.2 q.2.2
theorem KT.val (r:KT H kvs xs)(k:List Ye):Up (YY kvs k) ((atKey xs k).map (·.2)):=by
 induction r with
 | nil=>exact zL
 | @cons p q ps qs h t ih=>
  obtain⟨h1,_,h2⟩:=h;by_cases e:p.1=k
  ·have e':=h1.symm.trans e
   have b:atKey (q::qs) k=some q.2:=by simp[atKey,e']
   rw[Vw e,b];exact h2
  ·have e':¬q.1=k:=λz=>e (h1.trans z)
   have b:atKey (q::qs) k=atKey qs k:=by simp[atKey,e']
   rw[Vx e,b];exact ih
theorem KT.repl (r:KT H kvs xs)(k:List Ye)(ry:ZQ y u) :
  KT H (kvs.map λkv=>if kv.1=k then (kv.1,y)else kv) (xs.map (putAt k u)):=by
 induction r with
 | nil=>exact .nil
 | @cons p q ps qs h t ih=>
  refine .cons ?_ ih;unfold putAt;by_cases e:p.1=k
  ·simp_all
  ·simp_all
theorem KT.put (r:KT H kvs xs)(k:List Ye)(hb:H b=some (.tup (k.map kV)))(ry:ZQ y u) :
  KT H (Y3 kvs k y) (storedH xs k b u):=by
 have e:(kvs.any λkv=>decide (kv.1=k))=(atKey xs k).isSome:=by
  rw[Zb0,(r.val k).isSome_eq,qbb]
 unfold Y3 storedH;rw[e];by_cases q:(atKey xs k).isSome=true
 ·rw[if_pos q,if_pos q];exact r.repl k ry
 ·rw[if_neg q,if_neg q];exact Paired.snoc r ⟨rfl,hb,ry⟩
theorem KT.keeps (r:KT H kvs xs)(ht:∀b ys,H b=some (.tup ys)->H' b=some (.tup ys)):KT H' kvs xs:=
 Paired.mapP r λ_ _ z=>⟨z.1,ht _ _ z.2.1,z.2.2⟩
section
variable {P:xD}{w:World}{H:Hp}{h:Heap}{a:Addr}
theorem ZoY (ok:YE P w H h)(e:Rd H a u):YQ P w H h a u:=e.ok ok
theorem Zly (ok:YE P w H h)(e:Rd H a (.dK kvs)):kvs.length<=xg/\(a==sysModules)=false/\∃vs,KV kvs vs/\h.DictOf (WT P w) a vs:=
 show YQ P w H h a (.dK kvs)from ZoY ok e
theorem ZoZ (ok:YE P w H h)(e:H a=some (.dK kvs)):kvs.length<=xg/\(a==sysModules)=false/\∃vs,KV kvs vs/\h.DictOf (WT P w) a vs:=Zly ok (.inl e)
theorem ZdO (ok:YE P w H h)(e:H a=some (.tup (ks.map kV))):(tupleKind (WT P w)).is h ks a:=by
 obtain⟨_,jR,r,o,h1,h2,n,h3⟩:=(show YQ P w H h a (.tup (ks.map kV))from ok a _ e);exact⟨o,jR.toArray,n,h1,h2,h3,by simpa using Zfl r⟩
theorem Zlz (ok:YE P w H h)(e:Rd H a (.dT kvs)):kvs.length<=xg/\(a==sysModules)=false/\
  ∃xs,KT H kvs xs/\h.DictOfH (tupleKind (WT P w)) a xs:=by
 obtain⟨z,y,xs,r,o,es,ep,h1,h2,h3,h4,h5⟩:=(show YQ P w H h a (.dT kvs)from ZoY ok e);refine⟨z,y,xs,r,o,es,ep,h1,h2,h3,h4,λx hx=>?_,h5⟩;have all:∀{l:List (List Ye×V)} {m:List (List Ye×Addr×Value)},KT H l m->∀x∈m,(tupleKind (WT P w)).is h x.1 x.2.1:=by
  intro l m q
  induction q with
  | nil=>simp
  | @cons p q ps qs hq t ih=>
   intro x hx;rcases qB.mp hx with e | hx
   ·exact ZdO ok (by simp_all)
   ·exact ih x hx
 exact all r x hx
theorem Zo0 (ok:YE P w H h)(e:H a=some (.dT kvs)):kvs.length<=xg/\(a==sysModules)=false/\
  ∃xs,KT H kvs xs/\h.DictOfH (tupleKind (WT P w)) a xs:=Zlz ok (.inl e)
end
noncomputable def VG (H:Hp)(a:Addr)(y:V)(r:Option V):Prop:=
 (∃kvs k,Rd H a (.dK kvs)/\y=kV k/\r=YY kvs k)∨∃kvs k b,Rd H a (.dT kvs)/\y=.ref b/\H b=some (.tup (k.map kV))/\r=YY kvs k
noncomputable def Uq (H:Hp)(a:Addr)(y v:V)(H':Hp):Prop:=
 (∃kvs k,H a=some (.dK kvs)/\y=kV k/\kvs.length<xg/\H'=Zs H a (.dK (Y3 kvs k v)))∨
 ∃kvs k b,H a=some (.dT kvs)/\y=.ref b/\H b=some (.tup (k.map kV))/\kvs.length<xg/\H'=Zs H a (.dT (Y3 kvs k v))
theorem VG.k {k:Ye}(e:H a=some (.dK kvs)):VG H a (kV k) (YY kvs k):=.inl ⟨kvs,k,.inl e,rfl,rfl⟩
theorem VG.t {k:List Ye}(e:H a=some (.dT kvs))(eb:H b=some (.tup (k.map kV))):VG H a (.ref b) (YY kvs k):=.inr ⟨kvs,k,b,.inl e,rfl,eb,rfl⟩
theorem Uq.t {k:List Ye}(e:H a=some (.dT kvs))(eb:H b=some (.tup (k.map kV)))(hl:kvs.length<xg) :
  Uq H a (.ref b) v (Zs H a (.dT (Y3 kvs k v))):=.inr ⟨kvs,k,b,e,rfl,eb,hl,rfl⟩
section
variable {X:Cx}{jN:Qb}{σ:St}{H:Hp}{s:Shared}{a:Addr}{y v:V}{u r:Value}{o:Option V}{A:xE}{E:xF}
theorem Inv.big (I:Inv X jN σ H s):sysModules<s.heap.objs.size:=by
 have h:=(I.mod.glob.keeps I.bk).lt;exact qaM (by decide) h
theorem d_in (hu:A.units+1<cLine)(I:Inv X jN σ H s)(g:VG H a y o)(ry:ZQ y u)(h:∀s',Inv X jN σ H s'->Q (.bool o.isSome) s') :
  xf (xB X.prog X.w) A (xk .In u (.ref a)) Q E s:=by
 rcases g with⟨kvs,k,e,ey,l⟩ | ⟨kvs,k,b,e,ey,eb,l⟩
 ·subst ey
  obtain⟨z,hd,vs,rel,dd⟩:=Zly I.hok e;refine wpAny_in_of (ZgR ry) hd dd.mapOf ?_;rw[<-(rel.val k).isSome_eq,<-l];exact h _ (I.tok _)
 ·subst ey
  cases (show u=qw b from ry)
  obtain⟨z,hd,xs,rel,dd⟩:=Zlz I.hok e;refine wpAny_in_heap (tupleKind_room_in1 hu) (ZdO I.hok eb) hd dd ?_;have q:=(rel.val k).isSome_eq;rw[qbb]at q;rw[<-q,<-l];exact h _ (I.tok _)
theorem ZnM (hu:A.units+1<cLine)(I:Inv X jN σ H s)(g:VG H a y o)(ry:ZQ y u)(h:∀s',Inv X jN σ H s'->Q (.bool (!o.isSome)) s') :
  xf (xB X.prog X.w) A (xk .NotIn u (.ref a)) Q E s:=by
 rcases g with⟨kvs,k,e,ey,l⟩ | ⟨kvs,k,b,e,ey,eb,l⟩
 ·subst ey
  obtain⟨z,hd,vs,rel,dd⟩:=Zly I.hok e;refine wpAny_notIn_of (ZgR ry) hd dd.mapOf ?_;rw[<-(rel.val k).isSome_eq,<-l];exact h _ (I.tok _)
 ·subst ey
  cases (show u=qw b from ry)
  obtain⟨z,hd,xs,rel,dd⟩:=Zlz I.hok e;refine wpAny_notIn_heap (tupleKind_room_in1 hu) (ZdO I.hok eb) hd dd ?_;have q:=(rel.val k).isSome_eq;rw[qbb]at q;rw[<-q,<-l];exact h _ (I.tok _)
theorem Zdq (I:Inv X jN σ H s)(mu:Mut (H a))(hs:qbl a s.heap h')(he:∃q,h'.get? a=some q)(new:YQ X.prog X.w (Zs H a ob) h' a ob) :
  Inv X jN σ (Zs H a ob) { s with heap:=h',toks:=t' }:=
 I.write mu (.inl rfl) (λb q hb z=>(hs.2 b hb).trans z) he new
theorem ZlA (z:kvs.length<=xg)(hd:(a==sysModules)=false)(rel:KV kvs vs)(dd:h'.DictOf (WT P w) a vs) :
  YQ P w H' h' a (.dK kvs):=⟨z,hd,vs,rel,dd⟩
theorem Zkj (hu:A.units+1<cLine)(I:Inv X jN σ H s)(g:Uq H a y v H')(ry:ZQ y u)(rv:ZQ v r)(h:∀s',Inv X jN σ H' s'->Q () s') :
  xf (xB X.prog X.w) A (setItem (.ref a) u r) Q E s:=by
 rcases g with⟨kvs,k,e,ey,l,eH⟩ | ⟨kvs,k,b,e,ey,eb,l,eH⟩
 ·subst ey eH
  obtain⟨z,hd,vs,rel,dd⟩:=ZoZ I.hok e;have hz:vs.length<=xg:=by rw[<-rel.length];exact z
  have hl:(Y3 kvs k v).length<=xg:=by have:=Bd kvs k v;omega
  refine wpAny_setItem_pairs (hsz:=hz) (ZgR ry) dd λh' dd' hs=>h _ ?_;have he:∃q,h'.get? a=some q:=let ⟨q,_,_,hq,_⟩:=dd';⟨q,hq⟩;exact Zdq I (by rw[e];exact zL) hs he (ZlA hl hd (rel.put k rv) dd')
 ·subst ey eH
  cases (show u=qw b from ry)
  obtain⟨z,hd,xs,rel,dd⟩:=Zo0 I.hok e;have hz:xs.length<=xg:=by rw[<-yO rel];exact z
  have hl:(Y3 kvs k v).length<=xg:=by have:=Bd kvs k v;omega
  refine wpAny_setItem_heap (tupleKind_room_in1 hu) (ZdO I.hok eb) dd λh' dd' hs=>h _ ?_;obtain⟨q,es,ep,hq,h2,h3,h4,_,h5⟩:=dd';refine Zdq I (by rw[e];exact zL) hs ⟨q,hq⟩ ⟨hl,hd,_,(rel.put k eb rv).keeps λc ys ec=>?_,q,es,ep,hq,h2,h3,h4,h5⟩;rw[Zv (ZoU ec e (λz=>nomatch z))];exact ec
end
section
variable {X:Cx}{jN:Qb}{σ:St}{H:Hp}{s:Shared}{a:Addr}{kvs:List (Ye×V)}{k:Ye}{u:Value}{A:xE}{E:xF}
end
noncomputable def ZqR (td ty tv:TE):TS:=λD σ H=>tv σ H λv H1=>td σ H1 λx H2=>ty σ H2 λy H3=>∃a H4,x=.ref a/\Uq H3 a y v H4/\D.nx σ H4
section
variable {X:Cx}{o i e value:Expr}{pos pos' tpos:Pos}{td ty tv:TE}
theorem ZnN (hu:X.A.units+1<cLine)(ho:PE X o td)(hi:PE X i ty)(hv:PE X value tv)(hs:xr value (some (.Subscript o i pos')) pos.line X.env=pure false) :
  PS X (.Assign [.Subscript o i pos'] value pos) (ZqR td ty tv):=by
 intro jN s σ H D I h;refine wpAny_Assign_Subscript (ZK (hv jN s σ H _ I h) λr s1 ⟨v,H1,I1,rv,q1⟩=>ZK (ho jN s1 σ H1 _ I1 q1) λu s2 ⟨x,H2,I2,rx,q2⟩=>ZK (hi jN s2 σ H2 _ I2 q2) λiv s3 ⟨y,H3,I3,ry,a,H4,ex,g,q3⟩=>?_) hs;subst ex;obtain rfl:u=qw a:=rx;exact Zkj hu I3 g ry rv λs4 I4=>⟨σ,H4,I4,q3⟩
end
theorem ZlB (h:Heap)(hb:sysModules<h.objs.size):YQ P w H (h.push { cls:=.type "dict",data:=.dict #[] }) h.objs.size (.dK []):=
 ⟨zr _,beq_eq_false_iff_ne.mpr (qJ (qK hb)),[],.nil,Heap.DictOf.new h⟩
theorem ZgS (h:Heap)(hb:sysModules<h.objs.size):YQ P w H (h.push { cls:=.type "dict",data:=.dict #[] }) h.objs.size (.dT []):=
 ⟨zr _,beq_eq_false_iff_ne.mpr (qJ (qK hb)),[],.nil,_,#[],0,qE _ rfl,⟨rfl,rfl,rfl⟩,rfl,rfl,List.nodup_nil⟩
noncomputable def ZpN:TE:=λ_ H Q=>∀p,H p=none->Q (.ref p) (Zs H p (.dT []))
section
variable {X:Cx}{pos:Pos}
theorem ZlC:PE X (.Dict [] [] pos) ZpN:=λjN s σ H Q I h=>
 wpAny_Dict_empty ⟨.ref s.heap.objs.size,_,I.laid (λ_ _ q=>qj _ q) (qk _) (ZgS s.heap I.big),rfl,h _ (I.hok.fresh (qk _))⟩
end
section
variable {X:Cx}{jN:Qb}{σ:St}{H:Hp}{s:Shared}{a:Addr}{y d:V}{u r:Value}{o:Option V}{A:xE}{E:xF}
end
section
variable {X:Cx}{o e f:Expr}{apos cpos:Pos}{td ty tx:TE}
end
section
variable {X:Cx}{jN:Qb}{σ:St}{H:Hp}{s:Shared}{a:Addr}{kvs:List (Ye×V)}{A:xE}{E:xF}
end
section
variable {X:Cx}{jN:Qb}{σ:St}{H:Hp}{s:Shared}{a:Addr}{y:V}{u:Value}{A:xE}{E:xF}
end
end L2
namespace Att
open PySem.W PySem.Calls
theorem Zdj:∀(ns:List Int) (vs:List Value),WellAll P h vs (ns.map WData.int)->IntsAre vs ns:=by
 intro ns
 induction ns with
 | nil=>
  intro vs w
  cases w
  exact .nil
 | cons n ns ih=>
  intro vs w
  cases w with
  | cons a b=>
   cases a
   exact .cons _ _ (ih _ b)
theorem Zkk {l:OpenLaw}(hn:l.most=some n)
  (hpre:l.row.toRowW.claim.pre args=true) (hwl:WellAll P h vals args) :
  ∃a vs ns,vals=[qw a]/\args=[WData.list (ns.map WData.int)]/\h.get? a=some { cls:=.type "list",data:=.seq vs.toArray }/\IntsAre vs ns/\ns.length<=n:=by
 have hsh:=(pre_splitW hpre).1;have hc:l.pre.holds [] { args:=args }=true:=(pre_splitW hpre).2;obtain⟨d,r,rfl,h1,h2⟩:=hasAllW_cons hsh;obtain rfl:=hasAllW_nil h2;obtain⟨xs,rfl,h3⟩:=hasW_list h1;obtain⟨ns,rfl⟩:=items_int h3;have jV:ns.length<=n:=by
  have h4:(WTm.not (.lt (.lit (.int (n:Int))) (.len (.arg 0)))).holds [] { args:=[.list (ns.map .int)] }=true:=by
   have h4:=(holds_andW hc).1;simp_all
  have h5:=condW_of h4 (w_not (w_lt w_lit (w_len_list (w_arg rfl))));simp_all
 cases hwl with
 | cons w1 w2=>
  cases w2
  cases w1 with
  | list ho hall=>exact⟨_,_,ns,rfl,rfl,ho,Zdj ns _ hall,jV⟩
theorem Zkl (l:OpenLaw)(args:List WData):l.row.toRowW.claim.post args (.bool true) args=true:=
 postW_of
  (show WShape.has [] (.bool true) .bool=true by rfl)
  (show(WTm.eq .res (.lit (.bool true))).value [] { args:=args,res:=some (.bool true),after:=args }=some (.bool (true==true))from w_eq_bool (w_res rfl) w_lit) rfl
theorem attach_call {l:OpenLaw}
  (hn:l.most=some n) (hdf:d.params.defaults=[])
  (call:∀(w:World) (s₀ s₁:Shared) (mg mb:Str->Option Value) (fa:Addr) (o:Obj) (pm cd doc:Value) (a:Addr) (vs:List Value) (ns:List Int),
   Ground q loose [] XP w s₀ mg mb s₁.heap->YP w s₁.heap->
   s₁.heap.get? fa=some o->o.data=.func (docDef d.name d.params d.body d.scope pm cd doc)->s₁.heap.CodeRec cd d.name->mg d.name=some (.ref fa)->
   s₁.heap.get? a=some { cls:=.type "list",data:=.seq vs.toArray }->IntsAre vs ns->ns.length<=n->s₁.gens = #[]->
   xo (xB l.prog w) callerA (.call (.ref fa) ⟨[.ref a],[]⟩) (λr s'=>r=.ok (.ret (.bool true))/\OldK s₁.heap s'.heap/\s'.os=s₁.os/\AllBare s'.gens) s₁) :
  WalkO q loose XP YP l.row.toRowW d [] (λf vs=>qb6 f vs):=by
 intro w s₀ s₁ mg mb G Y fa o pm cd doc dV kV ho hd hcd hD hmg hg args vals as hpre hlay hrd hwl hlo;obtain rfl:dV=.none:=Dflts.none hD hdf;obtain rfl:kV=.none:=Dflts.noKw hD;obtain⟨a,vs,ns,rfl,rfl,hobj,hints,jV⟩:=Zkk hn hpre hwl;refine enter_call (codeAny_mono (call w s₀ s₁ mg mb fa o pm cd doc a vs ns G Y ho (fd_plain hd) hcd hmg hobj hints jV hg) λr s' hq=>?_);obtain⟨rfl,h2,h3,h4⟩:=hq;exact⟨.inl ⟨.bool true,.bool true,[],rfl,λ_=>rfl,.bool true,Zkl l _,λ_=>⟨qca.nil,λ_ hm=>(nomatch hm)⟩⟩,h2,h3,h4⟩
section
variable {prog:xD}{w:World}{A:xE}{E:xF}{s:Shared}{K:Frag}
end
end Att
namespace L2
theorem Zfm:∀{vs:List Value} {ns:List Int},IntsAre vs ns->ZH (ns.map V.int) vs
 | _,_,.nil=>.nil
 | _,_,.cons n t h=>.cons ⟨t,rfl⟩ (Zfm h)
noncomputable def WC (s:Stmt):Arguments:=match s with
 | .FunctionDef _ a _ _ _ _ _ _ _ _=>a
 | _=>{ posonlyargs:=[],args:=[],vararg:=none,kwonlyargs:=[],kw_defaults:=[],kwarg:=none,defaults:=[] }
noncomputable def XM (s:Stmt):List Stmt:=match s with
 | .FunctionDef _ _ b _ _ _ _ _ _ _=>b
 | _=>[]
noncomputable def Zz (s:Stmt):Scope:=match s with
 | .FunctionDef _ _ _ _ _ _ sc _ _ _=>sc
 | _=>{ kind:=.function,names:=[],isGenerator:=false,isCoroutine:=false }
noncomputable abbrev ZP:Uy:=λ_ _ _ _ _ _=>False
noncomputable abbrev E0:XK:=λ_ _ _=>False
theorem JJ:UM ZP X E0:=λ_ _ _ _ _ _ _ h=>h.elim
structure Fun (K:qd)(x qual:Str)(st:Stmt)(f:Addr)(fd:xC):Prop where
 ex:∃(oc:Value) (od:Option Addr) (kV doc pm:Value) (an:Option Addr) (cdv ct:Value) (osl:Array (Option Value)),
  fd=zv x qual (WC st) (XM st) (Zz st) .none kV doc pm an cdv ct/\K.lookup f=some ⟨oc,od,.func fd,osl⟩/\yL K cdv qual=true
 kp:zH K (.ref f)=true
section
variable {P:xD}{w:World}{K:qd}{mg:Str->Option Value}{base:Heap}
theorem Fun.ok {st:Stmt}(F:Fun K x qual st f fd)(S:FnScope N ps (Zz st))(len:∀vs H Q E,sp vs H Q E->vs.length=ps.length)
  (hbody:∀(cdv:Value) (A:xE) (outer:List Env) (s:Shared) (H:Hp) (vs:List V) (Q:VK) (E:XK),Room k (A.deeper (envOfC qual (Zz st) s.heap.objs.size f cdv))->sp vs H Q E->
   ∃t,XV (Vn ZP P w K mg base N qual (Zz st) f cdv A outer s H E).nox (XM st) t/\t { nx:=λ_ H'=>Q .non H',rt:=Q } (start N vs) H):FnOk P w K mg base ZP (k+1) f fd ps sp:=by
 obtain⟨oc,od,kV,doc,pm,an,cdv,ct,osl,rfl,lk,hcd⟩:=F.ex;refine ZoX lk hcd S len λA outer s H vs Q E hr hsp=>?_;obtain⟨t,h,q⟩:=hbody cdv A outer s H vs Q E hr hsp;exact⟨t,h.nox,q⟩
theorem Fun.binds {st:Stmt}(F:Fun K x qual st f fd)
  (h:∀(kV doc pm:Value) (an:Option Addr) (cdv ct:Value) (us:List Value),us.length=ps.length->bindArgs (zv x qual (WC st) (XM st) (Zz st) .none kV doc pm an cdv ct) ⟨us,[]⟩=pure (ps.zip us)):Xb K fd ps []:=by
 obtain⟨oc,od,kV,doc,pm,an,cdv,ct,osl,rfl,lk,hcd⟩:=F.ex;exact .all (h kV doc pm an cdv ct)
theorem ZlD {st:Stmt}{kV:Value}(l:K.lookup f=some ⟨oc,od,.func (zv x qual (WC st) (XM st) (Zz st) .none kV doc pm an cdv ct),osl⟩)
  (c:yL K cdv qual=true) (k:zH K (.ref f)=true):Fun K x qual st f (zv x qual (WC st) (XM st) (Zz st) .none kV doc pm an cdv ct):=⟨⟨oc,od,kV,doc,pm,an,cdv,ct,osl,rfl,l,c⟩,k⟩
end
theorem hu_of (hr:Room k A):A.units+1<cLine:=zE (Nat.add_le_add_left (by decide:1<=64) _) hr.units
section
variable {X:Cx}
theorem pv (i:Nat){pos:Pos}(hN:X.N[i]?=some x:=by rfl)(hv:Vis X.env.scope x:=by first | exact qt rfl | exact z7 (qt rfl) | exact z7 (z7 rfl))(hd:(x==("__debug__" : Str))=false:=by decide)
  (hcd:(x==("__classdict__" : Str))=false:=by decide):PE X (.Name x pos) (Yd i):=Zpn hN hv hd hcd
end
theorem VV {A:Prop}(h:B):if false=true then A else B:=by
 grind
theorem VW {A:Prop}(h:A):if true=true then A else B:=by
 exact h
section
variable {X:Cx}
end
section
variable {κ:Type}[DecidableEq κ]
end
theorem ZgT (I:Nat->Shared->Prop)
  (turn:∀n s,I n s->xf (xB prog w) A (pyNext it) (λr s₁=>match r with
   | none=>R (.ok .next) s₁
   | some v=>xf (xB prog w) A (letOwnedTupleGo target it v) (λ_ s₁'=>xf (xB prog w) A (assign target env v) (λ_ s₂=>
     xf (xB prog w) A (forIn ifs true λc r=>if r=true then do let ok<-isTrue c env (eval c env);pure (yE ok)else pure (yE r)) (λok s₃=>
      if ok=true then xf (xB prog w) A (eval elt env) (λx s₄=>
       xf (xB prog w) A (call (.builtin "list.append") [kg,x]) (λ_ s₅=>∃m,m<n/\I m s₅) (notedBy (xB prog w) A env λe s'=>R (.error e) s') s₄) (notedBy (xB prog w) A env λe s'=>R (.error e) s') s₃
      else ∃m,m<n/\I m s₃) (notedBy (xB prog w) A env λe s'=>R (.error e) s') s₂) (notedBy (xB prog w) A env λe s'=>R (.error e) s') s₁') (notedBy (xB prog w) A env λe s'=>R (.error e) s') s₁) (notedBy (xB prog w) A env λe s'=>R (.error e) s') s)
  (n:Nat) (h:I n s) :
  xo (xB prog w) A (.compLoop (.ListComp elt [⟨target,iter,ifs,0⟩] scope pos) 0 it kg env) R s:=by
 refine codeAny_loop rfl I (λn s hI=>?_) n h;show xf _ A ((compTurn (.ListComp elt [⟨target,iter,ifs,0⟩] scope pos) 0 it kg env).onRaise (λx=>do noteFrame x env;theTreesLotGoes x)) _ _ s;refine wpAny_noted ?_;rw[compTurn_list];refine xa (wpAny_standAt (xa (xc (turn n s hI) (λr s₁ h₁=>?_) λ_ _ h'=>h')))
 cases r with
 | none=>exact xb h₁
 | some v=>
  refine xa (xc h₁ (λ_ s₁' h₁'=>?_) λ_ _ h'=>h');refine xa (xc h₁' (λ_ s₂ h₂=>xa (xc h₂ (λok s₃ h₃=>?_) λ_ _ h'=>h')) λ_ _ h'=>h')
  cases ok with
  | false=>exact xb ⟨rfl,h₃⟩
  | true=>
   exact xa (xa (xc h₃ (λx s₄ h₄=>xa (xc h₄ (λ_ s₅ h₅=>xb (xb ⟨rfl,h₅⟩)) λ_ _ h'=>h')) λ_ _ h'=>h'))
noncomputable def YR (X:Cx)(jN:Qb)(N':List Str)(scope:Scope)(cl:List (Str×Addr))(C:Addr)(s:Shared)(H:Hp)(fp:List Addr):Cx where
 prog:=X.prog
 w:=X.w
 K:=X.K
 mg:=X.mg
 base:=X.base
 A:=X.A
 N:=N'
 s₀:=s
 H₀:=H
 env:=compEnvC scope cl C X.env
 outer:=X.stack
 stack:=X.stack
 ex:=fp
 fn:=λ_=>false
 calm:=X.calm
 pn:=X.pn++jN
 xe:=λ_ _=>False
noncomputable def VX (X:Cx)(ifs:List Expr)(t:TT):Prop:=
 ∀(jN:Qb) (s:Shared) (σ:St) (H:Hp) (Q:Bool->Hp->Prop),Inv X jN σ H s->t σ H Q->
  xf (xB X.prog X.w) X.A (forIn ifs true λc r=>if r=true then do let ok<-isTrue c X.env (eval c X.env);pure (yE ok)else pure (yE r)) (TP X jN σ Q) X.xe s
noncomputable def ZqS:TT:=λ_ H Q=>Q true H
theorem ZlE:VX X [] ZqS:=λ_ _ _ H _ I h=>xb ⟨H,I,h⟩
theorem ZlF (h:PT X c t):VX X [c] t:=λjN s σ H Q I hq=>wpAny_tests_one (h jN s σ H Q I hq)
structure BlkOk (X:Cx)(N':List Str)(src:List (Option Nat))(scope:Scope)(cl:List (Str×Addr)):Prop where
 clos:closureFor scope X.env=pure cl
 nocell:∀y∈scope.names,y.2≠.cell
 kind:scope.kind=.function
 names:∀y∈scope.names,y.2=.local->scope.names.lookup y.1=some .local
 len:src.length=N'.length
 cells:∀x c,cl.lookup x=some c->X.env.cells.lookup x=some c
 has:∀x,((relabel scope X.env).names.lookup x=some .cell∨(relabel scope X.env).names.lookup x=some .free)->∃c,cl.lookup x=some c
 from_:∀(i j:Nat) x,src[i]?=some (some j)->N'[i]?=some x->X.N[j]?=some x/\(X.env.kindOf x=some .cell∨X.env.kindOf x=some .free)/\((relabel scope X.env).names.lookup x=some .cell∨(relabel scope X.env).names.lookup x=some .free)
noncomputable def VT (src:List (Option Nat))(σ:St):St:=src.map λo=>o.bind λj=>(σ[j]?).bind id
theorem ZnO {σ:St}{C:Addr}
  (B:BlkOk X N' src scope cl) (I:Inv X jN σ H s) (hf:∀b∈fp,W5 X jN H b) (hC:s.heap.objs.size<=C) (hCf:∀b∈fp,b≠C)
  (hs:s1.os=s.os) (hg:s1.gens=s.gens) (hk:∀b o,s.heap.get? b=some o->s1.heap.get? b=some o) (hn:s1.heap.Ns C m):Inv (YR X jN N' scope cl C s H fp) [] (VT src σ) H s1:=by
 have noC:∀b o,s.heap.get? b=some o->b≠C:=λb o e=>qK (qH (qy e) hC);refine⟨⟨I.ok.mod,B.kind,I.ok.glob,I.ok.blt,hC,λx y c h1 h2=>I.ok.inj x y c (B.cells _ _ h1) (B.cells _ _ h2),λx hx=>B.has x hx,λx c hf _=>(by cases hf),I.ok.hd,I.ok.frames,.inl rfl,λb hb=>?_,I.bs,qp I.ok.bsz I.sz,λb o e hb=>?_,λb hb z=>?_,I.stack,I.stkFree⟩,
  hs,by rw[hg];exact I.bare,Un.kept hk,⟨m,hn,λi x v h1 h2 h3=>?_⟩,λx c e=>?_,I.hok.fresh hC,λx c e=>I.freeC x c (B.cells _ _ e),λp hp=>?_,I.hok.kept hk,?_⟩
 ·obtain⟨f0,f1,f2,f3,f4,f5⟩:=hf b hb
  exact⟨hCf b hb,λx c e=>f4 x c (B.cells _ _ e)⟩
 ·obtain⟨f0,f1,f2,f3,f4,f5⟩:=hf b hb
  rcases f3 with z | z
  ·exact I.ok.noex b o e z
  ·exact absurd (qH (qy (I.ok.bs b o e).1) z) (yc _)
 ·obtain⟨f0,f1,f2,f3,f4,f5⟩:=hf b hb
  rcases qB.mp (I.stkSub b z)with e | e
  ·exact f1 e
  ·exact f2 e
 ·have h2':(VT src σ)[i]?=some (some v):=h2
  unfold VT at h2';rw[qI]at h2'
  cases e:src[i]? with
  | none=>rw[e]at h2';cases h2'
  | some o=>
   rw[e]at h2'
   cases o with
   | none=>simp at h2'
   | some j=>
    obtain⟨q1,q2,q3⟩:=B.from_ i j x e h1;have hj:σ[j]?=some (some v):=by
     simp only[qaL,qbo,Option.some.injEq]at h2'
     cases e2:σ[j]? with
     | none=>rw[e2]at h2';cases h2'
     | some o2=>rw[e2]at h2';simp at h2';rw[h2']
    obtain⟨mm,hnn,hl⟩:=I.loc;have vis:Vis X.env.scope x:=by
     rcases q2 with z | z
     ·exact .inr (.inl z)
     ·exact .inr (.inr z)
    obtain⟨u,r,l⟩:=hl j x v q1 hj vis;refine⟨u,r,?_⟩;rcases l with⟨k,_⟩ | ⟨_,c,ec,z⟩
    ·rcases q2 with z | z <;> rw[z]at k <;> cases k
    ·obtain⟨c',ec'⟩:=B.has x q3
     have ee:c'=c:=by
      have:=B.cells _ _ ec';rw[ec]at this;simp_all
     subst ee;obtain⟨o,ho,hd⟩:=z;exact .inr ⟨q3,c',ec',o,hk _ _ ho,hd⟩
 ·obtain⟨v,o,ho,hd⟩:=I.cell x c (B.cells _ _ e)
  exact⟨v,o,hk _ _ ho,hd⟩
 ·have hp':p∈X.pn++jN:=by simpa[YR]using hp
  obtain⟨e,n,ne,nf,d⟩:=I.pin p hp';refine⟨hk _ _ e,n,noC _ _ e,λz=>?_,d⟩;rcases qB.mp (I.stkSub p.1 z)with q | q
  ·exact ne q
  ·exact nf q
 ·show(VT src σ).length=N'.length
  unfold VT;rw[qe,B.len]
noncomputable def ZlG (src:List (Option Nat))(wi:TI)(g:TG)(tt:TT)(te:TE):TE:=fun σ H Q=>wi σ H λJ H1=>∀p,H1 p=none->
 ∃W:Nat->Nat->St->Hp->Prop,(∃m,W 0 m (VT src σ) (Zs H1 p (.lst [])))/\∀i m σ2 H2,W i m σ2 H2->
  (J.stop i H2/\Q (.ref p) H2)∨(J.go i H2/\∀x H3,J.yld i H2 x H3->g x σ2 H3 fun σ4 H4=>tt σ4 H4 λok H5=>
   if ok=true then te σ4 H5 λy H6=>∃xs,H6 p=some (.lst xs)/\xs.length<xg/\∃m',m'<m/\W (i+1) m' σ4 (Zs H6 p (.lst (xs ++ [y])))
   else ∃m',m'<m/\W (i+1) m' σ4 H5)
theorem Zfn
  {σ:St} {Qp:Addr->Hp->Prop} {RR:Value->Addr->Result->Shared->Prop}
  (hc:X.calm=true) (B:BlkOk X N' src scope cl)
  (hg:∀jN C s H fp,PG (YR X jN N' scope cl C s H fp) tg g) (ht:∀jN C s H fp,VX (YR X jN N' scope cl C s H fp) ifs tt) (he:∀jN C s H fp,PE (YR X jN N' scope cl C s H fp) elt te)
  (I2:Inv X jN σ H2 s₂) (T:Turn X.prog X.w X.K tg J fp it tn) (j8:tn 0 s₂.heap) (f2:∀b∈fp,W5 X jN H2 b)
  (q2:∀p,H2 p=none->∃W:Nat->Nat->St->Hp->Prop,(∃m,W 0 m (VT src σ) (Zs H2 p (.lst [])))/\∀i m σ2 H2,W i m σ2 H2->
   (J.stop i H2/\Qp p H2)∨(J.go i H2/\∀x H3,J.yld i H2 x H3->g x σ2 H3 fun σ4 H4=>tt σ4 H4 λok H5=>
    if ok=true then te σ4 H5 λy H6=>∃xs,H6 p=some (.lst xs)/\xs.length<xg/\∃m',m'<m/\W (i+1) m' σ4 (Zs H6 p (.lst (xs ++ [y])))
    else ∃m',m'<m/\W (i+1) m' σ4 H5))
  (hfin:∀p C s6 H5 mm,Inv X jN σ H5 s6->s6.heap.Ns C mm->W5 X jN H5 C->Qp p H5->RR (.ref p) C (.ok .next) s6) :
  xf (xB X.prog X.w) X.A (newList []) (λkg s₃=>xf (xB X.prog X.w) X.A (newFunctionEnv scope X.env.globals cl [] X.env.qual none .none (some X.env)) (λcenv s₄=>
   xo (xB X.prog X.w) X.A (.compStart (.ListComp elt [⟨tg,iter,ifs,0⟩] scope pos) 0 (.ref it) kg { cenv with scope:=relabel scope X.env }) (RR kg cenv.locals) s₄) E s₃) E s₂:=by
 have fpold:∀b∈fp,b<s₂.heap.objs.size:=λb hb=>by
  obtain⟨o,e,_⟩:=T.obj _ _ j8 b hb;exact qy e
 have q2:=q2 s₂.heap.objs.size (I2.hok.fresh (qk _));obtain⟨W,⟨m0,w0⟩,turn⟩:=q2
 -- the new list
 refine xl ?_;have I3:Inv X jN σ (Zs H2 s₂.heap.objs.size (.lst [])) { s₂ with heap:=s₂.heap.push { cls:=.type "list",dict:=none,data:=.seq ([]:List Value).toArray } }:=
  I2.lnew (t':=s₂.toks) (ys:=[]) .nil (zr _)
 have st3:tn 0 (s₂.heap.push { cls:=.type "list",dict:=none,data:=.seq ([]:List Value).toArray }):=T.keep _ _ _ j8 λb _ o e=>qj _ e;have f3:∀b∈fp,W5 X jN (Zs H2 s₂.heap.objs.size (.lst [])) b:=λb hb=>by
  obtain⟨f0,f1⟩:=f2 b hb;exact⟨by rw[Zv (qK (fpold b hb))];exact f0,f1⟩
 generalize hs3:({ s₂ with heap:=s₂.heap.push { cls:=.type "list",dict:=none,data:=.seq ([]:List Value).toArray } }:Shared)=s₃ at I3;have st3':tn 0 s₃.heap:=by rw[<-hs3];exact st3
 have lt3:s₂.heap.objs.size<s₃.heap.objs.size:=by rw[<-hs3];show _<(Heap.push _ _).objs.size;rw[Heap.size_push];exact yk _
 refine wpAny_newFunctionEnv B.nocell (by intro y hy;simp at hy) (λh₁ hns₁ hsb₁=>?_) B.kind;have kp1:∀b o,s₃.heap.get? b=some o->h₁.get? b=some o:=λb o e=>hsb₁.extBut b o (qK (qy e)) (qj _ e);have I4:=ZnO (s1:={ s₃ with heap:=h₁,toks:=s₃.toks+([]:List (Str×Value)).length }) (C:=s₃.heap.objs.size) B I3 f3 (qk _) (λb hb=>qK (qaM (fpold b hb) lt3)) rfl rfl kp1 hns₁;have st4:tn 0 h₁:=T.keep _ _ _ st3' λb _ o e=>kp1 b o e;show xo (xB X.prog X.w) X.A (.compStart (.ListComp elt [⟨tg,iter,ifs,0⟩] scope pos) 0 (.ref it) (.ref s₂.heap.objs.size) (compEnvC scope cl s₃.heap.objs.size X.env)) (RR (.ref s₂.heap.objs.size) s₃.heap.objs.size) _;generalize hs4:({ s₃ with heap:=h₁,toks:=s₃.toks+([]:List (Str×Value)).length }:Shared)=s₄ at I4;have st4':tn 0 s₄.heap:=by rw[<-hs4];exact st4
 have blkX:∀{b:Addr} {H':Hp},b∈fp->H' b=none->W5 (YR X jN N' scope cl s₃.heap.objs.size s₃ (Zs H2 s₂.heap.objs.size (.lst [])) fp) [] H' b:=λ{b H'} hb hn=>by
  obtain⟨f0,f1,f2',f3',f4',f5'⟩:=f3 b hb;refine⟨hn,qK (qaM (fpold b hb) lt3),λz=>?_,.inl hb,λx c e=>f4' x c (B.cells _ _ e),λp hp=>?_⟩
  ·rcases qB.mp (I3.stkSub b z)with e | e
   ·exact f1 e
   ·exact f2' e
  ·exact f5' p (by simpa[YR]using hp)
 have loop:xo (xB X.prog X.w) X.A (.compLoop (.ListComp elt [⟨tg,iter,ifs,0⟩] scope pos) 0 (.ref it) (.ref s₂.heap.objs.size) (compEnvC scope cl s₃.heap.objs.size X.env)) (RR (.ref s₂.heap.objs.size) s₃.heap.objs.size) s₄:=by
  refine ZgT (λn s'=>∃i σ' H',Inv (YR X jN N' scope cl s₃.heap.objs.size s₃ (Zs H2 s₂.heap.objs.size (.lst [])) fp) [] σ' H' s'/\tn i s'.heap/\(∀b∈fp,H' b=none)/\W i n σ' H') ?_ m0 ⟨0,_,_,I4,st4',λb hb=>(f3 b hb).1,w0⟩;rintro n s5 ⟨i,σ5,H5,I5,st5,fr5,w5⟩;rcases turn i n σ5 H5 w5 with⟨stop,qn⟩ | ⟨go,step⟩
  ·refine xc (T.done (YR X jN N' scope cl s₃.heap.objs.size s₃ (Zs H2 s₂.heap.objs.size (.lst [])) fp) rfl rfl rfl hc i [] s5 σ5 H5 (λ_ _=>False) I5 (λb hb=>blkX hb (fr5 b hb)) st5 stop) (λr s6 ⟨hr,I6⟩=>?_) λ_ _ f=>f.elim
   subst hr;obtain⟨mm,hnn,_⟩:=id I6.loc;have nC:H5 s₃.heap.objs.size=none:=I6.free;have J1:Inv X jN σ H5 s6:=by
    refine I3.call' (ch:=fp) I6.os I6.base I6.hok I6.bare λb hb=>?_;obtain⟨f0,f1,f2',f3',f4',f5'⟩:=f3 b hb;exact⟨f3',f1,f4',f5'⟩
   exact hfin _ _ s6 H5 mm J1 hnn (I3.fpOk (qk _) nC) qn
  ·refine xc (T.item (YR X jN N' scope cl s₃.heap.objs.size s₃ (Zs H2 s₂.heap.objs.size (.lst [])) fp) rfl rfl rfl hc i [] s5 σ5 H5 (λ_ _=>False) I5 (λb hb=>blkX hb (fr5 b hb)) st5 go) (λr s6 ⟨u,hr,h6⟩=>?_) λ_ _ f=>f.elim
   subst hr;refine xc h6 (λ_ s7 ⟨x,H7,I7,r7,y7,st7,fr7⟩=>?_) λ_ _ f=>f.elim;have I7':=I7.pinned (λb hb=>blkX hb (fr7 b hb)) (T.obj _ _ st7);refine xc (hg _ _ _ _ _ _ s7 σ5 H7 x u _ I7' r7 (step x H7 y7)) (λ_ s8 ⟨σ8,H8,I8,q8⟩=>?_) λ_ _ f=>f.elim;refine xc (ht _ _ _ _ _ _ s8 σ8 H8 _ I8 q8) (λok s9 ⟨H9,I9,q9⟩=>?_) λ_ _ f=>f.elim;have again:∀{σ7:St} {H7:Hp} {sz:Shared},Inv (YR X jN N' scope cl s₃.heap.objs.size s₃ (Zs H2 s₂.heap.objs.size (.lst [])) fp) ([]++ZdH fp s7.heap) σ7 H7 sz->(∃m',m'<n/\W (i+1) m' σ7 H7)->
     ∃m,m<n/\∃i σ' H',Inv (YR X jN N' scope cl s₃.heap.objs.size s₃ (Zs H2 s₂.heap.objs.size (.lst [])) fp) [] σ' H' sz/\tn i sz.heap/\(∀b∈fp,H' b=none)/\W i m σ' H':=λ{σ7 H7 sz} Iz ⟨m',hm,wz⟩=>by
    refine⟨m',hm,i+1,σ7,H7,Iz.unpinned,T.keep _ _ _ st7 λb hb o e=>(Iz.pin (b,o) (qM _ (qM _ (Bh hb e)))).1,λb hb=>?_,wz⟩;obtain⟨o,e,d⟩:=T.obj _ _ st7 b hb;exact(Iz.pin (b,o) (qM _ (qM _ (Bh hb e)))).2.1
   cases ok with
   | false=>
    show ∃m,m<n/\_;exact again I9 (by simpa using q9)
   | true=>
    have q9':te σ8 H9 λy H6=>∃xs,H6 s₂.heap.objs.size=some (.lst xs)/\xs.length<xg/\∃m',m'<n/\W (i+1) m' σ8 (Zs H6 s₂.heap.objs.size (.lst (xs ++ [y]))):=by simpa using q9
    show xf _ _ _ _ _ _;refine xc (he _ _ _ _ _ _ s9 σ8 H9 _ I9 q9') (λy sA ⟨yv,HA,IA,rA,xs,eA,zA,mA⟩=>?_) λ_ _ f=>f.elim;refine xc (Zbp (X:=YR X jN N' scope cl s₃.heap.objs.size s₃ (Zs H2 s₂.heap.objs.size (.lst [])) fp) _ sA σ8 HA (.ref s₂.heap.objs.size) [yv] (.ref s₂.heap.objs.size) [y] (λ_ HB=>HB=Zs HA s₂.heap.objs.size (.lst (xs ++ [yv]))) IA rfl (.cons rA .nil) ⟨_,xs,yv,rfl,rfl,eA,zA,rfl⟩) (λ_ sB ⟨_,HB,IB,_,eB⟩=>?_) λ_ _ f=>f.elim;subst eB;exact again IB mA
 exact codeAny_compStart_list loop (T.self _ 0 _ _ _ st4' loop)
theorem ZnP
  (hc:X.calm=true) (B:BlkOk X N' src scope cl) (hi:PI X tg iter wi)
  (hg:∀jN C s H fp,PG (YR X jN N' scope cl C s H fp) tg g) (ht:∀jN C s H fp,VX (YR X jN N' scope cl C s H fp) ifs tt) (he:∀jN C s H fp,PE (YR X jN N' scope cl C s H fp) elt te)
  (hs:∀x,foldedSetIterable iter X.env x=pure x:=by intro _;rfl):PE X (.ListComp elt [⟨tg,iter,ifs,0⟩] scope pos) (ZlG src wi g tt te):=by
 intro jN s σ H Q I h;refine wpAny_comprehension_free rfl hs B.clos B.kind B.names (xc (hi jN s σ H _ I h) (λxv s₁ h₁=>xc h₁ (λit s₂ h₂=>?_) λ_ _ e=>e) λ_ _ e=>e);obtain⟨it,fp,tn,J,H2,e,I2,T,j8,f2,q2⟩:=h₂;subst e;refine Zfn hc B hg ht he I2 T j8 f2 q2 ?_;intro p C s6 H5 mm J1 hnn fC qn;refine⟨mm,hnn,λh' sb=>?_⟩;obtain⟨c0,c1,c2,c3,c4,c5⟩:=fC;exact⟨.ref p,H5,J1.turned (λb o hb e=>(sb.2 b hb).trans e) c0 c1 c3 c4 c5,rfl,qn⟩
theorem ZnQ {spos:Pos}
  (hN:X.N.Nodup) (hi':X.N[i]?=some x) (hx:WR X.env.scope x)
  (hc:X.calm=true) (B:BlkOk X N' src scope cl) (hi:PI X tg iter wi)
  (hg:∀jN C s H fp,PG (YR X jN N' scope cl C s H fp) tg g) (ht:∀jN C s H fp,VX (YR X jN N' scope cl C s H fp) ifs tt) (he:∀jN C s H fp,PE (YR X jN N' scope cl C s H fp) elt te)
  (hsw:xr (.ListComp elt [⟨tg,iter,ifs,0⟩] scope pos) (some (.Name x pos')) spos.line X.env=pure true:=by rfl)
  (hs:∀x,foldedSetIterable iter X.env x=pure x:=by intro _;rfl)
  (hf:X.fn x=true∨X.env.scope.names.lookup x=some .local:=by first | exact .inl rfl | exact .inr rfl | assumption) :
  PS X (.Assign [.Name x pos'] (.ListComp elt [⟨tg,iter,ifs,0⟩] scope pos) spos) (λD σ H=>ZlG src wi g tt te σ H λy H1=>D.nx (σ.set i (some y)) H1):=by
 intro jN s σ H D I h;rw[exec_Assign_Name_used _ _ _ _ hsw];refine xa (wpAny_standAt (xa ?_));show xf _ _ (do let _<-comprehension (.ListComp elt [⟨tg,iter,ifs,0⟩] scope pos) scope X.env _ (newList []) false (eval iter X.env) (some (assign (.Name x pos') X.env))) _ _ s;refine xa (xc (wpAny_comprehension_free (use:=some (assign (.Name x pos') X.env)) (Q:=λ_ s'=>SP X jN D .next s') rfl hs B.clos B.kind B.names
  (xc (hi jN s σ H _ I h) (λxv s₁ h₁=>xc h₁ (λit s₂ h₂=>?_) λ_ _ e=>e) λ_ _ e=>e)) (λ_ s' hq=>xb (xb hq)) λ_ _ e=>e)
 obtain⟨it,fp,tn,J,H2,e,I2,T,j8,f2,q2⟩:=h₂;subst e;refine Zfn (RR:=λkg C=>compPost (xB X.prog X.w) X.A X.xe (some (assign (.Name x pos') X.env)) (λ_ s'=>SP X jN D .next s') kg C) (Qp:=λp H=>D.nx (σ.set i (some (.ref p))) H) hc B hg ht he I2 T j8 f2 q2 ?_;intro p C s6 H5 mm J1 hnn fC qn;obtain⟨oC,es,ep,hoC,hdC,hrC⟩:=id hnn;have fC':∀b∈[C],W5 X jN H5 b:=by
  intro b hb;have e:b=C:=by simpa using hb
  rw[e];exact fC
 have oC':∀b∈[C],∃o,s6.heap.get? b=some o/\∀v,o.data≠.cell v:=by
  intro b hb;have e:b=C:=by simpa using hb
  rw[e];exact⟨oC,hoC,λv z=>by rw[hdC]at z;cases z⟩
 have J2:=J1.pinned fC' oC';refine xc (Vy hN hi' hx hf _ s6 σ H5 (.ref p) (.ref p) (fun σ' H'=>σ'=σ.set i (some (.ref p))/\H'=H5) J2 rfl ⟨rfl,rfl⟩) (λ_ s7 ⟨σ7,H7,I7,e7,e7'⟩=>?_) λ_ _ e=>e;subst e7 e7';have pC:=I7.pin (C,oC) (qM _ (qM _ (Bh (by simp) hoC)));refine⟨mm,⟨oC,es,ep,pC.1,hdC,hrC⟩,λh' sb=>?_⟩;obtain⟨c0,c1,c2,c3,c4,c5⟩:=fC;exact⟨_,_,(I7.unpinned).turned (λb o hb e=>(sb.2 b hb).trans e) c0 c1 c3 c4 c5,qn⟩
end L2
namespace TF
open L2
inductive D where
 | non | bl (b:Bool) | int (i:Int) | str (x:Str) | tup (xs:List D) | lst (xs:List D)
 | dk (kvs:List (Ye×V)) | dt (kvs:List (List Ye×V)) | du (kvs:List (List Ye×V)) | df (kvs:List (Ye×V)) | pen | ty (n:String) | clo (t:Nat) (caps:List D)
noncomputable abbrev St:=L2.St
noncomputable abbrev Pn:=List Int×List Int
noncomputable abbrev M (α:Type):=Pn->Option (α×Pn)
noncomputable abbrev Ze:=List (Option D)
noncomputable def ZJ {α:Type}(a:α):M α:=λs=>some (a,s)
noncomputable def Zp {α β:Type}(m:M α)(k:α->M β):M β:=λs=>match m s with | none=>none | some p=>k p.1 p.2
noncomputable def ZS {α:Type}:M α:=λ_=>none
noncomputable def YO {α:Type}(o:Option α):M α:=λs=>match o with | none=>none | some a=>some (a,s)
theorem Zy {m:M α}{k:α->M β}{b:β}(h:Zp m k s=some (b,s')):∃a s1,m s=some (a,s1)/\k a s1=some (b,s'):=by
 unfold Zp at h
 cases e:m s with
 | none=>simp_all
 | some p=>rw[e]at h;exact⟨p.1,p.2,rfl,h⟩
theorem ZM {a b:α}(h:ZJ a s=some (b,s')):b=a/\s'=s:=by
 unfold ZJ at h
 grind
theorem Wo {o:Option α}{b:α}(h:YO o s=some (b,s')):o=some b/\s'=s:=by
 unfold YO at h
 cases e:o with
 | none=>simp_all
 | some a=>simp_all
structure Gh where
 fp:Addr->Prop
 rd:Addr->Prop
 pen:V
 st:Pn->Hp->Prop
 mono:∀s H H',st s H->(∀b o,rd b->H b=some o->H' b=some o)->(∀b φ,H b=some (.ext φ)->H' b=some (.ext φ))->(∀b vs,H b=some (.tup vs)->H' b=some (.tup vs))->st s H'
 sub:∀b,fp b->rd b
 dom:∀s H b,st s H->rd b->∃o,H b=some o
 ntp:∀s H b vs,st s H->fp b->H b≠some (.tup vs)
 clo:Nat->V->List V->Prop:=λ_ _ _=>False
mutual
noncomputable def Zo (G:Gh)(H:Hp):D->V->Prop
 | .non,v=>v=.non
 | .bl b,v=>v=.bl b
 | .int i,v=>v=.int i
 | .str x,v=>v=.str x
 | .tup ds,v=>∃a vs,v=.ref a/\¬G.fp a/\H a=some (.tup vs)/\Zj G H ds vs
 | .lst ds,v=>∃a vs,v=.ref a/\¬G.fp a/\H a=some (.lst vs)/\Zj G H ds vs
 | .dk kvs,v=>∃a,v=.ref a/\¬G.fp a/\H a=some (.dK kvs)
 | .dt kvs,v=>∃a o,v=.ref a/\¬G.fp a/\H a=some (.frz o (.dT kvs))
 | .du kvs,v=>∃a,v=.ref a/\¬G.fp a/\H a=some (.dT kvs)
 | .df kvs,v=>∃a o,v=.ref a/\¬G.fp a/\H a=some (.frz o (.dK kvs))
 | .pen,v=>v=G.pen
 | .ty n,v=>v=.ty n
 | .clo t ds,v=>∃vs,G.clo t v vs/\Zj G H ds vs
noncomputable def Zj (G:Gh)(H:Hp):List D->List V->Prop
 | [],vs=>vs=[]
 | d::ds,vs=>∃v r,vs=v::r/\Zo G H d v/\Zj G H ds r
end
noncomputable def ZC (G:Gh)(H H':Hp):Prop:=∀b o,¬G.fp b->H b=some o->H' b=some o
theorem ZC.refl (G:Gh)(H:Hp):ZC G H H:=λ_ _ _ e=>e
theorem ZC.trans (a:ZC G H H1)(b:ZC G H1 H2):ZC G H H2:=λc o n e=>b c o n (a c o n e)
mutual
theorem Zo.ext {G:Gh}{H H':Hp}(e:ZC G H H'):∀{d:D} {v:V},Zo G H d v->Zo G H' d v
 | .non,_,h=>h
 | .bl _,_,h=>h
 | .int _,_,h=>h
 | .str _,_,h=>h
 | .tup ds,v,h=>by
  unfold Zo at h⊢;obtain⟨a,vs,e1,n,e2,r⟩:=h;exact⟨a,vs,e1,n,e _ _ n e2,Zj.ext e r⟩
 | .lst ds,v,h=>by
  unfold Zo at h⊢;obtain⟨a,vs,e1,n,e2,r⟩:=h;exact⟨a,vs,e1,n,e _ _ n e2,Zj.ext e r⟩
 | .dk kvs,v,h=>by
  unfold Zo at h⊢;obtain⟨a,e1,n,e2⟩:=h;exact⟨a,e1,n,e _ _ n e2⟩
 | .dt kvs,v,h=>by
  unfold Zo at h⊢;obtain⟨a,o,e1,n,e2⟩:=h;exact⟨a,o,e1,n,e _ _ n e2⟩
 | .df kvs,v,h=>by
  unfold Zo at h⊢;obtain⟨a,o,e1,n,e2⟩:=h;exact⟨a,o,e1,n,e _ _ n e2⟩
 | .du kvs,v,h=>by
  unfold Zo at h⊢;obtain⟨a,e1,n,e2⟩:=h;exact⟨a,e1,n,e _ _ n e2⟩
 | .pen,_,h=>h
 | .ty _,_,h=>h
 | .clo t ds,v,h=>by
  unfold Zo at h⊢;obtain⟨vs,c,r⟩:=h;exact⟨vs,c,Zj.ext e r⟩
theorem Zj.ext {G:Gh}{H H':Hp}(e:ZC G H H'):∀{ds:List D} {vs:List V},Zj G H ds vs->Zj G H' ds vs
 | [],_,h=>h
 | d::ds,vs,h=>by
  unfold Zj at h⊢;obtain⟨v,r,e1,r1,r2⟩:=h;exact⟨v,r,e1,Zo.ext e r1,Zj.ext e r2⟩
end
section
variable {G:Gh}{H:Hp}
theorem jc:Zo G H (.tup ds) v↔∃a vs,v=.ref a/\¬G.fp a/\H a=some (.tup vs)/\Zj G H ds vs:=by rfl
theorem jb:Zo G H (.lst ds) v↔∃a vs,v=.ref a/\¬G.fp a/\H a=some (.lst vs)/\Zj G H ds vs:=by rfl
theorem jk:Zo G H (.dk kvs) v↔∃a,v=.ref a/\¬G.fp a/\H a=some (.dK kvs):=by rfl
theorem jl:Zo G H (.dt kvs) v↔∃a o,v=.ref a/\¬G.fp a/\H a=some (.frz o (.dT kvs)):=by rfl
theorem jm:Zo G H (.du kvs) v↔∃a,v=.ref a/\¬G.fp a/\H a=some (.dT kvs):=by rfl
theorem js:Zo G H (.df kvs) v↔∃a o,v=.ref a/\¬G.fp a/\H a=some (.frz o (.dK kvs)):=by rfl
theorem ja:Zo G H (.int i) v↔v=.int i:=by rfl
theorem je:Zo G H (.bl b) v↔v=.bl b:=by rfl
theorem jh:Zo G H (.str b) v↔v=.str b:=by rfl
theorem jg:Zo G H .non v↔v=.non:=by rfl
theorem jq:Zo G H .pen v↔v=G.pen:=by rfl
theorem jr:Zo G H (.ty n) v↔v=.ty n:=by rfl
theorem jy:Zo G H (.clo t ds) v↔∃vs,G.clo t v vs/\Zj G H ds vs:=by rfl
theorem Zj.nil_iff:Zj G H [] vs↔vs=[]:=by rfl
theorem jd:Zj G H (d::ds) vs↔∃v r,vs=v::r/\Zo G H d v/\Zj G H ds r:=by
 rfl
theorem Zj.length:∀{ds:List D} {vs:List V},Zj G H ds vs->ds.length=vs.length
 | [],vs,h=>by rw[Zj.nil_iff.mp h];rfl
 | d::ds,vs,h=>by
  obtain⟨v,r,rfl,_,h2⟩:=jd.mp h;simp[Zj.length h2]
theorem Zj.get:∀{ds:List D} {vs:List V} {i:Nat} {d:D},Zj G H ds vs->ds[i]?=some d->∃v,vs[i]?=some v/\Zo G H d v
 | [],_,_,_,_,e=>by simp at e
 | d::ds,vs,0,d',h,e=>by
  obtain⟨v,r,rfl,h1,_⟩:=jd.mp h;simp_all
 | d::ds,vs,i+1,d',h,e=>by
  obtain⟨v,r,rfl,_,h2⟩:=jd.mp h;obtain⟨u,e1,e2⟩:=Zj.get h2 (by simpa using e);simp_all
theorem Zj.append:∀{ds es:List D} {vs us:List V},Zj G H ds vs->Zj G H es us->Zj G H (ds++es) (vs++us)
 | [],es,vs,us,h,h'=>by rw[Zj.nil_iff.mp h];exact h'
 | d::ds,es,vs,us,h,h'=>by
  obtain⟨v,r,rfl,h1,h2⟩:=jd.mp h;exact jd.mpr ⟨v,r++us,rfl,h1,Zj.append h2 h'⟩
theorem Zj.one (h:Zo G H d v):Zj G H [d] [v]:=jd.mpr ⟨v,[],rfl,h,Zj.nil_iff.mpr rfl⟩
theorem Zj.cons (h:Zo G H d v)(h2:Zj G H ds vs):Zj G H (d::ds) (v::vs):=jd.mpr ⟨v,vs,rfl,h,h2⟩
theorem Zj.set:∀{ds:List D} {vs:List V} {d:D} {v:V} (i:Nat),Zj G H ds vs->Zo G H d v->Zj G H (ds.set i d) (vs.set i v)
 | [],vs,d,v,i,h,_=>by rw[Zj.nil_iff.mp h];rfl
 | e::ds,vs,d,v,0,h,h'=>by
  obtain⟨u,r,rfl,h1,h2⟩:=jd.mp h;exact Zj.cons h' h2
 | e::ds,vs,d,v,i+1,h,h'=>by
  obtain⟨u,r,rfl,h1,h2⟩:=jd.mp h;exact Zj.cons h1 (Zj.set i h2 h')
theorem Zj.take:∀{ds:List D} {vs:List V} (n:Nat),Zj G H ds vs->Zj G H (ds.take n) (vs.take n)
 | _,_,0,_=>Zj.nil_iff.mpr (by simp)
 | [],vs,n+1,h=>by rw[Zj.nil_iff.mp h];rfl
 | d::ds,vs,n+1,h=>by
  obtain⟨u,r,rfl,h1,h2⟩:=jd.mp h;exact Zj.cons h1 (Zj.take n h2)
theorem Zj.drop:∀{ds:List D} {vs:List V} (n:Nat),Zj G H ds vs->Zj G H (ds.drop n) (vs.drop n)
 | _,_,0,h=>h
 | [],vs,n+1,h=>by rw[Zj.nil_iff.mp h];rfl
 | d::ds,vs,n+1,h=>by
  obtain⟨u,r,rfl,h1,h2⟩:=jd.mp h;exact Zj.drop n h2
end
noncomputable def Nt (o:Option HO):Prop:=∃u,o=some u/\∀vs,u≠.tup vs
theorem Nt.no (h:Nt o)(e:o=none):False:=by
 obtain⟨u,q,_⟩:=h
 grind
structure Gr (G:Gh)(Hf H Hf' H':Hp):Prop where
 hh:ZC G H H'
 ff:ZC G Hf Hf'
 fh:ZC G Hf' H'
 nw:∀b,¬G.fp b->Hf b=none->Nt (H b)->Hf' b=none
theorem Gr.refl (e:ZC G Hf H):Gr G Hf H Hf H:=⟨.refl _ _,.refl _ _,e,λ_ _ h _=>h⟩
theorem Gr.trans (a:Gr G Hf H jX H1)(b:Gr G jX H1 j6 H2):Gr G Hf H j6 H2:=
 ⟨a.hh.trans b.hh,a.ff.trans b.ff,b.fh,λc n h1 h2=>b.nw c n (a.nw c n h1 h2) (let ⟨u,e,nt⟩:=h2;⟨u,a.hh c u n e,nt⟩)⟩
theorem Gr.new (e:ZC G Hf H)(hp:H p=none)(nf:¬G.fp p):Gr G Hf H (Zs Hf p o) (Zs H p o) where
 hh:=λb u n q=>by rw[Zv (YC q hp)];exact q
 ff:=λb u n q=>by rw[Zv (YC (e b u n q) hp)];exact q
 fh:=λb u n q=>by
  by_cases hb:b=p
  ·subst hb;rw[Z1]at q⊢;exact q
  ·rw[Zv hb]at q⊢;exact e b u n q
 nw:=λb n h1 h2=>by
  by_cases hb:b=p
  ·subst hb;exact(h2.no hp).elim
  ·rw[Zv hb];exact h1
theorem Gh.nofp {G:Gh}(h:G.st s H)(hp:H p=none):¬G.fp p:=λf=>by
 obtain⟨o,e⟩:=G.dom s H p h (G.sub p f)
 grind
theorem ju {G:Gh}(h:G.st s H)(hp:H p=none):¬G.rd p:=λf=>by
 obtain⟨o,e⟩:=G.dom s H p h f
 grind
theorem Gh.grow {G:Gh}(h:G.st s H)(hp:H p=none):G.st s (Zs H p o):=G.mono s H _ h (λb u _ q=>by
 rw[Zv (YC q hp)];exact q) (λb φ q=>by
 rw[Zv (YC q hp)];exact q) λb φ q=>by
 rw[Zv (YC q hp)];exact q
noncomputable def JK:D->Prop
 | .lst _=>True
 | .dk _=>True
 | .dt _=>True
 | .du _=>True
 | _=>False
noncomputable def YJ (G:Gh)(H Hf':Hp)(d:D)(v:V):Prop:=∀a,v=.ref a->JK d->H a=none/\∀ds,d=.lst ds->∃vs Hm,Hf' a=some (.lst vs)/\Hm a=none/\ZC G Hm Hf'/\Zj G Hm ds vs
theorem jn (e:ZC G H H')(r:∀a,v=.ref a->JK d->¬G.fp a)(h:YJ G H' Hf' d v):YJ G H Hf' d v:=λa ea m=>by
 refine⟨?_,(h a ea m).2⟩
 cases q:H a with
 | none=>rfl
 | some o=>
  have:=e a o (r a ea m) q;rw[(h a ea m).1]at this;cases this
theorem Zo.nofp (r:Zo G H d v):∀a,v=.ref a->JK d->¬G.fp a:=λa e m=>by
 cases d with
 | lst ds=>obtain⟨b,vs,e1,n,_⟩:=jb.mp r;grind
 | dk ds=>obtain⟨b,e1,n,_⟩:=jk.mp r;simp_all
 | dt ds=>obtain⟨b,_,e1,n,_⟩:=jl.mp r;simp_all
 | du ds=>obtain⟨b,e1,n,_⟩:=jm.mp r;simp_all
 | _=>exact m.elim
noncomputable def YA (G:Gh)(H:Hp)(σ:St)(ρ:Ze):Prop:=∀(i:Nat) (d:D),ρ[i]?=some (some d)->∃v,σ[i]?=some (some v)/\Zo G H d v
theorem YA.ext (h:YA G H σ ρ)(e:ZC G H H'):YA G H' σ ρ:=λi d q=>let ⟨v,a,b⟩:=h i d q;⟨v,a,b.ext e⟩
noncomputable def PD (X:Cx)(G:Gh)(fr:Bool)(e:Expr)(f:Ze->M D):Prop:=
 ∃t,PE X e t/\∀(σ:St) (Hf H:Hp) (ρ:Ze) (s:Pn) (d:D) (s':Pn) (Q:VK),ZC G Hf H->YA G Hf σ ρ->G.st s H->f ρ s=some (d,s')->
  (∀v Hf' H',Gr G Hf H Hf' H'->G.st s' H'->Zo G Hf' d v->(fr=true->YJ G H Hf' d v)->Q v H')->t σ H Q
noncomputable def XW (X:Cx)(G:Gh)(e:Expr)(f:Ze->M Bool):Prop:=
 ∃t,PT X e t/\∀(σ:St) (Hf H:Hp) (ρ:Ze) (s:Pn) (b:Bool) (s':Pn) (Q:Bool->Hp->Prop),ZC G Hf H->YA G Hf σ ρ->G.st s H->f ρ s=some (b,s')->
  (∀Hf' H',Gr G Hf H Hf' H'->G.st s' H'->Q b H')->t σ H Q
noncomputable def Wy (X:Cx)(G:Gh)(es:List Expr)(f:Ze->M (List D)):Prop:=
 ∃t,PA X es t/\∀(σ:St) (Hf H:Hp) (ρ:Ze) (s:Pn) (ds:List D) (s':Pn) (Q:List V->Hp->Prop),ZC G Hf H->YA G Hf σ ρ->G.st s H->f ρ s=some (ds,s')->
  (∀vs Hf' H',Gr G Hf H Hf' H'->G.st s' H'->Zj G Hf' ds vs->Q vs H')->t σ H Q
section
variable {X:Cx}{G:Gh}
theorem PD.weak (h:PD X G fr e f):PD X G false e f:=by
 obtain⟨t,p,q⟩:=h;exact⟨t,p,fun σ Hf H ρ s d s' Q e1 e2 e3 e4 k=>q σ Hf H ρ s d s' Q e1 e2 e3 e4 λv Hf' H' g1 g2 g3 _=>k v Hf' H' g1 g2 g3 (λz=>by cases z)⟩
noncomputable def Za (i:Nat):Ze->M D:=fun ρ=>YO ((ρ[i]?).bind id)
noncomputable def dC (d:D):Ze->M D:=λ_=>ZJ d
theorem Zim (i:Nat)(h:PE X (.Name x pos) (Yd i)):PD X G false (.Name x pos) (Za i):=by
 refine⟨_,h,fun σ Hf H ρ s d s' Q e1 e2 e3 e4 k=>?_⟩;obtain⟨e,rfl⟩:=Wo e4;have e':ρ[i]?=some (some d):=by
  cases q:ρ[i]? with
  | none=>simp_all
  | some o=>simp_all
 obtain⟨v,h1,h2⟩:=e2 i d e';exact⟨v,h1,k v Hf H (.refl e1) e3 h2 (λz=>by cases z)⟩
theorem YJ.scal (h:JK d->False):YJ G H Hf' d v:=λ_ _ m=>(h m).elim
theorem Zk:PD X G true (.Constant (.int i) j pos) (dC (.int i)):=by
 refine⟨_,Xa,fun σ Hf H ρ s d s' Q e1 e2 e3 e4 k=>?_⟩;obtain⟨rfl,rfl⟩:=ZM e4;exact k _ Hf H (.refl e1) e3 (ja.mpr rfl) λ_=>.scal λz=>z
theorem Xu:PD X G true (.Constant (.bool b) j pos) (dC (.bl b)):=by
 refine⟨_,ZqB,fun σ Hf H ρ s d s' Q e1 e2 e3 e4 k=>?_⟩;obtain⟨rfl,rfl⟩:=ZM e4;exact k _ Hf H (.refl e1) e3 (je.mpr rfl) λ_=>.scal λz=>z
theorem UN:PD X G true (.Constant .none j pos) (dC .non):=by
 refine⟨_,Zpo,fun σ Hf H ρ s d s' Q e1 e2 e3 e4 k=>?_⟩;obtain⟨rfl,rfl⟩:=ZM e4;exact k _ Hf H (.refl e1) e3 (jg.mpr rfl) λ_=>.scal λz=>z
theorem ZdP:PD X G true (.Constant (.str x) j pos) (dC (.str x)):=by
 refine⟨_,Zpp,fun σ Hf H ρ s d s' Q e1 e2 e3 e4 k=>?_⟩;obtain⟨rfl,rfl⟩:=ZM e4;exact k _ Hf H (.refl e1) e3 (jh.mpr rfl) λ_=>.scal λz=>z
noncomputable def Zf:Ze->M (List D):=λ_=>ZJ []
noncomputable def Zb (f:Ze->M D)(g:Ze->M (List D)):Ze->M (List D):=fun ρ=>Zp (f ρ) λd=>Zp (g ρ) λds=>ZJ (d::ds)
theorem Zi:Wy X G [] Zf:=by
 refine⟨_,X4,fun σ Hf H ρ s d s' Q e1 e2 e3 e4 k=>?_⟩;obtain⟨rfl,rfl⟩:=ZM e4;exact k _ Hf H (.refl e1) e3 (Zj.nil_iff.mpr rfl)
theorem Zd (h:PD X G fr e f)(hr:Wy X G es g)(hs:xh (e::es) X.env=(false,eval e X.env)::xh es X.env:=by rfl):Wy X G (e::es) (Zb f g):=by
 obtain⟨t,p,q⟩:=h;obtain⟨u,p2,q2⟩:=hr;refine⟨_,Xt p p2 hs,fun σ Hf H ρ s ds s' Q e1 e2 e3 e4 k=>?_⟩;obtain⟨d,s1,a1,a2⟩:=Zy e4;obtain⟨r,s2,a3,a4⟩:=Zy a2;obtain⟨rfl,rfl⟩:=ZM a4;refine q σ Hf H ρ s d s1 _ e1 e2 e3 a1 λv jX H1 g1 jY r1 _=>?_;refine q2 σ jX H1 ρ s1 r _ _ g1.fh (e2.ext g1.ff) jY a3 λvs j6 H2 g2 j8 r2=>?_;exact k _ j6 H2 (g1.trans g2) j8 (Zj.cons (r1.ext g2.ff) r2)
noncomputable def ZB (f:Ze->M (List D)):Ze->M D:=fun ρ=>Zp (f ρ) λds=>if ds.length<=xg then ZJ (.tup ds)else ZS
noncomputable def Yz (f:Ze->M (List D)):Ze->M D:=fun ρ=>Zp (f ρ) λds=>if ds.length<=xg then ZJ (.lst ds)else ZS
theorem XC {α:Type}{c:Prop}[Decidable c]{a:M α}{s s':Pn}{b:α}(h:(if c then a else ZS) s=some (b,s')):c/\a s=some (b,s'):=by
 split at h
 ·simp_all
 ·cases h
theorem YJ.mk (e:ZC G Hf H)(hp:H p=none)(nf:¬G.fp p)(r:Zj G Hf ds vs):YJ G H (Zs Hf p (.lst vs)) (.lst ds) (.ref p):=λa ea _=>by
 cases ea
 refine⟨hp,λds' ed=>?_⟩
 cases ed
 have hf:Hf p=none:=by
  cases q:Hf p with
  | none=>rfl
  | some o=>rw[e p o nf q]at hp;cases hp
 exact⟨vs,Hf,Z1,hf,λb o n q=>by rw[Zv (YC q hf)];exact q,r⟩
theorem ZN (h:Wy X G es f):PD X G true (.Tuple es x1 pos) (ZB f):=by
 obtain⟨t,p,q⟩:=h;refine⟨_,ZpE p,fun σ Hf H ρ s d s' Q e1 e2 e3 e4 k=>?_⟩;obtain⟨ds,s1,a1,a2⟩:=Zy e4;obtain⟨hl,a3⟩:=XC a2;obtain⟨rfl,rfl⟩:=ZM a3;refine q σ Hf H ρ s ds s' _ e1 e2 e3 a1 λvs jX H1 g1 jY r1=>⟨by rw[<-r1.length];exact hl,λp hp=>?_⟩;have nf:=Gh.nofp jY hp;have g2:=Gr.new (o:=.tup vs) g1.fh hp nf;exact k (.ref p) _ _ (g1.trans g2) (Gh.grow jY hp) (jc.mpr ⟨p,vs,rfl,nf,Z1,r1.ext g2.ff⟩) λ_=>.scal λz=>z
theorem Y0 (h:Wy X G es f):PD X G true (.List es pos) (Yz f):=by
 obtain⟨t,p,q⟩:=h;refine⟨_,Zlq p,fun σ Hf H ρ s d s' Q e1 e2 e3 e4 k=>?_⟩;obtain⟨ds,s1,a1,a2⟩:=Zy e4;obtain⟨hl,a3⟩:=XC a2;obtain⟨rfl,rfl⟩:=ZM a3;refine q σ Hf H ρ s ds s' _ e1 e2 e3 a1 λvs jX H1 g1 jY r1=>⟨by rw[<-r1.length];exact hl,λp hp=>?_⟩;have nf:=Gh.nofp jY hp;have g2:=Gr.new (o:=.lst vs) g1.fh hp nf;refine k (.ref p) _ _ (g1.trans g2) (Gh.grow jY hp) (jb.mpr ⟨p,vs,rfl,nf,Z1,r1.ext g2.ff⟩) λ_=>jn g1.hh (λa ea _=>by simp_all) (YJ.mk g1.fh hp nf r1)
noncomputable def Y4 (X:Cx)(G:Gh)(f:Value->Value->Sem Value)(g:D->D->Option D):Prop:=
 ∃r,Yo X f r/\∀(Hf H:Hp) (s:Pn) (x y:V) (d e c:D) (Q:VK),ZC G Hf H->G.st s H->Zo G Hf d x->Zo G Hf e y->g d e=some c->
  (∀v Hf' H',Gr G Hf H Hf' H'->G.st s H'->Zo G Hf' c v->YJ G H Hf' c v->Q v H')->r x y H Q
noncomputable def Zc (g:D->D->Option D)(a b:Ze->M D):Ze->M D:=fun ρ=>Zp (a ρ) λd=>Zp (b ρ) λe=>YO (g d e)
theorem op2D
  (qa:∀(σ:St) (Hf H:Hp) (ρ:Ze) (s:Pn) (d:D) (s':Pn) (Q:VK),ZC G Hf H->YA G Hf σ ρ->G.st s H->fa ρ s=some (d,s')->(∀v Hf' H',Gr G Hf H Hf' H'->G.st s' H'->Zo G Hf' d v->Q v H')->ta σ H Q)
  (qb:∀(σ:St) (Hf H:Hp) (ρ:Ze) (s:Pn) (d:D) (s':Pn) (Q:VK),ZC G Hf H->YA G Hf σ ρ->G.st s H->fb ρ s=some (d,s')->(∀v Hf' H',Gr G Hf H Hf' H'->G.st s' H'->Zo G Hf' d v->Q v H')->tb σ H Q)
  (qo:∀(Hf H:Hp) (s:Pn) (x y:V) (d e c:D) (Q:VK),ZC G Hf H->G.st s H->Zo G Hf d x->Zo G Hf e y->g d e=some c->(∀v Hf' H',Gr G Hf H Hf' H'->G.st s H'->Zo G Hf' c v->YJ G H Hf' c v->Q v H')->r x y H Q)
  (σ:St) (Hf H:Hp) (ρ:Ze) (s:Pn) (d:D) (s':Pn) (Q:VK) (e1:ZC G Hf H) (e2:YA G Hf σ ρ) (e3:G.st s H) (e4:Zc g fa fb ρ s=some (d,s'))
  (k:∀v Hf' H',Gr G Hf H Hf' H'->G.st s' H'->Zo G Hf' d v->YJ G H Hf' d v->Q v H'):WH r ta tb σ H Q:=by
 obtain⟨da,s1,a1,a2⟩:=Zy e4;obtain⟨db,s2,a3,a4⟩:=Zy a2;obtain⟨a5,rfl⟩:=Wo a4;refine qa σ Hf H ρ s da s1 _ e1 e2 e3 a1 λx jX H1 g1 jY r1=>?_;refine qb σ jX H1 ρ s1 db _ _ g1.fh (e2.ext g1.ff) jY a3 λy j6 H2 g2 j8 r2=>?_;refine qo j6 H2 _ x y da db d Q g2.fh j8 (r1.ext g2.ff) r2 a5 λv Hf3 H3 g3 st3 r3 fz=>?_;exact k v Hf3 H3 ((g1.trans g2).trans g3) st3 r3 (jn (g1.hh.trans g2.hh) r3.nofp fz)
theorem PD.drop (h:PD X G fr e f):∃t,PE X e t/\∀(σ:St) (Hf H:Hp) (ρ:Ze) (s:Pn) (d:D) (s':Pn) (Q:VK),ZC G Hf H->YA G Hf σ ρ->G.st s H->f ρ s=some (d,s')->
  (∀v Hf' H',Gr G Hf H Hf' H'->G.st s' H'->Zo G Hf' d v->Q v H')->t σ H Q:=by
 obtain⟨t,p,q⟩:=h;exact⟨t,p,fun σ Hf H ρ s d s' Q a b c d' k=>q σ Hf H ρ s d s' Q a b c d' λv Hf' H' g1 g2 g3 _=>k v Hf' H' g1 g2 g3⟩
theorem ZA (ho:Y4 X G (binaryOp op) g)(ha:PD X G r1 a fa)(hb:PD X G r2 b fb):PD X G true (.BinOp a op b pos) (Zc g fa fb):=by
 obtain⟨r,po,qo⟩:=ho;obtain⟨ta,pa,qa⟩:=ha.drop;obtain⟨tb,pb,qb⟩:=hb.drop;exact⟨_,Uj po pa pb,fun σ Hf H ρ s d s' Q e1 e2 e3 e4 k=>op2D qa qb qo σ Hf H ρ s d s' Q e1 e2 e3 e4 λv Hf' H' g1 g2 g3 fz=>k v Hf' H' g1 g2 g3 λ_=>fz⟩
theorem We (ho:Y4 X G (xk op) g)(ha:PD X G r1 a fa)(hb:PD X G r2 b fb)
  (hm:behindInMarks op b=false:=by first | exact ZdI _ | with_unfolding_all rfl):PD X G true (.Compare a [op] [b] pos) (Zc g fa fb):=by
 obtain⟨r,po,qo⟩:=ho;obtain⟨ta,pa,qa⟩:=ha.drop;obtain⟨tb,pb,qb⟩:=hb.drop;exact⟨_,ZnA po pa pb hm,fun σ Hf H ρ s d s' Q e1 e2 e3 e4 k=>op2D qa qb qo σ Hf H ρ s d s' Q e1 e2 e3 e4 λv Hf' H' g1 g2 g3 fz=>k v Hf' H' g1 g2 g3 λ_=>fz⟩
noncomputable def ZF (f:Ze->M D):Ze->M Bool:=fun ρ=>Zp (f ρ) λd=>match d with | .bl b=>ZJ b | _=>ZS
theorem ZdQ (h:ZF f ρ s=some (b,s')):f ρ s=some (.bl b,s'):=by
 obtain⟨d,s1,a1,a2⟩:=Zy h
 cases d with
 | bl c=>obtain⟨rfl,rfl⟩:=ZM a2;exact a1
 | _=>cases a2
theorem Y2 (ho:Y4 X G (xk op) g)(ha:PD X G r1 a fa)(hb:PD X G r2 b fb)
  (hm:behindInMarks op b=false:=by first | exact ZdI _ | with_unfolding_all rfl):XW X G (.Compare a [op] [b] pos) (ZF (Zc g fa fb)):=by
 obtain⟨r,po,qo⟩:=ho;obtain⟨ta,pa,qa⟩:=ha.drop;obtain⟨tb,pb,qb⟩:=hb.drop;refine⟨_,ZbZ po pa pb hm,fun σ Hf H ρ s c s' Q e1 e2 e3 e4 k=>?_⟩;exact op2D qa qb qo σ Hf H ρ s (.bl c) s' _ e1 e2 e3 (ZdQ e4) λv Hf' H' g1 g2 g3 fz=>⟨c,je.mp g3,k Hf' H' g1 g2⟩
theorem X1 (h:PD X G fr e f)(he:∀whole,isTrue e X.env whole=(do let v<-whole;standAt e.pos;holding [v] (truthy v)):=by intro _;rfl):XW X G e (ZF f):=by
 obtain⟨t,p,q⟩:=h;refine⟨_,Zpq p he,fun σ Hf H ρ s c s' Q e1 e2 e3 e4 k=>?_⟩;exact q σ Hf H ρ s (.bl c) s' _ e1 e2 e3 (ZdQ e4) λv Hf' H' g1 g2 g3 fz=>⟨c,je.mp g3,k Hf' H' g1 g2⟩
noncomputable def Xx (f:Ze->M Bool):Ze->M Bool:=fun ρ=>Zp (f ρ) λb=>ZJ (!b)
theorem Vz (h:XW X G a f):XW X G (.UnaryOp .Not a pos) (Xx f):=by
 obtain⟨t,p,q⟩:=h;refine⟨_,Zpt p,fun σ Hf H ρ s c s' Q e1 e2 e3 e4 k=>?_⟩;obtain⟨b,s1,a1,a2⟩:=Zy e4;obtain⟨rfl,rfl⟩:=ZM a2;exact q σ Hf H ρ s b s' _ e1 e2 e3 a1 λHf' H' g1 g2=>k Hf' H' g1 g2
noncomputable def W6 (f g:Ze->M Bool):Ze->M Bool:=fun ρ=>Zp (f ρ) λb=>if b=true then g ρ else ZJ false
noncomputable def Wa (f g:Ze->M Bool):Ze->M Bool:=fun ρ=>Zp (f ρ) λb=>if b=true then ZJ true else g ρ
noncomputable def Wn (X:Cx)(G:Gh)(e:Expr)(f:Ze->M Bool):Prop:=
 ∃t,PW X e t/\∀(σ:St) (Hf H:Hp) (ρ:Ze) (s:Pn) (b:Bool) (s':Pn) (Q:Bool->Hp->Prop),ZC G Hf H->YA G Hf σ ρ->G.st s H->f ρ s=some (b,s')->
  (∀Hf' H',Gr G Hf H Hf' H'->G.st s' H'->Q b H')->t σ H Q
theorem Wn.pt (h:Wn X G e f):XW X G e f:=by
 obtain⟨t,p,q⟩:=h;exact⟨t,p.pt,q⟩
theorem ZgU (h:XW X G a f):Wn X G (.BoolOp .And [a] pos) f:=by
 obtain⟨t,p,q⟩:=h;exact⟨t,Znv p,q⟩
theorem Ju (h:XW X G a f):Wn X G (.BoolOp .Or [a] pos) f:=by
 obtain⟨t,p,q⟩:=h;exact⟨t,Zpr p,q⟩
theorem ZfX {rest:List Expr}(h:XW X G a f)(h2:Wn X G (.BoolOp .And (b::rest) pos) g):Wn X G (.BoolOp .And (a::b::rest) pos) (W6 f g):=by
 obtain⟨t,p,q⟩:=h;obtain⟨u,p2,q2⟩:=h2;refine⟨_,Zps p p2,fun σ Hf H ρ s c s' Q e1 e2 e3 e4 k=>?_⟩;obtain⟨b,s1,a1,a2⟩:=Zy e4;refine q σ Hf H ρ s b s1 _ e1 e2 e3 a1 λjX H1 g1 jY=>?_
 cases b with
 | true=>exact q2 σ jX H1 ρ s1 c s' _ g1.fh (e2.ext g1.ff) jY a2 λj6 H2 g2 j8=>k j6 H2 (g1.trans g2) j8
 | false=>obtain⟨rfl,rfl⟩:=ZM a2;exact k jX H1 g1 jY
theorem Uc {rest:List Expr}(h:XW X G a f)(h2:Wn X G (.BoolOp .Or (b::rest) pos) g):Wn X G (.BoolOp .Or (a::b::rest) pos) (Wa f g):=by
 obtain⟨t,p,q⟩:=h;obtain⟨u,p2,q2⟩:=h2;refine⟨_,ZqC p p2,fun σ Hf H ρ s c s' Q e1 e2 e3 e4 k=>?_⟩;obtain⟨b,s1,a1,a2⟩:=Zy e4;refine q σ Hf H ρ s b s1 _ e1 e2 e3 a1 λjX H1 g1 jY=>?_
 cases b with
 | true=>obtain⟨rfl,rfl⟩:=ZM a2;exact k jX H1 g1 jY
 | false=>exact q2 σ jX H1 ρ s1 c s' _ g1.fh (e2.ext g1.ff) jY a2 λj6 H2 g2 j8=>k j6 H2 (g1.trans g2) j8
noncomputable def Wl (f g:Ze->M D):Ze->M D:=fun ρ=>Zp (f ρ) λd=>match d with | .bl true=>g ρ | .bl false=>ZJ (.bl false) | _=>ZS
noncomputable def V1 (f g:Ze->M D):Ze->M D:=fun ρ=>Zp (f ρ) λd=>match d with | .bl true=>ZJ (.bl true) | .bl false=>g ρ | _=>ZS
noncomputable def JS (f:Ze->M D):Ze->M D:=fun ρ=>Zp (f ρ) λd=>match d with | .bl b=>ZJ (.bl (!b)) | _=>ZS
theorem UO (h:PD X G fr a f):PD X G false (.BoolOp op [a] pos) f:=by
 obtain⟨t,p,q⟩:=h.weak;exact⟨t,Zpu p,q⟩
theorem Bz {rest:List Expr}(h:PD X G r1 a f)(h2:PD X G r2 (.BoolOp .And (b::rest) pos) g):PD X G false (.BoolOp .And (a::b::rest) pos) (Wl f g):=by
 obtain⟨t,p,q⟩:=h.drop;obtain⟨u,p2,q2⟩:=h2.drop;refine⟨_,Zpv p p2,fun σ Hf H ρ s c s' Q e1 e2 e3 e4 k=>?_⟩;obtain⟨d,s1,a1,a2⟩:=Zy e4;refine q σ Hf H ρ s d s1 _ e1 e2 e3 a1 λv jX H1 g1 jY r1=>?_
 cases d with
 | bl b=>
  cases b with
  | true=>exact⟨true,je.mp r1,VW (q2 σ jX H1 ρ s1 c s' _ g1.fh (e2.ext g1.ff) jY a2 λv j6 H2 g2 j8 r2=>k v j6 H2 (g1.trans g2) j8 r2 (λz=>by cases z))⟩
  | false=>obtain⟨rfl,rfl⟩:=ZM a2;exact⟨false,je.mp r1,VV (k _ jX H1 g1 jY (je.mpr rfl) (λz=>by cases z))⟩
 | _=>cases a2
theorem Zo1 {rest:List Expr}(h:PD X G r1 a f)(h2:PD X G r2 (.BoolOp .Or (b::rest) pos) g):PD X G false (.BoolOp .Or (a::b::rest) pos) (V1 f g):=by
 obtain⟨t,p,q⟩:=h.drop;obtain⟨u,p2,q2⟩:=h2.drop;refine⟨_,ZqF p p2,fun σ Hf H ρ s c s' Q e1 e2 e3 e4 k=>?_⟩;obtain⟨d,s1,a1,a2⟩:=Zy e4;refine q σ Hf H ρ s d s1 _ e1 e2 e3 a1 λv jX H1 g1 jY r1=>?_
 cases d with
 | bl b=>
  cases b with
  | false=>exact⟨false,je.mp r1,VV (q2 σ jX H1 ρ s1 c s' _ g1.fh (e2.ext g1.ff) jY a2 λv j6 H2 g2 j8 r2=>k v j6 H2 (g1.trans g2) j8 r2 (λz=>by cases z))⟩
  | true=>obtain⟨rfl,rfl⟩:=ZM a2;exact⟨true,je.mp r1,VW (k _ jX H1 g1 jY (je.mpr rfl) (λz=>by cases z))⟩
 | _=>cases a2
theorem Zin (h:PD X G r1 a f):PD X G true (.UnaryOp .Not a pos) (JS f):=by
 obtain⟨t,p,q⟩:=h.drop;refine⟨_,Zpw p,fun σ Hf H ρ s c s' Q e1 e2 e3 e4 k=>?_⟩;obtain⟨d,s1,a1,a2⟩:=Zy e4;refine q σ Hf H ρ s d s1 _ e1 e2 e3 a1 λv jX H1 g1 jY r1=>?_
 cases d with
 | bl b=>obtain⟨rfl,rfl⟩:=ZM a2;exact⟨b,je.mp r1,k _ jX H1 g1 jY (je.mpr rfl) λ_=>.scal λz=>z⟩
 | _=>cases a2
noncomputable def Vr (c:Ze->M Bool)(f g:Ze->M D):Ze->M D:=fun ρ=>Zp (c ρ) λb=>if b=true then f ρ else g ρ
theorem ZlH (hc:XW X G c fc)(ha:PD X G r1 a f)(hb:PD X G r2 b g):PD X G false (.IfExp c a b pos) (Vr fc f g):=by
 obtain⟨tc,pc,qc⟩:=hc;obtain⟨ta,pa,qa⟩:=ha.drop;obtain⟨tb,pb,qb⟩:=hb.drop;refine⟨_,Zlg pc pa pb,fun σ Hf H ρ s d s' Q e1 e2 e3 e4 k=>?_⟩;obtain⟨b,s1,a1,a2⟩:=Zy e4;refine qc σ Hf H ρ s b s1 _ e1 e2 e3 a1 λjX H1 g1 jY=>?_
 cases b with
 | true=>exact VW (qa σ jX H1 ρ s1 d s' _ g1.fh (e2.ext g1.ff) jY a2 λv j6 H2 g2 j8 r2=>k v j6 H2 (g1.trans g2) j8 r2 (λz=>by cases z))
 | false=>exact VV (qb σ jX H1 ρ s1 d s' _ g1.fh (e2.ext g1.ff) jY a2 λv j6 H2 g2 j8 r2=>k v j6 H2 (g1.trans g2) j8 r2 (λz=>by cases z))
noncomputable def WO (X:Cx)(G:Gh)(f:Value)(g:List D->Option D):Prop:=
 ∃r,Wg X f r/\∀(Hf H:Hp) (s:Pn) (xs:List V) (ds:List D) (c:D) (Q:VK),ZC G Hf H->G.st s H->Zj G Hf ds xs->g ds=some c->
  (∀v Hf' H',Gr G Hf H Hf' H'->G.st s H'->Zo G Hf' c v->YJ G H Hf' c v->Q v H')->r xs H Q
noncomputable def ZO (g:List D->Option D)(fs:Ze->M (List D)):Ze->M D:=fun ρ=>Zp (fs ρ) λds=>YO (g ds)
theorem Xk {id:String}{p pos:Pos}(hc:WO X G (.builtin id) g)(hg:Gl X x)(hm:X.mg x=none)(hv:xj x=some (.builtin id))(ha:Wy X G (e::es) fs)
  (hn:x≠"__name__":=by decide) (hdb:(x==("__debug__" : Str))=false:=by decide)
  (he:xh (e::es) X.env=(false,eval e X.env)::xh es X.env:=by rfl) (hpl:(backTo pos (xh es X.env)).any (·.1)=false:=by rfl):PD X G true (.Call (.Name x p) (e::es) [] pos) (ZO g fs):=by
 obtain⟨r,pr,qr⟩:=hc;obtain⟨t,pa,qa⟩:=ha;refine⟨_,Za4 pr hg hm hv pa hn hdb he hpl,fun σ Hf H ρ s d s' Q e1 e2 e3 e4 k=>?_⟩;obtain⟨ds,s1,a1,a2⟩:=Zy e4;obtain⟨a3,rfl⟩:=Wo a2;refine qa σ Hf H ρ s ds _ _ e1 e2 e3 a1 λvs jX H1 g1 jY r1=>?_;exact qr jX H1 _ vs ds d Q g1.fh jY r1 a3 λv j6 H2 g2 j8 r2 fz=>k v j6 H2 (g1.trans g2) j8 r2 λ_=>jn g1.hh r2.nofp fz
theorem UE {p pos:Pos}(hc:WO X G (.type T) g)(hg:Gl X x)(hm:X.mg x=none)(hv:xj x=some (.type T))(ha:Wy X G (e::es) fs)
  (hn:x≠"__name__":=by decide) (hdb:(x==("__debug__" : Str))=false:=by decide)
  (he:xh (e::es) X.env=(false,eval e X.env)::xh es X.env:=by rfl) (hpl:(backTo pos (xh es X.env)).any (·.1)=false:=by rfl):PD X G true (.Call (.Name x p) (e::es) [] pos) (ZO g fs):=by
 obtain⟨r,pr,qr⟩:=hc;obtain⟨t,pa,qa⟩:=ha;refine⟨_,Zfj pr hg hm hv pa hn hdb he hpl,fun σ Hf H ρ s d s' Q e1 e2 e3 e4 k=>?_⟩;obtain⟨ds,s1,a1,a2⟩:=Zy e4;obtain⟨a3,rfl⟩:=Wo a2;refine qa σ Hf H ρ s ds _ _ e1 e2 e3 a1 λvs jX H1 g1 jY r1=>?_;exact qr jX H1 _ vs ds d Q g1.fh jY r1 a3 λv j6 H2 g2 j8 r2 fz=>k v j6 H2 (g1.trans g2) j8 r2 λ_=>jn g1.hh r2.nofp fz
noncomputable def IxD (X:Cx)(G:Gh)(g:D->D->Option D):Prop:=
 ∃r,Ja X r/\∀(Hf H:Hp) (s:Pn) (x y:V) (d e c:D) (Q:VK),ZC G Hf H->G.st s H->Zo G Hf d x->Zo G Hf e y->g d e=some c->
  (∀v,Zo G Hf c v->Q v H)->r x y H Q
theorem ZD (ho:IxD X G g)(ha:PD X G r1 a fa)(hb:PD X G r2 b fb)(hs:ZfT b:=by intro _ _;rfl):PD X G false (.Subscript a b pos) (Zc g fa fb):=by
 obtain⟨r,po,qo⟩:=ho;obtain⟨ta,pa,qa⟩:=ha.drop;obtain⟨tb,pb,qb⟩:=hb.drop;refine⟨_,W0 po pa pb hs,fun σ Hf H ρ s d s' Q e1 e2 e3 e4 k=>?_⟩;obtain⟨da,s1,a1,a2⟩:=Zy e4;obtain⟨db,s2,a3,a4⟩:=Zy a2;obtain⟨a5,rfl⟩:=Wo a4;refine qa σ Hf H ρ s da s1 _ e1 e2 e3 a1 λx jX H1 g1 jY r1=>?_;refine qb σ jX H1 ρ s1 db _ _ g1.fh (e2.ext g1.ff) jY a3 λy j6 H2 g2 j8 r2=>?_;exact qo j6 H2 _ x y da db d Q g2.fh j8 (r1.ext g2.ff) r2 a5 λv r3=>k v j6 H2 (g1.trans g2) j8 r3 (λz=>by cases z)
noncomputable def Yf (n:Nat)(fr:Bool)(GG:Gh->Prop)(F:List D->M D):Sp:=λvs H Q _=>∃(G:Gh) (Hf:Hp) (ds:List D) (s:Pn) (d:D) (s':Pn),GG G/\vs.length=n/\ZC G Hf H/\Zj G Hf ds vs/\G.st s H/\F ds s=some (d,s')/\
 ∀v Hf' H',Gr G Hf H Hf' H'->G.st s' H'->Zo G Hf' d v->(fr=true->YJ G H Hf' d v)->Q v H'
noncomputable def Zx (F:List D->M D)(fs:Ze->M (List D)):Ze->M D:=fun ρ=>Zp (fs ρ) F
theorem ZnR {p pos:Pos}
  (FN:FnOk X.prog X.w X.K X.mg X.base CX k f fd ps (Yf n fr GG F)) (hG:GG G) (hr:Room k X.A) (hg:Gl X x) (hm:X.mg x=some (.ref f)) (hk:zH X.K (.ref f)=true) (hb:Xb X.K fd ps []) (hx:UM CX X E)
  (ha:Wy X G (e::es) fs) (jV:(e::es).length=n:=by rfl) (hal:∀ρ s ds s',fs ρ s=some (ds,s')->ds.length=(e::es).length)
  (hdb:(x==("__debug__" : Str))=false:=by decide) (he:xh (e::es) X.env=(false,eval e X.env)::xh es X.env:=by rfl) (hpl:(backTo pos (xh es X.env)).any (·.1)=false:=by rfl) :
  PD X G fr (.Call (.Name x p) (e::es) [] pos) (Zx F fs):=by
 obtain⟨t,pa,qa⟩:=ha;refine⟨_,ZnE FN hr hg hm hk hb .nil hx pa hdb he hpl,fun σ Hf H ρ s d s' Q e1 e2 e3 e4 k=>?_⟩;obtain⟨ds,s1,a1,a2⟩:=Zy e4;refine qa σ Hf H ρ s ds _ _ e1 e2 e3 a1 λvs jX H1 g1 jY r1=>?_;refine⟨G,jX,ds,s1,d,s',hG,by rw[zu,<-r1.length,hal _ _ _ _ a1];exact jV,g1.fh,by simp_all,jY,a2,λv j6 H2 g2 j8 r2 fz=>?_⟩;exact k v j6 H2 (g1.trans g2) j8 r2 λz=>jn g1.hh r2.nofp (fz z)
theorem YI (h:∀ρ s ds s',g ρ s=some (ds,s')->ds.length=n):∀ρ s ds s',Zb f g ρ s=some (ds,s')->ds.length=n+1:=fun ρ s ds s' q=>by
 obtain⟨d,s1,a1,a2⟩:=Zy q;obtain⟨r,s2,a3,a4⟩:=Zy a2;obtain⟨rfl,rfl⟩:=ZM a4;simp[h _ _ _ _ a3]
theorem WB:∀ρ s ds s',Zf ρ s=some (ds,s')->ds.length=0:=fun ρ s ds s' q=>by
 obtain⟨rfl,rfl⟩:=ZM q;rfl
end
mutual
noncomputable def XR:D->Bool
 | .tup ds=>BA ds
 | .lst _=>false
 | .dk _=>false
 | .dt _=>false
 | .du _=>false
 | .df _=>false
 | .clo _ _=>false
 | _=>true
noncomputable def BA:List D->Bool
 | []=>true
 | d::ds=>XR d&&BA ds
end
mutual
theorem Zo.only {G:Gh}{H H':Hp}(e:∀b vs,¬G.fp b->H b=some (.tup vs)->H' b=some (.tup vs)):∀{d:D} {v:V},XR d=true->Zo G H d v->Zo G H' d v
 | .non,_,_,h=>h
 | .bl _,_,_,h=>h
 | .int _,_,_,h=>h
 | .str _,_,_,h=>h
 | .tup ds,v,n,h=>by
  obtain⟨a,vs,e1,nf,e2,r⟩:=jc.mp h;exact jc.mpr ⟨a,vs,e1,nf,e _ _ nf e2,Zj.only e (by simpa[XR]using n) r⟩
 | .lst ds,v,n,h=>by simp[XR]at n
 | .dk kvs,v,n,h=>by simp[XR]at n
 | .dt kvs,v,n,h=>by simp[XR]at n
 | .du kvs,v,n,h=>by simp[XR]at n
 | .df kvs,v,n,h=>by simp[XR]at n
 | .pen,_,_,h=>h
 | .ty _,_,_,h=>h
 | .clo _ _,v,n,h=>by simp[XR]at n
theorem Zj.only {G:Gh}{H H':Hp}(e:∀b vs,¬G.fp b->H b=some (.tup vs)->H' b=some (.tup vs)):∀{ds:List D} {vs:List V},BA ds=true->Zj G H ds vs->Zj G H' ds vs
 | [],_,_,h=>h
 | d::ds,vs,n,h=>by
  obtain⟨v,r,e1,r1,r2⟩:=jd.mp h;have n':XR d=true/\BA ds=true:=by simpa[BA]using n
  exact jd.mpr ⟨v,r,e1,Zo.only e n'.1 r1,Zj.only e n'.2 r2⟩
end
noncomputable def Ud (G:Gh)(Hf H:Hp)(a:Addr):D->Prop
 | .lst ds=>∃vs,H a=some (.lst vs)/\Zj G Hf ds vs
 | .dk kvs=>H a=some (.dK kvs)
 | .dt kvs=>∃o,H a=some (.frz o (.dT kvs))
 | .du kvs=>H a=some (.dT kvs)
 | _=>False
theorem Ud.there (h:Ud G Hf H a d):∃o,H a=some o/\∀vs,o≠.tup vs:=by
 cases d with
 | lst ds=>obtain⟨vs,e,_⟩:=h;simp_all
 | dk kvs=>exact⟨_,h,λ_ z=>by cases z⟩
 | dt kvs=>obtain⟨o,h⟩:=h;simp_all
 | du kvs=>exact⟨_,h,λ_ z=>by cases z⟩
 | _=>exact h.elim
theorem Ud.keep (h:Ud G Hf H a d)(e:ZC G Hf Hf')(ha:∀o,H a=some o->H' a=some o):Ud G Hf' H' a d:=by
 cases d with
 | lst ds=>obtain⟨vs,q,r⟩:=h;exact⟨vs,ha _ q,r.ext e⟩
 | dk kvs=>exact ha _ h
 | dt kvs=>obtain⟨o,h⟩:=h;exact⟨o,ha _ h⟩
 | du kvs=>exact ha _ h
 | _=>exact h.elim
theorem Ud.rep (h:Ud G Hf H a d)(nf:¬G.fp a)(e:ZC G Hf Hf')(ha:∀o,H a=some o->Hf' a=some o):Zo G Hf' d (.ref a):=by
 cases d with
 | lst ds=>obtain⟨vs,q,r⟩:=h;exact jb.mpr ⟨a,vs,rfl,nf,ha _ q,r.ext e⟩
 | dk kvs=>exact jk.mpr ⟨a,rfl,nf,ha _ h⟩
 | dt kvs=>obtain⟨o,h⟩:=h;exact jl.mpr ⟨a,o,rfl,nf,ha _ h⟩
 | du kvs=>exact jm.mpr ⟨a,rfl,nf,ha _ h⟩
 | _=>exact h.elim
structure Jf (G:Gh)(own:List Nat)(kn jT H0:Hp)(σ:St)(Hf H:Hp)(ρ:Ze):Prop where
 len:σ.length=ρ.length
 kn:ZC G kn Hf
 gr:Gr G jT H0 Hf H
 fz:∀(i:Nat) (d:D),i∉own->ρ[i]?=some (some d)->∃v,σ[i]?=some (some v)/\Zo G Hf d v
 ow:∀(i:Nat) (d:D),i∈own->ρ[i]?=some (some d)->∃a,σ[i]?=some (some (.ref a))/\¬G.rd a/\Hf a=none/\H0 a=none/\Ud G Hf H a d
 ne:∀(i j:Nat) (a:Addr) (di dj:D),i∈own->j∈own->i≠j->ρ[i]?=some (some di)->ρ[j]?=some (some dj)->σ[i]?=some (some (.ref a))->σ[j]?=some (some (.ref a))->False
noncomputable def J (G:Gh)(own:List Nat)(kn jT H0:Hp)(σ:St)(H:Hp)(ρ:Ze):Prop:=∃Hf,Jf G own kn jT H0 σ Hf H ρ
noncomputable def Yg (own:List Nat)(ρ:Ze):Ze:=ρ.mapIdx λi o=>if i∈own then none else o
theorem Zb1 (ρ:Ze):Yg [] ρ=ρ:=by
 unfold Yg;apply qbc;simp
theorem ZlI (h:(Yg own ρ)[i]?=some (some d)):i∉own/\ρ[i]?=some (some d):=by
 unfold Yg at h;simp_all
section
variable {X:Cx}{G:Gh}{own:List Nat}{kn jT H0 Hf H:Hp}{σ:St}{ρ:Ze}
theorem Jf.envA (j:Jf G own kn jT H0 σ Hf H ρ):YA G Hf σ (Yg own ρ):=λi d e=>by
 obtain⟨n,q⟩:=ZlI e;exact j.fz i d n q
theorem jv (h:¬G.rd a):¬G.fp a:=λz=>h (G.sub a z)
theorem Jf.grow (j:Jf G own kn jT H0 σ Hf H ρ)(g:Gr G Hf H Hf' H'):Jf G own kn jT H0 σ Hf' H' ρ where
 len:=j.len
 kn:=j.kn.trans g.ff
 gr:=j.gr.trans g
 fz:=λi d n e=>let ⟨v,a,b⟩:=j.fz i d n e;⟨v,a,b.ext g.ff⟩
 ow:=λi d m e=>by
  obtain⟨a,h1,h2,h3,h4,h5⟩:=j.ow i d m e;have nf:=jv h2;refine⟨a,h1,h2,?_,h4,h5.keep g.ff λo q=>g.hh a o nf q⟩;exact g.nw a nf h3 h5.there
 ne:=j.ne
noncomputable def VY (jT H0 H:Hp):Hp:=λb=>open Classical in if jT b=none/\Nt (H0 b)then none else H b
theorem Jq:ZC G (VY jT H0 H) H:=λb o _ e=>by
 unfold VY at e
 grind
theorem Jf.wideF (j:Jf G own kn jT H0 σ Hf H ρ):ZC G Hf (VY jT H0 H):=λb o n e=>by
 unfold VY;split
 ·rename_i h
  rw[j.gr.nw b n h.1 h.2]at e;cases e
 ·exact j.gr.fh b o n e
theorem Jf.envB (j:Jf G own kn jT H0 σ Hf H ρ):YA G (VY jT H0 H) σ ρ:=λi d e=>by
 by_cases m:i∈own
 ·obtain⟨a,h1,h2,h3,h4,h5⟩:=j.ow i d m e
  refine⟨_,h1,h5.rep (jv h2) j.wideF λo q=>?_⟩;unfold VY;rw[if_neg (λz=>z.2.no h4)];exact q
 ·obtain⟨v,h1,h2⟩:=j.fz i d m e
  exact⟨v,h1,h2.ext j.wideF⟩
theorem Jf.grW (j:Jf G own kn jT H0 σ Hf H ρ)(g:Gr G (VY jT H0 H) H Hf' H'):Gr G jT H0 Hf' H' where
 hh:=j.gr.hh.trans g.hh
 ff:=λb o n e=>g.ff b o n (j.wideF b o n (j.gr.ff b o n e))
 fh:=g.fh
 nw:=λb n h1 h2=>g.nw b n (by unfold VY;simp_all) (let ⟨u,e,nt⟩:=h2;⟨u,j.gr.hh b u n e,nt⟩)
noncomputable def okB:D->Bool
 | .lst ds=>BA ds
 | .dk _=>true
 | .dt _=>true
 | .du _=>true
 | _=>false
theorem ZnS (h:okB d=true):JK d:=by
 cases d <;> first | trivial | (rfl)
theorem Jf.growB (j:Jf G own kn jT H0 σ Hf H ρ)(g:Gr G (VY jT H0 H) H Hf' H') :
  ∃Hf'',Jf G own kn jT H0 σ Hf'' H' ρ/\ZC G Hf Hf''/\(∀d v,XR d=true->Zo G Hf' d v->Zo G Hf'' d v)/\∀d v,okB d=true->YJ G H Hf' d v->Zo G Hf' d v->Zo G Hf'' d v/\YJ G H Hf'' d v:=by
 classical
 -- the owned addresses are left out again
 let OA:Addr->Prop:=λb=>∃i d,i∈own/\ρ[i]?=some (some d)/\σ[i]?=some (some (.ref b))
 have oaH:∀b,OA b->Hf b=none/\¬G.rd b/\∃o,H b=some o/\∀vs,o≠.tup vs:=λb ⟨i,d,m,e,q⟩=>by
  obtain⟨a,h1,h2,h3,h4,h5⟩:=j.ow i d m e;rw[q]at h1;cases h1;exact⟨h3,h2,h5.there⟩
 have W:=j.grW g;refine⟨λb=>if OA b then none else Hf' b,?_⟩;have fF:ZC G Hf (λb=>if OA b then none else Hf' b):=λb o n e=>by
  have:¬OA b:=λz=>by rw[(oaH b z).1]at e;cases e
  show(if OA b then none else Hf' b)=_;rw[if_neg this];exact g.ff b o n (j.wideF b o n e)
 have Fh:ZC G (λb=>if OA b then none else Hf' b) H':=λb o n e=>by
  have e':(if OA b then none else Hf' b)=some o:=e;split at e'
  ·cases e'
  ·exact g.fh b o n e'
 have tupK:∀b vs,¬G.fp b->Hf' b=some (.tup vs)->(if OA b then none else Hf' b)=some (.tup vs):=λb vs nf e=>by
  have:¬OA b:=λz=>by
   obtain⟨_,_,o,q,nt⟩:=oaH b z;have q1:=g.hh b o nf q;have q2:=g.fh b _ nf e;rw[q1]at q2;exact nt vs (zS q2)
  rw[if_neg this];exact e
 have frK:∀a,H a=none->¬OA a:=λa e z=>by
  obtain⟨_,_,o,q,nt⟩:=oaH a z;rw[e]at q;cases q
 refine⟨⟨j.len,j.kn.trans fF,⟨W.hh,j.gr.ff.trans fF,Fh,λb n h1 h2=>?_⟩,λi d n e=>?_,λi d m e=>?_,j.ne⟩,fF,λd v n r=>Zo.only tupK n r,λd v ok fr r=>?_⟩
 ·show(if OA b then none else Hf' b)=none
  split
  ·rfl
  ·exact W.nw b n h1 h2
 ·obtain⟨v,a,b⟩:=j.fz i d n e
  exact⟨v,a,b.ext fF⟩
 ·obtain⟨a,h1,h2,h3,h4,h5⟩:=j.ow i d m e
  refine⟨a,h1,h2,?_,h4,h5.keep fF λo q=>g.hh a o (jv h2) q⟩;show(if OA a then none else Hf' a)=none;rw[if_pos ⟨i,d,m,e,h1⟩]
 ·cases d with
  | lst ds=>
   obtain⟨a,vs,e,n,q,r'⟩:=jb.mp r;have na:=frK a (fr a e trivial).1;have ea:(if OA a then none else Hf' a)=some (.lst vs):=by rw[if_neg na];exact q
   refine⟨jb.mpr ⟨a,vs,e,n,ea,Zj.only tupK ok r'⟩,λb eb m=>?_⟩;rw[e]at eb;cases eb;refine⟨(fr a e trivial).1,λds' ed=>?_⟩
   cases ed
   refine⟨vs,λb=>if b=a then none else if OA b then none else Hf' b,ea,if_pos rfl,λb o nb eb=>?_,?_⟩
   ·have eb':(if b=a then none else if OA b then none else Hf' b)=some o:=eb
    split at eb'
    ·cases eb'
    ·exact eb'
   ·refine Zj.only (λb ws nb eb=>?_) ok r'
    have hba:b≠a:=λz=>by rw[z,q]at eb;cases eb
    show(if b=a then none else if OA b then none else Hf' b)=_;rw[if_neg hba];exact tupK b ws nb eb
  | dk ds=>
   obtain⟨a,e,n,q⟩:=jk.mp r;have na:=frK a (fr a e trivial).1;refine⟨jk.mpr ⟨a,e,n,?_⟩,λb eb m=>⟨(fr b eb m).1,λds' ed=>by cases ed⟩⟩;show(if OA a then none else Hf' a)=_;rw[if_neg na];exact q
  | dt ds=>
   obtain⟨a,o,e,n,q⟩:=jl.mp r;have na:=frK a (fr a e trivial).1;refine⟨jl.mpr ⟨a,o,e,n,?_⟩,λb eb m=>⟨(fr b eb m).1,λds' ed=>by cases ed⟩⟩;simp_all
  | du ds=>
   obtain⟨a,e,n,q⟩:=jm.mp r;have na:=frK a (fr a e trivial).1;refine⟨jm.mpr ⟨a,e,n,?_⟩,λb eb m=>⟨(fr b eb m).1,λds' ed=>by cases ed⟩⟩;simp_all
  | _=>exact absurd (ZnS ok) (λz=>z)
theorem Jf.set (j:Jf G own kn jT H0 σ Hf H ρ)(ho:∀k,k∈own'->k≠i/\k∈own)(hk:∀k,k∈own->k≠i->k∈own')(r:Zo G Hf d v):Jf G own' kn jT H0 (σ.set i (some v)) Hf H (ρ.set i (some d)) where
 len:=by simp[j.len]
 kn:=j.kn
 gr:=j.gr
 fz:=λk c n e=>by
  by_cases h:i=k
  ·subst h
   have hl:i < ρ.length:=by
    have:=(qC.mp e).1;simp_all
   rw[qU hl]at e
   cases e
   exact⟨v,qU (by rw[j.len];exact hl),r⟩
  ·rw[qD h]at e⊢
   exact j.fz k c (λz=>n (hk k z (qJ h))) e
 ow:=λk c m e=>by
  have h:=qJ (ho k m).1;rw[qD h]at e⊢;exact j.ow k c (ho k m).2 e
 ne:=λk l a dk dl mk ml n ek el sk sl=>by
  have h:=qJ (ho k mk).1;have h':=qJ (ho l ml).1;rw[qD h]at ek sk;rw[qD h']at el sl;exact j.ne k l a dk dl (ho k mk).2 (ho l ml).2 n ek el sk sl
noncomputable def JC:D->Bool
 | .lst _=>true
 | .dk _=>true
 | .dt _=>true
 | .du _=>true
 | _=>false
theorem Zio (h:JC d=true):JK d:=by
 cases d <;> first | trivial | (rfl)
theorem Jf.setOwn (j0:Jf G own kn jT H0 σ Hq Hb ρ)(j:Jf G own kn jT H0 σ Hf H ρ)(ho:∀k,k∈own'↔k=i∨k∈own)(st:G.st s Hb)(hb:ZC G Hb H)(hq:ZC G Hq Hf)
  (r:Zo G Hf d v) (fr:YJ G Hb Hf d v) (ok:JC d=true):∃Hf',Jf G own' kn jT H0 (σ.set i (some v)) Hf' H (ρ.set i (some d)):=by
 classical
 have mu:=Zio ok;obtain⟨a,ea,nfa⟩:∃a,v=.ref a/\¬G.fp a:=by
  cases d with
  | lst ds=>obtain⟨a,vs,e,n,_⟩:=jb.mp r;exact⟨a,e,n⟩
  | dk ds=>obtain⟨a,e,n,_⟩:=jk.mp r;exact⟨a,e,n⟩
  | dt ds=>obtain⟨a,_,e,n,_⟩:=jl.mp r;exact⟨a,e,n⟩
  | du ds=>obtain⟨a,e,n,_⟩:=jm.mp r;exact⟨a,e,n⟩
  | _=>exact mu.elim
 subst ea;have fra:Hb a=none:=(fr a rfl mu).1;have hqa:Hq a=none:=by
  cases e:Hq a with
  | none=>rfl
  | some o=>rw[j0.gr.fh a o nfa e]at fra;cases fra
 have h0a:H0 a=none:=by
  cases e:H0 a with
  | none=>rfl
  | some o=>rw[j0.gr.hh a o nfa e]at fra;cases fra
 have qF:ZC G Hq (λb=>if b=a then none else Hf b):=λb o n e=>by
  have:b≠a:=λz=>by rw[z,hqa]at e;cases e
  show(if b=a then none else Hf b)=_;rw[if_neg this];exact hq b o n e
 have oldA:∀k c,k∈own->ρ[k]?=some (some c)->σ[k]?≠some (some (.ref a)):=λk c m e z=>by
  obtain⟨b,h1,_,_,_,h5⟩:=j0.ow k c m e;rw[z]at h1;cases h1;obtain⟨o,q,_⟩:=h5.there;rw[fra]at q;cases q
 refine⟨λb=>if b=a then none else Hf b,by simp[j.len],j0.kn.trans qF,⟨j.gr.hh,j0.gr.ff.trans qF,λb o n e=>?_,λb n h1 h2=>?_⟩,λk c n e=>?_,λk c m e=>?_,λk l b dk dl mk ml n ek el sk sl=>?_⟩
 ·have e':(if b=a then none else Hf b)=some o:=e
  split at e'
  ·cases e'
  ·exact j.gr.fh b o n e'
 ·show(if b=a then none else Hf b)=none
  split
  ·rfl
  ·exact j.gr.nw b n h1 h2
 ·have h:i≠k:=λz=>n ((ho k).mpr (.inl z.symm))
  rw[qD h]at e⊢;obtain⟨v,q1,q2⟩:=j0.fz k c (λz=>n ((ho k).mpr (.inr z))) e;exact⟨v,q1,q2.ext qF⟩
 ·by_cases h:i=k
  ·subst h
   have hl:i < ρ.length:=by
    have:=(qC.mp e).1;simpa using this
   rw[qU hl]at e
   cases e
   refine⟨a,qU (by rw[j.len];exact hl),ju st fra,by show(if a=a then none else Hf a)=none;rw[if_pos rfl],h0a,?_⟩
   cases d with
   | lst ds=>
    obtain⟨a',vs,e',n',q',r'⟩:=jb.mp r
    cases e'
    obtain⟨ws,Hm,f1,f2,f3,f4⟩:=(fr a rfl mu).2 ds rfl;rw[q']at f1;cases f1;refine⟨vs,j.gr.fh a _ n' q',f4.ext λb o nb eb=>?_⟩;have:b≠a:=λz=>by rw[z,f2]at eb;cases eb
    show(if b=a then none else Hf b)=_;rw[if_neg this];exact f3 b o nb eb
   | dk ds=>obtain⟨a',e',n',q'⟩:=jk.mp r;cases e';exact j.gr.fh a _ n' q'
   | dt ds=>obtain⟨a',o',e',n',q'⟩:=jl.mp r;cases e';exact⟨o',j.gr.fh a _ n' q'⟩
   | du ds=>obtain⟨a',e',n',q'⟩:=jm.mp r;cases e';exact j.gr.fh a _ n' q'
   | _=>exact mu.elim
  ·have m':k∈own:=((ho k).mp m).resolve_left (qJ h)
   rw[qD h]at e⊢;obtain⟨b,h1,h2,h3,h4,h5⟩:=j0.ow k c m' e;obtain⟨b',g1,g2,g3,g4,g5⟩:=j.ow k c m' e;rw[h1]at g1;cases g1;refine⟨b,h1,h2,?_,h4,h5.keep qF λo q=>hb b o (jv h2) q⟩;show(if b=a then none else Hf b)=none;split
   ·rfl
   ·exact g3
 ·by_cases hk:i=k
  ·subst hk
   have h':i≠l:=n;have hl:i < σ.length:=by
    have:=(qC.mp sk).1;simpa using this
   rw[qU hl]at sk
   cases sk
   rw[qD h']at el sl;exact oldA l dl (((ho l).mp ml).resolve_left (qJ h')) el sl
  ·by_cases hl':i=l
   ·subst hl'
    have hl:i < σ.length:=by
     have:=(qC.mp sl).1;simp_all
    simp_all
   ·rw[qD hk]at ek sk
    rw[qD hl']at el sl;exact j.ne k l b dk dl (((ho k).mp mk).resolve_left (qJ hk)) (((ho l).mp ml).resolve_left (qJ hl')) n ek el sk sl
theorem Jf.freeze (j:Jf G own kn jT H0 σ Hf H ρ)(ho:∀k,k∈own'->k∈own):∃Hf',Jf G own' kn jT H0 σ Hf' H ρ:=by
 classical
 let OA:Addr->Prop:=λb=>∃i d,i∈own/\i∉own'/\ρ[i]?=some (some d)/\σ[i]?=some (some (.ref b))
 have oaH:∀b,OA b->Hf b=none/\H0 b=none:=λb ⟨i,d,m,_,e,q⟩=>by
  obtain⟨a,h1,h2,h3,h4,h5⟩:=j.ow i d m e;rw[q]at h1;cases h1;exact⟨h3,h4⟩
 have fF:ZC G Hf (λb=>if OA b then H b else Hf b):=λb o n e=>by
  have:¬OA b:=λz=>by rw[(oaH b z).1]at e;cases e
  show(if OA b then H b else Hf b)=_;rw[if_neg this];exact e
 refine⟨λb=>if OA b then H b else Hf b,j.len,j.kn.trans fF,⟨j.gr.hh,j.gr.ff.trans fF,λb o n e=>?_,λb n h1 h2=>?_⟩,λk c n e=>?_,λk c m e=>?_,λk l b dk dl mk ml=>j.ne k l b dk dl (ho k mk) (ho l ml)⟩
 ·have e':(if OA b then H b else Hf b)=some o:=e
  split at e'
  ·exact e'
  ·exact j.gr.fh b o n e'
 ·have:=λz=>h2.no (oaH b z).2
  rw[if_neg this];exact j.gr.nw b n h1 h2
 ·by_cases m:k∈own
  ·obtain⟨a,h1,h2,h3,h4,h5⟩:=j.ow k c m e
   refine⟨_,h1,h5.rep (jv h2) fF λo q=>?_⟩;rw[if_pos ⟨k,c,m,n,e,h1⟩];exact q
  ·obtain⟨v,h1,h2⟩:=j.fz k c m e
   exact⟨v,h1,h2.ext fF⟩
 ·obtain⟨a,h1,h2,h3,h4,h5⟩:=j.ow k c (ho k m) e
  refine⟨a,h1,h2,?_,h4,h5.keep fF λo q=>q⟩;have:¬OA a:=λ⟨i,d,mi,ni,ei,qi⟩=>j.ne i k a d c mi (ho k m) (λz=>ni (z▸m)) ei e qi h1;simp_all
end
theorem Jf.setF {kn:Hp}(j:Jf G own kn jT H0 σ Hf H ρ)(hi:i∉own)(r:Zo G Hf d v):Jf G own kn jT H0 (σ.set i (some v)) Hf H (ρ.set i (some d)):=
 j.set (λk m=>⟨λz=>hi (by simp_all),m⟩) (λk m _=>m) r
noncomputable def WI (G:Gh)(fr:Bool)(t:TE)(f:Ze->M D):Prop:=
 ∀(σ:St) (Hf H:Hp) (ρ:Ze) (s:Pn) (d:D) (s':Pn) (Q:VK),ZC G Hf H->YA G Hf σ ρ->G.st s H->f ρ s=some (d,s')->
  (∀v Hf' H',Gr G Hf H Hf' H'->G.st s' H'->Zo G Hf' d v->(fr=true->YJ G H Hf' d v)->Q v H')->t σ H Q
noncomputable def JT (G:Gh)(own:List Nat)(fr:Bool)(t:TE)(f:Ze->M D):Prop:=
 ∀(kn jT H0:Hp) (σ:St) (Hf H:Hp) (ρ:Ze) (s:Pn) (d:D) (s':Pn) (Q:VK),Jf G own kn jT H0 σ Hf H ρ->G.st s H->f ρ s=some (d,s')->
  (∀v Hf' H',Jf G own kn jT H0 σ Hf' H' ρ->ZC G Hf Hf'->ZC G H H'->G.st s' H'->Zo G Hf' d v->(fr=true->YJ G H Hf' d v)->Q v H')->t σ H Q
section
variable {X:Cx}{G:Gh}{own:List Nat}{fr:Bool}{t:TE}{f:Ze->M D}
theorem WI.a (h:WI G fr t f):JT G own fr t (fun ρ=>f (Yg own ρ)):=λkn jT H0 σ Hf H ρ s d s' Q j st e k=>
 h σ Hf H (Yg own ρ) s d s' Q j.gr.fh j.envA st e λv Hf' H' g st' r fz=>k v Hf' H' (j.grow g) g.ff g.hh st' r fz
theorem WI.n (h:WI G fr t f):JT G [] fr t f:=λkn jT H0 σ Hf H ρ s d s' Q j st e k=>
 h.a kn jT H0 σ Hf H ρ s d s' Q j st (by show f (Yg [] ρ) s=_;rw[Zb1];exact e) k
inductive Out where
 | nx (ρ:Ze) | rt (d:D) | bk (ρ:Ze) | ct (ρ:Ze)
noncomputable def Post (G:Gh)(ob own':List Nat)(kn jT H0:Hp)(fr:Bool)(out:Out)(s':Pn)(E:Ends):Prop:=match out with
 | .nx ρ=>∀σ H,J G own' kn jT H0 σ H ρ->G.st s' H->E.nx σ H
 | .bk ρ=>∀σ H,J G ob kn jT H0 σ H ρ->G.st s' H->E.bk σ H
 | .ct ρ=>∀σ H,J G ob kn jT H0 σ H ρ->G.st s' H->E.ct σ H
 | .rt d=>∀v Hf' H',Gr G jT H0 Hf' H'->G.st s' H'->Zo G Hf' d v->(fr=true->YJ G H0 Hf' d v)->E.rt v H'
noncomputable def Dos (G:Gh)(ob own own':List Nat)(fr:Bool)(t:TS)(g:Ze->M Out):Prop:=
 ∀(kn jT H0:Hp) (σ:St) (H:Hp) (ρ:Ze) (s:Pn) (out:Out) (s':Pn) (E:Ends),J G own kn jT H0 σ H ρ->G.st s H->g ρ s=some (out,s')->Post G ob own' kn jT H0 fr out s' E->t E σ H
noncomputable def YS (X:Cx)(G:Gh)(ob own own':List Nat)(fr:Bool)(st:Stmt)(g:Ze->M Out):Prop:=∃t,PS X st t/\Dos G ob own own' fr t g
noncomputable def X6 (X:Cx)(G:Gh)(ob own own':List Nat)(fr:Bool)(sts:List Stmt)(g:Ze->M Out):Prop:=∃t,XV X sts t/\Dos G ob own own' fr t g
variable {ob own' own2:List Nat}
theorem YS.frz {st:Stmt}(h:YS X G ob own2 own' fr st g)(hs:∀k,k∈own2->k∈own:=by decide):YS X G ob own own' fr st g:=by
 obtain⟨t,p,q⟩:=h;exact⟨t,p,λkn jT H0 σ H ρ s out s' E ⟨Hf,j⟩ st e po=>q kn jT H0 σ H ρ s out s' E (j.freeze hs) st e po⟩
noncomputable def Zq:Ze->M Out:=fun ρ=>ZJ (.nx ρ)
noncomputable def Zh (g1 g2:Ze->M Out):Ze->M Out:=fun ρ=>Zp (g1 ρ) λo=>match o with | .nx ρ'=>g2 ρ' | .rt d=>ZJ (.rt d) | .bk ρ'=>ZJ (.bk ρ') | .ct ρ'=>ZJ (.ct ρ')
theorem Ys (hs:∀k,k∈own'->k∈own:=by decide):X6 X G ob own own' fr [] Zq:=⟨_,Zdn,λkn jT H0 σ H ρ s out s' E ⟨Hf,j⟩ st e p=>by
 obtain⟨rfl,rfl⟩:=ZM e;exact p σ H (j.freeze hs) st⟩
theorem Yq {st:Stmt}(h:YS X G ob own own2 fr st g1)(h2:X6 X G ob own2 own' fr sts g2):X6 X G ob own own' fr (st::sts) (Zh g1 g2):=by
 obtain⟨t,p,q⟩:=h;obtain⟨u,p2,q2⟩:=h2;refine⟨_,XZ p p2,λkn jT H0 σ H ρ s out s' E j st e po=>?_⟩;obtain⟨o,s1,a1,a2⟩:=Zy e;refine q kn jT H0 σ H ρ s o s1 _ j st a1 ?_
 cases o with
 | nx ρ1=>exact fun σ1 H1 j1 jY=>q2 kn jT H0 σ1 H1 ρ1 s1 out s' E j1 jY a2 po
 | rt d=>obtain⟨rfl,rfl⟩:=ZM a2;exact po
 | bk ρ1=>obtain⟨rfl,rfl⟩:=ZM a2;exact po
 | ct ρ1=>obtain⟨rfl,rfl⟩:=ZM a2;exact po
noncomputable def ZL (f:Ze->M D):Ze->M Out:=fun ρ=>Zp (f ρ) λd=>ZJ (.rt d)
theorem Ya (h:PD X G fr e f):YS X G ob own own' fr (.Return (some e) pos) (ZL f):=by
 obtain⟨t,p,q⟩:=h;refine⟨_,Zh9 p,λkn jT H0 σ H ρ s out s' E ⟨Hf,j⟩ st e po=>?_⟩;obtain⟨d,s1,a1,a2⟩:=Zy e;obtain⟨rfl,rfl⟩:=ZM a2;exact q σ _ H ρ s d s' _ Jq j.envB st a1 λv Hf' H' g st' r fz=>po v Hf' H' (j.grW g) st' r λz=>jn j.gr.hh r.nofp (fz z)
theorem ZdR (hi:i∈own)(h:PE X (.Name x pos') (Yd i)):YS X G ob own own' true (.Return (some (.Name x pos')) pos) (ZL (Za i)):=by
 refine⟨_,Zh9 h,λkn jT H0 σ H ρ s out s' E ⟨Hf,j⟩ st e po=>?_⟩;obtain⟨d,s1,a1,a2⟩:=Zy e;obtain⟨rfl,rfl⟩:=ZM a2;obtain⟨e1,rfl⟩:=Wo a1;have e':ρ[i]?=some (some d):=by
  cases q:ρ[i]? with
  | none=>simp_all
  | some o=>simp_all
 obtain⟨v,h1,h2⟩:=j.envB i d e';obtain⟨a,g1,g2,g3,g4,g5⟩:=j.ow i d hi e';rw[g1]at h1;cases h1;refine⟨_,g1,po (.ref a) _ H (j.grW (.refl Jq)) st h2 λ_ b eb _=>?_⟩
 cases eb
 refine⟨g4,λds ed=>?_⟩;subst ed;obtain⟨vs,q1,q2⟩:=g5;refine⟨vs,Hf,?_,g3,j.wideF,q2⟩;unfold VY;rw[if_neg (λz=>z.2.no g4)];exact q1
noncomputable def Yx (c:Ze->M Bool)(g1 g2:Ze->M Out):Ze->M Out:=fun ρ=>Zp (c ρ) λb=>if b=true then g1 ρ else g2 ρ
theorem BB (hc:XW X G c fc)(ha:X6 X G ob own own' fr a g1)(hb:X6 X G ob own own' fr b g2):YS X G ob own own' fr (.If c a b pos) (Yx fc g1 g2):=by
 obtain⟨tc,pc,qc⟩:=hc;obtain⟨ta,pa,qa⟩:=ha;obtain⟨tb,pb,qb⟩:=hb;refine⟨_,Zjn pc pa pb,λkn jT H0 σ H ρ s out s' E ⟨Hf,j⟩ st e po=>?_⟩;obtain⟨b,s1,a1,a2⟩:=Zy e;refine qc σ _ H ρ s b s1 _ Jq j.envB st a1 λHf' H' g st'=>?_;obtain⟨F,j',fF,q1,q2⟩:=j.growB g
 cases b with
 | true=>exact VW (qa kn jT H0 σ H' ρ s1 out s' E ⟨F,j'⟩ st' a2 po)
 | false=>exact VV (qb kn jT H0 σ H' ρ s1 out s' E ⟨F,j'⟩ st' a2 po)
noncomputable def JU (X:Cx)(G:Gh)(fr:Bool)(i:Nat)(st:Stmt)(f:Ze->M D):Prop:=∃te,PS X st (λE σ H=>te σ H λy H1=>E.nx (σ.set i (some y)) H1)/\WI G fr te f
theorem Z5 {pos:Pos}(hN:X.N.Nodup)(hi:X.N[i]?=some x)(hx:WR X.env.scope x)(he:PD X G fr e f)(hs:xr e (some (.Name x pos')) pos.line X.env=pure false:=by rfl)
  (hf:X.fn x=true∨X.env.scope.names.lookup x=some .local:=by first | exact .inl rfl | exact .inr rfl | assumption):JU X G fr i (.Assign [.Name x pos'] e pos) f:=by
 obtain⟨t,p,q⟩:=he;exact⟨t,Ub hN hi hx p hs hf,q⟩
noncomputable def ZT (i:Nat)(f:Ze->M D):Ze->M Out:=fun ρ=>Zp (f ρ) λd=>ZJ (.nx (ρ.set i (some d)))
theorem ZgV {st:Stmt}(hp:PS X st (λE σ H=>te σ H λy H1=>E.nx (σ.set i (some y)) H1))(hy:JT G own fr te f)(hi:i∉own):YS X G ob own own fr' st (ZT i f):=
 ⟨_,hp,λkn jT H0 σ H ρ s out s' E ⟨Hf,j⟩ st e po=>by
  obtain⟨d,s1,a1,a2⟩:=Zy e;obtain⟨rfl,rfl⟩:=ZM a2;exact hy kn jT H0 σ Hf H ρ s d s' _ j st a1 λv Hf' H' j' e1 e2 st' r fz=>po _ H' ⟨Hf',j'.setF hi r⟩ st'⟩
theorem Yk {st:Stmt}(h:JU X G fr i st f):YS X G ob [] [] fr' st (ZT i f):=let ⟨_,p,q⟩:=h;ZgV p q.n (by simp)
theorem Za6 {st:Stmt}(h:JU X G fr i st f)(hi:i∉own:=by decide):YS X G ob own own fr' st (ZT i (fun ρ=>f (Yg own ρ))):=let ⟨_,p,q⟩:=h;ZgV p q.a hi
noncomputable def Vo (i:Nat)(f:Ze->M D):Ze->M Out:=fun ρ=>Zp (f ρ) λd=>if JC d=true then ZJ (.nx (ρ.set i (some d)))else ZS
theorem ZgW {st:Stmt}(hp:PS X st (λE σ H=>te σ H λy H1=>E.nx (σ.set i (some y)) H1))(hy:JT G own true te f)(ho:∀k,k∈own'↔k=i∨k∈own):YS X G ob own own' fr' st (Vo i f):=
 ⟨_,hp,λkn jT H0 σ H ρ s out s' E ⟨Hf,j⟩ st e po=>by
  obtain⟨d,s1,a1,a2⟩:=Zy e;obtain⟨ok,a3⟩:=XC a2;obtain⟨rfl,rfl⟩:=ZM a3;exact hy kn jT H0 σ Hf H ρ s d s' _ j st a1 λv Hf' H' j' e1 e2 st' r fz=>po _ H' (j.setOwn j' ho st e2 e1 r (fz rfl) ok) st'⟩
theorem Jr {st:Stmt}(h:JU X G true i st f):YS X G ob [] [i] fr' st (Vo i f):=let ⟨_,p,q⟩:=h;ZgW p q.n (by simp)
theorem ZlJ {st:Stmt}(h:JU X G true i st f)(ho:∀k,k∈own'↔k=i∨k∈own:=by intro k;simp;try omega):YS X G ob own own' fr' st (Vo i (fun ρ=>f (Yg own ρ))):=let ⟨_,p,q⟩:=h;ZgW p q.a ho
noncomputable def VH (i j:Nat)(fs:Ze->M (List D)):Ze->M Out:=fun ρ=>Zp (fs ρ) λds=>match ds with | [a,b]=>if (XR a&&XR b)=true then ZJ (.nx ((ρ.set i (some a)).set j (some b)))else ZS | _=>ZS
theorem Bq (hc:X.calm=true)(hN:X.N.Nodup)(hi:X.N[i]?=some x)(hj:X.N[j]?=some y)(hij:i≠j)(oi:i∉own)(oj:j∉own)
  (hx:X.env.scope.names.lookup x=some .local) (hy:X.env.scope.names.lookup y=some .local) (ha:Wy X G [a,b] fs)
  (hw:swappedStores [.Tuple [.Name x px,.Name y py] kt pt] (.Tuple [a,b] k2 pt2) X.env=pure (some [x,y]))
  (hs:swapsWithSole [.Tuple [.Name x px,.Name y py] kt pt] (.Tuple [a,b] k2 pt2) pos.line X.env=pure false:=by rfl) :
  YS X G ob own own fr (.Assign [.Tuple [.Name x px,.Name y py] kt pt] (.Tuple [a,b] k2 pt2) pos) (VH i j fs):=by
 obtain⟨t,p,q⟩:=ha;refine⟨_,Zpy hc hN hi hj hij hx hy p hw hs,λkn jT H0 σ H ρ s out s' E ⟨Hf,j'⟩ st e po=>?_⟩;obtain⟨ds,s1,a1,a2⟩:=Zy e;refine q σ _ H ρ s ds s1 _ Jq j'.envB st a1 λvs Hf' H' g st' r=>?_
 match ds,a2,r with
 | [d1,d2],a2,r=>
  obtain⟨c,a3⟩:=XC a2;obtain⟨rfl,rfl⟩:=ZM a3;obtain⟨c1,c2⟩:=yN.mp c;obtain⟨v1,r1,rfl,q1,q2⟩:=jd.mp r;obtain⟨v2,r2,rfl,q3,q4⟩:=jd.mp q2;rw[Zj.nil_iff.mp q4];obtain⟨F,jF,fF,f1,f2⟩:=j'.growB g;exact⟨v1,v2,rfl,po _ H' ⟨F,(jF.setF oi (f1 _ _ c1 q1)).setF oj (f1 _ _ c2 q3)⟩ st'⟩
 | [],a2,_=>cases a2
 | [_],a2,_=>cases a2
 | _::_::_::_,a2,_=>cases a2
inductive Sets (G:Gh)(Hf:Hp)(ok:Nat->Prop):St->Ze->St->Ze->Prop
 | nil {σ ρ}:Sets G Hf ok σ ρ σ ρ
 | cons {σ ρ σ' ρ'} {i:Nat} {d:D} {v:V}:ok i->Zo G Hf d v->Sets G Hf ok (σ.set i (some v)) (ρ.set i (some d)) σ' ρ'->Sets G Hf ok σ ρ σ' ρ'
noncomputable def VL (X:Cx)(G:Gh)(tg:Expr)(ok:Nat->Prop)(τ:D->Ze->Option Ze):Prop:=
 ∃g,PG X tg g/\∀(x:V) (σ:St) (Hf H:Hp) (d:D) (ρ ρ':Ze) (Q:St->Hp->Prop),ZC G Hf H->Zo G Hf d x->τ d ρ=some ρ'->(∀σ',Sets G Hf ok σ ρ σ' ρ'->Q σ' H)->g x σ H Q
noncomputable def ZI (i:Nat):D->Ze->Option Ze:=λd ρ=>some (ρ.set i (some d))
theorem XD (hN:X.N.Nodup)(hi:X.N[i]?=some x)(hx:WR X.env.scope x)(oi:ok i)(hf:X.fn x=true∨X.env.scope.names.lookup x=some .local:=by first | exact .inl rfl | exact .inr rfl | assumption):VL X G (.Name x pos) ok (ZI i):=
 ⟨_,Vy hN hi hx hf,λx σ Hf H d ρ ρ' Q e r q k=>by
  cases q
  exact k _ (.cons oi r .nil)⟩
noncomputable def US (i j:Nat):D->Ze->Option Ze:=λd ρ=>match d with | .tup [a,b]=>some ((ρ.set i (some a)).set j (some b)) | _=>none
theorem Zb2 {pos px py:Pos}{k:Nat}(hc:X.calm=true)(hN:X.N.Nodup)(hi:X.N[i]?=some x)(hj:X.N[j]?=some y)(hx:WR X.env.scope x)(hy:WR X.env.scope y)(oi:ok i)(oj:ok j)
  (hfx:X.fn x=true∨X.env.scope.names.lookup x=some .local:=by first | exact .inl rfl | exact .inr rfl | assumption) (hfy:X.fn y=true∨X.env.scope.names.lookup y=some .local:=by first | exact .inl rfl | exact .inr rfl | assumption)
  (hn:(assignEach [.Name x px,.Name y py] X.env).length=2:=by rfl) (hst:(assignEach [.Name x px,.Name y py] X.env).findIdx? (·.1)=none:=by rfl)
  (hp:PGs X [.Name x px,.Name y py] (Zlh (BG i) (Zlh (BG j) gNil))):VL X G (.Tuple [.Name x px,.Name y py] k pos) ok (US i j):=
 ⟨_,Zpx hc hp hn hst,λx σ Hf H d ρ ρ' Q e r q k=>by
  match d,q,r with
  | .tup [a,b],q,r=>
   cases q
   obtain⟨ad,vs,rfl,n,h,rl⟩:=jc.mp r;obtain⟨v1,r1,rfl,q1,q2⟩:=jd.mp rl;obtain⟨v2,r2,rfl,q3,q4⟩:=jd.mp q2;have:=Zj.nil_iff.mp q4;subst this;exact⟨ad,_,rfl,Z0.of (e _ _ n h),rfl,v1,_,rfl,v2,_,rfl,rfl,k _ (.cons oi q1 (.cons oj q3 .nil))⟩⟩
theorem Sets.jf (h:Sets G Hf (λi=>i∉own) σ ρ σ' ρ'):Jf G own kn jT H0 σ Hf H ρ->Jf G own kn jT H0 σ' Hf H ρ':=by
 induction h with
 | nil=>simp
 | cons o r _ ih=>exact λj=>ih (j.setF o r)
noncomputable def Ur (G:Gh)(J:It)(Hf':Hp)(ds:List D):Prop:=
 ∀(i:Nat) (j6 H2:Hp) (s:Pn),ZC G Hf' j6->ZC G j6 H2->G.st s H2->
  (∀d,ds[i]?=some d->J.go i H2/\∀x H3,J.yld i H2 x H3->∃Hf3,Gr G j6 H2 Hf3 H3/\G.st s H3/\Zo G Hf3 d x)/\(i=ds.length->J.stop i H2)
noncomputable def XA (X:Cx)(G:Gh)(tg iter:Expr)(f:Ze->M (List D)):Prop:=
 ∃wi,PI X tg iter wi/\∀(σ:St) (Hf H:Hp) (ρ:Ze) (s:Pn) (ds:List D) (s':Pn) (R:It->Hp->Prop),ZC G Hf H->YA G Hf σ ρ->G.st s H->f ρ s=some (ds,s')->
  (∀J Hf' H',Gr G Hf H Hf' H'->G.st s' H'->Ur G J Hf' ds->R J H')->wi σ H R
theorem Ur.range {lo:Int}(e:ds=(qm n).map λ(i:Nat)=>D.int (lo+i)):Ur G (Itr lo n) Hf ds:=λi j6 H2 s e1 e2 st=>by
 subst e;refine⟨λd q=>?_,λq=>by show n<=i;rw[q];simp⟩;have hi:i<n:=by
  have:=(qC.mp q).1;simp_all
 have hd:d=.int (lo+i):=by
  simp_all
 subst hd;refine⟨hi,λx H3 y=>?_⟩;obtain⟨y1,y2⟩:=y;subst y1 y2;exact⟨j6,.refl e2,st,ja.mpr rfl⟩
theorem Ur.list {K:qd}(nf:¬G.fp a)(h:Hf a=some (.lst vs))(r:Zj G Hf ds vs):Ur G (Itl K a) Hf ds:=λi j6 H2 s e1 e2 st=>by
 have h2:ZV K H2 a vs:=ZV.of (e2 _ _ nf (e1 _ _ nf h));refine⟨λd q=>?_,λq=>⟨vs,h2,by rw[q,r.length];simp⟩⟩;obtain⟨v,q1,q2⟩:=r.get q;refine⟨⟨vs,v,h2,q1⟩,λx H3 ⟨y1,y2⟩=>?_⟩;subst y1;have e:=y2 vs h2;rw[q1]at e;cases e;exact⟨j6,.refl e2,st,q2.ext e1⟩
theorem Ur.tup {K:qd}(nf:¬G.fp a)(h:Hf a=some (.tup vs))(r:Zj G Hf ds vs):Ur G (Itt K a) Hf ds:=λi j6 H2 s e1 e2 st=>by
 have h2:Z0 K H2 a vs:=Z0.of (e2 _ _ nf (e1 _ _ nf h));refine⟨λd q=>?_,λq=>⟨vs,h2,by rw[q,r.length];simp⟩⟩;obtain⟨v,q1,q2⟩:=r.get q;refine⟨⟨vs,v,h2,q1⟩,λx H3 ⟨y1,y2⟩=>?_⟩;subst y1;have e:=y2 vs h2;rw[q1]at e;cases e;exact⟨j6,.refl e2,st,q2.ext e1⟩
noncomputable def Yw (lo:Int)(n:Nat):List D:=(qm n).map λ(i:Nat)=>D.int (lo+i)
noncomputable def Yt (f:Ze->M D):Ze->M (List D):=fun ρ=>Zp (f ρ) λd=>match d with | .int j=>if -(2 ^ 62)<=j/\j<2 ^ 62 then ZJ (Yw 0 j.toNat)else ZS | _=>ZS
theorem WK (hg:Gl X "range")(hm:X.mg "range" = none)(ha:PD X G r1 a f)(hs:xh [a] X.env=[(false,eval a X.env)]:=by rfl):XA X G tg (.Call (.Name "range" p) [a] [] pos) (Yt f):=by
 obtain⟨t,pa,qa⟩:=ha.drop;refine⟨_,Zfe hg hm (Xt pa X4 (by rw[hs];rfl)) hs,fun σ Hf H ρ s ds s' R e1 e2 e3 e4 k=>?_⟩;obtain⟨d,s1,a1,a2⟩:=Zy e4
 cases d with
 | int j=>
  obtain⟨c,a3⟩:=XC a2;obtain⟨rfl,rfl⟩:=ZM a3;refine qa σ Hf H ρ s _ _ _ e1 e2 e3 a1 λv jX H1 g st r=>?_;rw[ja.mp r];exact⟨j,rfl,c.1,c.2,k _ jX H1 g st (.range rfl)⟩
 | _=>cases a2
noncomputable def Br (f g:Ze->M D):Ze->M (List D):=fun ρ=>Zp (f ρ) λd=>Zp (g ρ) λe=>match d,e with | .int i,.int j=>if -(2 ^ 62)<=i/\i<2 ^ 62/\-(2 ^ 62)<=j/\j<2 ^ 62 then ZJ (Yw i (j-i).toNat)else ZS | _,_=>ZS
noncomputable def Xv (f:Ze->M D):Ze->M (List D):=fun ρ=>Zp (f ρ) λd=>match d with | .lst ds=>ZJ ds | _=>ZS
noncomputable def Xl (f:Ze->M D):Ze->M (List D):=fun ρ=>Zp (f ρ) λd=>match d with | .tup ds=>ZJ ds | _=>ZS
theorem Vd (hl:PD X G r1 l f):XA X G tg l (Xv f):=by
 obtain⟨t,pa,qa⟩:=hl.drop;refine⟨_,Znw pa,fun σ Hf H ρ s ds s' R e1 e2 e3 e4 k=>?_⟩;obtain⟨d,s1,a1,a2⟩:=Zy e4
 cases d with
 | lst es=>
  obtain⟨rfl,rfl⟩:=ZM a2;refine qa σ Hf H ρ s _ _ _ e1 e2 e3 a1 λv jX H1 g st r=>?_;obtain⟨a,vs,rfl,nf,h,rl⟩:=jb.mp r;exact⟨a,rfl,⟨vs,ZV.of (g.fh _ _ nf h)⟩,k _ jX H1 g st (.list nf h rl)⟩
 | _=>cases a2
theorem VP (hl:PD X G r1 l f):XA X G tg l (Xl f):=by
 obtain⟨t,pa,qa⟩:=hl.drop;refine⟨_,ZpA pa,fun σ Hf H ρ s ds s' R e1 e2 e3 e4 k=>?_⟩;obtain⟨d,s1,a1,a2⟩:=Zy e4
 cases d with
 | tup es=>
  obtain⟨rfl,rfl⟩:=ZM a2;refine qa σ Hf H ρ s _ _ _ e1 e2 e3 a1 λv jX H1 g st r=>?_;obtain⟨a,vs,rfl,nf,h,rl⟩:=jc.mp r;exact⟨a,rfl,⟨vs,Z0.of (g.fh _ _ nf h)⟩,k _ jX H1 g st (.tup nf h rl)⟩
 | _=>cases a2
noncomputable def Wu (τ:D->Ze->Option Ze)(body:Ze->M Out):List D->Ze->M Out
 | [],ρ=>ZJ (.nx ρ)
 | d::ds,ρ=>Zp (YO (τ d ρ)) fun ρ1=>Zp (body ρ1) λo=>match o with | .nx ρ2=>Wu τ body ds ρ2 | .ct ρ2=>Wu τ body ds ρ2 | .bk ρ2=>ZJ (.nx ρ2) | .rt d=>ZJ (.rt d)
noncomputable def Xc (fi:Ze->M (List D))(τ:D->Ze->Option Ze)(body:Ze->M Out):Ze->M Out:=fun ρ=>Zp (fi ρ) λds=>Wu τ body ds ρ
noncomputable def PDIJ (X:Cx)(G:Gh)(own:List Nat)(tg iter:Expr)(f:Ze->M (List D)):Prop:=
 ∃wi,PI X tg iter wi/\∀(kn jT H0:Hp) (σ:St) (Hf H:Hp) (ρ:Ze) (s:Pn) (ds:List D) (s':Pn) (R:It->Hp->Prop),Jf G own kn jT H0 σ Hf H ρ->G.st s H->f ρ s=some (ds,s')->
  (∀J Hf' H',Jf G own kn jT H0 σ Hf' H' ρ->ZC G Hf Hf'->G.st s' H'->Ur G J Hf' ds->R J H')->wi σ H R
theorem XA.a (h:XA X G tg iter fi):PDIJ X G own tg iter (fun ρ=>fi (Yg own ρ)):=by
 obtain⟨wi,p,q⟩:=h;exact⟨wi,p,λkn jT H0 σ Hf H ρ s ds s' R j st e k=>q σ Hf H _ s ds s' R j.gr.fh j.envA st e λJ Hf' H' g st' it=>k J Hf' H' (j.grow g) g.ff st' it⟩
theorem XA.n (h:XA X G tg iter fi):PDIJ X G [] tg iter fi:=by
 obtain⟨wi,p,q⟩:=h.a;exact⟨wi,p,λkn jT H0 σ Hf H ρ s ds s' R j st e k=>q kn jT H0 σ Hf H ρ s ds s' R j st (by show fi (Yg [] ρ) s=_;rw[Zb1];exact e) k⟩
theorem UC (hg:Gl X "range")(hm:X.mg "range" = none)(ha:PD X G r1 a f)(hs:xh [a] X.env=[(false,eval a X.env)]:=by rfl):PDIJ X G own tg (.Call (.Name "range" p) [a] [] pos) (Yt f):=by
 obtain⟨t,pa,qa⟩:=ha.drop;refine⟨_,Zfe hg hm (Xt pa X4 (by rw[hs];rfl)) hs,λkn jT H0 σ Hf H ρ s ds s' R j st e4 k=>?_⟩;obtain⟨d,s1,a1,a2⟩:=Zy e4
 cases d with
 | int i=>
  obtain⟨c,a3⟩:=XC a2;obtain⟨rfl,rfl⟩:=ZM a3;refine qa σ _ H ρ s _ _ _ Jq j.envB st a1 λv jX H1 g st r=>?_;obtain⟨F,j',fF,q1,q2⟩:=j.growB g;rw[ja.mp r];exact⟨i,rfl,c.1,c.2,k _ F H1 j' fF st (.range rfl)⟩
 | _=>cases a2
theorem Za7 {tg:Expr}{p pos:Pos}(hg:Gl X "range")(hm:X.mg "range" = none)(ha:PD X G r1 a f)(hb:PD X G r2 b f2)
  (hs:xh [a,b] X.env=[(false,eval a X.env),(false,eval b X.env)]:=by rfl) (hs2:xh [b] X.env=[(false,eval b X.env)]:=by rfl):PDIJ X G own tg (.Call (.Name "range" p) [a,b] [] pos) (Br f f2):=by
 obtain⟨t,pa,qa⟩:=ha.drop;obtain⟨u,pb,qb⟩:=hb.drop;refine⟨_,Zkb hg hm (Xt pa (Xt pb X4 (by rw[hs2];rfl)) (by rw[hs,hs2])) hs hs2,λkn jT H0 σ Hf H ρ s ds s' R j st e4 k=>?_⟩;obtain⟨d,s1,a1,a2⟩:=Zy e4;obtain⟨d2,s2,a3,a4⟩:=Zy a2
 match d,d2,a4,a1,a3 with
 | .int i,.int l,a4,a1,a3=>
  obtain⟨c,a5⟩:=XC a4;obtain⟨rfl,rfl⟩:=ZM a5;refine qa σ _ H ρ s _ _ _ Jq j.envB st a1 λv jX H1 g st r=>?_;refine qb σ jX H1 ρ s1 _ _ _ g.fh (j.envB.ext g.ff) st a3 λv2 j6 H2 g2 j8 r2=>?_;obtain⟨F,j',fF,q1,q2⟩:=j.growB (g.trans g2);rw[ja.mp r,ja.mp r2];exact⟨i,l,rfl,c,k _ F H2 j' fF j8 (.range rfl)⟩
theorem Jf.weak {kn:Hp}(j:Jf G own kn' jT H0 σ Hf H ρ)(e:ZC G kn kn'):Jf G own kn jT H0 σ Hf H ρ:=⟨j.len,e.trans j.kn,j.gr,j.fz,j.ow,j.ne⟩
theorem XE (hp:PassesOwn (xB X.prog X.w) X.A X.env X.xe)(hc:X.calm=true)(hi:PDIJ X G own tg iter fi)(hg:VL X G tg (λi=>i∉own) τ)(hb:X6 X G own own own fr body g)
  (hs:∀x,foldedSetIterable iter X.env x=pure x:=by intro _;rfl):YS X G ob own own fr (.For tg iter body [] pos) (Xc fi τ g):=by
 obtain⟨wi,pi,qi⟩:=hi;obtain⟨gt,pg,qg⟩:=hg;obtain⟨tb,pb,qb⟩:=hb;refine⟨_,Zlj hp hc pi pg pb hs,λkn jT H0 σ H ρ s out s' E ⟨Hf,j⟩ st e po=>?_⟩;obtain⟨ds,s1,a1,a2⟩:=Zy e;refine qi kn jT H0 σ Hf H ρ s ds s1 _ j st a1 λJt jX H1 j1 e1 jY it=>?_;refine⟨λi m σ2 H2=>∃ρ2 s2,J G own jX jT H0 σ2 H2 ρ2/\G.st s2 H2/\Wu τ g (ds.drop i) ρ2 s2=some (out,s')/\i<=ds.length/\m=ds.length-i,⟨_,ρ,s1,⟨jX,⟨j1.len,.refl _ _,j1.gr,j1.fz,j1.ow,j1.ne⟩⟩,jY,a2,zr _,rfl⟩,?_⟩;rintro i m σ2 H2 ⟨ρ2,s2,⟨j6,j2⟩,j8,eq2,hle,rfl⟩;obtain⟨i1,i2⟩:=it i j6 H2 s2 j2.kn j2.gr.fh j8;by_cases hlt:i<ds.length
 ·have hd:ds.drop i=ds[i]::ds.drop (i+1):=yd hlt
  rw[hd]at eq2;obtain⟨ρ3,s3,b1,b2⟩:=Zy eq2;obtain⟨b1',e3⟩:=Wo b1;subst e3;obtain⟨o,s4,b3,b4⟩:=Zy b2;obtain⟨go,yl⟩:=i1 ds[i] (by simp[hlt]);refine .inr ⟨go,fun σ' H'=>∃ρ5 s5,J G own jX jT H0 σ' H' ρ5/\G.st s5 H'/\Wu τ g (ds.drop (i+1)) ρ5 s5=some (out,s'),fun σ' H' ⟨ρ5,s5,j5,st5,q5⟩=>⟨_,by omega,ρ5,s5,j5,st5,q5,hlt,rfl⟩,λx H3 y3=>?_⟩;obtain⟨Hf3,g3,st3,r3⟩:=yl x H3 y3;have j3:=j2.grow g3;refine qg x σ2 Hf3 H3 ds[i] ρ2 ρ3 _ g3.fh r3 b1' fun σ3 sets=>?_;have j4:=sets.jf j3;refine qb jX jT H0 σ3 H3 ρ3 s3 o s4 _ ⟨Hf3,j4⟩ st3 b3 ?_
  cases o with
  | nx ρ5=>exact fun σ5 H5 j5 st5=>⟨ρ5,s4,j5,st5,b4⟩
  | ct ρ5=>exact fun σ5 H5 j5 st5=>⟨ρ5,s4,j5,st5,b4⟩
  | bk ρ5=>
   obtain⟨rfl,rfl⟩:=ZM b4;exact fun σ5 H5 ⟨Hf5,j5⟩ st5=>po σ5 H5 ⟨Hf5,j5.weak (j.kn.trans e1)⟩ st5
  | rt d=>
   obtain⟨rfl,rfl⟩:=ZM b4;exact po
 ·have hd:ds.drop i=[]:=qaN.mpr (by omega)
  rw[hd]at eq2;obtain⟨rfl,rfl⟩:=ZM eq2;exact .inl ⟨i2 (by omega),po σ2 H2 ⟨j6,j2.weak (j.kn.trans e1)⟩ j8⟩
end
noncomputable def runB (n k:Nat)(g:Ze->M Out):List D->M D:=λds=>if ds.length=k then Zp (g (ds.map some++qf (n-k) none)) λo=>match o with | .rt d=>ZJ d | .nx _=>ZJ .non | _=>ZS else ZS
theorem YG {K:qd}{st:Stmt}
  (F:Fun K x qual st f fd) (S:FnScope N ps (Zz st))
  (hb:∀(cdv:Value) (A:xE) (outer:List Env) (s:Shared) (H:Hp) (E:XK),Room k (A.deeper (envOfC qual (Zz st) s.heap.objs.size f cdv))->∀G,GG G->X6 (Vn ZP P w K mg base N qual (Zz st) f cdv A outer s H E).nox G [] [] own fr (XM st) g) :
  FnOk P w K mg base ZP (k+1) f fd ps (Yf ps.length fr GG (runB N.length ps.length g)):=by
 refine F.ok S (λvs H Q E h=>?_) λcdv A outer s H vs Q E hr h=>?_
 ·obtain⟨G,Hf,ds,pn,d,pn',_,e,_⟩:=h
  exact e
 ·obtain⟨G,Hf,ds,pn,d,pn',hG,el,e1,r,st',eF,k'⟩:=h
  obtain⟨t,p,q⟩:=hb cdv A outer s H E hr G hG;refine⟨t,p,?_⟩;obtain⟨hl,a0⟩:=XC eF;obtain⟨o,s1,a1,a2⟩:=Zy a0;have hpl:ps.length<=N.length:=by have:=congrArg qcs S.pre;rw[yn]at this;omega
  have j0:Jf G [] Hf Hf H (L2.start N vs) Hf H (ds.map some++qf (N.length-ps.length) none):=by
   refine⟨?_,.refl _ _,.refl e1,λi d n e=>?_,λi d m e=>?_,λi j a di dj mi mj n e=>?_⟩
   ·unfold L2.start;simp;omega
   ·have hi:i<ds.length:=by
     by_cases hi:i<ds.length
     ·exact hi
     ·rw[zM (by simpa using hi),zW]at e
      split at e <;> cases e
    have e':ds[i]?=some d:=by
     rw[zh (by simpa using hi),qI]at e
     cases q:ds[i]? with
     | none=>rw[q]at e;cases e
     | some c=>rw[q]at e;simp at e;rw[e]
    obtain⟨v,h1,h2⟩:=r.get e';refine⟨v,?_,h2⟩;unfold L2.start;rw[zh (by simp;rw[<-r.length];exact hi),qI,h1];rfl
   ·exact absurd m (by simp)
   ·exact absurd mi (by simp)
  refine q Hf Hf H (L2.start N vs) H _ pn o s1 _ ⟨Hf,j0⟩ st' a1 ?_
  cases o with
  | rt c=>
   obtain⟨rfl,rfl⟩:=ZM a2;exact λv Hf' H' g' j8 r2 fz=>k' v Hf' H' g' j8 r2 fz
  | nx ρ'=>
   obtain⟨rfl,rfl⟩:=ZM a2;exact fun σ' H' ⟨Hf',j'⟩ j8=>k' .non Hf' H' j'.gr j8 (jg.mpr rfl) λ_=>.scal λz=>z
  | bk ρ'=>cases a2
  | ct ρ'=>cases a2
noncomputable def B2 (G:Gh)(fr:Bool)(f:Ze->M D):TE:=fun σ H Q=>∃(Hf:Hp) (ρ:Ze) (s:Pn) (d:D) (s':Pn),ZC G Hf H/\YA G Hf σ ρ/\G.st s H/\f ρ s=some (d,s')/\
 ∀v Hf' H',Gr G Hf H Hf' H'->G.st s' H'->Zo G Hf' d v->(fr=true->YJ G H Hf' d v)->Q v H'
noncomputable def UZ (G:Gh)(f:Ze->M Bool):TT:=fun σ H Q=>∃(Hf:Hp) (ρ:Ze) (s:Pn) (b:Bool) (s':Pn),ZC G Hf H/\YA G Hf σ ρ/\G.st s H/\f ρ s=some (b,s')/\
 ∀Hf' H',Gr G Hf H Hf' H'->G.st s' H'->Q b H'
noncomputable def gOf (G:Gh)(ok:Nat->Prop)(τ:D->Ze->Option Ze):TG:=λx σ H Q=>∃(Hf:Hp) (d:D) (ρ ρ':Ze),ZC G Hf H/\Zo G Hf d x/\τ d ρ=some ρ'/\∀σ',Sets G Hf ok σ ρ σ' ρ'->Q σ' H
section
variable {X:Cx}{G:Gh}{own:List Nat}{fr:Bool}{f:Ze->M D}
theorem PD.canon (h:PD X G fr e f):PE X e (B2 G fr f):=by
 obtain⟨t,p,q⟩:=h;exact λjN s σ H Q I ⟨Hf,ρ,pn,d,pn',a1,a2,a3,a4,k⟩=>p jN s σ H Q I (q σ Hf H ρ pn d pn' Q a1 a2 a3 a4 k)
theorem XW.canon {f:Ze->M Bool}(h:XW X G e f):PT X e (UZ G f):=by
 obtain⟨t,p,q⟩:=h;exact λjN s σ H Q I ⟨Hf,ρ,pn,d,pn',a1,a2,a3,a4,k⟩=>p jN s σ H Q I (q σ Hf H ρ pn d pn' Q a1 a2 a3 a4 k)
theorem VL.canon (h:VL X G tg ok τ):PG X tg (gOf G ok τ):=by
 obtain⟨t,p,q⟩:=h;exact λjN s σ H v u Q I r ⟨Hf,d,ρ,ρ',a1,a2,a3,k⟩=>p jN s σ H v u Q I r (q v σ Hf H d ρ ρ' Q a1 a2 a3 k)
noncomputable def Wp (src:List (Option Nat))(ρ:Ze):Ze:=src.map λo=>o.bind λj=>(ρ[j]?).bind id
theorem Zip (h:YA G Hf σ ρ):YA G Hf (VT src σ) (Wp src ρ):=λi d e=>by
 unfold Wp at e;rw[qI]at e
 cases q:src[i]? with
 | none=>simp_all
 | some o=>
  rw[q]at e
  cases o with
  | none=>simp at e
  | some j=>
   have hj:ρ[j]?=some (some d):=by
    cases e2:ρ[j]? with
    | none=>simp_all
    | some o2=>simp_all
   obtain⟨v,h1,h2⟩:=h j d hj;unfold VT;simp_all
theorem Sets.len (h:Sets G Hf ok σ ρ σ' ρ'):(σ.length=ρ.length->σ'.length=ρ'.length)/\σ'.length=σ.length:=by
 induction h with
 | nil=>simp
 | cons _ _ _ ih=>simp_all
theorem Sets.env (h:Sets G Hf ok σ ρ σ' ρ'):σ.length=ρ.length->YA G Hf σ ρ->YA G Hf σ' ρ':=by
 induction h with
 | nil=>simp
 | @cons σ ρ σ' ρ' i d v o r _ ih=>
  intro hl he;refine ih (by simp[hl]) λk c e=>?_;by_cases h:i=k
  ·subst h
   have hk:i < ρ.length:=by
    have:=(qC.mp e).1;simp_all
   simp_all
  ·rw[qD h]at e⊢
   exact he k c e
theorem Sets.envOld (h:Sets G Hf ok σ ρ σ' ρ')(h0:∀i d,ok i->ρ0[i]?≠some (some d)):YA G Hf σ ρ0->YA G Hf σ' ρ0:=by
 induction h with
 | nil=>simp
 | @cons σ ρ σ' ρ' i d v o r _ ih=>
  intro he;refine ih λk c e=>?_;have hne:i≠k:=λz=>h0 k c (z▸o) e;rw[qD hne];exact he k c e
noncomputable def UT (τ:D->Ze->Option Ze)(ft:Ze->M Bool)(fe:Ze->M D)(ρ:Ze):List D->M (List D)
 | []=>ZJ []
 | d::ds=>Zp (YO (τ d ρ)) fun ρ1=>Zp (ft ρ1) λb=>if b=true then Zp (fe ρ1) λc=>Zp (UT τ ft fe ρ ds) λr=>ZJ (c::r)else UT τ ft fe ρ ds
noncomputable def Yb (src:List (Option Nat))(fi:Ze->M (List D))(τ:D->Ze->Option Ze)(ft:Ze->M Bool)(fe:Ze->M D):Ze->M D:=fun ρ=>
 Zp (fi ρ) λds=>if ds.length<=xg then Zp (UT τ ft fe (Wp src ρ) ds) λr=>ZJ (.lst r)else ZS
noncomputable def Yi:Ze->M Bool:=λ_=>ZJ true
theorem ZgX
  (qi:∀(σ:St) (Hf H:Hp) (ρ:Ze) (s:Pn) (ds:List D) (s':Pn) (R:It->Hp->Prop),ZC G Hf H->YA G Hf σ ρ->G.st s H->fi ρ s=some (ds,s')->
   (∀J Hf' H',Gr G Hf H Hf' H'->G.st s' H'->Ur G J Hf' ds->R J H')->wi σ H R) :
  WI G true (ZlG src wi (gOf G (λi=>src[i]?=some none) τ) (UZ G ft) (B2 G r1 fe)) (Yb src fi τ ft fe):=by
 intro σ Hf H ρ s d s' Q e1 e2 e3 e4 k;obtain⟨ds,s1,a1,a2⟩:=Zy e4;obtain⟨hz,a3⟩:=XC a2;obtain⟨r,s2,a4,a5⟩:=Zy a3;obtain⟨rfl,rfl⟩:=ZM a5;refine qi σ Hf H ρ s ds s1 _ e1 e2 e3 a1 λJt jX H1 g1 jY it=>?_;intro p hp;have nrp:=ju jY hp;have nfp:=jv nrp;have hf1p:jX p=none:=by
  cases e:jX p with
  | none=>rfl
  | some o=>rw[g1.fh p o nfp e]at hp;cases hp
 have h0:∀(i:Nat) (d:D),src[i]?=some none->(Wp src ρ)[i]?≠some (some d):=λi d e q=>by
  unfold Wp at q;rw[qI,e]at q;simp at q
 refine⟨λi m σ2 H2=>∃(j6:Hp) (s2:Pn) (vs:List V) (kg rest:List D),i<=ds.length/\m=ds.length-i/\Gr G jX H1 j6 H2/\YA G j6 σ2 (Wp src ρ)/\σ2.length=(Wp src ρ).length/\G.st s2 H2/\j6 p=none/\H2 p=some (.lst vs)/\Zj G j6 kg vs/\kg.length<=i/\
  UT τ ft fe (Wp src ρ) (ds.drop i) s2=some (rest,s')/\kg++rest=r,⟨_,jX,s1,[],[],r,zr _,rfl,?_,?_,?_,Gh.grow jY hp,hf1p,Z1,Zj.nil_iff.mpr rfl,qk _,a4,rfl⟩,?_⟩
 ·refine⟨λb o n e=>?_,.refl _ _,λb o n e=>?_,λb n h1 h2=>h1⟩
  ·rw[Zv (YC e hp)];exact e
  ·rw[Zv (YC e hf1p)];exact g1.fh b o n e
 ·exact Zip (e2.ext g1.ff)
 ·unfold VT Wp;simp
 ·rintro i m σ2 H2 ⟨j6,sz,vs,kg,rest,hle,rfl,g2,env2,len2,j8,hfp2,hp2,racc,hacc,eq2,hr⟩
  obtain⟨i1,i2⟩:=it i j6 H2 sz g2.ff g2.fh j8;by_cases hlt:i<ds.length
  ·have hd:ds.drop i=ds[i]::ds.drop (i+1):=yd hlt
   rw[hd]at eq2;obtain⟨ρ3,s3,b1,b2⟩:=Zy eq2;obtain⟨b1',e3'⟩:=Wo b1;subst e3';obtain⟨bo,s4,b3,b4⟩:=Zy b2;obtain⟨go,yl⟩:=i1 ds[i] (by simp[hlt]);refine .inr ⟨go,λx H3 y3=>?_⟩;obtain⟨Hf3,g3,st3,r3⟩:=yl x H3 y3;refine⟨Hf3,ds[i],Wp src ρ,ρ3,g3.fh,r3,b1',fun σ4 sets=>?_⟩;have env2':=env2.ext g3.ff;have env4:=sets.env len2 env2';have env4':=sets.envOld h0 env2';refine⟨Hf3,ρ3,s3,bo,s4,g3.fh,env4,st3,b3,λHf5 H5 g5 st5=>?_⟩;have g25:=g3.trans g5;have hfp5:Hf5 p=none:=g25.nw p nfp hfp2 ⟨_,hp2,λ_ z=>by cases z⟩;have hp5:H5 p=some (.lst vs):=g25.hh p _ nfp hp2
   cases bo with
   | false=>
    refine VV ⟨ds.length-(i+1),by omega,Hf5,s4,vs,kg,rest,hlt,rfl,g2.trans g25,env4'.ext g5.ff,by rw[<-len2];exact sets.len.2,st5,hfp5,hp5,racc.ext g25.ff,by omega,?_,hr⟩;exact b4
   | true=>
    have b4':Zp (fe ρ3) (λc=>Zp (UT τ ft fe (Wp src ρ) (ds.drop (i+1))) λr=>ZJ (c::r)) s4=some (rest,s'):=b4;obtain⟨c,s6,b5,b6⟩:=Zy b4';obtain⟨rr,s7,b7,b8⟩:=Zy b6;obtain⟨rfl,rfl⟩:=ZM b8;refine VW ⟨Hf5,ρ3,s4,c,s6,g5.fh,env4.ext g5.ff,st5,b5,λv Hf6 H6 g6 st6 r6 _=>?_⟩;have hfp6:Hf6 p=none:=g6.nw p nfp hfp5 ⟨_,hp5,λ_ z=>by cases z⟩;have hp6:H6 p=some (.lst vs):=g6.hh p _ nfp hp5;have hl:vs.length<xg:=by rw[<-racc.length];omega
    refine⟨vs,hp6,hl,ds.length-(i+1),by omega,Hf6,s6,vs ++ [v],kg ++ [c],rr,hlt,rfl,?_,(env4'.ext g5.ff).ext g6.ff,by rw[<-len2];exact sets.len.2,?_,hfp6,Z1,(racc.ext (g25.ff.trans g6.ff)).append (.one r6),by simp;omega,b7,by rw[<-hr];simp⟩
    ·have gg:=(g2.trans g25).trans g6
     refine⟨λb o n e=>?_,gg.ff,λb o n e=>?_,gg.nw⟩
     ·rw[Zv (YC e hp)];exact gg.hh b o n e
     ·rw[Zv (YC e hfp6)];exact gg.fh b o n e
    ·refine G.mono _ _ _ st6 (λb o rb e=>?_) (λb φ e=>?_) λb φ e=>?_
     ·have:b≠p:=λz=>nrp (z▸rb)
      rw[Zv this];exact e
     ·have:b≠p:=λz=>by rw[z,hp6]at e;cases e
      rw[Zv this];exact e
     ·have:b≠p:=λz=>by rw[z,hp6]at e;cases e
      rw[Zv this];exact e
  ·have hd:ds.drop i=[]:=qaN.mpr (by omega)
   rw[hd]at eq2;obtain⟨rfl,rfl⟩:=ZM eq2;refine .inl ⟨i2 (by omega),?_⟩;rw[zu]at hr;subst hr;refine k (.ref p) (Zs j6 p (.lst vs)) H2 (g1.trans ⟨g2.hh,λb o n e=>?_,λb o n e=>?_,λb n h1 h2=>?_⟩) j8 (jb.mpr ⟨p,vs,rfl,nfp,Z1,racc.ext λb o n e=>?_⟩) λ_ a ea _=>?_
   ·rw[Zv (YC (g2.ff b o n e) hfp2)];exact g2.ff b o n e
   ·by_cases hb:b=p
    ·subst hb;rw[Z1]at e;rw[hp2];exact e
    ·rw[Zv hb]at e;exact g2.fh b o n e
   ·have:b≠p:=λz=>h2.no (z▸hp)
    rw[Zv this];exact g2.nw b n h1 h2
   ·rw[Zv (YC e hfp2)];exact e
   ·cases ea
    refine⟨?_,λds' ed=>?_⟩
    ·cases q:H p with
     | none=>rfl
     | some o=>rw[g1.hh p o nfp q]at hp;cases hp
    ·cases ed
     exact⟨vs,j6,Z1,hfp2,λb o n e=>by rw[Zv (YC e hfp2)];exact e,racc⟩
theorem XS:VX X [] (UZ G Yi):=λjN s σ H Q I ⟨Hf,ρ,pn,b,pn',a1,a2,a3,a4,k⟩=>by
 obtain⟨rfl,rfl⟩:=ZM a4;exact ZlE jN s σ H Q I (k Hf H (.refl a1) a3)
theorem BH (h:XW X G c ft):VX X [c] (UZ G ft):=ZlF h.canon
theorem Jf.put {kn:Hp}(j:Jf G own kn jT H0 σ Hf H ρ)(hi:i∈own)(e:ρ[i]?=some (some d))(sa:σ[i]?=some (some (.ref a)))
  (new:Ud G Hf (Zs H a o') a d'):Jf G own kn jT H0 σ Hf (Zs H a o') (ρ.set i (some d')):=by
 obtain⟨a',h1,h2,h3,h4,h5⟩:=j.ow i d hi e;rw[sa]at h1;cases h1;have il:i < ρ.length:=(qC.mp e).1;refine⟨by simp[j.len],j.kn,⟨λb o n q=>?_,j.gr.ff,λb o n q=>?_,j.gr.nw⟩,λk c n q=>?_,λk c m q=>?_,λk l b dk dl mk ml n ek el sk sl=>?_⟩
 ·rw[Zv (YC q h4)];exact j.gr.hh b o n q
 ·rw[Zv (YC q h3)];exact j.gr.fh b o n q
 ·have hne:i≠k:=λz=>n (z▸hi)
  rw[qD hne]at q;exact j.fz k c n q
 ·by_cases hk:i=k
  ·subst hk
   rw[qU il]at q
   cases q
   exact⟨a,sa,h2,h3,h4,new⟩
  ·rw[qD hk]at q
   obtain⟨b,g1,g2,g3,g4,g5⟩:=j.ow k c m q;have hab:b≠a:=λz=>j.ne i k a d c hi m hk e q sa (z▸g1);exact⟨b,g1,g2,g3,g4,g5.keep (.refl _ _) λo z=>by rw[Zv hab];exact z⟩
 ·have ek':∃d,ρ[k]?=some (some d):=by
   by_cases hk:i=k
   ·exact⟨d,hk▸e⟩
   ·simp_all
  have el':∃d,ρ[l]?=some (some d):=by
   by_cases hl:i=l
   ·exact⟨d,hl▸e⟩
   ·simp_all
  obtain⟨_,ek'⟩:=ek';obtain⟨_,el'⟩:=el';exact j.ne k l b _ _ mk ml n ek' el' sk sl
theorem Zdr (j:Jf G own kn jT H0 σ Hf H ρ)(hi:i∈own)(e:ρ[i]?=some (some (.lst ds))) :
  ∃a vs,σ[i]?=some (some (.ref a))/\¬G.rd a/\H a=some (.lst vs)/\Zj G Hf ds vs:=by
 obtain⟨a,h1,h2,h3,h4,vs,h5,h6⟩:=j.ow i _ hi e;exact⟨a,vs,h1,h2,h5,h6⟩
theorem ZfY {ρ:Ze}{i:Nat}(h:(ρ[i]?).bind id=some d):ρ[i]?=some (some d):=by
 cases q:ρ[i]? with
 | none=>simp_all
 | some o=>simp_all
theorem jz (st:G.st s H)(h:¬G.rd a)
  (hx:(∀φ,H a≠some (.ext φ))/\∀vs,H a≠some (.tup vs):=by constructor <;> (intro φ z;first | (have z2:=z.symm.trans (by assumption:_=some (L2.HO.lst _));cases z2) | (have z2:=z.symm.trans (by assumption:_=some (L2.HO.dK _));cases z2) | (have z2:=z.symm.trans (by assumption:_=some (L2.HO.dT _));cases z2))):G.st s (Zs H a o):=G.mono _ _ _ st (λb u rb e=>by
 have:b≠a:=λz=>h (z▸rb);rw[Zv this];exact e) (λb φ e=>by
 have:b≠a:=λz=>hx.1 φ (z▸e);rw[Zv this];exact e) λb φ e=>by
 have:b≠a:=λz=>hx.2 φ (z▸e);rw[Zv this];exact e
noncomputable def Vp (i:Nat)(f:Ze->M D):Ze->M Out:=fun ρ=>Zp (f ρ) λd=>match (ρ[i]?).bind id with
 | some (.lst ds)=>if ds.length<xg then ZJ (.nx (ρ.set i (some (.lst (ds ++ [d])))))else ZS
 | _=>ZS
theorem ZnT (hi:i∈own)(hy:JT G own r1 te f) :
  Dos G ob own own fr (JI (B1 X.K "list" Bp (Yd i) (Uk te VU))) (Vp i f):=λkn jT H0 σ H ρ s out s' E ⟨Hf,j⟩ st e po=>by
 obtain⟨d,s1,a1,a2⟩:=Zy e
 cases hb:(ρ[i]?).bind id with
 | none=>rw[hb]at a2;cases a2
 | some c=>
  rw[hb]at a2
  cases c with
  | lst ds=>
   have a2':=a2;obtain⟨c2,a3⟩:=XC a2';obtain⟨rfl,rfl⟩:=ZM a3;have ei:=ZfY hb;obtain⟨a,vs,h1,h2,h3,h4⟩:=Zdr j hi ei;refine⟨_,h1,.inl ⟨rfl,vs,ZV.of h3⟩,?_⟩;refine hy kn jT H0 σ Hf H ρ s d s' _ j st a1 λv Hf' H' j' e1 e2 st' r fz=>?_;obtain⟨a',vs',h1',h2',h3',h4'⟩:=Zdr j' hi ei;rw[h1]at h1';cases h1';refine⟨a,vs',v,rfl,rfl,h3',by rw[<-h4'.length];exact c2,?_⟩;exact po σ _ ⟨Hf',j'.put hi ei h1 ⟨vs' ++ [v],Z1,h4'.append (.one r)⟩⟩ (jz st' h2)
  | _=>cases a2
theorem Bi {pos p2 p3:Pos}(hv:PE X (.Name x p1) (Yd i))(p:PE X e te)
  (hbase:xq (.Name x p1) "append" X.env (eval (.Name x p1) X.env)=eval (.Name x p1) X.env:=by rfl)
  (hfew:((backTo p3 (xh [e] X.env)).all (λx=>!x.1)&&(xp p3 (xi [] X.env)).all (λx=>x.1.isSome)
   && decide ([e].length+([]:List Keyword).length+(if ([]:List Keyword).isEmpty then 0 else 1)<30))=true:=by rfl)
  (hline:(p2.endLine==p3.line)=true:=by rfl) (hs:xh [e] X.env=(false,eval e X.env)::xh [] X.env:=by rfl)
  (hsw:xr (.Call (.Attribute (.Name x p1) "append" p2) [e] [] p3) none pos.line X.env=pure false:=by rfl) :
  PS X (.Expr (.Call (.Attribute (.Name x p1) "append" p2) [e] [] p3) pos) (JI (B1 X.K "list" Bp (Yd i) (Uk te VU))):=
 ZbY (Zjt yA qae qaf Zbp hv (Xt p X4 hs) hbase hfew hline hs rfl) hsw
section
variable {i:Nat}{x:Str}{e:Expr}{pos p1 p2 p3:Pos}{r1:Bool}{ob:List Nat}{st:Stmt}
theorem Bn (hi:i∈own)(he:PD X G r1 e f)(hp:∀te,PE X e te->PS X st (JI (B1 X.K "list" Bp (Yd i) (Uk te VU)))):YS X G ob own own fr st (Vp i (fun ρ=>f (Yg own ρ))):=by
 obtain⟨t,p,q⟩:=he;exact⟨_,hp t p,ZnT hi (WI.a q)⟩
end
end
section
variable {X:Cx}{G:Gh}
noncomputable def dI (C:Int->Int->Bool)(g:Int->Int->D):D->D->Option D
 | .int i,.int j=>if C i j=true then some (g i j)else none
 | _,_=>none
theorem ZfZ (h:dI C g d e=some c):∃i j,d=.int i/\e=.int j/\C i j=true/\c=g i j:=by
 match d,e,h with
 | .int i,.int j,h=>
  have h':(if C i j=true then some (g i j)else none)=some c:=h;simp_all
theorem BI {g:Int->Int->Int}(h:Yo X f (rI C λi j=>.int (g i j)))(hc:∀i j,Cb i j=true->C i j):Y4 X G f (dI Cb λi j=>.int (g i j)):=
 ⟨_,h,λHf H s x y d e c Q e1 st rx ry q k=>by
  obtain⟨i,j,rfl,rfl,hcb,rfl⟩:=ZfZ q;exact⟨i,j,ja.mp rx,ja.mp ry,hc i j hcb,k _ Hf H (.refl e1) st (ja.mpr rfl) (.scal λz=>z)⟩⟩
theorem ZpO {g:Int->Int->Int}(h:Yo X f (VJ λi j=>.int (g i j))):Y4 X G f (dI (λ_ _=>true) λi j=>.int (g i j)):=
 ⟨_,h,λHf H s x y d e c Q e1 st rx ry q k=>by
  obtain⟨i,j,rfl,rfl,hcb,rfl⟩:=ZfZ q;exact⟨i,j,ja.mp rx,ja.mp ry,k _ Hf H (.refl e1) st (ja.mpr rfl) (.scal λz=>z)⟩⟩
theorem Ziq {g:Int->Int->Bool}(h:Yo X f (VJ λi j=>.bl (g i j))):Y4 X G f (dI (λ_ _=>true) λi j=>.bl (g i j)):=
 ⟨_,h,λHf H s x y d e c Q e1 st rx ry q k=>by
  obtain⟨i,j,rfl,rfl,hcb,rfl⟩:=ZfZ q;exact⟨i,j,ja.mp rx,ja.mp ry,k _ Hf H (.refl e1) st (je.mpr rfl) (.scal λz=>z)⟩⟩
noncomputable def Xg:=dI (λ_ _=>true) λi j=>.int (i-j)
noncomputable def JL (i j:Int):Bool:=(decide (-(2 ^ 64)<i)&&decide (i<2 ^ 64))||(decide (-(2 ^ 64)<j)&&decide (j<2 ^ 64))
noncomputable def Us:=dI JL λi j=>.int (i*j)
noncomputable def VZ:=dI (λ_ j=>decide (0<j)) λi j=>.int (i % j)
noncomputable def W7:=dI (λi j=>decide (0<=j)&&decide (j<=1000000)&&decide (i.natAbs<2 ^ 64)) λi j=>.int (i ^ j.toNat)
theorem Vg:Y4 X G (binaryOp .Sub) Xg:=ZpO ZpB
theorem UJ:Y4 X G (binaryOp .Mult) Us:=BI Zid λi j h=>by
 simp only[JL,qbL,zc,decide_eq_true_eq]at h;exact h
theorem Zb3:Y4 X G (binaryOp .Mod) VZ:=BI ZfR λi j h=>by simp_all
theorem Bt:Y4 X G (binaryOp .Pow) W7:=BI ZpC λi j h=>by
 simp at h;exact⟨h.1.1,h.1.2,h.2⟩
noncomputable def dLe:=dI (λ_ _=>true) λi j=>.bl (decide (i<=j))
noncomputable def VM:=dI (λ_ _=>true) λi j=>.bl (decide (j<i))
noncomputable def Uz:=dI (λ_ _=>true) λi j=>.bl (decide (j<=i))
theorem ZpP:Y4 X G (xk .LtE) dLe:=Ziq ZqK
theorem ZdS:Y4 X G (xk .Gt) VM:=Ziq ZoW
theorem Zir:Y4 X G (xk .GtE) Uz:=Ziq ZqL
noncomputable def Yc:List D->Option (List Int)
 | []=>some []
 | .int i::ds=>(Yc ds).map (i :: ·)
 | _::_=>none
theorem UF:∀{ds:List D} {ns:List Int},Yc ds=some ns->ds=ns.map D.int
 | [],ns,h=>by simp[Yc]at h;subst h;rfl
 | .int i::ds,ns,h=>by
  cases e:Yc ds with
  | none=>simp[Yc,e]at h
  | some ms=>simp[Yc,e]at h;subst h;simp[UF e]
 | .non::_,_,h=>by simp[Yc]at h
 | .bl _::_,_,h=>by simp[Yc]at h
 | .str _::_,_,h=>by simp[Yc]at h
 | .tup _::_,_,h=>by simp[Yc]at h
 | .lst _::_,_,h=>by simp[Yc]at h
 | .dk _::_,_,h=>by simp[Yc]at h
 | .dt _::_,_,h=>by simp[Yc]at h
 | .du _::_,_,h=>by simp[Yc]at h
 | .df _::_,_,h=>by simp[Yc]at h
 | .pen::_,_,h=>by simp[Yc]at h
 | .ty _::_,_,h=>by simp[Yc]at h
theorem Zar (ns:List Int):Yc (ns.map D.int)=some ns:=by
 induction ns with
 | nil=>rfl
 | cons n ns ih=>simp[Yc,ih]
theorem jp:∀{ns:List Int} {vs:List V},Zj G H (ns.map D.int) vs->vs=ns.map V.int
 | [],vs,h=>Zj.nil_iff.mp h
 | n::ns,vs,h=>by
  obtain⟨v,r,rfl,h1,h2⟩:=jd.mp h;rw[ja.mp h1,jp h2];rfl
noncomputable def Vb:D->D->Option D
 | .int i,.int j=>some (.bl (decide (i<j)))
 | .tup a,.tup b=>match Yc a,Yc b with | some ns,some ms=>some (.bl (HT.lexLt ns ms)) | _,_=>none
 | _,_=>none
theorem JD (hu:X.A.units<cLine):Y4 X G (xk .Lt) Vb:=
 ⟨_,Zlm.or (ZpI hu),λHf H s x y d e c Q e1 st rx ry q k=>by
  match d,e,q,rx,ry with
  | .int i,.int j,q,rx,ry=>
   cases q
   exact .inl ⟨i,j,ja.mp rx,ja.mp ry,k _ Hf H (.refl e1) st (je.mpr rfl) (.scal λz=>z)⟩
  | .tup a,.tup b,q,rx,ry=>
   have q:(match Yc a,Yc b with | some ns,some ms=>some (D.bl (HT.lexLt ns ms)) | _,_=>none)=some c:=q
   cases ea:Yc a with
   | none=>simp_all
   | some ns=>
    cases eb:Yc b with
    | none=>simp_all
    | some ms=>
     rw[ea,eb]at q
     cases q
     rw[UF ea]at rx;rw[UF eb]at ry;obtain⟨p,vs,rfl,np,hp,rp⟩:=jc.mp rx;obtain⟨p2,vs2,rfl,np2,hp2,rp2⟩:=jc.mp ry;rw[jp rp]at hp;rw[jp rp2]at hp2;exact .inr ⟨p,p2,ns,ms,rfl,rfl,Z0.of (e1 _ _ np hp),Z0.of (e1 _ _ np2 hp2),k _ Hf H (.refl e1) st (je.mpr rfl) (.scal λz=>z)⟩⟩
theorem ZnU:Yo X (binaryOp .Add) (λx y H Q=>∃a b ys,x=.ref a/\y=.ref b/\Z0 X.K H a []/\Z0 X.K H b ys/\Q (.ref b) H):=by
 intro jN s σ H x y v u Q I rx ry h;obtain⟨a,b,ys,rfl,rfl,ha,hb,q⟩:=h
 cases rx
 cases ry
 obtain⟨jR,r1,p1,_⟩:=I.tuple ha;obtain⟨ki,r2,p2,_⟩:=I.tuple hb;have e0:jR=[]:=by cases r1;rfl
 subst e0;obtain⟨⟨cls,dd,data,sl⟩,ho,hc,n,hd⟩:=id p1;obtain⟨⟨cls2,dd2,data2,sl2⟩,ho2,hc2,n2,hd2⟩:=id p2;subst hc hd hc2 hd2;exact concat_meets ⟨_,ho,rfl⟩ ⟨_,ho2,rfl⟩ noFill_tuple_add seq_tuple_add qaw qam (qac _ _)
   (tuple_addW0 a b ([]:List Value).toArray ki.toArray n n2 dd dd2 sl sl2 rfl) ⟨ho,ho2,⟨.ref b,H,I,rfl,q⟩⟩
noncomputable def ZY:D->D->Option D
 | .int i,.int j=>some (.int (i+j))
 | .tup a,.tup b=>if a.length+b.length<=xg then some (.tup (a++b))else none
 | .lst a,.lst b=>if a.length+b.length<=xg then some (.lst (a++b))else none
 | _,_=>none
theorem Yu:Y4 X G (binaryOp .Add) ZY:=
 ⟨_,Zic.or (ZpL.or (ZnK.or ZnU)),λHf H s x y d e c Q e1 st rx ry q k=>by
  match d,e,q,rx,ry with
  | .int i,.int j,q,rx,ry=>
   cases q
   exact .inl ⟨i,j,ja.mp rx,ja.mp ry,k _ Hf H (.refl e1) st (ja.mpr rfl) (.scal λz=>z)⟩
  | .lst a,.lst b,q,rx,ry=>
   have q:(if a.length+b.length<=xg then some (D.lst (a++b))else none)=some c:=q;split at q
   ·rename_i hz
    cases q
    obtain⟨p,vs,rfl,np,hp,rp⟩:=jb.mp rx;obtain⟨p2,vs2,rfl,np2,hp2,rp2⟩:=jb.mp ry;refine .inr (.inl ⟨p,p2,vs,vs2,rfl,rfl,e1 _ _ np hp,e1 _ _ np2 hp2,by rw[<-rp.length,<-rp2.length];exact hz,λl hl=>?_⟩);have nf:=Gh.nofp st hl;have g2:=Gr.new (o:=.lst (vs++vs2)) e1 hl nf;have rr:=rp.append rp2;exact k (.ref l) _ _ g2 (Gh.grow st hl) (jb.mpr ⟨l,_,rfl,nf,Z1,rr.ext g2.ff⟩) (YJ.mk e1 hl nf rr)
   ·cases q
  | .tup a,.tup b,q,rx,ry=>
   have q:(if a.length+b.length<=xg then some (D.tup (a++b))else none)=some c:=q;split at q
   ·rename_i hz
    cases q
    obtain⟨p,vs,rfl,np,hp,rp⟩:=jc.mp rx;obtain⟨p2,vs2,rfl,np2,hp2,rp2⟩:=jc.mp ry;by_cases hv:vs=[]
    ·subst hv
     have ea:a=[]:=yB.mp (by rw[rp.length];rfl);subst ea;exact .inr (.inr (.inr ⟨p,p2,vs2,rfl,rfl,Z0.of (e1 _ _ np hp),Z0.of (e1 _ _ np2 hp2),k _ Hf H (.refl e1) st ry (.scal λz=>z)⟩))
    ·refine .inr (.inr (.inl ⟨p,p2,vs,vs2,rfl,rfl,Z0.of (e1 _ _ np hp),Z0.of (e1 _ _ np2 hp2),hv,by rw[<-rp.length,<-rp2.length];exact hz,λz=>?_,λ_ l hl=>?_⟩))
     ·subst z
      have eb:=yB.mp (by rw[rp2.length];rfl);subst eb;rw[zu]at k;exact k _ Hf H (.refl e1) st rx (.scal λz=>z)
     ·have nf:=Gh.nofp st hl
      have g2:=Gr.new (o:=.tup (vs++vs2)) e1 hl nf;exact k (.ref l) _ _ g2 (Gh.grow st hl) (jc.mpr ⟨l,_,rfl,nf,Z1,(rp.append rp2).ext g2.ff⟩) (.scal λz=>z)
   ·cases q⟩
noncomputable def Zn:D->D->Option D
 | .lst ds,.int i=>Xz ds i
 | .tup ds,.int i=>Xz ds i
 | _,_=>none
theorem Zf0 (r:Zj G Hf ds vs)(h:Xz ds i=some c):∃v,Xz vs i=some v/\Zo G Hf c v:=by
 unfold Xz at h⊢;rw[<-r.length]
 cases e:Xp ds.length i with
 | none=>simp_all
 | some j=>
  rw[e]at h;obtain⟨v,h1,h2⟩:=r.get h;exact⟨v,h1,h2⟩
theorem ZE:IxD X G Zn:=
 ⟨_,WU.or ZpJ,λHf H s x y d e c Q e1 st rx ry q k=>by
  match d,e,q,rx,ry with
  | .lst ds,.int i,q,rx,ry=>
   obtain⟨p,vs,rfl,np,hp,rp⟩:=jb.mp rx;obtain⟨v,h1,h2⟩:=Zf0 rp q;exact .inl ⟨p,vs,i,v,rfl,ja.mp ry,ZV.of (e1 _ _ np hp),h1,k v h2⟩
  | .tup ds,.int i,q,rx,ry=>
   obtain⟨p,vs,rfl,np,hp,rp⟩:=jc.mp rx;obtain⟨v,h1,h2⟩:=Zf0 rp q;exact .inr ⟨p,vs,i,v,rfl,ja.mp ry,Z0.of (e1 _ _ np hp),h1,k v h2⟩⟩
theorem ji (h:Zj G H [d] xs):∃v,xs=[v]/\Zo G H d v:=by
 obtain⟨v,r,rfl,h1,h2⟩:=jd.mp h;rw[Zj.nil_iff.mp h2];exact⟨v,rfl,h1⟩
theorem jo (h:Zj G H [d,e] xs):∃v w,xs=[v,w]/\Zo G H d v/\Zo G H e w:=by
 obtain⟨v,r,rfl,h1,h2⟩:=jd.mp h;obtain⟨w,rfl,h3⟩:=ji h2;exact⟨v,w,rfl,h1,h3⟩
noncomputable def YZ:List D->Option D
 | [.lst ds]=>some (.int ds.length)
 | [.tup ds]=>some (.int ds.length)
 | _=>none
theorem Zis:WO X G (.builtin "len") YZ:=
 ⟨_,B9,λHf H s xs ds c Q e1 st r q k=>by
  match ds,q,r with
  | [.lst es],q,r=>
   cases q
   obtain⟨v,rfl,rv⟩:=ji r;obtain⟨p,vs,rfl,np,hp,rp⟩:=jb.mp rv;exact⟨p,vs,rfl,.inl (ZV.of (e1 _ _ np hp)),k _ Hf H (.refl e1) st (ja.mpr (by rw[rp.length])) (.scal λz=>z)⟩
  | [.tup es],q,r=>
   cases q
   obtain⟨v,rfl,rv⟩:=ji r;obtain⟨p,vs,rfl,np,hp,rp⟩:=jc.mp rv;exact⟨p,vs,rfl,.inr (Z0.of (e1 _ _ np hp)),k _ Hf H (.refl e1) st (ja.mpr (by rw[rp.length])) (.scal λz=>z)⟩⟩
noncomputable def Ue:List D->Option D
 | [.lst ds]=>some (.tup ds)
 | [.tup ds]=>some (.tup ds)
 | _=>none
theorem Ba:WO X G (.type "tuple") Ue:=
 ⟨_,ZeW,λHf H s xs ds c Q e1 st r q k=>by
  match ds,q,r with
  | [.lst es],q,r=>
   cases q
   obtain⟨v,rfl,rv⟩:=ji r;obtain⟨p,vs,rfl,np,hp,rp⟩:=jb.mp rv;refine⟨p,vs,rfl,.inl ⟨ZV.of (e1 _ _ np hp),λl hl=>?_⟩⟩;have nf:=Gh.nofp st hl;have g2:=Gr.new (o:=.tup vs) e1 hl nf;exact k (.ref l) _ _ g2 (Gh.grow st hl) (jc.mpr ⟨l,_,rfl,nf,Z1,rp.ext g2.ff⟩) (.scal λz=>z)
  | [.tup es],q,r=>
   cases q
   obtain⟨v,rfl,rv⟩:=ji r;obtain⟨p,vs,rfl,np,hp,rp⟩:=jc.mp rv;exact⟨p,vs,rfl,.inr ⟨Z0.of (e1 _ _ np hp),k _ Hf H (.refl e1) st rv (.scal λz=>z)⟩⟩⟩
noncomputable def Zo2:List D->Option D
 | [.lst ds]=>some (.lst ds)
 | [.tup ds]=>some (.lst ds)
 | _=>none
theorem ZgY:WO X G (.type "list") Zo2:=
 ⟨_,ZfV,λHf H s xs ds c Q e1 st r q k=>by
  match ds,q,r with
  | [.lst es],q,r=>
   cases q
   obtain⟨v,rfl,rv⟩:=ji r;obtain⟨p,vs,rfl,np,hp,rp⟩:=jb.mp rv;refine⟨p,vs,rfl,.inl (ZV.of (e1 _ _ np hp)),λl hl=>?_⟩;have nf:=Gh.nofp st hl;have g2:=Gr.new (o:=.lst vs) e1 hl nf;exact k (.ref l) _ _ g2 (Gh.grow st hl) (jb.mpr ⟨l,_,rfl,nf,Z1,rp.ext g2.ff⟩) (YJ.mk e1 hl nf rp)
  | [.tup es],q,r=>
   cases q
   obtain⟨v,rfl,rv⟩:=ji r;obtain⟨p,vs,rfl,np,hp,rp⟩:=jc.mp rv;refine⟨p,vs,rfl,.inr (Z0.of (e1 _ _ np hp)),λl hl=>?_⟩;have nf:=Gh.nofp st hl;have g2:=Gr.new (o:=.lst vs) e1 hl nf;exact k (.ref l) _ _ g2 (Gh.grow st hl) (jb.mpr ⟨l,_,rfl,nf,Z1,rp.ext g2.ff⟩) (YJ.mk e1 hl nf rp)⟩
noncomputable def BJ:List D->Option D
 | [.int i,.int j]=>some (.int (if j > i then j else i))
 | _=>none
noncomputable def JM:List D->Option D
 | [.int i,.int j]=>some (.int (if j<i then j else i))
 | _=>none
theorem ZdT (hc:X.calm=true):WO X G (.builtin "max") BJ:=
 ⟨_,Zkd hc,λHf H s xs ds c Q e1 st r q k=>by
  match ds,q,r with
  | [.int i,.int j],q,r=>
   cases q
   obtain⟨v,w,rfl,rv,rw'⟩:=jo r;rw[ja.mp rv,ja.mp rw'];exact⟨i,j,rfl,k _ Hf H (.refl e1) st (ja.mpr rfl) (.scal λz=>z)⟩⟩
theorem ZdU (hc:X.calm=true):WO X G (.builtin "min") JM:=
 ⟨_,Zke hc,λHf H s xs ds c Q e1 st r q k=>by
  match ds,q,r with
  | [.int i,.int j],q,r=>
   cases q
   obtain⟨v,w,rfl,rv,rw'⟩:=jo r;rw[ja.mp rv,ja.mp rw'];exact⟨i,j,rfl,k _ Hf H (.refl e1) st (ja.mpr rfl) (.scal λz=>z)⟩⟩
noncomputable def Y5:List D->Option (List Bool)
 | []=>some []
 | .bl b::ds=>(Y5 ds).map (b :: ·)
 | _::_=>none
theorem ZbJ:∀{ds:List D} {ns:List Bool},Y5 ds=some ns->ds=ns.map D.bl
 | [],ns,h=>by simp[Y5]at h;subst h;rfl
 | .bl i::ds,ns,h=>by
  cases e:Y5 ds with
  | none=>simp[Y5,e]at h
  | some ms=>simp[Y5,e]at h;subst h;simp[ZbJ e]
 | .non::_,_,h=>by simp[Y5]at h
 | .int _::_,_,h=>by simp[Y5]at h
 | .str _::_,_,h=>by simp[Y5]at h
 | .tup _::_,_,h=>by simp[Y5]at h
 | .lst _::_,_,h=>by simp[Y5]at h
 | .dk _::_,_,h=>by simp[Y5]at h
 | .dt _::_,_,h=>by simp[Y5]at h
 | .du _::_,_,h=>by simp[Y5]at h
 | .df _::_,_,h=>by simp[Y5]at h
 | .pen::_,_,h=>by simp[Y5]at h
 | .ty _::_,_,h=>by simp[Y5]at h
theorem ZcZ (ns:List Bool):Y5 (ns.map D.bl)=some ns:=by
 induction ns with
 | nil=>rfl
 | cons n ns ih=>simp[Y5,ih]
theorem jx:∀{ns:List Bool} {vs:List V},Zj G H (ns.map D.bl) vs->vs=ns.map V.bl
 | [],vs,h=>Zj.nil_iff.mp h
 | n::ns,vs,h=>by
  obtain⟨v,r,rfl,h1,h2⟩:=jd.mp h;rw[je.mp h1,jx h2];rfl
theorem ZdV:∀{bs:List Bool} {us:List Value},ZH (bs.map V.bl) us->us=bs.map zf
 | [],_,.nil=>rfl
 | b::bs,_,.cons r t=>by
  cases (show _=zf b from r)
  rw[ZdV t];rfl
theorem ZdW {hc:X.calm=true}{σ:St}{bs:List Bool}{Q:xF}(fin:Bool)(I:Inv X jN σ H s)(h:H p=some (.lst (bs.map V.bl)))
  (fn:(Nat->Bool)->List Nat->Bool) (hq:∀s',Inv X jN σ H s'->Q (.bool (fn (λi=>bs.getD i false) (qm bs.length))) s') :
  xf (xB X.prog X.w) X.A.in1 (pyIter (.ref p)) (λit s₂=>∃I fp wr n P St tr,it=.ref I/\Walks X.prog X.w X.A.in1 I fp wr n P St/\St 0 s₂.heap/\TruthOf X.prog X.w X.A.in1 P tr/\
   ∀h' tk,(∀b o,b∉wr->s₂.heap.get? b=some o->h'.get? b=some o)->Q (.bool (fn tr (qm n))) { s₂ with heap:=h',toks:=tk }) E s:=by
 obtain⟨jR,rv,pl,hz⟩:=I.list (ZV.of h);have eu:=ZdV rv;subst eu;refine wpAny_pyIter_list pl.isList ?_;have hne:p≠s.heap.objs.size:=qK (by
  obtain⟨o,ho,_⟩:=pl.isList;exact qy ho)
 refine⟨s.heap.objs.size,_,_,_,_,_,λi=>bs.getD i false,rfl,Walks.list (A:=X.A.in1) (I.ok.hd hc) s.heap.objs.size p hne _,⟨⟨_,qE _ rfl,rfl,rfl⟩,pl.isList.at λo e=>qj _ e⟩,?_,?_⟩
 ·intro i v s' Q' E' hP hQ'
  have hv:v=.bool (bs.getD i false):=by
   cases q:bs[i]? with
   | none=>simp_all
   | some b=>simp_all
  subst hv;exact wpAny_truthy_bool hQ'
 ·intro h' tk hk
  have:(qbp zf bs).toArray.size=bs.length:=by simp
  rw[this];refine hq _ (I.kept λb o e=>hk b o ?_ (qj _ e));have:=qK (qy e);simp_all
theorem ZlK (bs:List Bool):(qm bs.length).all (λi=>bs.getD i false)=bs.all id:=by
 induction bs with
 | nil=>rfl
 | cons b bs ih=>
  rw[zb,z5,qa5,qbq];show(b&&(qm bs.length).all λi=>bs.getD i false)=_;rw[ih];rfl
theorem ZlL (bs:List Bool):(qm bs.length).any (λi=>bs.getD i false)=bs.any id:=by
 induction bs with
 | nil=>rfl
 | cons b bs ih=>
  rw[zb,z5,yR,List.any_map];show(b||(qm bs.length).any λi=>bs.getD i false)=_;rw[ih];rfl
theorem Zkm (hc:X.calm=true):Wg X (.builtin "all") (λxs H Q=>∃(p:Addr) (bs:List Bool),xs=[.ref p]/\H p=some (.lst (bs.map V.bl))/\Q (.bl (bs.all id)) H):=by
 intro jN s σ H xs us Q I r h;obtain⟨p,bs,rfl,hp,q⟩:=h;obtain⟨u,rfl,ru⟩:=WZ r
 cases ru
 refine call_all_walk (ZdW (hc:=hc) true I hp (λt l=>l.all t) λs' I'=>⟨.bl (bs.all id),H,I',?_,q⟩);show zf _=_;rw[ZlK]
theorem Zkn (hc:X.calm=true):Wg X (.builtin "any") (λxs H Q=>∃(p:Addr) (bs:List Bool),xs=[.ref p]/\H p=some (.lst (bs.map V.bl))/\Q (.bl (bs.any id)) H):=by
 intro jN s σ H xs us Q I r h;obtain⟨p,bs,rfl,hp,q⟩:=h;obtain⟨u,rfl,ru⟩:=WZ r
 cases ru
 refine call_any_walk (ZdW (hc:=hc) true I hp (λt l=>l.any t) λs' I'=>⟨.bl (bs.any id),H,I',?_,q⟩);show zf _=_;rw[ZlL]
noncomputable def JV:List D->Option D
 | [.lst ds]=>(Y5 ds).map λbs=>.bl (bs.all id)
 | _=>none
noncomputable def dAny:List D->Option D
 | [.lst ds]=>(Y5 ds).map λbs=>.bl (bs.any id)
 | _=>none
theorem ZcG (hc:X.calm=true):WO X G (.builtin "all") JV:=
 ⟨_,Zkm hc,λHf H s xs ds c Q e1 st r q k=>by
  match ds,q,r with
  | [.lst es],q,r=>
   obtain⟨v,rfl,rv⟩:=ji r;obtain⟨p,vs,rfl,np,hp,rp⟩:=jb.mp rv
   cases e:Y5 es with
   | none=>simp[JV,e]at q
   | some bs=>
    simp[JV,e]at q;subst q;rw[ZbJ e]at rp;rw[jx rp]at hp;exact⟨p,bs,rfl,e1 _ _ np hp,k _ Hf H (.refl e1) st (je.mpr rfl) (.scal λz=>z)⟩⟩
theorem Zko (hc:X.calm=true):WO X G (.builtin "any") dAny:=
 ⟨_,Zkn hc,λHf H s xs ds c Q e1 st r q k=>by
  match ds,q,r with
  | [.lst es],q,r=>
   obtain⟨v,rfl,rv⟩:=ji r;obtain⟨p,vs,rfl,np,hp,rp⟩:=jb.mp rv
   cases e:Y5 es with
   | none=>simp[dAny,e]at q
   | some bs=>
    simp[dAny,e]at q;subst q;rw[ZbJ e]at rp;rw[jx rp]at hp;exact⟨p,bs,rfl,e1 _ _ np hp,k _ Hf H (.refl e1) st (je.mpr rfl) (.scal λz=>z)⟩⟩
theorem UU {pos:Pos}(hg:Gl X x)(hm:X.mg x=none)(hv:xj x=some (.type n))(hn:x≠"__name__":=by decide)(hd:(x==("__debug__" : Str))=false:=by decide):PD X G true (.Name x pos) (dC (.ty n)):=by
 refine⟨_,Znu (v:=.ty n) hg hm hv rfl hn hd,fun σ Hf H ρ s d s' Q e1 e2 e3 e4 k=>?_⟩;obtain⟨rfl,rfl⟩:=ZM e4;exact k _ Hf H (.refl e1) e3 (jr.mpr rfl) λ_=>.scal λz=>z
noncomputable def Zf1:D->Option String
 | .non=>some "NoneType"
 | .bl _=>some "bool"
 | .int _=>some "int"
 | .str _=>some "str"
 | .tup _=>some "tuple"
 | .lst _=>some "list"
 | .dk _=>some "dict"
 | .dt _=>none
 | .du _=>none
 | .df _=>none
 | _=>none
noncomputable def ZgZ:List String:=["int","bool","str","tuple","list","dict"]
noncomputable def X7:List D->Option D
 | [d,.ty T]=>match Zf1 d with
  | some n=>if ZgZ.contains T then some (.bl (n==T||(n == "bool" && T == "int")))else none
  | none=>none
 | _=>none
theorem ZnV (K:qd):∀n∈["NoneType","bool","int","str","tuple","list","dict"],∀T∈ZgZ,PySem.W.kitOne K (.type n) (.type T)=some (n==T||(n == "bool" && T == "int")):=by
 intro n hn T hT;simp only[ZgZ,qB,zN,or_false]at hn hT;rcases hn with rfl | rfl | rfl | rfl | rfl | rfl | rfl <;> rcases hT with rfl | rfl | rfl | rfl | rfl | rfl <;> rfl
theorem Zkp (e1:ZC G Hf H)(r:Zo G Hf d v)(h:Zf1 d=some n):TyOf X.K H v (.type n)/\n∈["NoneType","bool","int","str","tuple","list","dict"]:=by
 cases d with
 | non=>cases h;rw[jg.mp r];exact⟨.non,by decide⟩
 | bl b=>cases h;rw[je.mp r];exact⟨.bl b,by decide⟩
 | int b=>cases h;rw[ja.mp r];exact⟨.int b,by decide⟩
 | str b=>cases h;rw[jh.mp r];exact⟨.str b,by decide⟩
 | tup ds=>cases h;obtain⟨p,vs,rfl,np,hp,rp⟩:=jc.mp r;exact⟨.tup (e1 _ _ np hp),by decide⟩
 | lst ds=>cases h;obtain⟨p,vs,rfl,np,hp,rp⟩:=jb.mp r;exact⟨.lst (e1 _ _ np hp),by decide⟩
 | dk ds=>cases h;obtain⟨p,rfl,np,hp⟩:=jk.mp r;exact⟨.dK (e1 _ _ np hp),by decide⟩
 | dt ds=>cases h
 | du ds=>cases h
 | df ds=>cases h
 | pen=>cases h
 | ty _=>cases h
 | clo _ _=>cases h
theorem Zkq:Wg X (.builtin "isinstance") (λxs H Q=>∃x n T,xs=[x,.ty T]/\TyOf X.K H x (.type n)/\n∈["NoneType","bool","int","str","tuple","list","dict"]/\T∈ZgZ/\Q (.bl (n==T||(n == "bool" && T == "int"))) H):=by
 intro jN s σ H xs us Q I r h;obtain⟨x,n,T,rfl,ty,hn,hT,q⟩:=h;obtain⟨u,w',rfl,ru,rw'⟩:=Zln r
 cases (show w'=qbh T from rw')
 exact Zkh I ru ty (ZnV X.K n hn T hT) λtk=>⟨.bl _,H,I.tok tk,rfl,q⟩
theorem UG:WO X G (.builtin "isinstance") X7:=
 ⟨_,Zkq,λHf H s xs ds c Q e1 st r q k=>by
  match ds,q,r with
  | [d,.ty T],q,r=>
   obtain⟨v,w,rfl,rv,rw'⟩:=jo r;rw[jr.mp rw'];have q:(match Zf1 d with | some n=>if ZgZ.contains T then some (D.bl (n==T||(n == "bool" && T == "int")))else none | none=>none)=some c:=q
   cases e:Zf1 d with
   | none=>simp_all
   | some n=>
    rw[e]at q;simp only at q;split at q
    ·cases q
     obtain⟨t1,t2⟩:=Zkp e1 rv e;exact⟨v,n,T,rfl,t1,t2,by simp_all,k _ Hf H (.refl e1) st (je.mpr rfl) (.scal λz=>z)⟩
    ·cases q⟩
end
mutual
noncomputable def Zr:D->Bool
 | .non=>true
 | .bl _=>true
 | .int _=>true
 | .str _=>true
 | .tup ds=>YT ds
 | .lst ds=>YT ds
 | _=>false
noncomputable def YT:List D->Bool
 | []=>true
 | d::ds=>Zr d&&YT ds
end
mutual
noncomputable def ZW:D->Nat
 | .tup ds=>Y6 ds+1
 | .lst ds=>Y6 ds+1
 | _=>0
noncomputable def Y6:List D->Nat
 | []=>0
 | d::ds=>max (ZW d) (Y6 ds)
end
theorem Bu:∀{ds:List D} {d:D},d∈ds->ZW d<=Y6 ds
 | e::ds,d,h=>by
  rcases qB.mp h with rfl | h
  ·simp only[Y6];omega
  ·have:=Bu h
   simp only[Y6];omega
theorem Jo:∀{ds:List D} {d:D},YT ds=true->d∈ds->Zr d=true
 | e::ds,d,n,h=>by
  have n':=by simpa[YT]using n
  rcases qB.mp h with rfl | h
  ·exact n'.1
  ·exact Jo n'.2 h
mutual
noncomputable def ZR:D->D->Bool
 | .non,.non=>true
 | .bl a,.bl b=>a==b
 | .bl a,.int i=>(if a then 1 else 0)==i
 | .int i,.bl b=>i==(if b then 1 else 0)
 | .int i,.int j=>i==j
 | .str x,.str y=>x==y
 | .tup a,.tup b=>XH a b
 | .lst a,.lst b=>XH a b
 | _,_=>false
noncomputable def XH:List D->List D->Bool
 | [],[]=>true
 | a::as,b::bs=>ZR a b&&XH as bs
 | _,_=>false
end
mutual
theorem ZdX:∀d:D,Zr d=true->ZR d d=true
 | .non,_=>by simp[ZR]
 | .bl _,_=>by simp[ZR]
 | .int _,_=>by simp[ZR]
 | .str _,_=>by simp[ZR]
 | .tup ds,h=>by simp only[ZR];exact ZcH ds (by simpa[Zr]using h)
 | .lst ds,h=>by simp only[ZR];exact ZcH ds (by simpa[Zr]using h)
 | .dk _,h=>by simp[Zr]at h
 | .dt _,h=>by simp[Zr]at h
 | .du _,h=>by simp[Zr]at h
 | .df _,h=>by simp[Zr]at h
 | .pen,h=>by simp[Zr]at h
 | .ty _,h=>by simp[Zr]at h
 | .clo _ _,h=>by simp[Zr]at h
theorem ZcH:∀ds:List D,YT ds=true->XH ds ds=true
 | [],_=>by simp[XH]
 | d::ds,h=>by
  have n':Zr d=true/\YT ds=true:=by simpa[YT]using h
  simp only[XH,ZdX d n'.1,ZcH ds n'.2,yS]
end
theorem ZdY:∀{a b:List D},XH a b=true->a.length=b.length
 | [],[],_=>rfl
 | a::as,b::bs,h=>by
  have:=by simpa[XH]using h
  simp[ZdY this.2]
 | [],_::_,h=>by simp[XH]at h
 | _::_,[],h=>by simp[XH]at h
theorem ZbK:∀(a b:List D),a.length=b.length->(qm a.length).all (λj=>ZR (a.getD j .non) (b.getD j .non))=XH a b
 | [],[],_=>rfl
 | a::as,b::bs,h=>by
  have h':=by simpa using h
  rw[zb,z5,qa5,qbq,XH,<-ZbK as bs h'];rfl
 | [],_::_,h=>by simp at h
 | _::_,[],h=>by simp at h
theorem Zg0:∀(a b:List D),((qm (min a.length b.length)).all (λj=>ZR (a.getD j .non) (b.getD j .non))&&a.length==b.length)=XH a b:=λa b=>by
 by_cases h:a.length=b.length
 ·rw[<-ZbK a b h,h];simp
 ·have:XH a b=false:=by
   cases e:XH a b with
   | false=>rfl
   | true=>exact absurd (ZdY e) h
  simp_all
mutual
theorem Zo.inj {G:Gh}{H:Hp}:∀{d e:D} {v:V},Zr d=true->Zr e=true->Zo G H d v->Zo G H e v->d=e
 | .non,e,v,_,pe,h,h'=>by
  rw[jg.mp h]at h'
  cases e <;> first | rfl | (simp[Zr]at pe;done) | (simp[Zo]at h')
 | .bl b,e,v,_,pe,h,h'=>by
  rw[je.mp h]at h'
  cases e <;> first | (simp[Zr]at pe;done) | (simp[Zo]at h';rw[h']) | (simp[Zo]at h')
 | .int b,e,v,_,pe,h,h'=>by
  rw[ja.mp h]at h'
  cases e <;> first | (simp[Zr]at pe;done) | (simp[Zo]at h';rw[h']) | (simp[Zo]at h')
 | .str b,e,v,_,pe,h,h'=>by
  rw[jh.mp h]at h'
  cases e <;> first | (simp[Zr]at pe;done) | (simp[Zo]at h';rw[h']) | (simp[Zo]at h')
 | .tup ds,e,v,pd,pe,h,h'=>by
  obtain⟨a,vs,rfl,n,q,r⟩:=jc.mp h
  cases e with
  | tup es=>
   obtain⟨a',vs',e',n',q',r'⟩:=jc.mp h'
   cases e'
   rw[q]at q';cases q';rw[Zj.inj (by simpa[Zr]using pd) (by simpa[Zr]using pe) r r']
  | lst es=>
   obtain⟨a',vs',e',n',q',r'⟩:=jb.mp h'
   cases e'
   rw[q]at q';cases q'
  | _=>first | (simp[Zo]at h';done) | (simp[Zr]at pe;done)
 | .lst ds,e,v,pd,pe,h,h'=>by
  obtain⟨a,vs,rfl,n,q,r⟩:=jb.mp h
  cases e with
  | lst es=>
   obtain⟨a',vs',e',n',q',r'⟩:=jb.mp h'
   cases e'
   rw[q]at q';cases q';rw[Zj.inj (by simpa[Zr]using pd) (by simpa[Zr]using pe) r r']
  | tup es=>
   obtain⟨a',vs',e',n',q',r'⟩:=jc.mp h'
   cases e'
   rw[q]at q';cases q'
  | _=>first | (simp[Zo]at h';done) | (simp[Zr]at pe;done)
 | .dk _,_,_,pd,_,_,_=>by simp[Zr]at pd
 | .dt _,_,_,pd,_,_,_=>by simp[Zr]at pd
 | .du _,_,_,pd,_,_,_=>by simp[Zr]at pd
 | .df _,_,_,pd,_,_,_=>by simp[Zr]at pd
 | .pen,_,_,pd,_,_,_=>by simp[Zr]at pd
 | .ty _,_,_,pd,_,_,_=>by simp[Zr]at pd
 | .clo _ _,_,_,pd,_,_,_=>by simp[Zr]at pd
theorem Zj.inj {G:Gh}{H:Hp}:∀{ds es:List D} {vs:List V},YT ds=true->YT es=true->Zj G H ds vs->Zj G H es vs->ds=es
 | [],es,vs,_,pe,h,h'=>by
  rw[Zj.nil_iff.mp h]at h'
  cases es with
  | nil=>rfl
  | cons e es=>obtain⟨v,r,e1,_⟩:=jd.mp h';cases e1
 | d::ds,es,vs,pd,pe,h,h'=>by
  obtain⟨v,r,rfl,r1,r2⟩:=jd.mp h;have pd':Zr d=true/\YT ds=true:=by simpa[YT]using pd
  cases es with
  | nil=>have:=Zj.nil_iff.mp h';cases this
  | cons e es=>
   obtain⟨v',r',e1,r1',r2'⟩:=jd.mp h'
   cases e1
   have pe':Zr e=true/\YT es=true:=by simpa[YT]using pe
   rw[Zo.inj pd'.1 pe'.1 r1 r1',Zj.inj pd'.2 pe'.2 r2 r2']
end
section
variable {X:Cx}{G:Gh}{jN:Qb}{σ:St}{Hf H:Hp}{s:Shared}
theorem Zbq (A:xE):A.in1.units=A.units+1:=rfl
theorem Zds (r:Zj G Hf ds vs)(rv:ZH vs us)(h:j<us.toArray.size):∃v,Zo G Hf (ds.getD j .non) v/\ZQ v us.toArray[j]/\ds.getD j .non∈ds:=by
 have hl:j<ds.length:=by rw[r.length,rv.length];omega
 have e:ds[j]?=some (ds.getD j .non):=by simp[hl]
 obtain⟨v,h1,h2⟩:=r.get e;obtain⟨u,h3,h4⟩:=rv.get h1;refine⟨v,h2,?_,?_⟩
 ·have:us.toArray[j]=u:=by
   have h':j<us.length:=by omega
   simp_all
  simp_all
 ·simp[hl]
theorem ZlM (I:Inv X jN σ H s)(e1:ZC G Hf H):∀(n:Nat) (A:xE) (d e:D) (x y:V) (u v:Value),ZW d<=n->ZW e<=n->A.units+n+1<cLine->Zr d=true->Zr e=true->Zo G Hf d x->Zo G Hf e y->ZQ x u->ZQ y v->
  yM A s u v (ZR d e)/\qb7 A s u v (ZR d e)/\qbr A s u v (!ZR d e):=by
 intro n
 induction n with
 | zero=>
  intro A d e x y u v hd he hu pd pe rd re ru rv;have hu':A.units<cLine:=by omega
  cases d with
  | tup ds=>simp[ZW]at hd
  | lst ds=>simp[ZW]at hd
  | dk _=>simp[Zr]at pd
  | dt _=>simp[Zr]at pd
  | du _=>simp[Zr]at pd
  | df _=>simp[Zr]at pd
  | pen=>simp[Zr]at pd
  | ty _=>simp[Zr]at pd
  | clo _ _=>simp[Zr]at pd
  | non=>
   rw[jg.mp rd]at ru
   cases (show u=zk from ru)
   cases e with
   | tup ds=>simp[ZW]at he
   | lst ds=>simp[ZW]at he
   | dk _=>simp[Zr]at pe
   | dt _=>simp[Zr]at pe
   | du _=>simp[Zr]at pe
   | df _=>simp[Zr]at pe
   | pen=>simp[Zr]at pe
   | ty _=>simp[Zr]at pe
   | clo _ _=>simp[Zr]at pe
   | non=>rw[jg.mp re]at rv;cases (show v=zk from rv);simp only[ZR];exact⟨.same _,.none_none,.none_none⟩
   | bl b=>rw[je.mp re]at rv;cases (show v=zf b from rv);simp only[ZR];exact⟨.none_bool b,.none_bool b,.none_bool b⟩
   | int b=>rw[ja.mp re]at rv;obtain⟨t,rfl⟩:=rv;simp only[ZR];exact⟨.none_int b t,.none_int b t,.none_int b t⟩
   | str b=>rw[jh.mp re]at rv;obtain⟨t,rfl⟩:=rv;simp only[ZR];exact⟨.none_str b t,.none_str b t,.none_str b t⟩
  | bl a=>
   rw[je.mp rd]at ru
   cases (show u=zf a from ru)
   cases e with
   | tup ds=>simp[ZW]at he
   | lst ds=>simp[ZW]at he
   | dk _=>simp[Zr]at pe
   | dt _=>simp[Zr]at pe
   | du _=>simp[Zr]at pe
   | df _=>simp[Zr]at pe
   | pen=>simp[Zr]at pe
   | ty _=>simp[Zr]at pe
   | clo _ _=>simp[Zr]at pe
   | non=>rw[jg.mp re]at rv;cases (show v=zk from rv);simp only[ZR];exact⟨.bool_none a,.bool_none a,.bool_none a⟩
   | bl b=>rw[je.mp re]at rv;cases (show v=zf b from rv);simp only[ZR];exact⟨.bool_bool a b,.bool_bool a b,.bool_bool a b⟩
   | int b=>rw[ja.mp re]at rv;obtain⟨t,rfl⟩:=rv;simp only[ZR];exact⟨.bool_int a b t,.bool_int a b t,.bool_int a b t⟩
   | str b=>rw[jh.mp re]at rv;obtain⟨t,rfl⟩:=rv;simp only[ZR];exact⟨.bool_str a b t,.bool_str a b t,.bool_str a b t⟩
  | int a=>
   rw[ja.mp rd]at ru;obtain⟨ta,rfl⟩:=ru
   cases e with
   | tup ds=>simp[ZW]at he
   | lst ds=>simp[ZW]at he
   | dk _=>simp[Zr]at pe
   | dt _=>simp[Zr]at pe
   | du _=>simp[Zr]at pe
   | df _=>simp[Zr]at pe
   | pen=>simp[Zr]at pe
   | ty _=>simp[Zr]at pe
   | clo _ _=>simp[Zr]at pe
   | non=>rw[jg.mp re]at rv;cases (show v=zk from rv);simp only[ZR];exact⟨.int_none a ta,.int_none a ta,.int_none a ta⟩
   | bl b=>rw[je.mp re]at rv;cases (show v=zf b from rv);simp only[ZR];exact⟨.int_bool a ta b,.int_bool a ta b,.int_bool a ta b⟩
   | int b=>rw[ja.mp re]at rv;obtain⟨t,rfl⟩:=rv;simp only[ZR];exact⟨.int_int a ta b t,.int_int a ta b t,.int_int a ta b t⟩
   | str b=>rw[jh.mp re]at rv;obtain⟨t,rfl⟩:=rv;simp only[ZR];exact⟨.int_str a ta b t,.int_str a ta b t,.int_str a ta b t⟩
  | str a=>
   rw[jh.mp rd]at ru;obtain⟨ta,rfl⟩:=ru
   cases e with
   | tup ds=>simp[ZW]at he
   | lst ds=>simp[ZW]at he
   | dk _=>simp[Zr]at pe
   | dt _=>simp[Zr]at pe
   | du _=>simp[Zr]at pe
   | df _=>simp[Zr]at pe
   | pen=>simp[Zr]at pe
   | ty _=>simp[Zr]at pe
   | clo _ _=>simp[Zr]at pe
   | non=>rw[jg.mp re]at rv;cases (show v=zk from rv);simp only[ZR];exact⟨.str_none a ta,.str_none a ta,.str_none a ta⟩
   | bl b=>rw[je.mp re]at rv;cases (show v=zf b from rv);simp only[ZR];exact⟨.str_bool a ta b,.str_bool a ta b,.str_bool a ta b⟩
   | int b=>rw[ja.mp re]at rv;obtain⟨t,rfl⟩:=rv;simp only[ZR];exact⟨.str_int a ta b t,.str_int a ta b t,.str_int a ta b t⟩
   | str b=>rw[jh.mp re]at rv;obtain⟨t,rfl⟩:=rv;simp only[ZR];exact⟨.str_str a ta b t,.str_str a ta b t,.str_str a ta b t⟩
 | succ n ih=>
  intro A d e x y u v hd he hu pd pe rd re ru rv;have hu':A.units<cLine:=by omega
  by_cases hs:ZW d<=n/\ZW e<=n
  ·exact ih A d e x y u v hs.1 hs.2 (by omega) pd pe rd re ru rv
  -- two refs
  have same:∀{l b:Addr},x=.ref l->y=.ref b->l=b->ZR d e=true:=λex ey el=>by
   subst ex ey el;have:=Zo.inj pd pe rd re;subst this;exact ZdX d pd
  cases d with
  | dk _=>simp[Zr]at pd
  | dt _=>simp[Zr]at pd
  | du _=>simp[Zr]at pd
  | df _=>simp[Zr]at pd
  | pen=>simp[Zr]at pd
  | ty _=>simp[Zr]at pd
  | clo _ _=>simp[Zr]at pd
  | tup ds=>
   obtain⟨l,vs,rfl,nl,hl,rl⟩:=jc.mp rd
   cases (show u=qw l from ru)
   obtain⟨jR,rits,pits,_⟩:=I.tuple (Z0.of (K:=X.K) (e1 _ _ nl hl));have il:s.heap.IsTuple l jR.toArray:=pits
   cases e with
   | dk _=>simp[Zr]at pe
   | dt _=>simp[Zr]at pe
   | du _=>simp[Zr]at pe
   | df _=>simp[Zr]at pe
   | pen=>simp[Zr]at pe
   | ty _=>simp[Zr]at pe
   | clo _ _=>simp[Zr]at pe
   | non=>rw[jg.mp re]at rv;cases (show v=zk from rv);simp only[ZR];exact⟨.tuple_none il hu',.tuple_none il hu',.tuple_none il hu'⟩
   | bl b=>rw[je.mp re]at rv;cases (show v=zf b from rv);simp only[ZR];exact⟨.tuple_bool b il hu',.tuple_bool b il hu',.tuple_bool b il hu'⟩
   | int b=>rw[ja.mp re]at rv;obtain⟨t,rfl⟩:=rv;simp only[ZR];exact⟨.tuple_int b t il hu',.tuple_int b t il hu',.tuple_int b t il hu'⟩
   | str b=>rw[jh.mp re]at rv;obtain⟨t,rfl⟩:=rv;simp only[ZR];exact⟨.tuple_str b t il hu',.tuple_str b t il hu',.tuple_str b t il hu'⟩
   | lst es=>
    obtain⟨b,ws,rfl,nb,hb,rb⟩:=jb.mp re
    cases (show v=qw b from rv)
    obtain⟨ki,kz,kb,_⟩:=I.list (ZV.of (K:=X.K) (e1 _ _ nb hb));simp only[ZR];exact⟨.tuple_list il kb.isList hu',.tuple_list il kb.isList hu',.tuple_list il kb.isList hu'⟩
   | tup es=>
    obtain⟨b,ws,rfl,nb,hb,rb⟩:=jc.mp re
    cases (show v=qw b from rv)
    obtain⟨ki,kz,kb,_⟩:=I.tuple (Z0.of (K:=X.K) (e1 _ _ nb hb));have ib:s.heap.IsTuple b ki.toArray:=kb;have hit:∀j (h1:j<jR.toArray.size) (h2:j<ki.toArray.size),yM A.in1 s jR.toArray[j] ki.toArray[j] ((λj=>ZR (ds.getD j .non) (es.getD j .non)) j):=λj h1 h2=>by
     obtain⟨v1,a1,a2,a3⟩:=Zds rl rits h1;obtain⟨v2,b1,b2,b3⟩:=Zds rb kz h2;exact(ih A.in1 _ _ v1 v2 _ _ (qp (Bu a3) (by simp[ZW]at hd;omega)) (qp (Bu b3) (by simp[ZW]at he;omega)) (by rw[Zbq];omega)
      (Jo (by simpa[Zr]using pd) a3) (Jo (by simpa[Zr]using pe) b3) a1 b1 a2 b2).1
    have sz1:jR.toArray.size=ds.length:=by rw[rl.length,rits.length];simp
    have sz2:ki.toArray.size=es.length:=by rw[rb.length,kz.length];simp
    have rc:=qb7.tuples (e:=λj=>ZR (ds.getD j .non) (es.getD j .non)) il ib hu' hit;have rn:=qbr.tuples (e:=λj=>ZR (ds.getD j .non) (es.getD j .non)) il ib hu' hit;rw[sz1,sz2,Zg0]at rc rn;simp only[ZR];refine⟨?_,rc,rn⟩;by_cases hlb:l=b
    ·have q:=same rfl rfl hlb
     simp only[ZR]at q;subst hlb;rw[q];exact .same _
    ·exact .of_refs hlb rc
  | lst ds=>
   obtain⟨l,vs,rfl,nl,hl,rl⟩:=jb.mp rd
   cases (show u=qw l from ru)
   obtain⟨jR,rits,pits,_⟩:=I.list (ZV.of (K:=X.K) (e1 _ _ nl hl));have il:=pits.isList
   cases e with
   | dk _=>simp[Zr]at pe
   | dt _=>simp[Zr]at pe
   | du _=>simp[Zr]at pe
   | df _=>simp[Zr]at pe
   | pen=>simp[Zr]at pe
   | ty _=>simp[Zr]at pe
   | clo _ _=>simp[Zr]at pe
   | non=>rw[jg.mp re]at rv;cases (show v=zk from rv);simp only[ZR];exact⟨.list_none il hu',.list_none il hu',.list_none il hu'⟩
   | bl b=>rw[je.mp re]at rv;cases (show v=zf b from rv);simp only[ZR];exact⟨.list_bool b il hu',.list_bool b il hu',.list_bool b il hu'⟩
   | int b=>rw[ja.mp re]at rv;obtain⟨t,rfl⟩:=rv;simp only[ZR];exact⟨.list_int b t il hu',.list_int b t il hu',.list_int b t il hu'⟩
   | str b=>rw[jh.mp re]at rv;obtain⟨t,rfl⟩:=rv;simp only[ZR];exact⟨.list_str b t il hu',.list_str b t il hu',.list_str b t il hu'⟩
   | tup es=>
    obtain⟨b,ws,rfl,nb,hb,rb⟩:=jc.mp re
    cases (show v=qw b from rv)
    obtain⟨ki,kz,kb,_⟩:=I.tuple (Z0.of (K:=X.K) (e1 _ _ nb hb));have ib:s.heap.IsTuple b ki.toArray:=kb;simp only[ZR];exact⟨.list_tuple il ib hu',.list_tuple il ib hu',.list_tuple il ib hu'⟩
   | lst es=>
    obtain⟨b,ws,rfl,nb,hb,rb⟩:=jb.mp re
    cases (show v=qw b from rv)
    obtain⟨ki,kz,kb,_⟩:=I.list (ZV.of (K:=X.K) (e1 _ _ nb hb));have ib:=kb.isList;have hit:∀j (h1:j<jR.toArray.size) (h2:j<ki.toArray.size),yM A.in1 s jR.toArray[j] ki.toArray[j] ((λj=>ZR (ds.getD j .non) (es.getD j .non)) j):=λj h1 h2=>by
     obtain⟨v1,a1,a2,a3⟩:=Zds rl rits h1;obtain⟨v2,b1,b2,b3⟩:=Zds rb kz h2;exact(ih A.in1 _ _ v1 v2 _ _ (qp (Bu a3) (by simp[ZW]at hd;omega)) (qp (Bu b3) (by simp[ZW]at he;omega)) (by rw[Zbq];omega)
      (Jo (by simpa[Zr]using pd) a3) (Jo (by simpa[Zr]using pe) b3) a1 b1 a2 b2).1
    have sz1:jR.toArray.size=ds.length:=by rw[rl.length,rits.length];simp
    have sz2:ki.toArray.size=es.length:=by rw[rb.length,kz.length];simp
    have key:qb7 A s (.ref l) (.ref b) (XH ds es)/\qbr A s (.ref l) (.ref b) (!XH ds es):=by
     by_cases hsz:ds.length=es.length
     ·have rc:=qb7.lists (e:=λj=>ZR (ds.getD j .non) (es.getD j .non)) il ib (by rw[sz1,sz2];exact hsz) hu' hit
      have rn:=qbr.lists (e:=λj=>ZR (ds.getD j .non) (es.getD j .non)) il ib (by rw[sz1,sz2];exact hsz) hu' hit;rw[sz1,ZbK ds es hsz]at rc rn;exact⟨rc,rn⟩
     ·have hne:(jR.toArray.size != ki.toArray.size)=true:=by rw[sz1,sz2];simpa using hsz
      have hf:XH ds es=false:=by
       cases e:XH ds es with
       | false=>rfl
       | true=>exact absurd (ZdY e) hsz
      rw[hf];exact⟨.lists_lengths il ib hne hu',.lists_lengths il ib hne hu'⟩
    simp only[ZR];refine⟨?_,key.1,key.2⟩;by_cases hlb:l=b
    ·have q:=same rfl rfl hlb
     simp only[ZR]at q;subst hlb;rw[q];exact .same _
    ·exact .of_refs hlb key.1
  | non=>
   rw[jg.mp rd]at ru
   cases (show u=zk from ru)
   cases e with
   | tup es=>
    obtain⟨b,ws,rfl,nb,hb,rb⟩:=jc.mp re
    cases (show v=qw b from rv)
    obtain⟨ki,kz,kb,_⟩:=I.tuple (Z0.of (K:=X.K) (e1 _ _ nb hb));have ib:s.heap.IsTuple b ki.toArray:=kb;simp only[ZR];exact⟨.none_tuple ib hu',.none_tuple ib hu',.none_tuple ib hu'⟩
   | lst es=>
    obtain⟨b,ws,rfl,nb,hb,rb⟩:=jb.mp re
    cases (show v=qw b from rv)
    obtain⟨ki,kz,kb,_⟩:=I.list (ZV.of (K:=X.K) (e1 _ _ nb hb));have ib:=kb.isList;simp only[ZR];exact⟨.none_list ib hu',.none_list ib hu',.none_list ib hu'⟩
   | _=>simp[ZW]at hs
  | bl a=>
   rw[je.mp rd]at ru
   cases (show u=zf a from ru)
   cases e with
   | tup es=>
    obtain⟨b,ws,rfl,nb,hb,rb⟩:=jc.mp re
    cases (show v=qw b from rv)
    obtain⟨ki,kz,kb,_⟩:=I.tuple (Z0.of (K:=X.K) (e1 _ _ nb hb));have ib:s.heap.IsTuple b ki.toArray:=kb;simp only[ZR];exact⟨.bool_tuple a ib hu',.bool_tuple a ib hu',.bool_tuple a ib hu'⟩
   | lst es=>
    obtain⟨b,ws,rfl,nb,hb,rb⟩:=jb.mp re
    cases (show v=qw b from rv)
    obtain⟨ki,kz,kb,_⟩:=I.list (ZV.of (K:=X.K) (e1 _ _ nb hb));have ib:=kb.isList;simp only[ZR];exact⟨.bool_list a ib hu',.bool_list a ib hu',.bool_list a ib hu'⟩
   | _=>simp[ZW]at hs
  | int a=>
   rw[ja.mp rd]at ru;obtain⟨ta,rfl⟩:=ru
   cases e with
   | tup es=>
    obtain⟨b,ws,rfl,nb,hb,rb⟩:=jc.mp re
    cases (show v=qw b from rv)
    obtain⟨ki,kz,kb,_⟩:=I.tuple (Z0.of (K:=X.K) (e1 _ _ nb hb));have ib:s.heap.IsTuple b ki.toArray:=kb;simp only[ZR];exact⟨.int_tuple a ta ib hu',.int_tuple a ta ib hu',.int_tuple a ta ib hu'⟩
   | lst es=>
    obtain⟨b,ws,rfl,nb,hb,rb⟩:=jb.mp re
    cases (show v=qw b from rv)
    obtain⟨ki,kz,kb,_⟩:=I.list (ZV.of (K:=X.K) (e1 _ _ nb hb));have ib:=kb.isList;simp only[ZR];exact⟨.int_list a ta ib hu',.int_list a ta ib hu',.int_list a ta ib hu'⟩
   | _=>simp[ZW]at hs
  | str a=>
   rw[jh.mp rd]at ru;obtain⟨ta,rfl⟩:=ru
   cases e with
   | tup es=>
    obtain⟨b,ws,rfl,nb,hb,rb⟩:=jc.mp re
    cases (show v=qw b from rv)
    obtain⟨ki,kz,kb,_⟩:=I.tuple (Z0.of (K:=X.K) (e1 _ _ nb hb));have ib:s.heap.IsTuple b ki.toArray:=kb;simp only[ZR];exact⟨.str_tuple a ta ib hu',.str_tuple a ta ib hu',.str_tuple a ta ib hu'⟩
   | lst es=>
    obtain⟨b,ws,rfl,nb,hb,rb⟩:=jb.mp re
    cases (show v=qw b from rv)
    obtain⟨ki,kz,kb,_⟩:=I.list (ZV.of (K:=X.K) (e1 _ _ nb hb));have ib:=kb.isList;simp only[ZR];exact⟨.str_list a ta ib hu',.str_list a ta ib hu',.str_list a ta ib hu'⟩
   | _=>simp[ZW]at hs
end
section
variable {X:Cx}{G:Gh}
noncomputable def U0 (d e:D):Bool:=Zr d&&Zr e&&decide (ZW d<=60)&&decide (ZW e<=60)
theorem Zfo (h:U0 d e=true):Zr d=true/\Zr e=true/\ZW d<=60/\ZW e<=60:=by
 simp only[U0]at h;simp_all
noncomputable def YF (d e:D):Option D:=if U0 d e=true then some (.bl (ZR d e))else none
noncomputable def WF (d e:D):Option D:=if U0 d e=true then some (.bl (!ZR d e))else none
noncomputable def rEqD (G:Gh)(neg:Bool):R2:=λx y H Q=>∃Hf d e,ZC G Hf H/\U0 d e=true/\Zo G Hf d x/\Zo G Hf e y/\Q (.bl (if neg then !ZR d e else ZR d e)) H
theorem ZpQ (hu:X.A.units+64<cLine):Yo X (xk .Eq) (rEqD G false):=by
 intro jN s σ H x y v u Q I rx ry h;obtain⟨Hf,d,e,e1,ok,rd,re,q⟩:=h;obtain⟨o1,o2,o3,o4⟩:=Zfo ok;exact(ZlM I e1 60 X.A d e x y v u o3 o4 (by omega) o1 o2 rd re rx ry).2.1 _ _ _ _ ⟨.bl (ZR d e),H,I,rfl,q⟩
theorem ZpR (hu:X.A.units+64<cLine):Yo X (xk .NotEq) (rEqD G true):=by
 intro jN s σ H x y v u Q I rx ry h;obtain⟨Hf,d,e,e1,ok,rd,re,q⟩:=h;obtain⟨o1,o2,o3,o4⟩:=Zfo ok;exact(ZlM I e1 60 X.A d e x y v u o3 o4 (by omega) o1 o2 rd re rx ry).2.2 _ _ _ _ ⟨.bl (!ZR d e),H,I,rfl,q⟩
theorem WW (hu:X.A.units+64<cLine):Y4 X G (xk .Eq) YF:=
 ⟨_,ZpQ hu,λHf H s x y d e c Q e1 st rx ry q k=>by
  unfold YF at q;split at q
  ·rename_i ok
   cases q
   exact⟨Hf,d,e,e1,ok,rx,ry,k _ Hf H (.refl e1) st (je.mpr rfl) (.scal λz=>z)⟩
  ·cases q⟩
theorem BC (hu:X.A.units+64<cLine):Y4 X G (xk .NotEq) WF:=
 ⟨_,ZpR hu,λHf H s x y d e c Q e1 st rx ry q k=>by
  unfold WF at q;split at q
  ·rename_i ok
   cases q
   exact⟨Hf,d,e,e1,ok,rx,ry,k _ Hf H (.refl e1) st (je.mpr rfl) (.scal λz=>z)⟩
  ·cases q⟩
noncomputable def Xy (x:D)(ds:List D):Bool:=Zr x&&YT ds&&decide (ZW x<=60)&&decide (Y6 ds<=60)
noncomputable def XX (x:D)(ds:List D):Bool:=ds.any λd=>ZR d x
theorem Zkr (h:Xy x ds=true):Zr x=true/\YT ds=true/\ZW x<=60/\Y6 ds<=60:=by
 simp only[Xy]at h;simp_all
open Classical in
noncomputable def JW (G:Gh)(Hf:Hp)(x:D)(u:Value):Bool:=if h:∃d v,Zr d=true/\Zo G Hf d v/\ZQ v u then ZR h.choose x else false
theorem Zju (pd:Zr d=true)(r:Zo G Hf d v)(ru:ZQ v u):JW G Hf x u=ZR d x:=by
 have h:∃d v,Zr d=true/\Zo G Hf d v/\ZQ v u:=⟨d,v,pd,r,ru⟩;unfold JW;rw[dif_pos h];obtain⟨v',p',r',ru'⟩:=h.choose_spec;have ev:=ZQ.inj ru' ru;subst ev;rw[Zo.inj p' pd r' r]
theorem Zg1:∀{ds:List D} {vs:List V} {us:List Value},YT ds=true->Zj G Hf ds vs->ZH vs us->us.any (JW G Hf x)=XX x ds
 | [],vs,us,_,r,rv=>by
  rw[Zj.nil_iff.mp r]at rv
  cases rv
  rfl
 | d::ds,vs,us,p,r,rv=>by
  obtain⟨v,rr,rfl,r1,r2⟩:=jd.mp r;have p':=by simpa[YT]using p
  cases rv with
  | cons a b=>
   rw[yR,Zju p'.1 r1 a,Zg1 p'.2 r2 b];rfl
theorem Zg2:∀{ds:List D} {vs:List V} {us:List Value} {u:Value},Zj G Hf ds vs->ZH vs us->u∈us->∃d v,d∈ds/\Zo G Hf d v/\ZQ v u
 | [],vs,us,u,r,rv,m=>by
  rw[Zj.nil_iff.mp r]at rv
  cases rv
  simp at m
 | d::ds,vs,us,u,r,rv,m=>by
  obtain⟨v,rr,rfl,r1,r2⟩:=jd.mp r
  cases rv with
  | cons a b=>
   rcases qB.mp m with e | m
   ·subst e;exact⟨d,v,by simp,r1,a⟩
   ·obtain⟨d',v',m',h1,h2⟩:=Zg2 r2 b m
    exact⟨d',v',by simp[m'],h1,h2⟩
noncomputable def rInD (G:Gh)(neg:Bool):R2:=λx y H Q=>∃Hf d ds,ZC G Hf H/\Xy d ds=true/\Zo G Hf d x/\(Zo G Hf (.lst ds) y∨Zo G Hf (.tup ds) y)/\Q (.bl (if neg then !XX d ds else XX d ds)) H
theorem Zdt {σ:St}(hu:X.A.units+64<cLine)(I:Inv X jN σ H s)(e1:ZC G Hf H)(ok:Xy d ds=true)(rd:Zo G Hf d x)(rx:ZQ x v)
  (rl:Zj G Hf ds vs) (rv:ZH vs jR):(∀y,y∈jR.toArray->yM X.A.in1 s y v (JW G Hf d y))/\jR.toArray.any (JW G Hf d)=XX d ds:=by
 obtain⟨o1,o2,o3,o4⟩:=Zkr ok;refine⟨λy hy=>?_,?_⟩
 ·obtain⟨c,w,m,h1,h2⟩:=Zg2 rl rv (by simpa using hy)
  rw[Zju (Jo o2 m) h1 h2];exact(ZlM I e1 60 X.A.in1 c d w x y v (qp (Bu m) o4) o3 (by grind) (Jo o2 m) o1 h1 rd h2 rx).1
 ·rw[show jR.toArray.any (JW G Hf d)=jR.any (JW G Hf d) by simp,Zg1 o2 rl rv]
theorem ZpS (hu:X.A.units+64<cLine):Yo X (xk .In) (rInD G false):=by
 intro jN s σ H x y v u Q I rx ry h;obtain⟨Hf,d,ds,e1,ok,rd,hl,q⟩:=h;rcases hl with hl | hl
 ·obtain⟨p,vs,rfl,np,hp,rp⟩:=jb.mp hl
  cases (show u=qw p from ry)
  obtain⟨jR,rv,pl,hz⟩:=I.list (ZV.of (e1 _ _ np hp));obtain⟨c1,c2⟩:=Zdt hu I e1 ok rd rx rp rv;refine SeqAt.in_listAt _ pl.isList c1 ⟨.bl _,H,I,rfl,?_⟩;rw[c2];exact q
 ·obtain⟨p,vs,rfl,np,hp,rp⟩:=jc.mp hl
  cases (show u=qw p from ry)
  obtain⟨jR,rv,pl,hz⟩:=I.tuple (Z0.of (e1 _ _ np hp));obtain⟨c1,c2⟩:=Zdt hu I e1 ok rd rx rp rv;refine SeqAt.in_tupleAt _ pl c1 ⟨.bl _,H,I,rfl,?_⟩;rw[c2];exact q
theorem Zfp (hu:X.A.units+64<cLine):Yo X (xk .NotIn) (rInD G true):=by
 intro jN s σ H x y v u Q I rx ry h;obtain⟨Hf,d,ds,e1,ok,rd,hl,q⟩:=h;rcases hl with hl | hl
 ·obtain⟨p,vs,rfl,np,hp,rp⟩:=jb.mp hl
  cases (show u=qw p from ry)
  obtain⟨jR,rv,pl,hz⟩:=I.list (ZV.of (e1 _ _ np hp));obtain⟨c1,c2⟩:=Zdt hu I e1 ok rd rx rp rv;refine SeqAt.notIn_listAt _ pl.isList c1 ⟨.bl _,H,I,rfl,?_⟩;rw[c2];exact q
 ·obtain⟨p,vs,rfl,np,hp,rp⟩:=jc.mp hl
  cases (show u=qw p from ry)
  obtain⟨jR,rv,pl,hz⟩:=I.tuple (Z0.of (e1 _ _ np hp));obtain⟨c1,c2⟩:=Zdt hu I e1 ok rd rx rp rv;refine SeqAt.notIn_tupleAt _ pl c1 ⟨.bl _,H,I,rfl,?_⟩;rw[c2];exact q
mutual
noncomputable def YD:D->PyData
 | .bl b=>.bool b
 | .int i=>.int i
 | .str x=>.str x
 | .tup ds=>.tuple (W1 ds)
 | .lst ds=>.list (W1 ds)
 | _=>.none
noncomputable def W1:List D->List PyData
 | []=>[]
 | d::ds=>YD d::W1 ds
end
mutual
theorem ZdZ {X:Cx}{G:Gh}{jN:Qb}{s:Shared}{σ:St}{Hf H:Hp}(I:Inv X jN σ H s)(e1:ZC G Hf H):∀{d:D} {x:V} {u:Value},Zr d=true->Zo G Hf d x->ZQ x u->∃as,Reads s.heap u (YD d) as
 | .non,x,u,_,r,ru=>by rw[jg.mp r]at ru;cases (show u=zk from ru);exact⟨_,.none⟩
 | .bl b,x,u,_,r,ru=>by rw[je.mp r]at ru;cases (show u=zf b from ru);exact⟨_,.bool b⟩
 | .int i,x,u,_,r,ru=>by rw[ja.mp r]at ru;obtain⟨t,rfl⟩:=ru;exact⟨_,.int i t⟩
 | .str y,x,u,_,r,ru=>by rw[jh.mp r]at ru;obtain⟨t,rfl⟩:=ru;exact⟨_,.str y t⟩
 | .tup ds,x,u,p,r,ru=>by
  obtain⟨l,vs,rfl,nl,hl,rl⟩:=jc.mp r
  cases (show u=qw l from ru)
  obtain⟨jR,rits,pits,_⟩:=I.tuple (Z0.of (K:=X.K) (e1 _ _ nl hl));obtain⟨as,ra⟩:=ZcI I e1 (by simpa[Zr]using p) rl rits;obtain⟨o,ho,hc,n,hd⟩:=pits;exact⟨_,.tuple ho hc hd (by simpa using ra)⟩
 | .lst ds,x,u,p,r,ru=>by
  obtain⟨l,vs,rfl,nl,hl,rl⟩:=jb.mp r
  cases (show u=qw l from ru)
  obtain⟨jR,rits,pits,_⟩:=I.list (ZV.of (K:=X.K) (e1 _ _ nl hl));obtain⟨as,ra⟩:=ZcI I e1 (by simpa[Zr]using p) rl rits;obtain⟨o,ho,hc,n,hd⟩:=pits.isList;exact⟨_,.list ho hc hd (by simpa using ra)⟩
 | .dk _,_,_,p,_,_=>by simp[Zr]at p
 | .dt _,_,_,p,_,_=>by simp[Zr]at p
 | .du _,_,_,p,_,_=>by simp[Zr]at p
 | .df _,_,_,p,_,_=>by simp[Zr]at p
 | .pen,_,_,p,_,_=>by simp[Zr]at p
 | .ty _,_,_,p,_,_=>by simp[Zr]at p
 | .clo _ _,_,_,p,_,_=>by simp[Zr]at p
theorem ZcI {X:Cx}{G:Gh}{jN:Qb}{s:Shared}{σ:St}{Hf H:Hp}(I:Inv X jN σ H s)(e1:ZC G Hf H):∀{ds:List D} {xs:List V} {us:List Value},YT ds=true->Zj G Hf ds xs->ZH xs us->∃as,ReadsAll s.heap us (W1 ds) as
 | [],xs,us,_,r,ru=>by rw[Zj.nil_iff.mp r]at ru;cases ru;exact⟨_,.nil⟩
 | d::ds,xs,us,p,r,ru=>by
  obtain⟨v,rr,rfl,r1,r2⟩:=jd.mp r;have p':Zr d=true/\YT ds=true:=by simpa[YT]using p
  cases ru with
  | cons a b=>
   obtain⟨as,q1⟩:=ZdZ I e1 p'.1 r1 a;obtain⟨bs,q2⟩:=ZcI I e1 p'.2 r2 b;exact⟨_,.cons q1 q2⟩
end
mutual
theorem Za8:∀d:D,(YD d).hasDict=false
 | .non=>by simp[YD,zo]
 | .bl _=>by simp[YD,zo]
 | .int _=>by simp[YD,zo]
 | .str _=>by simp[YD,zo]
 | .tup ds=>by simp only[YD,zo];exact ZaS ds
 | .lst ds=>by simp only[YD,zo];exact ZaS ds
 | .dk _=>by simp[YD,zo]
 | .dt _=>by simp[YD,zo]
 | .du _=>by simp[YD,zo]
 | .df _=>by simp[YD,zo]
 | .pen=>by simp[YD,zo]
 | .ty _=>by simp[YD,zo]
 | .clo _ _=>by simp[YD,zo]
theorem ZaS:∀ds:List D,qbd (W1 ds)=false
 | []=>by simp[W1,qbd]
 | d::ds=>by simp[W1,qbd,Za8 d,ZaS ds]
end
noncomputable def JE (d:D):Bool:=Zr d&&(YD d).showable&&decide ((YD d).depth<=40)&&decide ((YD d).shown.length<=xg)
noncomputable def Zjv:List D->Option D
 | [d]=>if JE d=true then some (.str (YD d).shown)else none
 | _=>none
theorem Zit (hr:X.A.guards=some [])(hu:X.A.units+64<cLine):Wg X (.builtin "repr") (λxs H Q=>∃x Hf d,xs=[x]/\ZC G Hf H/\Zo G Hf d x/\JE d=true/\Q (.str (YD d).shown) H):=by
 intro jN s σ H xs us Q I r h;obtain⟨x,Hf,d,rfl,e1,rd,ok,q⟩:=h;obtain⟨u,rfl,ru⟩:=WZ r;simp only[JE,zc,decide_eq_true_eq]at ok;obtain⟨⟨⟨o1,o2⟩,o3⟩,o4⟩:=ok
 cases d with
 | non=>
  rw[jg.mp rd]at ru;cases (show u=zk from ru);exact PySem.P.repr_of_none ⟨.str _,H,I.tok _,⟨_,rfl⟩,q⟩
 | bl b=>
  rw[je.mp rd]at ru;cases (show u=zf b from ru);refine PySem.P.repr_of_bool ⟨.str _,H,I.tok _,⟨_,rfl⟩,?_⟩
  cases b <;> exact q
 | int i=>
  rw[ja.mp rd]at ru;obtain⟨t,rfl⟩:=ru;exact PySem.P.repr_of_int (by simpa[YD,yb]using o2) ⟨.str _,H,I.tok _,⟨_,rfl⟩,q⟩
 | str y=>
  rw[jh.mp rd]at ru;obtain⟨t,rfl⟩:=ru;exact PySem.P.repr_of_str ⟨.str _,H,I.tok _,⟨_,rfl⟩,q⟩ o4
 | tup ds=>
  obtain⟨as,ra⟩:=ZdZ I e1 o1 rd ru;obtain⟨l,vs,rfl,nl,hl,rl⟩:=jc.mp rd
  cases (show u=qw l from ru)
  exact repr_of_reads' ra o2 (PyData.noDict_hsm (Za8 _)) hr (by omega) (λ_ _ e=>e) (λh' u tk hk=>⟨.str _,H,I.kept hk,⟨_,rfl⟩,q⟩) o4
 | lst ds=>
  obtain⟨as,ra⟩:=ZdZ I e1 o1 rd ru;obtain⟨l,vs,rfl,nl,hl,rl⟩:=jb.mp rd
  cases (show u=qw l from ru)
  exact repr_of_reads' ra o2 (PyData.noDict_hsm (Za8 _)) hr (by omega) (λ_ _ e=>e) (λh' u tk hk=>⟨.str _,H,I.kept hk,⟨_,rfl⟩,q⟩) o4
 | dk _=>simp[Zr]at o1
 | dt _=>simp[Zr]at o1
 | du _=>simp[Zr]at o1
 | df _=>simp[Zr]at o1
 | pen=>simp[Zr]at o1
 | ty _=>simp[Zr]at o1
 | clo _ _=>simp[Zr]at o1
theorem Zd0 (hr:X.A.guards=some [])(hu:X.A.units+64<cLine):WO X G (.builtin "repr") Zjv:=
 ⟨_,Zit hr hu,λHf H s xs ds c Q e1 st r q k=>by
  match ds,q,r with
  | [d],q,r=>
   obtain⟨v,rfl,rv⟩:=ji r;have q:(if JE d=true then some (D.str (YD d).shown)else none)=some c:=q;split at q
   ·rename_i ok
    cases q
    exact⟨v,Hf,d,rfl,e1,rv,ok,k _ Hf H (.refl e1) st (jh.mpr rfl) (.scal λz=>z)⟩
   ·cases q⟩
end
theorem Zks:typeLookup (.type "list") "keys" = pure none:=by rfl
theorem ZaF:entryFor table "dict.update.loop" = some Builtin.«dict.update.loop»:=entryFor_of_tree (by kernel_rfl)
theorem Zaa:plainId "dict.update.loop" = true:=by decide +kernel
theorem ZbL {prog:xD}{w:World}{A:xE}{E:xF}{s:Shared}{a:Addr}{o:Obj}{xs:Array Value}{k:Nat}{Q:Option Value->Shared->Prop}
  (hx:s.heap.get? a=some o) (hc:o.cls=.type "list") (hdat:o.data=.seq xs k) (hd:o.dict=none) (hA:A.handled=none)
  (h:∀h' tk,(∀b o,s.heap.get? b=some o->h'.get? b=some o)->Q none { s with heap:=h',toks:=tk }) :
  xf (xB prog w) A (getAttr? (.ref a) "keys") Q E s:=by
 have hmiss:=Zks;have hname:(["__module__","__name__","__qualname__","__doc__","__annotations__"]:List Str).contains ("keys" : Str)=false:=by decide +kernel
 have hsz:("keys" : Str).length+100<=xg:=by decide +kernel
 obtain⟨c,dct,dat,sl⟩:=o;simp only at hc hdat hd;subst hc hdat hd;obtain⟨hp,g,d,tk,os⟩:=s;have hT:∀tk',(⟨hp,g,d,tk',os⟩:Shared).TypeIs (.ref a) "list":=λ_=>⟨_,hx,rfl⟩;have f1:=sub_AttributeError;have f3:=qag.lookup;have f4:=qag.bind (.ref a);have f5:=am_list_getattr_none;unfold getAttr? getAttrBy?;refine xa ?_;refine wpAny_mkText ?_;refine xa (wpAny_attempt ?_);unfold getAttrBy
 repeat (any_goals (first | assumption | exact hT _ | ((with_reducible show xf _ _ (call (Value.builtin "list.__getattribute__") _ _) _ _ _);refine call_meets qag (hT _) am_entry_list_getattribute (F.args_list_getattribute_2 _ _) (meets_getattribute_miss_list a xs k sl "keys" _ hmiss hname hsz) ⟨hx,hA,λh' tk' e hx'=>?_⟩) | wp_step))
 obtain⟨t',u',he⟩:=hx'.there;have hTe:∀tk',(⟨h',g,d,tk',os⟩:Shared).TypeIs (.ref e) "AttributeError":=λ_=>⟨_,he,rfl⟩;have fin:∀tk',xf (xB prog w) A (do
   let b<-isInstance (.ref e) (.type "AttributeError")
   if b=true then pure none else throw (.ref e)) Q E ⟨h',g,d,tk',os⟩:=λtk'=>by
  refine xa (wpAny_isInstance (hTe _) f1 ?_);simp only[if_true];exact xb (h h' tk' hx'.of.keeps)
 show xf _ _ (getattributeRaised _ _ _ _ _ _ _) _ _ _;unfold getattributeRaised
 repeat (any_goals (first | assumption | exact fin _ | wp_step))
section
variable {X:Cx}{jN:Qb}{σ:St}{H:Hp}{s:Shared}{A:xE}{E:xF}{a:Addr}{y v:V}{u r:Value}
theorem Zkt (hu:A.units<cLine)(I:Inv X jN σ H s)(g:Uq H a y v H')(ry:ZQ y u)(rv:ZQ v r)(h:∀s',Inv X jN σ H' s'->Q () s') :
  xf (xB X.prog X.w) A (dictSet a u r) Q E s:=by
 rcases g with⟨kvs,k,e,ey,l,eH⟩ | ⟨kvs,k,b,e,ey,eb,l,eH⟩
 ·subst ey eH
  obtain⟨z,hd,vs,rel,dd⟩:=ZoZ I.hok e;have hz:vs.length<=xg:=by rw[<-rel.length];exact z
  have hl:(Y3 kvs k v).length<=xg:=by have:=Bd kvs k v;omega
  refine wpAny_dictSet_pairs (hsz:=hz) (ZgR ry) dd λh' dd' hs=>h _ ?_;have he:∃q,h'.get? a=some q:=let ⟨q,_,_,hq,_⟩:=dd';⟨q,hq⟩;exact Zdq I (by rw[e];exact zL) hs he (ZlA hl hd (rel.put k rv) dd')
 ·subst ey eH
  cases (show u=qw b from ry)
  obtain⟨z,hd,xs,rel,dd⟩:=Zo0 I.hok e;have hz:xs.length<=xg:=by rw[<-yO rel];exact z
  have hl:(Y3 kvs k v).length<=xg:=by have:=Bd kvs k v;omega
  refine wpAny_dictSet_heap hu (ZdO I.hok eb) dd λh' dd' hs=>h _ ?_;obtain⟨q,es,ep,hq,h2,h3,h4,_,h5⟩:=dd';refine Zdq I (by rw[e];exact zL) hs ⟨q,hq⟩ ⟨hl,hd,_,(rel.put k eb rv).keeps λc ys ec=>?_,q,es,ep,hq,h2,h3,h4,h5⟩;rw[Zv (ZoU ec e (λz=>nomatch z))];exact ec
end
section
variable {X:Cx}{jN:Qb}{σ:St}
inductive Puts (d:Addr):Hp->List V->Hp->Prop
 | nil {H:Hp}:Puts d H [] H
 | cons {H H1 H2:Hp} {b:Addr} {k v:V} {r:List V}:H b=some (.tup [k,v])->Uq H d k v H1->Puts d H1 r H2->Puts d H (.ref b::r) H2
theorem ZlN {Q:Shared->Prop}(hA:A.handled=none)(hu:A.units+1<cLine)
  (hQ:∀s',Inv X jN σ H' s'->Q s') (hfp:∀Hx:Hp,Hx it=none->W5 X jN Hx it) :
  ∀(k i:Nat) (s:Shared) (H:Hp),vs.length-i=k->i<=vs.length->Inv X jN σ H s->H it=none->s.heap.IsListIter it l i->H l=some (.lst vs)->l≠d->(∀Hx Hy y v,Uq Hx d y v Hy->Hx l=some (.lst vs)->Hy l=some (.lst vs))->Puts d H (vs.drop i) H'->
   xo (xB X.prog X.w) A (.builtin "dict.update.loop" ⟨[.ref d,.ref it,rawInt i,.none],[]⟩) (wants (λr s₂=>r=.none/\Q s₂) E) s:=by
 intro k
 induction k with
 | zero=>
  intro i s H hk hi I hit st hl hne hkeep hp;have hil:i=vs.length:=by omega
  obtain⟨jR,rv,pl,hz⟩:=I.list (ZV.of (K:=X.K) hl);refine xm ZaF ?_;rw[yf Zaa _];show xf _ A.in1 (pyNext (.ref it) >>= _) _ _ s;obtain⟨f0,f1,f2,f3,f4,f5⟩:=hfp H hit;have jV:=rv.length;refine xa (wpAny_pyNext_list_end (A:=A.in1) hA st pl.isList (by simp;omega) λh' eb=>?_);have I2:Inv X jN σ H { s with heap:=h' }:=I.turned (t':=s.toks) (λb o hb e=>eb b o hb e) f0 f1 f3 f4 f5;have e0:vs.drop i=[]:=by rw[hil];simp
  rw[e0]at hp
  cases hp
  show xf _ _ (Builtin.Dict.addKeywords d [] >>= _) _ _ _;refine xa (xb ?_);exact xb ⟨rfl,hQ _ I2⟩
 | succ k ih=>
  intro i s H hk hi I hit st hl hne hkeep hp;have hlt:i<vs.length:=by omega
  obtain⟨jR,rv,pl,hz⟩:=I.list (ZV.of (K:=X.K) hl);have jV:=rv.length;refine xm ZaF ?_;rw[yf Zaa _];show xf _ A.in1 (pyNext (.ref it) >>= _) _ _ s;obtain⟨f0,f1,f2,f3,f4,f5⟩:=hfp H hit;have hd:vs.drop i=vs[i]::vs.drop (i+1):=yd hlt;rw[hd]at hp;generalize hvi:vs[i]=x at hp;generalize hrest:vs.drop (i+1)=rest at hp
  cases hp with
  | @cons _ H1 _ b k0 v0 _ hb hput hrec=>
   have gx:vs[i]?=some (.ref b):=by rw[qX hlt,hvi]
   obtain⟨u,hu1,ru⟩:=rv.get gx
   cases (show u=qw b from ru)
   refine xa (wpAny_pyNext_list_item (A:=A.in1) st pl.isList (x:=.ref b) (by simpa using hu1) λh' st' sb=>?_);have I1:Inv X jN σ H { s with heap:=h' }:=I.turned (t':=s.toks) (λc o hc e=>(sb.2 c hc).trans e) f0 f1 f3 f4 f5;obtain⟨ki,rv2,pt,_⟩:=I1.tuple (Z0.of (K:=X.K) hb);obtain⟨ku,vu,e2,rk,rvv⟩:=rv2.two;subst e2;obtain⟨o,ho,hoc,n,hod⟩:=id pt;show xf _ _ (holding [qw b] _ >>= _) _ _ _;refine xa (xw ?_);refine xa (xu ?_);unfold Builtin.Dict.pairItems;refine xa (wpAny_typeOf (T:="tuple") ⟨o,ho,hoc⟩ ?_);rw[if_pos (by decide)];refine xa (xt ho hod ?_);refine xb ?_;show xf _ _ (holding [ku,vu] (dictSet d ku vu)) _ _ _;refine xw ?_;obtain⟨oi,hoi,ci,di⟩:=id st';have Ip:=I1.pinned (fp:=[it]) (λc hc=>by
    have e:c=it:=by simpa using hc
    subst e;exact hfp H hit) (λc hc=>by
    have e:c=it:=by simpa using hc
    subst e;exact⟨oi,hoi,λw z=>by rw[di]at z;cases z⟩)
   refine Zkt (by rw[Zbq];exact hu) Ip hput rk rvv λs2 I2=>?_;have pit:=I2.pin (it,oi) (qM _ (qM _ (Bh (by simp) hoi)));have ec:((i:Int)+1)=((i+1:Nat):Int):=by push_cast;rfl
   show xf _ _ (again (.builtin "dict.update.loop" ⟨[.ref d,.ref it,rawInt ((i:Int)+1),.none],[]⟩)) _ _ _;rw[ec];refine xb ⟨plainId_quiet Zaa _,?_⟩;refine ih (i+1) s2 H1 (by omega) hlt I2.unpinned pit.2.1 ⟨oi,pit.1,ci,di⟩ (hkeep _ _ _ _ hput hl) hne hkeep ?_;rw[hrest];exact hrec
theorem Ziu (hc:X.calm=true)(hu:X.A.units+64<cLine)(tk:Bool):Wg X (.type "dict") (λxs H Q=>∃l vs,xs=[.ref l]/\H l=some (.lst vs)/\∀p,H p=none->∃H',Puts p (Zs H p (if tk then .dT []else .dK [])) vs H'/\Q (.ref p) H'):=by
 intro jN s σ H xs us Q I r h;obtain⟨l,vs,rfl,hl,q⟩:=h;obtain⟨u,rfl,ru⟩:=WZ r
 cases (show u=qw l from ru)
 obtain⟨H',puts,q'⟩:=q s.heap.objs.size (I.hok.fresh (qk _));have hA:=I.ok.hd hc;refine callType_codes (Q₁:=λobj s₁=>obj=.ref s.heap.objs.size/\s₁ = { s with heap:=s.heap.push { cls:=.type "dict",data:=.dict #[] } }) F.kt_called_dict (F.kt_typeCall_dict_1 _) F.entry_dict_init (kt_code_dict_new _ ⟨rfl,rfl⟩) ?_;rintro obj s₁ ⟨rfl,rfl⟩;have hbig:=I.big;have I1:Inv X jN σ (Zs H s.heap.objs.size (if tk then .dT []else .dK [])) { s with heap:=s.heap.push { cls:=.type "dict",data:=.dict #[] } }:=
  I.laid (t':=s.toks) (λb o e=>qj _ e) (qk _) (by
   cases tk
   ·exact ZlB s.heap hbig
   ·exact ZgS s.heap hbig)
 have hnew:(s.heap.push { cls:=.type "dict",data:=.dict #[] }).get? s.heap.objs.size=some { cls:=.type "dict",data:=.dict #[] }:=qE _ rfl;have hTd:({ s with heap:=s.heap.push { cls:=.type "dict",data:=.dict #[] } }:Shared).TypeIs (.ref s.heap.objs.size) "dict":=⟨_,hnew,rfl⟩;have hld:l≠s.heap.objs.size:=YC hl (I.hok.fresh (qk _));have hl1:(Zs H s.heap.objs.size (if tk then HO.dT []else HO.dK [])) l=some (.lst vs):=by rw[Zv hld];exact hl
 obtain⟨zz,jR,n,rits,hlo⟩:=(show YQ X.prog X.w _ _ l (.lst vs)from I1.hok l _ hl1);refine⟨hTd,F.args_dict_init_2 _ _,?_⟩;unfold Builtin.«dict.__init__»;refine xa ?_;unfold Builtin.Dict.selfAndRest;refine xa (wpAny_notOrdered_dict hTd ?_);show xf _ _ (pure (s.heap.objs.size,[qw l])) _ _ _;refine xb ?_;show xf _ _ (qbF "dict.__init__" s.heap.objs.size (.ref l) [] .none) _ _ _;unfold qbF;have hTl:({ s with heap:=s.heap.push { cls:=.type "dict",data:=.dict #[] } }:Shared).TypeIs (.ref l) "list":=⟨_,hlo,rfl⟩;refine xa (wpAny_typeOf hTl ?_);rw[if_pos (by decide)];refine xa (ZbL hlo rfl rfl rfl hA λh2 tk2 kp2=>?_);simp only[Option.isNone_none,if_true];refine xa (wpAny_rule ?_);have I2:Inv X jN σ (Zs H s.heap.objs.size (if tk then .dT []else .dK [])) { s with heap:=h2,toks:=tk2 }:=I1.kept kp2;obtain⟨its',rv',pl',hz'⟩:=I2.list (ZV.of (K:=X.K) hl1);refine xa (wpAny_pyIter_list pl'.isList ?_);refine xb ⟨plainId_quiet Zaa _,?_⟩;have I3:Inv X jN σ (Zs H s.heap.objs.size (if tk then .dT []else .dK [])) { s with heap:=h2.push { cls:=.type "list_iterator",data:=.fields #[.ref l,.int 0 0] },toks:=tk2 }:=I2.kept (t':=tk2) λb o e=>qj _ e;have hfresh:(Zs H s.heap.objs.size (if tk then HO.dT []else HO.dK [])) h2.objs.size=none:=I2.hok.fresh (qk _);have hst:(h2.push { cls:=.type "list_iterator",data:=.fields #[.ref l,.int 0 0] }).IsListIter h2.objs.size l 0:=⟨_,qE _ rfl,rfl,rfl⟩;refine ZlN (l:=l) (vs:=vs) (H':=H') (A:=X.A.in1) (jN:=jN) (σ:=σ) hA (by rw[Zbq];omega) (λs' I'=>⟨.ref s.heap.objs.size,H',I',rfl,q'⟩) (λHx hn=>I2.fpOk (qk _) hn) vs.length 0 _ _ rfl (zr _) I3 hfresh hst hl1 hld ?_ puts;intro Hx Hy y v hput hxl;rcases hput with⟨kvs,k,e,ey,l',eH⟩ | ⟨kvs,k,b,e,ey,eb,l',eH⟩
 ·subst eH;rw[Zv hld];exact hxl
 ·subst eH;rw[Zv hld];exact hxl
end
section
variable {X:Cx}{G:Gh}
noncomputable def BK:D->Option Ye
 | .int i=>some (.inl i)
 | .str x=>some (.inr x)
 | _=>none
noncomputable def Wq:List D->Option (List Ye)
 | []=>some []
 | d::ds=>match BK d,Wq ds with | some k,some ks=>some (k::ks) | _,_=>none
noncomputable def Ul:D->Option V
 | .int i=>some (.int i)
 | .bl b=>some (.bl b)
 | .str x=>some (.str x)
 | .non=>some .non
 | _=>none
theorem Zfq (h:BK d=some k)(r:Zo G H d v):v=kV k:=by
 cases d with
 | int i=>cases h;rw[ja.mp r];rfl
 | str i=>cases h;rw[jh.mp r];rfl
 | _=>cases h
theorem Zas:∀{ds:List D} {vs:List V} {ks:List Ye},Wq ds=some ks->Zj G H ds vs->vs=ks.map kV
 | [],vs,ks,h,r=>by cases h;exact Zj.nil_iff.mp r
 | d::ds,vs,ks,h,r=>by
  obtain⟨v,rr,rfl,r1,r2⟩:=jd.mp r;unfold Wq at h
  cases e1:BK d with
  | none=>simp_all
  | some k=>
   cases e2:Wq ds with
   | none=>simp_all
   | some ks'=>
    rw[e1,e2]at h
    cases h
    rw[Zfq e1 r1,Zas e2 r2];rfl
theorem Zfr (h:Ul d=some w)(r:Zo G H d v):v=w:=by
 cases d with
 | int i=>cases h;exact ja.mp r
 | str i=>cases h;exact jh.mp r
 | bl i=>cases h;exact je.mp r
 | non=>cases h;exact jg.mp r
 | _=>cases h
noncomputable def ZlO:D->Option (List Ye×V)
 | .tup [.tup ks,v]=>match Wq ks,Ul v with | some k,some w=>some (k,w) | _,_=>none
 | _=>none
noncomputable def Um:List (List Ye×V)->List D->Option (List (List Ye×V))
 | kg,[]=>some kg
 | kg,d::ds=>match ZlO d with | some (k,v)=>Um (Y3 kg k v) ds | none=>none
theorem Ziv (h:ZlO d=some (k,v)):∃ks w,d=.tup [.tup ks,w]/\Wq ks=some k/\Ul w=some v:=by
 match d,h with
 | .tup [.tup ks,w],h=>
  have h':(match Wq ks,Ul w with | some k,some w=>some (k,w) | _,_=>none)=some (k,v):=h
  cases e1:Wq ks with
  | none=>simp_all
  | some k'=>
   cases e2:Ul w with
   | none=>simp_all
   | some w'=>rw[e1,e2]at h';cases h';exact⟨ks,w,rfl,e1,e2⟩
theorem ZlP (e1:ZC G Hf H)(hp:H p=none):∀{ds:List D} {vs:List V} {kg res:List (List Ye×V)},Zj G Hf ds vs->Um kg ds=some res->kg.length+ds.length<=xg->Puts p (Zs H p (.dT kg)) vs (Zs H p (.dT res))
 | [],vs,kg,res,r,h,_=>by
  rw[Zj.nil_iff.mp r]
  cases h
  exact .nil
 | d::ds,vs,kg,res,r,h,hl=>by
  obtain⟨v,rr,rfl,r1,r2⟩:=jd.mp r;unfold Um at h
  cases e:ZlO d with
  | none=>simp_all
  | some kv=>
   obtain⟨k,w⟩:=kv;rw[e]at h;obtain⟨ks,wd,rfl,q1,q2⟩:=Ziv e;obtain⟨b,ws,rfl,nb,hb,rb⟩:=jc.mp r1;obtain⟨v1,v2,rfl,rk,rv⟩:=jo rb;obtain⟨c,cs,rfl,nc,hcx,rc⟩:=jc.mp rk;have ec:=Zas q1 rc;subst ec;have ev:=Zfr q2 rv;subst ev;have hb':=e1 _ _ nb hb;have hc':=e1 _ _ nc hcx;have ll:=Bd kg k v2;have hl':kg.length+(ds.length+1)<=xg:=by omega
   refine .cons (by rw[Zv (YC hb' hp)];exact hb') (Uq.t Z1 (by rw[Zv (YC hc' hp)];exact hc') (by omega)) ?_;rw[Zjm];exact ZlP e1 hp r2 h (by omega)
noncomputable def ZlQ:List D->Option D
 | [.lst ds]=>if ds.length<=xg then (Um [] ds).map .dt else none
 | _=>none
theorem Ziw (hc:X.calm=true)(hu:X.A.units+64<cLine):Wg X (.type "dict") (λxs H Q=>∃l vs,xs=[.ref l]/\H l=some (.lst vs)/\∀p,H p=none->∃kvs,Puts p (Zs H p (.dT [])) vs (Zs H p (.dT kvs))/\∀o,Q (.ref p) (Zs H p (.frz o (.dT kvs)))):=by
 intro jN s σ H xs us Q I r h;obtain⟨l,vs,ex,hl,hp⟩:=h;refine ZK (Ziu hc hu true jN s σ H xs us (λv H'=>∃p kvs,v=.ref p/\H'=Zs H p (.dT kvs)/\∀o,Q (.ref p) (Zs H p (.frz o (.dT kvs)))) I r ⟨l,vs,ex,hl,λp hn=>?_⟩) λu s1 ⟨v,H1,I1,r1,p,kvs,ev,eH,q⟩=>?_
 ·obtain⟨kvs,pu,q⟩:=hp p hn
  exact⟨_,pu,p,kvs,rfl,rfl,q⟩
 ·subst ev eH
  have ok:=I1.hok p (.dT kvs) Z1;obtain⟨_,_,xs',_,o,es,ep,h1,_⟩:=(show YQ X.prog X.w _ s1.heap p (.dT kvs)from ok);have I2:=I1.write (o:=.frz o (.dT kvs)) (t':=s1.toks) (by rw[Z1];trivial) (.inl rfl) (λ_ _ _ e=>e) ⟨o,h1⟩ ⟨h1,ok.stay (λ_ _ _ e=>e) (λb e=>?_) λb xs e=>?_⟩
  ·rw[Zjm]at I2
   exact⟨.ref p,_,I2,r1,q o⟩
  ·have:b≠p:=λz=>by rw[z,Z1]at e;cases e
   rw[Zv this];exact e
  ·have:b≠p:=λz=>by rw[z,Z1]at e;cases e
   rw[Zv this];exact e
theorem Zix (hc:X.calm=true)(hu:X.A.units+64<cLine):WO X G (.type "dict") ZlQ:=
 ⟨_,Ziw hc hu,λHf H s xs ds c Q e1 st r q k=>by
  match ds,q,r with
  | [.lst es],q,r=>
   have q:(if es.length<=xg then (Um [] es).map D.dt else none)=some c:=q;split at q
   ·cases e:Um [] es with
    | none=>simp_all
    | some res=>
     rw[e]at q
     cases q
     obtain⟨v,rfl,rv⟩:=ji r;obtain⟨l,vs,rfl,nl,hl,rl⟩:=jb.mp rv;refine⟨l,vs,rfl,e1 _ _ nl hl,λp hp=>⟨_,ZlP e1 hp rl e (by simp_all),λo=>?_⟩⟩;have nf:=Gh.nofp st hp;have g2:=Gr.new (o:=.frz o (.dT res)) e1 hp nf;exact k (.ref p) _ _ g2 (Gh.grow st hp) (jl.mpr ⟨p,o,rfl,nf,Z1⟩) λa ea _=>by simp_all
   ·cases q⟩
theorem ZpT (hu:X.A.units+1<cLine):Yo X (xk .In) (λx y H Q=>∃a o,y=.ref a/\VG H a x o/\Q (.bl o.isSome) H):=by
 intro jN s σ H x y v u Q I rx ry h;obtain⟨a,o,rfl,g,q⟩:=h
 cases (show u=qw a from ry)
 exact d_in hu I g rx λs' I'=>⟨.bl _,H,I',rfl,q⟩
theorem Zku (hu:X.A.units+1<cLine):Yo X (xk .NotIn) (λx y H Q=>∃a o,y=.ref a/\VG H a x o/\Q (.bl (!o.isSome)) H):=by
 intro jN s σ H x y v u Q I rx ry h;obtain⟨a,o,rfl,g,q⟩:=h
 cases (show u=qw a from ry)
 exact ZnM hu I g rx λs' I'=>⟨.bl _,H,I',rfl,q⟩
noncomputable def U1:D->D->Option Bool
 | x,.lst ds=>if Xy x ds=true then some (XX x ds)else none
 | x,.tup ds=>if Xy x ds=true then some (XX x ds)else none
 | .tup ks,.dt kvs=>(Wq ks).map λk=>(YY kvs k).isSome
 | .tup ks,.du kvs=>(Wq ks).map λk=>(YY kvs k).isSome
 | x,.dk kvs=>(BK x).map λk=>(YY kvs k).isSome
 | _,_=>none
noncomputable def Xq (x y:D):Option D:=(U1 x y).map .bl
noncomputable def UP (x y:D):Option D:=(U1 x y).map λb=>.bl (!b)
theorem Zfs (e1:ZC G Hf H)(rx:Zo G Hf d x)(ry:Zo G Hf e y)(h:U1 d e=some b) :
  (∃ds,Xy d ds=true/\(Zo G Hf (.lst ds) y∨Zo G Hf (.tup ds) y)/\b=XX d ds)∨∃a o,y=.ref a/\VG H a x o/\b=o.isSome:=by
 cases e with
 | lst ds=>
  have h:(if Xy d ds=true then some (XX d ds)else none)=some b:=by cases d <;> exact h
  split at h
  ·rename_i ok;cases h;exact .inl ⟨ds,ok,.inl ry,rfl⟩
  ·cases h
 | tup ds=>
  have h:(if Xy d ds=true then some (XX d ds)else none)=some b:=by cases d <;> exact h
  split at h
  ·rename_i ok;cases h;exact .inl ⟨ds,ok,.inr ry,rfl⟩
  ·cases h
 | dt kvs=>
  obtain⟨a,o,rfl,na,ha⟩:=jl.mp ry
  cases d with
  | tup ks=>
   have h:(Wq ks).map (λk=>(YY kvs k).isSome)=some b:=h
   cases q:Wq ks with
   | none=>rw[q]at h;cases h
   | some k=>
    rw[q]at h;cases h;obtain⟨c,cs,rfl,nc,hcx,rc⟩:=jc.mp rx;have ec:=Zas q rc;subst ec;exact .inr ⟨a,_,rfl,.inr ⟨kvs,k,c,.inr ⟨o,e1 _ _ na ha⟩,rfl,e1 _ _ nc hcx,rfl⟩,rfl⟩
  | _=>cases h
 | du kvs=>
  obtain⟨a,rfl,na,ha⟩:=jm.mp ry
  cases d with
  | tup ks=>
   have h:(Wq ks).map (λk=>(YY kvs k).isSome)=some b:=h
   cases q:Wq ks with
   | none=>rw[q]at h;cases h
   | some k=>
    rw[q]at h;cases h;obtain⟨c,cs,rfl,nc,hcx,rc⟩:=jc.mp rx;have ec:=Zas q rc;subst ec;exact .inr ⟨a,_,rfl,VG.t (e1 _ _ na ha) (e1 _ _ nc hcx),rfl⟩
  | _=>cases h
 | dk kvs=>
  obtain⟨a,rfl,na,ha⟩:=jk.mp ry;have h:(BK d).map (λk=>(YY kvs k).isSome)=some b:=by cases d <;> exact h
  cases q:BK d with
  | none=>simp_all
  | some k=>
   rw[q]at h;cases h;have ek:=Zfq q rx;subst ek;exact .inr ⟨a,_,rfl,VG.k (e1 _ _ na ha),rfl⟩
 | _=>cases d <;> cases h
theorem Zd1 (hu:X.A.units+64<cLine):Y4 X G (xk .In) Xq:=
 ⟨_,(ZpS hu).or (ZpT (by omega)),λHf H s x y d e c Q e1 st rx ry q k=>by
  unfold Xq at q
  cases h:U1 d e with
  | none=>simp_all
  | some b=>
   rw[h]at q;cases q;have kk:=k (.bl b) Hf H (.refl e1) st (je.mpr rfl) (.scal λz=>z);rcases Zfs e1 rx ry h with⟨ds,ok,hl,rfl⟩ | ⟨a,o,ey,g,rfl⟩
   ·exact .inl ⟨Hf,d,ds,e1,ok,rx,hl,kk⟩
   ·exact .inr ⟨a,o,ey,g,kk⟩⟩
theorem Zkv (hu:X.A.units+64<cLine):Y4 X G (xk .NotIn) UP:=
 ⟨_,(Zfp hu).or (Zku (by omega)),λHf H s x y d e c Q e1 st rx ry q k=>by
  unfold UP at q
  cases h:U1 d e with
  | none=>simp_all
  | some b=>
   rw[h]at q;cases q;have kk:=k (.bl (!b)) Hf H (.refl e1) st (je.mpr rfl) (.scal λz=>z);rcases Zfs e1 rx ry h with⟨ds,ok,hl,rfl⟩ | ⟨a,o,ey,g,rfl⟩
   ·exact .inl ⟨Hf,d,ds,e1,ok,rx,hl,kk⟩
   ·exact .inr ⟨a,o,ey,g,kk⟩⟩
end
section
variable {X:Cx}{G:Gh}{own ob:List Nat}{fr:Bool}{f:Ze->M D}
noncomputable def ZnW (ta:TA):TE:=fun σ H Q=>ta σ H λvs H1=>∃j:Int,vs=[.int j]/\∀p,H1 p=none->Q (.ref p) (Zs H1 p (.rng 0 j))
theorem Zkw (hg:Gl X "range")(hm:X.mg "range" = none)(ha:PA X [a] ta)(hs:xh [a] X.env=[(false,eval a X.env)]:=by rfl):PE X (.Call (.Name "range" p) [a] [] pos) (ZnW ta):=by
 intro jN s σ H Q I h;refine Call_ (JB I hg hm boot_range (z6 (ZK (ha pos jN s σ H _ I h) λus s1 ⟨vs,H1,I1,r1,q1⟩=>?_) hs rfl));obtain⟨j,e,q⟩:=q1;subst e
 cases r1 with
 | cons r rr=>
  cases rr
  obtain⟨t,rfl⟩:=r;refine call_range_1 ⟨.ref s1.heap.objs.size,Zs H1 s1.heap.objs.size (.rng 0 j),I1.laid (λb o e=>qj _ e) (qk _) ?_,rfl,q _ (I1.hok.fresh (qk _))⟩;exact⟨_,_,_,qE _ rfl⟩
theorem Zd2:∀(ys:List Value) (lo:Int),(∀(j:Nat) v,ys[j]?=some v->∃t,v=.int (lo+j) t)->ZH ((qm ys.length).map λ(i:Nat)=>V.int (lo+i)) ys
 | [],lo,_=>.nil
 | y::ys,lo,h=>by
  obtain⟨t,e⟩:=h 0 y rfl;rw[zb,z5,qS,qz];refine .cons ⟨t,by rw[e]⟩ ?_;have q:=Zd2 ys (lo+1) λj v hv=>by
   obtain⟨t,e⟩:=h (j+1) v (by simpa using hv);exact⟨t,by rw[e];congr 1;push_cast;omega⟩
  have ee:((λ(i:Nat)=>V.int (lo+i))∘qcv)=λ(i:Nat)=>V.int (lo+1+i):=by
   funext i;show V.int (lo+(qcv i:Nat))=V.int (lo+1+i);congr 1;push_cast;omega
  rw[ee];exact q
theorem Zf2 (hc:X.calm=true):Wg X (.type "list") (λxs H Q=>∃r j,xs=[.ref r]/\H r=some (.rng 0 j)/\-(2 ^ 62)<=j/\j<=2 ^ 24/\∀l,H l=none->Q (.ref l) (Zs H l (.lst ((qm j.toNat).map λ(i:Nat)=>V.int (0+i))))):=by
 intro jN s σ H xs us Q I r h;obtain⟨rr,j,rfl,hr,h1,h2,q⟩:=h;obtain⟨u,rfl,ru⟩:=WZ r
 cases (show u=qw rr from ru)
 obtain⟨t,u',v',hro⟩:=(show YQ X.prog X.w H s.heap rr (.rng 0 j)from I.hok rr _ hr);have hn:qbE 0 j 1=((j.toNat:Nat):Int):=by rw[rangeSize_one];split <;> omega
 refine call_list_range (I.ok.hd hc) (show IsRange s.heap rr 0 j 1 t u' v' from hro) (small_one (by omega) (by omega) h1 (by omega)) hn (by omega) λh' tk acc' c' hk hS hacc=>?_;obtain⟨sz,hit⟩:=hacc;have rv:=Zd2 acc'.toList 0 λi v hv=>by
  simp_all
 have el:acc'.toList.length=j.toNat:=by omega
 rw[el]at rv;refine⟨.ref s.heap.objs.size,Zs H s.heap.objs.size (.lst ((qm j.toNat).map λ(i:Nat)=>V.int (0+i))),I.laid hk (qk _) ?_,rfl,q _ (I.hok.fresh (qk _))⟩;refine⟨?_,acc'.toList,c',rv,?_⟩
 ·rw[qe,qL]
  show j.toNat<=2 ^ 24;omega
 ·omega
noncomputable def Zat (f:Ze->M D):Ze->M D:=fun ρ=>Zp (f ρ) λd=>match d with | .int j=>if -(2 ^ 62)<=j/\j<=2 ^ 24 then ZJ (.lst (Yw 0 j.toNat))else ZS | _=>ZS
theorem Zd3 (lo:Int):∀(l:List Nat),Zj G Hf (l.map λ(i:Nat)=>D.int (lo+i)) (l.map λ(i:Nat)=>V.int (lo+i))
 | []=>Zj.nil_iff.mpr rfl
 | i::l=>Zj.cons (ja.mpr rfl) (Zd3 lo l)
theorem Zb4 {p1 p2 pos1 pos:Pos}(hc:X.calm=true)(hg:Gl X "range")(hm:X.mg "range" = none)(hg2:Gl X "list")(hm2:X.mg "list" = none)(hv2:xj "list" = some (.type "list"))(ha:PD X G r1 a f)
  (hs:xh [a] X.env=[(false,eval a X.env)]:=by rfl)
  (he:xh [.Call (.Name "range" p1) [a] [] pos1] X.env=(false,eval (.Call (.Name "range" p1) [a] [] pos1) X.env)::xh [] X.env:=by rfl):PD X G true (.Call (.Name "list" p2) [.Call (.Name "range" p1) [a] [] pos1] [] pos) (Zat f):=by
 obtain⟨t,pa,qa⟩:=ha.drop;refine⟨_,Zfj (Zf2 hc) hg2 hm2 hv2 (Xt (Zkw hg hm (Xt pa X4 (by rw[hs];rfl)) hs) X4 he) (by decide) (by decide) he rfl,fun σ Hf H ρ s d s' Q e1 e2 e3 e4 k=>?_⟩;obtain⟨dj,s1,a1,a2⟩:=Zy e4
 cases dj with
 | int j=>
  obtain⟨c,a3⟩:=XC a2;obtain⟨rfl,rfl⟩:=ZM a3;refine qa σ Hf H ρ s _ _ _ e1 e2 e3 a1 λv jX H1 g st r=>?_;rw[ja.mp r];refine⟨j,rfl,λp hp=>⟨p,j,rfl,Z1,c.1,c.2,λl hl=>?_⟩⟩;have hlp:l≠p:=λz=>by rw[z,Z1]at hl;cases hl
  have hl1:H1 l=none:=by rw[Zv hlp]at hl;exact hl
  have j8:G.st s' (Zs H1 p (.rng 0 j)):=Gh.grow st hp;have nf:=Gh.nofp j8 hl;have fp:jX p=none:=by
   cases q:jX p with
   | none=>rfl
   | some o=>rw[g.fh p o (Gh.nofp st hp) q]at hp;cases hp
  have gA:Gr G jX H1 jX (Zs H1 p (.rng 0 j)):=⟨λb o n q=>by rw[Zv (YC q hp)];exact q,.refl _ _,λb o n q=>by rw[Zv (YC q fp)];exact g.fh b o n q,λb n h1 h2=>h1⟩;have gB:=Gr.new (o:=.lst ((qm j.toNat).map λ(i:Nat)=>V.int (0+i))) gA.fh hl nf;have rr:Zj G jX (Yw 0 j.toNat) ((qm j.toNat).map λ(i:Nat)=>V.int (0+i)):=Zd3 0 _;refine k (.ref l) _ _ ((g.trans gA).trans gB) (Gh.grow j8 hl) (jb.mpr ⟨l,_,rfl,nf,Z1,rr.ext gB.ff⟩) λ_=>?_;exact jn (g.trans gA).hh (λa ea _=>by simp_all) (YJ.mk gA.fh hl nf rr)
 | _=>cases a2
end
structure BlkS (X:Cx)(XN:List Str)(NS:List (Str×NameKind))(N':List Str)(src:List (Option Nat))(scope:Scope):Prop where
 xn:X.N=XN
 ns:X.env.scope.names=NS
 nocell:∀y∈scope.names,y.2≠.cell
 kind:scope.kind=.function
 names:∀y∈scope.names,y.2=.local->scope.names.lookup y.1=some .local
 len:src.length=N'.length
 free:∀y∈scope.names,y.2=.free->NS.lookup y.1=some .cell∨NS.lookup y.1=some .free
 from_:(src.zip N').all (λp=>match p.1 with | some j=>decide (XN[j]?=some p.2)&&(decide (NS.lookup p.2=some .cell)||decide (NS.lookup p.2=some .free))&&decide (scope.names.lookup p.2=some .free) | none=>true)=true
theorem Zal {env:Env}:∀{names:List (Str×NameKind)} {x:Str},names.lookup x=some .free->
  (names.map λ(n,k)=>if (k==zw&&env.scope.kind == .function&&env.kindOf n==some .cell)then (n,yT)else (n,k)).lookup x=some .cell∨
  (names.map λ(n,k)=>if (k==zw&&env.scope.kind == .function&&env.kindOf n==some .cell)then (n,yT)else (n,k)).lookup x=some .free
 | [],_,h=>by simp at h
 | (n,k)::r,x,h=>by
  have ih:=@Zal env r x;show qaU x ((if (k==zw&&env.scope.kind == .function&&env.kindOf n==some .cell)=true then (n,yT)else (n,k))::_)=_∨qaU x ((if (k==zw&&env.scope.kind == .function&&env.kindOf n==some .cell)=true then (n,yT)else (n,k))::_)=_
  cases hx:x==n with
  | true=>
   simp only[zd,hx]at h
   cases h
   by_cases hc:(zw==zw&&env.scope.kind == .function&&env.kindOf n==some .cell)=true
   ·rw[if_pos hc];left;simp[zd,hx]
   ·rw[if_neg hc];right;simp_all
  | false=>
   simp only[zd,hx]at h;by_cases hc:(k==zw&&env.scope.kind == .function&&env.kindOf n==some .cell)=true
   ·rw[if_pos hc];simp only[zd,hx];exact ih h
   ·rw[if_neg hc];simp only[zd,hx];exact ih h
theorem Zab {env:Env}:∀{names:List (Str×NameKind)} {x:Str} {k':NameKind},(∀y∈names,y.2≠.cell)->(k'=.cell∨k'=.free)->
  (names.map λ(n,k)=>if (k==zw&&env.scope.kind == .function&&env.kindOf n==some .cell)then (n,yT)else (n,k)).lookup x=some k'->names.lookup x=some .free
 | [],_,_,_,_,h=>by simp at h
 | (n,k)::r,x,k',nc,hk,h=>by
  have ih:=@Zab env r x k' (λy hy=>nc y (qW _ hy)) hk;have h:qaU x ((if (k==zw&&env.scope.kind == .function&&env.kindOf n==some .cell)=true then (n,yT)else (n,k))::_)=_:=h
  cases hx:x==n with
  | true=>
   by_cases hc:(k==zw&&env.scope.kind == .function&&env.kindOf n==some .cell)=true
   ·have:k=.free:=by
     simp_all
    simp_all
   ·simp_all
  | false=>
   by_cases hc:(k==zw&&env.scope.kind == .function&&env.kindOf n==some .cell)=true
   ·rw[if_pos hc]at h;simp only[zd,hx]at h⊢;exact ih h
   ·rw[if_neg hc]at h;simp only[zd,hx]at h⊢;exact ih h
theorem Zap:∀(names:List (Str×NameKind)) (kg:List (Str×Addr)),(∀y∈names,y.2=.free->∃c,env.cells.lookup y.1=some c)->
  (∀x c,kg.lookup x=some c->env.cells.lookup x=some c)->
  ∃cl,(forIn names kg λ(p:Str×NameKind) (cs:List (Str×Addr))=>(if (p.2==zw)=true then do let a<-cellOf env p.1;pure (yE ((p.1,a)::cs))else pure (yE cs):Sem (ForInStep (List (Str×Addr)))))=pure cl/\
   (∀x c,cl.lookup x=some c->env.cells.lookup x=some c)/\(∀x c,kg.lookup x=some c->∃c',cl.lookup x=some c')/\∀y∈names,y.2=.free->∃c,cl.lookup y.1=some c
 | [],kg,_,h2=>⟨kg,by simp,h2,λx c h=>⟨c,h⟩,λy hy=>by simp at hy⟩
 | (n,k)::r,kg,h1,h2=>by
  by_cases hk:k=.free
  ·subst hk
   obtain⟨c,hc⟩:=h1 (n,.free) List.mem_cons_self rfl;have hcell:cellOf env n=pure c:=by unfold cellOf;rw[hc]
   obtain⟨cl,q1,q2,q3,q4⟩:=Zap (env:=env) r ((n,c)::kg) (λy hy=>h1 y (qW _ hy)) λx c' h=>by
    cases hx:x==n with
    | true=>
     simp only[zd,hx]at h
     cases h
     have:x=n:=by simpa using hx
     rw[this];exact hc
    | false=>simp only[zd,hx]at h;exact h2 x c' h
   refine⟨cl,?_,q2,λx c' h=>?_,λy hy hf=>?_⟩
   ·rw[List.forIn_cons]
    simp only[beq_self_eq_true,if_true,hcell,pure_bind];exact q1
   ·cases hx:x==n with
    | true=>exact q3 x c (by simp[zd,hx])
    | false=>exact q3 x c' (by simp only[zd,hx];exact h)
   ·rcases qB.mp hy with e | hy
    ·subst e;exact q3 n c (by simp[zd])
    ·exact q4 y hy hf
  ·obtain⟨cl,q1,q2,q3,q4⟩:=Zap (env:=env) r kg (λy hy=>h1 y (qW _ hy)) h2
   refine⟨cl,?_,q2,q3,λy hy hf=>?_⟩
   ·rw[List.forIn_cons]
    simp_all
   ·rcases qB.mp hy with e | hy
    ·simp_all
    ·exact q4 y hy hf
theorem BlkS.ok (B:BlkS X XN NS N' src scope)(ok:X.Ok):∃cl,BlkOk X N' src scope cl:=by
 have hcells:∀y∈scope.names,y.2=.free->∃c,X.env.cells.lookup y.1=some c:=λy hy hf=>ok.has y.1 (by
  have:=B.free y hy hf;rw[<-B.ns]at this;exact this)
 obtain⟨cl,q1,q2,q3,q4⟩:=Zap scope.names [] hcells (λx c h=>by simp at h);refine⟨cl,?_,B.nocell,B.kind,B.names,B.len,q2,λx hx=>?_,λi j x e1 e2=>?_⟩
 ·unfold closureFor
  simp_all
 ·have hf:scope.names.lookup x=some .free:=by
   rcases hx with h | h
   ·exact Zab B.nocell (.inl rfl) h
   ·exact Zab B.nocell (.inr rfl) h
  exact q4 (x,.free) (zm hf) rfl
 ·have hm:=by
   have:(src.zip N')[i]?=some (some j,x):=by
    rw[y4];exact⟨e1,e2⟩
   exact zp this
  have q:=zF.mp B.from_ _ hm;simp at q;obtain⟨⟨p1,p2⟩,p3⟩:=q;refine⟨by rw[B.xn];exact p1,?_,Zal p3⟩;show X.env.scope.names.lookup x=_∨X.env.scope.names.lookup x=_;rw[B.ns];exact p2
section
variable {X:Cx}{G:Gh}{elt tg iter:Expr}{ifs:List Expr}{scope:Scope}{pos pos' spos:Pos}{XN:List Str}{NS:List (Str×NameKind)}{N':List Str}{src:List (Option Nat)}{fi:Ze->M (List D)}{τ:D->Ze->Option Ze}{ft:Ze->M Bool}{fe:Ze->M D}{r1:Bool}{i:Nat}{x:Str}
theorem ZlR (hc:X.calm=true)(B:BlkS X XN NS N' src scope)(hi:XA X G tg iter fi)
  (hg:∀cl jN C s H fp,VL (YR X jN N' scope cl C s H fp) G tg (λi=>src[i]?=some none) τ) (ht:∀cl jN C s H fp,VX (YR X jN N' scope cl C s H fp) ifs (UZ G ft)) (he:∀cl jN C s H fp,PD (YR X jN N' scope cl C s H fp) G r1 elt fe)
  (hs:∀x,foldedSetIterable iter X.env x=pure x:=by intro _;rfl):PD X G true (.ListComp elt [⟨tg,iter,ifs,0⟩] scope pos) (Yb src fi τ ft fe):=by
 obtain⟨wi,pi,qi⟩:=hi;refine⟨_,λjN s σ H Q I h=>?_,ZgX (r1:=r1) qi⟩;obtain⟨cl,B'⟩:=B.ok I.ok;exact ZnP hc B' pi (λjN C s H fp=>(hg cl jN C s H fp).canon) (ht cl) (λjN C s H fp=>(he cl jN C s H fp).canon) hs jN s σ H Q I h
theorem ZaT (hN:X.N.Nodup)(hi':X.N[i]?=some x)(hx:WR X.env.scope x)
  (hc:X.calm=true) (B:BlkS X XN NS N' src scope) (hi:XA X G tg iter fi)
  (hg:∀cl jN C s H fp,VL (YR X jN N' scope cl C s H fp) G tg (λi=>src[i]?=some none) τ) (ht:∀cl jN C s H fp,VX (YR X jN N' scope cl C s H fp) ifs (UZ G ft)) (he:∀cl jN C s H fp,PD (YR X jN N' scope cl C s H fp) G r1 elt fe)
  (hsw:xr (.ListComp elt [⟨tg,iter,ifs,0⟩] scope pos) (some (.Name x pos')) spos.line X.env=pure true:=by rfl)
  (hs:∀x,foldedSetIterable iter X.env x=pure x:=by intro _;rfl)
  (hf:X.fn x=true∨X.env.scope.names.lookup x=some .local:=by first | exact .inl rfl | exact .inr rfl | assumption) :
  JU X G true i (.Assign [.Name x pos'] (.ListComp elt [⟨tg,iter,ifs,0⟩] scope pos) spos) (Yb src fi τ ft fe):=by
 obtain⟨wi,pi,qi⟩:=hi;refine⟨_,λjN s σ H D I h=>?_,ZgX (r1:=r1) qi⟩;obtain⟨cl,B'⟩:=B.ok I.ok;exact ZnQ hN hi' hx hc B' pi (λjN C s H fp=>(hg cl jN C s H fp).canon) (ht cl) (λjN C s H fp=>(he cl jN C s H fp).canon) hsw hs hf jN s σ H D I h
end
noncomputable def Z3 (P:xD)(w:World)(K:qd)(mg:Str->Option Value)(base:Heap)(k:Nat)(x:Str)(n:Nat)(fr:Bool)(GG:Gh->Prop)(F:List D->M D):Prop:=
 ∃f fd ps,FnOk P w K mg base ZP k f fd ps (Yf n fr GG F)/\mg x=some (.ref f)/\zH K (.ref f)=true/\Xb K fd ps []
theorem Z3.mono {K:qd}(c:Z3 P w K mg base j x n fr GG F)(h:j<=k:=by decide):Z3 P w K mg base k x n fr GG F:=
 let ⟨f,fd,ps,a,b,c,d⟩:=c
 ⟨f,fd,ps,a.mono h,b,c,d⟩
theorem ZlS {p pos:Pos}(c:Z3 X.prog X.w X.K X.mg X.base k x n fr GG F)(hG:GG G)(hr:Room k X.A)(hg:Gl X x)
  (ha:Wy X G (e::es) fs) (hal:∀ρ s ds s',fs ρ s=some (ds,s')->ds.length=(e::es).length) (jV:(e::es).length=n:=by rfl)
  (hdb:(x==("__debug__" : Str))=false:=by decide) (he:xh (e::es) X.env=(false,eval e X.env)::xh es X.env:=by rfl) (hpl:(backTo pos (xh es X.env)).any (·.1)=false:=by rfl) :
  PD X G fr (.Call (.Name x p) (e::es) [] pos) (Zx F fs):=by
 obtain⟨f,fd,ps,a,b,c,d⟩:=c;exact ZnR a hG hr hg b c d JJ ha jV hal hdb he hpl
noncomputable def VI (h base:Heap)(as:List Addr):Heap:=PySem.W.hideAll h ((qm h.objs.size).filter λa=>!((base.get? a).isSome||decide (a∈as)))
theorem Zkx:(VI h base as).objs.size=h.objs.size:=qb0 _ _
theorem Zg3 (e:h.get? b=some o)(n:(∃u,base.get? b=some u)∨b∈as):(VI h base as).get? b=some o:=
 qcc _ e λhm=>by grind
theorem Zjw (e:(VI h base as).get? b=some o):h.get? b=some o/\((∃u,base.get? b=some u)∨b∈as):=by
 have e':=PySem.W.of_hideAll _ e;refine⟨e',?_⟩;by_cases c:((base.get? b).isSome||decide (b∈as))=true
 ·rcases Bool.or_eq_true_iff.mp c with c | c
  ·exact .inl (ym.mp c)
  ·simp_all
 ·have z:(VI h base as).get? b=none:=qb1 _ (qA.mpr ⟨qY.mpr (qy e'),by grind⟩)
  grind
theorem jG {K:qd}(e:Env0 P w K mg base A outer s H)(ha:∀b∈as,H b=none)(hf:∀b∈as,b∉Wx outer) :
  Env0 P w K mg (VI s.heap base as) A outer s H:=by
 have up:∀b o,base.get? b=some o->(VI s.heap base as).get? b=some o:=λb o q=>Zg3 (e.bs b o q).1 (.inl ⟨o,q⟩);refine⟨e.frames,⟨e.mod.kin.keeps up,e.mod.glob.keeps up,let ⟨mb,h1,h2⟩:=e.mod.blt;⟨mb,h1.keeps up,h2⟩,e.mod.nolimit.keeps up⟩,λb o q=>?_,qcl Zkx,?_,e.frf,e.hok,e.bare⟩
 ·obtain⟨q1,q2⟩:=Zjw q
  refine⟨q1,?_⟩;rcases q2 with⟨u,q2⟩ | q2
  ·exact(e.bs b u q2).2
  ·exact ha b q2
 ·have all:∀l,(∀b∈Wx l,b∈Wx outer)->s.heap.FunFrames base l->s.heap.FunFrames (VI s.heap base as) l:=by
   intro l
   induction l with
   | nil=>intro _ _;trivial
   | cons env r ih=>
    intro hs hl;obtain⟨hk,⟨L,o,hf',hn,ho,hd⟩,hr⟩:=hl;have hL:=hs L (by unfold Wx;simp_all);refine⟨hk,⟨L,o,hf',?_,ho,hd⟩,ih (λb hb=>hs b (by unfold Wx;rw[yV,hf'];exact qW _ hb)) hr⟩
    cases q:(VI s.heap base as).get? L with
    | none=>rfl
    | some u=>
     rcases (Zjw q).2 with⟨u',q'⟩ | q'
     ·grind
     ·simp_all
  exact all outer (λ_ h=>h) e.funs
noncomputable def fnφ (p:Addr)(fd:xC):Heap->Prop:=λh=>∃oc od sl,h.get? p=some ⟨oc,od,.func fd,sl⟩
noncomputable def codeφ (c:Addr)(q:Str):Heap->Prop:=λh=>h.CodeRec (.ref c) q
theorem fnφ_at (ok:YE P w H h)(e:H p=some (.ext (fnφ p fd))):fnφ p fd h:=(ok p _ e).1
theorem codeφ_at (ok:YE P w H h)(e:H c=some (.ext (codeφ c q))):h.CodeRec (.ref c) q:=(ok c _ e).1
structure CloScope (N ps:List Str)(sc:Scope):Prop where
 kind:sc.kind=.function
 co:sc.isCoroutine=false
 gen:sc.isGenerator=false
 nd:N.Nodup
 pre:N.take ps.length=ps
 par:∀x∈ps,sc.names.lookup x=some .local
 nocell:∀y∈sc.names,y.2≠.cell
noncomputable def cxC (CX:Uy)(P:xD)(w:World)(K:qd)(mg:Str->Option Value)(base:Heap)(N:List Str)(qual:Str)(scope:Scope)(f:Addr)(cd:Value)(cl:List (Str×Addr))(A:xE)(outer:List Env)(s:Shared)(H:Hp)(E:XK):Cx where
 prog:=P
 w:=w
 K:=K
 mg:=mg
 base:=base
 A:=A.deeper (yp qual scope s.heap.objs.size f cd cl)
 N:=N
 s₀:=s
 H₀:=H
 env:=yp qual scope s.heap.objs.size f cd cl
 outer:=outer
 stack:=yp qual scope s.heap.objs.size f cd cl::outer
 ex:=[]
 calm:=true
 fn:=λ_=>false
 pn:=[]
 xe:=λe s'=>xf (xB P w) (A.deeper (yp qual scope s.heap.objs.size f cd cl)) (leaving (yp qual scope s.heap.objs.size f cd cl) e) (λ_ s''=>CX outer H s E e s'') (λe' s''=>CX outer H s E e' s'') s'
structure CloAt (base:Heap)(cl:List (Str×Addr))(sc:Scope)(N ps:List Str)(cvs:List V):Prop where
 inj:∀x y c,cl.lookup x=some c->cl.lookup y=some c->x=y
 cell:∀x c,cl.lookup x=some c->∃v,base.IsCell c v
 has:∀x,sc.names.lookup x=some .free->∃c,cl.lookup x=some c
 cap:∀(i:Nat) (x:Str) (v:V),N[ps.length+i]?=some x->cvs[i]?=some v->sc.names.lookup x=some .free/\∃c u,cl.lookup x=some c/\base.IsCell c (some u)/\ZQ v u
 len:N.length=ps.length+cvs.length
theorem Zb5 {α:Type}:∀{l:List (Str×α)} {x:Str} {u:α},(l.map (·.1)).Nodup->(x,u)∈l->l.lookup x=some u
 | [],_,_,_,h=>by simp at h
 | (y,w)::l,x,u,nd,h=>by
  rw[qS,z9]at nd;rcases qB.mp h with e | hm
  ·simp_all
  ·have hne:(x==y)=false:=by
    simp;rintro rfl;exact nd.1 (qaR (f:=(·.1)) hm)
   rw[zd,hne];exact Zb5 nd.2 hm
theorem Zc0:∀(ps:List Str) (us:List Value),((ps.zip us).map (·.1)).Sublist ps
 | [],_=>by simp
 | _::_,[]=>by simp
 | p::ps,u::us=>by simpa using Zc0 ps us
theorem Zd4 {ps:List Str}{us:List Value}{i:Nat}(nd:ps.Nodup)(h1:ps[i]?=some x)(h2:us[i]?=some u):(ps.zip us).reverse.lookup x=some u:=by
 refine Zb5 ?_ ?_
 ·rw[List.map_reverse]
  refine List.pairwise_reverse.mpr ?_;exact(nd.sublist (Zc0 _ _)).imp qJ
 ·rw[List.mem_reverse]
  exact zp (y4.mpr ⟨h1,h2⟩)
theorem ZnX {K:qd}
  (S:CloScope N ps scope) (C:CloAt base cl scope N ps cvs) (hd:A.handled=none) (e0:Env0 P w K mg base A outer s H) (hl:vs.length=ps.length) (r:ZH vs us)
  (hns:h'.Ns s.heap.objs.size (λx=>(ps.zip us).reverse.lookup x)) (hk:∀b o,s.heap.get? b=some o->h'.get? b=some o) :
  Inv (cxC CX P w K mg base N qual scope f cd cl A outer s H E) [] (vs.map some++cvs.map some) H { s with heap:=h',toks:=tk }:=by
 have noA:∀b:Addr,b∉(cxC CX P w K mg base N qual scope f cd cl A outer s H E).ex:=λb z=>absurd (show b∈([]:List Addr)from z) (by simp);have up:∀b o,base.get? b=some o->h'.get? b=some o:=λb o q=>hk b o (e0.bs b o q).1;have cellAt:∀x c,cl.lookup x=some c->∃v,base.IsCell c v:=C.cell;refine⟨⟨e0.mod,S.kind,rfl,rfl,qk _,λy z c h1 h2=>C.inj y z c h1 h2,λy hy=>?_,λy c z _=>(by cases z),λ_=>hd,qb4 e0.frames,.inr ⟨rfl,rfl⟩,λb z=>absurd z (noA b),e0.bs,e0.bsz,λb _ _=>noA b,λb z=>absurd z (noA b),e0.funs,e0.frf⟩,
  rfl,e0.bare,Un.kept hk,⟨_,hns,λi y v h1 h2 h3=>?_⟩,λy c h=>?_,e0.hok.fresh (qk _),λy c h=>?_,λp hp=>absurd (show p∈([]:Qb)from hp) (by simp),e0.hok.kept hk,?_⟩
 ·have hy:scope.names.lookup y=some .cell∨scope.names.lookup y=some .free:=hy
  rcases hy with hy | hy
  ·exact absurd rfl (S.nocell _ (zm hy))
  ·exact C.has y hy
 ·have h1:N[i]?=some y:=h1
  by_cases hi:i<vs.length
  ·have ha:vs[i]?=some v:=by
    rw[zh (by simpa using hi),qI]at h2
    cases e:vs[i]? with
    | none=>rw[e]at h2;cases h2
    | some a=>rw[e]at h2;cases h2;rfl
   obtain⟨u,hu,rv⟩:=r.get ha;have hp:ps[i]?=some y:=by
    rw[<-S.pre,qbm (by omega)];exact h1
   have ndP:ps.Nodup:=by rw[<-S.pre];exact S.nd.sublist (qaq _ _)
   exact⟨u,rv,.inl ⟨S.par y (zp hp),Zd4 ndP hp hu⟩⟩
  ·rw[zM (by simpa using hi),qI,qe]at h2
   have hc:cvs[i-vs.length]?=some v:=by
    cases e:cvs[i-vs.length]? with
    | none=>simp_all
    | some a=>rw[e]at h2;simp_all
   obtain⟨q1,c,u,q2,q3,q4⟩:=C.cap (i-vs.length) y v (by simp_all) hc;exact⟨u,q4,.inr ⟨.inr q1,c,q2,q3.keeps up⟩⟩
 ·obtain⟨v,q⟩:=C.cell y c h
  exact⟨v,q.keeps up⟩
 ·obtain⟨v,o,q,_⟩:=C.cell y c h
  exact(e0.bs c o q).2
 ·show _=N.length
  rw[C.len];simp[hl]
theorem ZnY {K:qd}
  (S:CloScope N ps scope) (C:CloAt base cl scope N ps cvs) (len:∀vs H Q E,sp vs H Q E->vs.length=ps.length)
  (at_:∀vs H Q E,sp vs H Q E->H f=some (.ext (fnφ f (zY name qual params body scope cl pm (.ref c') ct)))/\H c'=some (.ext (codeφ c' qual)))
  (hbody:∀(A:xE) (outer:List Env) (s:Shared) (H:Hp) (vs:List V) (Q:VK) (E:XK),Room k (A.deeper (yp qual scope s.heap.objs.size f (.ref c') cl))->sp vs H Q E->
   ∃t,PE (cxC CX P w K mg base N qual scope f (.ref c') cl A outer s H E) body t/\t (vs.map some++cvs.map some) H Q) :
  FnOk P w K mg base CX (k+1) f (zY name qual params body scope cl pm (.ref c') ct) ps sp:=by
 refine⟨len,λA outer s H args us vs Q E hr e0 hb r hsp=>?_⟩;have hl:=len _ _ _ _ hsp;obtain⟨a1,a2⟩:=at_ _ _ _ _ hsp;obtain⟨oc,od,sl,ho⟩:=fnφ_at e0.hok a1;have lim:=e0.mod.nolimit.keeps λb o e=>(e0.bs b o e).1;have hkind:∀y∈ps.zip us,scope.names.lookup y.1=some .local:=λ⟨n,v⟩ hy=>S.par n (qaI hy).1;refine PySem.W.kla_callFunE hr.depth ho rfl S.co S.gen rfl (codeφ_at e0.hok a2) (hb _ _ _ _ ?_);refine wpAny_newFunctionEnv S.nocell hkind (λh' hns hsb=>?_) S.kind;have hk:=λb o e=>hsb.extBut b o (qK (qy e)) (qj _ e);refine⟨lim.keeps hk,?_⟩;obtain⟨t,ht,hq⟩:=hbody A outer s H vs Q E (hr.deeper _) hsp;refine PySem.W.kla_codeExpr (xc (ht [] _ _ H Q (ZnX S C hr.hd e0 hl r hns hk) hq) (λu s' hs=>?_) λe s' hs=>hs);obtain⟨v,H',J,rv,q⟩:=hs;exact⟨v,H',J.os,J.bare,J.base,J.hok,rv,q⟩
structure Mk0 (X:Cx)(c P:Addr):Prop where
 code:X.env.code=.ref c
 hd:zZ X.base c P
 bm:∃bm o,X.mg "__builtins__" = some (.ref bm)/\bm≠builtinsNs/\bm≠mainGlobals/\X.base.get? bm=some o/\o.cls=.type "module"/\o.dict=some builtinsNs/\o.data=.plain
noncomputable def Slot (P:Addr)(q:Str)(lpos:Pos)(ps:Array Value)(H Hm:Hp)(c':Addr):Prop:=
 (Hm=H/\codeAmong lpos ps.toList=some (.ref c')/\H c'=some (.ext (codeφ c' q)))∨(codeAmong lpos ps.toList=none/\H c'=none/\c'≠P/\Hm=Zs (Zs H P (.tbl (ps ++ #[rawInt lpos.line,rawInt lpos.col,.ref c']))) c' (.ext (codeφ c' q)))
noncomputable def ZqT (P:Addr)(q:Str)(lpos:Pos)(isFd:xC->Addr->Prop)(H:Hp)(R:Addr->Addr->xC->Hp->Prop):Prop:=
 ∃ps,H P=some (.tbl ps)/\TriplesOk ps.toList/\(∀cv,codeAmong lpos ps.toList=some cv->∃c',cv=.ref c'/\H c'=some (.ext (codeφ c' q)))/\
  ∀p c' fd Hm,isFd fd c'->Slot P q lpos ps H Hm c'->Hm p=none->R p c' fd (Zs Hm p (.ext (fnφ p fd)))
section
variable {X:Cx}{jN:Qb}{σ:St}{H:Hp}{s:Shared}{c P:Addr}{ps:Array Value}
theorem Mk0.bat (M:Mk0 X c P)(I:Inv X jN σ H s)(hP:H P=some (.tbl ps)):s.heap.BuiltinsAt X.mg P:=by
 obtain⟨bm,o,e1,e2,e3,e4,e5⟩:=M.bm;refine⟨bm,o,e1,e2,e3,λz=>?_,I.bk _ _ e4,e5⟩;have:=(I.bs _ _ e4).2
 grind
theorem gne (I:Inv X jN σ H s)(hP:H P=some (.tbl ps)):mainGlobals≠P:=λz=>by
 obtain⟨o,es,ep,e,_⟩:=I.mod.glob;have:=(I.bs _ _ e).2
 grind
theorem Ziy (h1:φ h)(h2:∃o,h.get? a=some o)(h3:∀h1 h2:Heap,φ h1->(∀o,h1.get? a=some o->h2.get? a=some o)->φ h2):YQ P0 w H' h a (.ext φ):=⟨h1,h2,h3⟩
theorem fnφ_keep:∀h1 h2:Heap,fnφ p fd h1->(∀o,h1.get? p=some o->h2.get? p=some o)->fnφ p fd h2:=λh1 h2 ⟨oc,od,sl,e⟩ k=>⟨oc,od,sl,k _ e⟩
theorem codeφ_keep:∀h1 h2:Heap,codeφ p q h1->(∀o,h1.get? p=some o->h2.get? p=some o)->codeφ p q h2:=λh1 h2 ⟨a,o,vs,t,e,e1,r⟩ k=>by
 cases e
 exact⟨p,o,vs,t,rfl,k _ e1,r⟩
theorem codeφ_there (x:codeφ p q h):∃o,h.get? p=some o:=by
 obtain⟨a,o,vs,t,e,e1,r⟩:=x;simp_all
theorem ZnZ {c':Addr}(I:Inv X jN σ H s)(hP:H P=some (.tbl ps))(hx:Heap.ExtBut P s.heap h')(hge:s.heap.objs.size<=c')(hc:h'.CodeRec (.ref c') q)(ht:h'.get? P=some (qaT (ps++more))) :
  Inv X jN σ (Zs (Zs H P (.tbl (ps++more))) c' (.ext (codeφ c' q))) { s with heap:=h',toks:=tk }/\H c'=none/\c'≠P:=by
 have hc0:H c'=none:=I.hok.fresh hge;have hcP:c'≠P:=λz=>by rw[z,hP]at hc0;cases hc0
 have old:∀{b:Addr} {u:HO},H b=some u->b≠c':=λe z=>by rw[z,hc0]at e;cases e
 have get:∀{b:Addr} {u:HO},H b=some u->b≠P->Zs (Zs H P (.tbl (ps++more))) c' (.ext (codeφ c' q)) b=some u:=λ{b u} e n=>by rw[Zv (old e),Zv n];exact e
 refine⟨I.call (g':=s.gens) (d':=s.drawn) (ch:=[]) ?_ ?_ I.bare (λb hb=>absurd hb (by simp)),hc0,hcP⟩
 ·refine⟨λb o e n _ _=>hx b o (λz=>by rw[z,hP]at n;cases n) e,λb o e n _ _=>⟨o.slots,hx b o (λz=>by rw[z,hP]at n;cases n) e⟩,λb o e n _=>?_,λb o e _=>?_,λb xs e=>get e (λz=>by rw[z,hP]at e;cases e),λb o u e=>get e (λz=>by rw[z,hP]at e;cases e),λb ps' e=>?_⟩
  ·rw[Zv (qK (qH (qy e) hge)),Zv (λz=>by rw[z,hP]at n;cases n)];exact n
  ·by_cases hb:b=P
   ·exact⟨_,hb▸ht⟩
   ·exact⟨o,hx b o hb e⟩
  ·by_cases hb:b=P
   ·subst hb
    rw[hP]at e;cases e;exact⟨more,by rw[Zv (old hP),Z1]⟩
   ·exact⟨#[],by rw[get e hb];simp⟩
 ·intro a o e
  by_cases ha:a=c'
  ·subst ha
   rw[Z1]at e;cases e;exact Ziy hc (codeφ_there hc) codeφ_keep
  ·rw[Zv ha]at e
   by_cases hb:a=P
   ·subst hb
    rw[Z1]at e;cases e;exact ht
   ·rw[Zv hb]at e
    refine(I.hok a o e).stay (λb u hb' r=>hx b u ?_ r) (λb r=>get r (λz=>by grind)) λb xs r=>get r (λz=>by grind)
    grind
structure CloOf (X:Cx)(scope:Scope)(cl:List (Str×Addr)):Prop where
 of:∀x c,cl.lookup x=some c->X.env.cells.lookup x=some c
 has:∀y∈scope.names,y.2=.free->∃c,cl.lookup y.1=some c
theorem Zn0 (ok:X.Ok)(hfree:∀y∈scope.names,y.2=.free->X.env.kindOf y.1=some .cell∨X.env.kindOf y.1=some .free):∃cl,closureFor scope X.env=pure cl/\CloOf X scope cl:=by
 obtain⟨cl,q1,q2,q3,q4⟩:=Zap scope.names [] (λy hy hf=>ok.has y.1 (hfree y hy hf)) (λx c h=>by simp at h);refine⟨cl,?_,q2,q4⟩;unfold closureFor;simp_all
theorem ZpU (M:Mk0 X c P)(hq:X.env.qual ++ "<lambda>" = q)(hfree:∀y∈scope.names,y.2=.free->X.env.kindOf y.1=some .cell∨X.env.kindOf y.1=some .free)(hdef:defaultsOf params X.env=([],[]):=by rfl) :
  PE X (.Lambda params body scope lpos) (fun σ H Q=>ZqT P q lpos (λfd c'=>∃cl pm ctv,CloOf X scope cl/\fd=zY "<lambda>" q params body scope cl pm (.ref c') ctv) H λp _ _ H'=>Q (.ref p) H'):=by
 intro jN s σ H Q I ⟨ps,hP,ht,hhit,h⟩;obtain⟨cl,hcl,co⟩:=Zn0 I.ok hfree;have hP':=I.hok P _ hP;have hg:=I.mod.glob.keeps I.bk;have hb:=M.bat I hP;refine PySem.W.kla_eval hdef ?_;rw[hq]
 cases hc:codeAmong lpos ps.toList with
 | some cv=>
  obtain⟨c',rfl,hc'⟩:=hhit cv hc;refine PySem.W.kla_makeFunctionHit hcl I.ok.glob hg M.code (M.hd.keeps I.bk) hP' ht hc hb λctv h' tk hk hsz=>?_;refine⟨.ref h'.objs.size,Zs H h'.objs.size (.ext (fnφ _ _)),I.laid (λb u e=>qj _ (hk b u e)) hsz (Ziy ⟨_,_,_,qE _ rfl⟩ ⟨_,qE _ rfl⟩ fnφ_keep),rfl,h _ c' _ H ⟨cl,_,_,co,rfl⟩ (.inl ⟨rfl,hc,hc'⟩) (I.hok.fresh hsz)⟩
 | none=>
  refine PySem.W.kla_makeFunction hcl I.ok.glob hg M.code (M.hd.keeps I.bk) hP' ht hc (gne I hP) hb λc' ctv h' tk hx hge hlt hrec htb=>?_;obtain⟨I1,hc0,hcP⟩:=ZnZ (tk:=tk) I hP hx hge hrec htb;refine⟨.ref h'.objs.size,Zs _ h'.objs.size (.ext (fnφ _ _)),I1.laid (λb u e=>qj _ e) (qk _) (Ziy ⟨_,_,_,qE _ rfl⟩ ⟨_,qE _ rfl⟩ fnφ_keep),rfl,h _ c' _ _ ⟨cl,_,_,co,rfl⟩ (.inr ⟨hc,hc0,hcP,rfl⟩) (I1.hok.fresh (qk _))⟩
end
structure Cells (X:Cx)(σ:St)(base':Heap):Prop where
 inj:∀x y c,X.env.cells.lookup x=some c->X.env.cells.lookup y=some c->x=y
 cell:∀x c,X.env.cells.lookup x=some c->∃v,base'.IsCell c v
 has:∀x,(X.env.kindOf x=some .cell∨X.env.kindOf x=some .free)->∃c,X.env.cells.lookup x=some c
 val:∀(i:Nat) (x:Str) (v:V),X.N[i]?=some x->σ[i]?=some (some v)->X.env.kindOf x=some .cell->∃c u,X.env.cells.lookup x=some c/\base'.IsCell c (some u)/\ZQ v u
section
variable {X:Cx}{jN:Qb}{σ:St}{H:Hp}{s:Shared}
noncomputable def Zg4 (X:Cx):List Addr:=X.env.cells.filterMap λp=>X.env.cells.lookup p.1
theorem Zky (e:X.env.cells.lookup x=some c):c∈Zg4 X:=y9.mpr ⟨(x,c),zm e,e⟩
theorem Zg5 (h:c∈Zg4 X):∃x,X.env.cells.lookup x=some c:=by
 obtain⟨p,_,e⟩:=y9.mp h;exact⟨p.1,e⟩
theorem Zkz (I:Inv X jN σ H s)(hfn:∀x,X.fn x=true):Env0 X.prog X.w X.K X.mg (VI s.heap X.base (Zg4 X)) X.A X.stack s H/\Cells X σ (VI s.heap X.base (Zg4 X)):=by
 have cellK:∀x c v,X.env.cells.lookup x=some c->s.heap.IsCell c v->(VI s.heap X.base (Zg4 X)).IsCell c v:=λx c v e ⟨o,ho,hd⟩=>⟨o,Zg3 ho (.inr (Zky e)),hd⟩;refine⟨jG I.env0 (λb hb=>?_) λb hb hf=>?_,⟨I.ok.inj,λx c e=>?_,I.ok.has,λi x v h1 h2 h3=>?_⟩⟩
 ·obtain⟨x,e⟩:=Zg5 hb
  exact I.freeC x b e
 ·obtain⟨x,e⟩:=Zg5 hb
  rcases qB.mp (I.stkSub b hf)with z | z
  ·exact I.cne x b e z
  ·obtain⟨_,o,ho,_⟩:=I.ok.funs.mem z
   exact absurd (qH (qy ho) (I.ok.cab x b (hfn x) e)) (yc _)
 ·obtain⟨v,q⟩:=I.cell x c e
  exact⟨v,cellK x c v e q⟩
 ·obtain⟨m,_,hl⟩:=I.loc
  obtain⟨u,r,l⟩:=hl i x v h1 h2 (.inr (.inl h3));rcases l with⟨hk,_⟩ | ⟨_,c,hc,hcell⟩
  ·grind
  ·exact⟨c,u,hc,cellK x c _ hc hcell,r⟩
theorem ZlT {p pos:Pos}{sp:Heap->Sp}(F:∀base,FnOk X.prog X.w X.K X.mg base ZP k f fd ps (sp base))(hfn:∀x,X.fn x=true)(hr:Room k X.A)(hg:Gl X x)(hm:X.mg x=some (.ref f))(hk:zH X.K (.ref f)=true)(hb:Xb X.K fd ps [])
  (ha:PA X (e::es) t) (hdb:(x==("__debug__" : Str))=false:=by decide) (he:xh (e::es) X.env=(false,eval e X.env)::xh es X.env:=by rfl) (hpl:(backTo pos (xh es X.env)).any (·.1)=false:=by rfl) :
  PE X (.Call (.Name x p) (e::es) [] pos) (fun σ H Q=>t σ H λvs H1=>∀base',Cells X σ base'->sp base' vs H1 Q E0):=by
 intro jN s σ H Q I h;refine wpAny_Call_Name_kw (ZfQ I hg hm ?_ hdb);refine qaa I.ok.mod.kin hk (ZK (ha pos jN s σ H _ I h) λus s1 ⟨vs,H1,I1,r,q⟩=>⟨I1.kIn,?_⟩) he hpl;obtain⟨e0,cs⟩:=Zkz I1 hfn;have q':=q _ cs;have hl:(us ++ []).length=ps.length:=by rw[zu,<-r.length];exact(F _).len _ _ _ _ q'
 refine xA (codeAny_mono ((F _).run X.A X.stack s1 H1 ⟨us,[]⟩ us vs Q E0 hr e0 (by have:=hb s1 us I1.kIn hl;simp_all) r q') λr s' hq=>?_)
 cases r with
 | error e=>exact hq.elim
 | ok fl=>
  cases fl with
  | ret u=>exact I1.after hq
  | next=>exact zB hq
  | brk=>exact zB hq
  | cont=>exact zB hq
theorem ZlU {pos:Pos}(hf:PE X (.Name x p) (Yd i))(hr:Room k X.A)(ha:PA X (e::es) t)
  (he:xh (e::es) X.env=(false,eval e X.env)::xh es X.env:=by rfl) (hpl:(backTo pos (xh es X.env)).any (·.1)=false:=by rfl) :
  PE X (.Call (.Name x p) (e::es) [] pos) (fun σ H Q=>∃f fd ps sp,σ[i]?=some (some (.ref f))/\Xb X.K fd ps []/\FnOk X.prog X.w X.K X.mg X.base ZP k f fd ps sp/\(∀h:Heap,YE X.prog X.w H h->X.K.In h->fnφ f fd h)/\
   t σ H λvs H1=>(∀h:Heap,YE X.prog X.w H1 h->X.K.In h->fnφ f fd h)/\sp vs H1 Q E0):=by
 intro jN s σ H Q I ⟨f,fd,ps,sp,e,hb,F,h0,h⟩;refine wpAny_Call_Name_kw (ZK (hf jN s σ H (λv H'=>v=.ref f/\H'=H) I ⟨_,e,rfl,rfl⟩) λu s1 ⟨v,H1,I1,rv,ev,eH⟩=>?_);subst ev eH
 cases (show u=qw f from rv)
 have at1:∀{jN σ H s},Inv X jN σ H s->(∀h,YE X.prog X.w H h->X.K.In h->fnφ f fd h)->PySem.W.FnAt f s.heap:=λI z=>by
  obtain⟨oc,od,sl,q⟩:=z _ I.hok I.kIn;exact⟨oc,od,fd,sl,q⟩
 refine PySem.W.callWith_F (at1 I1 h0) (ZK (ha pos jN s1 σ _ _ I1 h) λus s2 ⟨vs,H2,I2,r,h2,q⟩=>⟨at1 I2 h2,?_⟩) he hpl;exact ZfS F hr hb .nil JJ I2 r (by simp_all)
end
mutual
noncomputable def Z2:D->Bool
 | .tup ds=>Yl ds
 | .lst ds=>Yl ds
 | .clo _ _=>false
 | _=>true
noncomputable def Yl:List D->Bool
 | []=>true
 | d::ds=>Z2 d&&Yl ds
end
mutual
theorem Zo.re {G G':Gh}{H:Hp}(hf:G'.fp=G.fp)(hp:G'.pen=G.pen):∀{d:D} {v:V},Z2 d=true->Zo G H d v->Zo G' H d v
 | .non,_,_,h=>jg.mpr (jg.mp h)
 | .bl _,_,_,h=>je.mpr (je.mp h)
 | .int _,_,_,h=>ja.mpr (ja.mp h)
 | .str _,_,_,h=>jh.mpr (jh.mp h)
 | .tup ds,v,n,h=>by
  obtain⟨a,vs,e1,nf,e2,r⟩:=jc.mp h;exact jc.mpr ⟨a,vs,e1,by rw[hf];exact nf,e2,Zj.re hf hp (by simpa[Z2]using n) r⟩
 | .lst ds,v,n,h=>by
  obtain⟨a,vs,e1,nf,e2,r⟩:=jb.mp h;exact jb.mpr ⟨a,vs,e1,by rw[hf];exact nf,e2,Zj.re hf hp (by simpa[Z2]using n) r⟩
 | .dk _,_,_,h=>by
  obtain⟨a,e1,nf,e2⟩:=jk.mp h;exact jk.mpr ⟨a,e1,by rw[hf];exact nf,e2⟩
 | .dt _,_,_,h=>by
  obtain⟨a,o,e1,nf,e2⟩:=jl.mp h;exact jl.mpr ⟨a,o,e1,by rw[hf];exact nf,e2⟩
 | .du _,_,_,h=>by
  obtain⟨a,e1,nf,e2⟩:=jm.mp h;exact jm.mpr ⟨a,e1,by rw[hf];exact nf,e2⟩
 | .df _,_,_,h=>by
  obtain⟨a,o,e1,nf,e2⟩:=js.mp h;exact js.mpr ⟨a,o,e1,by rw[hf];exact nf,e2⟩
 | .pen,_,_,h=>jq.mpr ((jq.mp h).trans hp.symm)
 | .ty _,_,_,h=>jr.mpr (jr.mp h)
 | .clo _ _,_,n,_=>by simp[Z2]at n
theorem Zj.re {G G':Gh}{H:Hp}(hf:G'.fp=G.fp)(hp:G'.pen=G.pen):∀{ds:List D} {vs:List V},Yl ds=true->Zj G H ds vs->Zj G' H ds vs
 | [],_,_,h=>Zj.nil_iff.mpr (Zj.nil_iff.mp h)
 | d::ds,vs,n,h=>by
  obtain⟨v,r,e,h1,h2⟩:=jd.mp h;have n':Z2 d=true/\Yl ds=true:=by simpa[Yl]using n
  exact jd.mpr ⟨v,r,e,Zo.re hf hp n'.1 h1,Zj.re hf hp n'.2 h2⟩
end
theorem Gr.re (hf:G'.fp=G.fp)(g:Gr G Hf H Hf' H'):Gr G' Hf H Hf' H':=
 ⟨λb o n=>g.hh b o (by simp_all),λb o n=>g.ff b o (by simp_all),λb o n=>g.fh b o (by simp_all),λb n=>g.nw b (by simp_all)⟩
theorem ZC.re (hf:G'.fp=G.fp)(g:ZC G H H'):ZC G' H H':=λb o n=>g b o (by simp_all)
theorem YJ.re (hf:G'.fp=G.fp)(hp:G'.pen=G.pen)(n:Z2 d=true)(h:YJ G H Hf' d v):YJ G' H Hf' d v:=λa e m=>by
 obtain⟨h1,h2⟩:=h a e m;refine⟨h1,λds ed=>?_⟩;obtain⟨vs,Hm,q1,q2,q3,q4⟩:=h2 ds ed;subst ed;exact⟨vs,Hm,q1,q2,q3.re hf,q4.re hf hp (by simpa[Z2]using n)⟩
noncomputable def spK (n:Nat)(G:Gh)(cvs:List V)(F:List D->M D):Sp:=λus H Q _=>∃(Hf:Hp) (ds cds:List D) (s:Pn) (d:D) (s':Pn),us.length=n/\ZC G Hf H/\Zj G Hf ds us/\Zj G Hf cds cvs/\G.st s H/\F (ds++cds) s=some (d,s')/\
 ∀v Hf' H',Gr G Hf H Hf' H'->G.st s' H'->Zo G Hf' d v->Q v H'
noncomputable def BX (P:xD)(w:World)(K:qd)(mg:Str->Option Value)(k n:Nat)(T:Nat->List D->M D)(base:Heap)(G:Gh):Prop:=
 ∀t v cvs,G.clo t v cvs->∃f fd ps,v=.ref f/\ps.length=n/\Xb K fd ps []/\(∀s H,G.st s H->∀h:Heap,YE P w H h->K.In h->fnφ f fd h)/\FnOk P w K mg base ZP k f fd ps (spK n G cvs (T t))
noncomputable def dApp (T:Nat->List D->M D)(i:Nat)(fs:Ze->M (List D)):Ze->M D:=fun ρ=>Zp (Za i ρ) λc=>Zp (fs ρ) λds=>match c with | .clo t cds=>T t (ds++cds) | _=>ZS
theorem ZkA (h:Za i ρ s=some (d,s')):ρ[i]?=some (some d)/\s'=s:=by
 obtain⟨e,rfl⟩:=Wo h
 cases q:ρ[i]? with
 | none=>simp_all
 | some o=>simp_all
section
variable {X:Cx}{G:Gh}
theorem ZlV {pos:Pos}(hG:BX X.prog X.w X.K X.mg k n T X.base G)(hr:Room k X.A)(hf:PE X (.Name x p) (Yd i))(ha:Wy X G (e::es) fs)
  (hal:∀ρ s ds s',fs ρ s=some (ds,s')->ds.length=(e::es).length) (jV:(e::es).length=n:=by rfl)
  (he:xh (e::es) X.env=(false,eval e X.env)::xh es X.env:=by rfl) (hpl:(backTo pos (xh es X.env)).any (·.1)=false:=by rfl) :
  PD X G false (.Call (.Name x p) (e::es) [] pos) (dApp T i fs):=by
 obtain⟨t,pa,qa⟩:=ha;refine⟨_,ZlU hf hr pa he hpl,fun σ Hf H ρ s d s' Q e1 e2 e3 e4 k=>?_⟩;obtain⟨c,s0,b0,b1⟩:=Zy e4;obtain⟨a0,rfl⟩:=ZkA b0;obtain⟨ds,s1,a1,a2⟩:=Zy b1
 cases c with
 | clo t cds=>
  obtain⟨v,hσ,r⟩:=e2 i _ a0;obtain⟨cvs,hc,rc⟩:=jy.mp r;obtain⟨f,fd,ps,rfl,hl,hb,hat,F⟩:=hG t v cvs hc;refine⟨f,fd,ps,_,hσ,hb,F,hat _ H e3,qa σ Hf H ρ _ ds s1 _ e1 e2 e3 a1 λvs jX H1 g1 jY r1=>⟨hat _ H1 jY,jX,ds,cds,s1,d,s',?_,g1.fh,r1,rc.ext g1.ff,jY,a2,λv j6 H2 g2 j8 r2=>k v j6 H2 (g1.trans g2) j8 r2 (λz=>by cases z)⟩⟩;rw[<-r1.length,hal _ _ _ _ a1];exact jV
 | _=>cases a2
end
noncomputable def Ut (n:Nat)(f:Ze->M D):List D->M D:=λds=>if ds.length=n then f (ds.map some)else ZS
theorem Zn1 (r:Zj G Hf ds vs):YA G Hf (vs.map some) (ds.map some):=λi d e=>by
 cases q:ds[i]? with
 | none=>simp_all
 | some d'=>
  obtain⟨v,h1,h2⟩:=r.get q;simp_all
theorem fnKE {K:qd}
  (S:CloScope N ps scope) (C:CloAt base cl scope N ps cvs) (hG:∀s H,G.st s H->H f=some (.ext (fnφ f (zY name qual params body scope cl pm (.ref c') ct)))/\H c'=some (.ext (codeφ c' qual)))
  (hb:∀(A:xE) (outer:List Env) (s:Shared) (H:Hp) (E:XK),Room k (A.deeper (yp qual scope s.heap.objs.size f (.ref c') cl))->PD (cxC ZP P w K mg base N qual scope f (.ref c') cl A outer s H E).nox G fr body fe) :
  FnOk P w K mg base ZP (k+1) f (zY name qual params body scope cl pm (.ref c') ct) ps (spK ps.length G cvs (Ut N.length fe)):=by
 refine ZnY S C (λvs H Q E ⟨_,_,_,_,_,_,h,_⟩=>h) (λvs H Q E ⟨_,_,_,s,_,_,_,_,_,_,st,_⟩=>hG s H st) λA outer s H vs Q E hr h=>?_;obtain⟨Hf,ds,cds,pn,d,pn',el,e1,r1,r2,st,eF,k'⟩:=h;obtain⟨t,p,q⟩:=hb A outer s H E hr;refine⟨t,p.nox,?_⟩;obtain⟨hl,a0⟩:=XC eF;have env:=Zn1 (r1.append r2);rw[qP]at env;exact q _ Hf H _ pn d pn' Q e1 env st a0 λv Hf' H' g st' r _=>k' v Hf' H' g st' r
structure TabG (P:Addr)(q:Str)(G:Gh):Prop where
 get:∀s H,G.st s H->∃ps,H P=some (.tbl ps)/\TriplesOk ps.toList/\∀pos cv,codeAmong pos ps.toList=some cv->∃c',cv=.ref c'/\H c'=some (.ext (codeφ c' q))/\¬G.fp c'
 fp:G.fp P
 put:∀s H ps (pos:Pos) c',G.st s H->H P=some (.tbl ps)->H c'=none->codeAmong pos ps.toList=none->G.st s (Zs (Zs H P (.tbl (ps ++ #[rawInt pos.line,rawInt pos.col,.ref c']))) c' (.ext (codeφ c' q)))
noncomputable def W8 (G:Gh)(t:Nat)(p c':Addr)(fd:xC)(q:Str)(cvs:List V):Gh where
 fp:=G.fp
 rd:=G.rd
 pen:=G.pen
 st:=λs H=>G.st s H/\H p=some (.ext (fnφ p fd))/\H c'=some (.ext (codeφ c' q))
 mono:=λs H H' ⟨h1,h2,h3⟩ k1 k2 k3=>⟨G.mono s H H' h1 k1 k2 k3,k2 _ _ h2,k2 _ _ h3⟩
 sub:=G.sub
 dom:=λs H b h=>G.dom s H b h.1
 ntp:=λs H b vs h=>G.ntp s H b vs h.1
 clo:=λt' v cs=>t'=t/\v=.ref p/\cs=cvs
noncomputable def BY (P:xD)(w:World)(K:qd)(mg:Str->Option Value)(k:Nat)(x:Str)(n:Nat)(fr:Bool)(GG:Heap->Gh->Prop)(F:List D->M D):Prop:=
 ∃f fd ps,(∀base,FnOk P w K mg base ZP k f fd ps (Yf n fr (GG base) F))/\mg x=some (.ref f)/\zH K (.ref f)=true/\Xb K fd ps []
theorem BY.mono {K:qd}(c:BY P w K mg j x n fr GG F)(h:j<=k:=by decide):BY P w K mg k x n fr GG F:=
 let ⟨f,fd,ps,a,b,c,d⟩:=c
 ⟨f,fd,ps,λbase=>(a base).mono h,b,c,d⟩
structure CapS (X:Cx)(XN:List Str)(NS:List (Str×NameKind))(N ps:List Str)(cix:List Nat)(scope:Scope):Prop where
 xn:X.N=XN
 ns:X.env.scope.names=NS
 len:N.length=ps.length+cix.length
 at_:(cix.zip (N.drop ps.length)).all (λp=>decide (XN[p.1]?=some p.2)&&decide (NS.lookup p.2=some .cell)&&decide (scope.names.lookup p.2=some .free))=true
 free:∀y∈scope.names,y.2=.free->NS.lookup y.1=some .cell∨NS.lookup y.1=some .free
theorem CapS.hfree (B:CapS X XN NS N ps cix scope):∀y∈scope.names,y.2=.free->X.env.kindOf y.1=some .cell∨X.env.kindOf y.1=some .free:=λy hy hf=>by
 have:=B.free y hy hf;rw[<-B.ns]at this;exact this
theorem CapS.cloAt (B:CapS X XN NS N ps cix scope)(cs:Cells X σ base')(co:CloOf X scope cl)(hl:cvs.length=cix.length)
  (hv:∀(i j:Nat) (v:V),cix[i]?=some j->cvs[i]?=some v->σ[j]?=some (some v)):CloAt base' cl scope N ps cvs:=by
 refine⟨λx y c h1 h2=>cs.inj x y c (co.of x c h1) (co.of y c h2),λx c h=>cs.cell x c (co.of x c h),λx h=>co.has (x,.free) (zm h) rfl,λi x v h1 h2=>?_,by rw[B.len,hl]⟩;have hi:i<cix.length:=by rw[<-hl];exact(qC.mp h2).1
 have hj:=qX hi;have hx:(N.drop ps.length)[i]?=some x:=by simp_all
 have q:=zF.mp B.at_ (cix[i],x) (zp (y4.mpr ⟨hj,hx⟩));simp at q;obtain⟨⟨q1,q2⟩,q3⟩:=q;refine⟨q3,?_⟩;obtain⟨c,u,e1,e2,e3⟩:=cs.val cix[i] x v (by rw[B.xn];exact q1) (hv i _ v hj h2) (by show X.env.scope.names.lookup x=_;rw[B.ns];exact q2);obtain⟨c2,e4⟩:=co.has (x,.free) (zm q3) rfl;have e5:=co.of x c2 e4;rw[e1]at e5;cases e5;exact⟨c,u,e4,e2,e3⟩
noncomputable def BL (ρ:Ze):List Nat->Option (List D)
 | []=>some []
 | i::r=>((ρ[i]?).bind id).bind λd=>(BL ρ r).map (d :: ·)
theorem Zg6 (e:YA G Hf σ ρ):∀{cix:List Nat} {cds:List D},BL ρ cix=some cds->∃cvs,cvs.length=cix.length/\Zj G Hf cds cvs/\∀(i j:Nat) (v:V),cix[i]?=some j->cvs[i]?=some v->σ[j]?=some (some v)
 | [],cds,h=>by cases h;exact⟨[],rfl,Zj.nil_iff.mpr rfl,λi j v h1=>by simp at h1⟩
 | a::r,cds,h=>by
  unfold BL at h
  cases q:(ρ[a]?).bind id with
  | none=>simp_all
  | some d=>
   rw[q]at h
   cases q2:BL ρ r with
   | none=>simp_all
   | some ds=>
    rw[q2]at h;cases h;obtain⟨v,h1,h2⟩:=e a d (by
     cases q3:ρ[a]? with
     | none=>simp_all
     | some o=>simp_all)
    obtain⟨cvs,l1,l2,l3⟩:=Zg6 e q2;refine⟨v::cvs,by simp[l1],Zj.cons h2 l2,λi j u e1 e2=>?_⟩
    cases i with
    | zero=>simp at e1 e2;subst e1;subst e2;exact h1
    | succ i=>exact l3 i j u (by simpa using e1) (by simpa using e2)
noncomputable def dFnC (F:List D->M D)(t:Nat)(cix:List Nat)(f:Ze->M D):Ze->M D:=fun ρ=>Zp (f ρ) λd=>Zp (YO (BL ρ cix)) λcds=>if (Z2 d&&Yl cds)=true then Zp (F [d,.clo t cds]) λc=>if Z2 c=true then ZJ c else ZS else ZS
section
variable {X:Cx}{G:Gh}{P c:Addr}{q:Str}
theorem Zn2 (TG:TabG P q G)(st:G.st s H)(hP:H P=some (.tbl ps))(sl:Slot P q lpos ps H Hm c'):G.st s Hm/\Hm c'=some (.ext (codeφ c' q))/\ZC G H Hm:=by
 rcases sl with⟨rfl,h1,h2⟩ | ⟨h1,h2,h3,rfl⟩
 ·exact⟨st,h2,.refl _ _⟩
 ·refine⟨TG.put s H ps lpos c' st hP h2 h1,Z1,λb o n e=>?_⟩
  rw[Zv (YC e h2),Zv (λz=>n (by rw[z];exact TG.fp))];exact e
theorem Zn3 (e1:ZC G Hf H)(ex:ZC G H Hm)(hp:Hm p=none):Gr G Hf H Hf (Zs Hm p o):=by
 have hh:ZC G H (Zs Hm p o):=λb u n e=>by
  have:=ex b u n e;rw[Zv (YC this hp)];exact this
 exact⟨hh,.refl _ _,e1.trans hh,λ_ _ h _=>h⟩
theorem ZpV (hb:Xb X.K fd ps [])(hF:FnOk X.prog X.w X.K X.mg base' ZP k p fd ps (spK ps.length (W8 G t p c' fd q cvs) cvs F))(hT:T t=F) :
  BX X.prog X.w X.K X.mg k ps.length T base' (W8 G t p c' fd q cvs):=by
 rintro t' v cs ⟨rfl,rfl,rfl⟩;exact⟨p,fd,ps,rfl,rfl,hb,λs H st h ok _=>fnφ_at ok st.2.1,by simp_all⟩
variable {k kl:Nat}{x:Str}{fr frb:Bool}{F:List D->M D}{T:Nat->List D->M D}{t:Nat}{e1:Expr}{f1:Ze->M D}{r1:Bool}{params:Arguments}{scope:Scope}{lpos ppos pos:Pos}{XN N ps:List Str}{NS:List (Str×NameKind)}{cix:List Nat}
theorem ofC (n:Z2 d=true)(r:Zo (W8 G t p c' fd q cvs) H d v):Zo G H d v:=Zo.re (G:=W8 G t p c' fd q cvs) (G':=G) rfl rfl n r
theorem toC (n:Z2 d=true)(r:Zo G H d v):Zo (W8 G t p c' fd q cvs) H d v:=Zo.re (G:=G) (G':=W8 G t p c' fd q cvs) rfl rfl n r
theorem toCL (n:Yl d=true)(r:Zj G H d v):Zj (W8 G t p c' fd q cvs) H d v:=Zj.re (G:=G) (G':=W8 G t p c' fd q cvs) rfl rfl n r
theorem grC (g:Gr (W8 G t p c' fd q cvs) Hf H Hf' H'):Gr G Hf H Hf' H':=Gr.re (G:=W8 G t p c' fd q cvs) rfl g
theorem frC (n:Z2 d=true)(h:YJ (W8 G t p c' fd q cvs) H Hf' d v):YJ G H Hf' d v:=YJ.re (G:=W8 G t p c' fd q cvs) rfl rfl n h
theorem Ziz (M:Mk0 X c P)(TG:TabG P q G)(hW:BY X.prog X.w X.K X.mg k x 2 fr (BX X.prog X.w X.K X.mg (kl+1) ps.length T) F)(hfn:∀x,X.fn x=true)(hr:Room k X.A)(hg:Gl X x)(h1:PD X G r1 e1 f1)
  (hq:X.env.qual ++ "<lambda>" = q) (S:CloScope N ps scope) (B:CapS X XN NS N ps cix scope) (hT:T t=Ut N.length fe)
  (hbind:∀(cl:List (Str×Addr)) (pm cd ct:Value) (us:List Value),us.length=ps.length->bindArgs (zY "<lambda>" q params body scope cl pm cd ct) ⟨us,[]⟩=pure (ps.zip us))
  (hb:∀(base:Heap) (f c':Addr) (cl:List (Str×Addr)) (G:Gh) (A:xE) (outer:List Env) (s:Shared) (H:Hp) (E:XK),Room kl (A.deeper (yp q scope s.heap.objs.size f (.ref c') cl))->PD (cxC ZP X.prog X.w X.K X.mg base N q scope f (.ref c') cl A outer s H E).nox G frb body fe)
  (hdef:defaultsOf params X.env=([],[]):=by rfl) (hdb:(x==("__debug__" : Str))=false:=by decide)
  (he:xh [e1,.Lambda params body scope lpos] X.env=(false,eval e1 X.env)::xh [.Lambda params body scope lpos] X.env:=by rfl) (he2:xh [Expr.Lambda params body scope lpos] X.env=(false,eval (.Lambda params body scope lpos) X.env)::xh [] X.env:=by rfl)
  (hpl:(backTo pos (xh [Expr.Lambda params body scope lpos] X.env)).any (·.1)=false:=by rfl) :
  PD X G fr (.Call (.Name x ppos) [e1,.Lambda params body scope lpos] [] pos) (dFnC F t cix f1):=by
 obtain⟨t1,p1,q1⟩:=h1.drop;obtain⟨f,fd0,ps0,FN,hm,hk,hbd⟩:=hW;refine⟨_,ZlT FN hfn hr hg hm hk hbd (Xt p1 (Xt (ZpU M hq B.hfree hdef) X4 he2) he) hdb he hpl,fun σ Hf H ρ s d s' Q x1 x2 x3 x4 k=>?_⟩;obtain⟨d1,s1,a1,a2⟩:=Zy x4;obtain⟨cds,s2,b3,a4⟩:=Zy a2;obtain⟨a3,rfl⟩:=Wo b3;obtain⟨hn,a5⟩:=XC a4;obtain⟨cc,s3,a6,a7⟩:=Zy a5;obtain⟨hn2,a8⟩:=XC a7;obtain⟨rfl,rfl⟩:=ZM a8;obtain⟨hn0,hn1⟩:=yN.mp hn;refine q1 σ Hf H ρ s d1 _ _ x1 x2 x3 a1 λv1 jX H1 g1 jY rv1=>?_;obtain⟨tp,hP,htr,hhit⟩:=TG.get _ H1 jY;refine⟨tp,hP,htr,λcv h=>let ⟨c',z1,z2,_⟩:=hhit lpos cv h;⟨c',z1,z2⟩,λp c' fd Hm ⟨cl,pm,ctv,co,efd⟩ sl hp=>?_⟩;subst efd;obtain⟨stm,hc',ex⟩:=Zn2 TG jY hP sl;have gr:=Zn3 (o:=.ext (fnφ p (zY "<lambda>" q params body scope cl pm (.ref c') ctv))) g1.fh ex hp;have hcp:c'≠p:=λz=>by rw[z,hp]at hc';cases hc'
 obtain⟨cvs,l1,l2,l3⟩:=Zg6 (x2.ext g1.ff) a3;intro base' cs;have C:CloAt base' cl scope N ps cvs:=B.cloAt cs co l1 l3;refine⟨W8 G t p c' (zY "<lambda>" q params body scope cl pm (.ref c') ctv) q cvs,jX,[d1,.clo t cds],_,d,_,ZpV (X:=X) (.all (hbind cl pm (.ref c') ctv)) (fnKE S C (λs H st=>st.2) λA outer s H E hr=>hb base' p c' cl _ A outer s H E hr) hT,rfl,gr.fh,?_,⟨Gh.grow stm hp,Z1,by rw[Zv hcp];exact hc'⟩,a6,λv Hf3 H3 g3 st3 r3 fz=>?_⟩
 ·refine .cons (toC hn0 rv1) (.one (jy.mpr ⟨cvs,⟨rfl,rfl,rfl⟩,toCL hn1 l2⟩))
 ·have g3':=grC g3
  have gg:=(g1.trans gr).trans g3';have rr:=ofC hn2 r3;refine k v Hf3 H3 gg st3.1 rr λz=>?_;exact jn (g1.hh.trans gr.hh) rr.nofp (frC hn2 (fz z))
end
theorem boot_len:xj "len" = some (.builtin "len"):=by rfl
theorem boot_isinstance:xj "isinstance" = some (.builtin "isinstance"):=by rfl
theorem boot_all:xj "all" = some (.builtin "all"):=by rfl
theorem boot_any:xj "any" = some (.builtin "any"):=by rfl
theorem boot_repr:xj "repr" = some (.builtin "repr"):=by rfl
theorem boot_max:xj "max" = some (.builtin "max"):=by rfl
theorem boot_min:xj "min" = some (.builtin "min"):=by rfl
theorem boot_sorted:xj "sorted" = some (.builtin "sorted"):=by rfl
theorem boot_tuple:xj "tuple" = some (.type "tuple"):=by rfl
theorem boot_list:xj "list" = some (.type "list"):=by rfl
theorem boot_int:xj "int" = some (.type "int"):=by rfl
theorem boot_bool:xj "bool" = some (.type "bool"):=by rfl
theorem boot_dict:xj "dict" = some (.type "dict"):=by rfl
noncomputable abbrev Z4:Gh->Prop:=λ_=>True
noncomputable def stL (K:qd)(p sa:Addr)(tr:Bool)(s:Pn)(H:Hp):Prop:=
 ∃a h,s.1=[a,h]/\H p=some (.lst [.ref sa,.int a,.int h])/\sa≠p/\ZV K H sa (s.2.map V.int)/\(tr=true->∃o,H sa=some o)/\(tr=false->∀H':Hp,ZV K H' sa (s.2.map V.int))
noncomputable def U2 (K:qd)(p sa:Addr)(tr:Bool):Gh where
 fp:=λb=>b=p
 rd:=λb=>b=p∨(tr=true/\b=sa)
 pen:=.ref p
 st:=stL K p sa tr
 mono:=λs H H' ⟨a,h,e0,e1,ne,sq,t1,t2⟩ k _ _=>by
  refine⟨a,h,e0,k p _ (.inl rfl) e1,ne,?_,λht=>?_,t2⟩
  ·cases tr with
   | false=>exact t2 rfl H'
   | true=>
    rcases sq with(q | ⟨o,q⟩) | q
    ·exact .inl (.inl (k sa _ (.inr ⟨rfl,rfl⟩) q))
    ·exact .inl (.inr ⟨o,k sa _ (.inr ⟨rfl,rfl⟩) q⟩)
    ·exact .inr q
  ·obtain⟨o,q⟩:=t1 ht
   exact⟨o,k sa o (.inr ⟨ht,rfl⟩) q⟩
 sub:=λb h=>.inl h
 dom:=λs H b ⟨a,h,e0,e1,ne,sq,t1,t2⟩ hb=>by
  rcases hb with rfl | ⟨ht,rfl⟩
  ·exact⟨_,e1⟩
  ·exact t1 ht
 ntp:=λs H b vs ⟨a,h,e0,e1,ne,sq,t1,t2⟩ hb z=>by
  rw[hb,e1]at z;cases z
noncomputable def XI (K:qd):Gh->Prop:=λG=>∃p sa tr,G=U2 K p sa tr
noncomputable def Zg7 (ns:List Int)(a:Int):Int:=if a<ns.length then ns.getD a.toNat 0 else if 0<ns.length then ns.getD (a*7 % ns.length).toNat 0 % 1000003+a*1000003 else 0
noncomputable def VE (c a:Int):Int:=
 if 10 ^ 18<=c then c else
  let x:=(c % 2147483647*48271+a*69621+11) % 2147483629
  let y:=(x*x+48271*x+a) % 2147483587
  y*2147483579+(y*y+69621*a) % 2147483579
noncomputable def X5 (m a h:Int)(ns:List Int):Int×Int:=if h<m then (a+1,VE (Zg7 ns a) a)else (a,h)
noncomputable def YK:List D->M D:=λds s=>match ds,s with
 | [.pen,.int m],([a,h],ns)=>if 0<m/\m<1073741824/\0<=a then some (.int ((X5 m a h ns).2 % m),([(X5 m a h ns).1,(X5 m a h ns).2 / m],ns))else none
 | _,_=>none
noncomputable def Y7 (s:Pn):Prop:=∃a h,s.1=[a,h]/\0<=a/\0<=h
theorem ZlW (c a:Int)(ha:0<=a):0<=VE c a:=by
 unfold VE
 grind
theorem Zjx (ok:Y7 s)(h1:0<m)(h2:m<1073741824):∃r s',YK [.pen,.int m] s=some (.int r,s')/\0<=r/\r<m/\Y7 s':=by
 obtain⟨a,h,e,ha,hh⟩:=ok;obtain⟨l,ns⟩:=s;subst e;refine⟨(X5 m a h ns).2 % m,([(X5 m a h ns).1,(X5 m a h ns).2 / m],ns),?_,y6 _ (by omega),yF _ h1,⟨_,_,rfl,?_,?_⟩⟩
 ·show(if 0<m/\m<1073741824/\0<=a then _ else _)=_
  simp_all
 ·unfold X5
  split
  ·omega
  ·exact ha
 ·have:0<=(X5 m a h ns).2:=by
   unfold X5;split
   ·exact ZlW _ _ ha
   ·exact hh
  exact Int.ediv_nonneg this (by omega)
noncomputable def Zg8 (G:Gh)(ob own own':List Nat)(fr:Bool)(g:Ze->M Out):TS:=λE σ H=>∃kn jT H0 ρ s out s',J G own kn jT H0 σ H ρ/\G.st s H/\g ρ s=some (out,s')/\Post G ob own' kn jT H0 fr out s' E
noncomputable def ZqU (K:qd)(t:TA):TE:=fun σ H Q=>t σ H λxs H1=>xs.length<=xg/\∀p,H1 p=none->K.lookup p=none->Q (.ref p) (Zs H1 p (.lst xs))
theorem Zn4 (h:PA X es t):PE X (.List es pos) (ZqU X.K t):=by
 intro jN s σ H Q I hq;refine wpAny_List_spliced (ZK (h pos jN s σ H _ I hq) λus s1 ⟨xs,H1,I1,r,z,q⟩=>⟨by rw[<-r.length];exact z,?_⟩);have hf:=I1.hok.fresh (qk _);have hk:X.K.lookup s1.heap.objs.size=none:=by
  cases e:X.K.lookup s1.heap.objs.size with
  | none=>rfl
  | some o=>
   have:=I1.kIn _ _ e;rw[qb2 (qk _)]at this;cases this
 refine⟨.ref s1.heap.objs.size,Zs H1 s1.heap.objs.size (.lst xs),I1.laid (λb u e=>qj _ e) (qk _) ?_,rfl,q _ hf hk⟩;exact⟨z,us,0,r,qE _ rfl⟩
noncomputable def Ok {α:Type}(m:M α)(s:Pn)(Q:α->Pn->Prop):Prop:=∃a s',m s=some (a,s')/\Q a s'
theorem Ok.bind {m:M α}{k:α->M β}{Q:β->Pn->Prop}(h:Ok m s λa s1=>Ok (k a) s1 Q):Ok (Zp m k) s Q:=by
 obtain⟨a,s1,e,b,s2,e2,q⟩:=h;exact⟨b,s2,by unfold Zp;simp_all,q⟩
theorem Ok.ret {a:α}{Q:α->Pn->Prop}(h:Q a s):Ok (ZJ a) s Q:=⟨a,s,rfl,h⟩
theorem Ok.eq {m:M α}{a:α}{Q:α->Pn->Prop}(e:m s=some (a,s'))(h:Q a s'):Ok m s Q:=⟨a,s',e,h⟩
theorem Ok.mono {m:M α}{Q Q':α->Pn->Prop}(h:Ok m s Q)(k:∀a s',Q a s'->Q' a s'):Ok m s Q':=let ⟨a,s',e,q⟩:=h;⟨a,s',e,k a s' q⟩
theorem Ok.of {o:Option α}{a:α}{Q:α->Pn->Prop}(e:o=some a)(h:Q a s):Ok (YO o) s Q:=⟨a,s,by unfold YO;rw[e],h⟩
theorem Ok.ite {α:Type}{c:Prop}[Decidable c]{m:M α}{s:Pn}{Q:α->Pn->Prop}(hc:c)(h:Ok m s Q):Ok (if c then m else ZS) s Q:=by simp_all
section
variable {ρ:Ze}{s:Pn}{Q:Out->Pn->Prop}{f:Ze->M D}{g1 g2:Ze->M Out}
theorem Ok.seq (h:Ok (g1 ρ) s λo s1=>match o with | .nx ρ'=>Ok (g2 ρ') s1 Q | .rt d=>Q (.rt d) s1 | .bk ρ'=>Q (.bk ρ') s1 | .ct ρ'=>Q (.ct ρ') s1):Ok (Zh g1 g2 ρ) s Q:=by
 refine Ok.bind (h.mono λo s1 q=>?_)
 cases o with
 | nx ρ'=>exact q
 | rt d=>exact .ret q
 | bk ρ'=>exact .ret q
 | ct ρ'=>exact .ret q
theorem Ok.next (h:Q (.nx ρ) s):Ok (Zq ρ) s Q:=.ret h
theorem Ok.sset (h:Ok (f ρ) s λd s1=>Q (.nx (ρ.set i (some d))) s1):Ok (ZT i f ρ) s Q:=.bind (h.mono λ_ _ q=>.ret q)
theorem Ok.sown (h:Ok (f ρ) s λd s1=>JC d=true/\Q (.nx (ρ.set i (some d))) s1):Ok (Vo i f ρ) s Q:=.bind (h.mono λ_ _ q=>.ite q.1 (.ret q.2))
theorem Ok.sret (h:Ok (f ρ) s λd s1=>Q (.rt d) s1):Ok (ZL f ρ) s Q:=.bind (h.mono λ_ _ q=>.ret q)
theorem Ok.sif (h:Ok (c ρ) s λb s1=>if b=true then Ok (g1 ρ) s1 Q else Ok (g2 ρ) s1 Q):Ok (Yx c g1 g2 ρ) s Q:=by
 refine .bind (h.mono λb s1 q=>?_)
 cases b with
 | true=>simp_all
 | false=>simp_all
theorem Ok.sapp (hi:(ρ[i]?).bind id=some (.lst ds))(hl:ds.length<xg)(h:Ok (f ρ) s λd s1=>Q (.nx (ρ.set i (some (.lst (ds ++ [d]))))) s1):Ok (Vp i f ρ) s Q:=by
 refine .bind (h.mono λd s1 q=>?_);simp only[hi];exact .ite hl (.ret q)
theorem Ok.spar (h:Ok (fs ρ) s λds s1=>∃a b,ds=[a,b]/\XR a=true/\XR b=true/\Q (.nx ((ρ.set i (some a)).set j (some b))) s1):Ok (VH i j fs ρ) s Q:=by
 refine .bind (h.mono λd s1 q=>?_);obtain⟨a,b,rfl,n1,n2,q⟩:=q;exact .ite (by simp_all) (.ret q)
theorem Ok.loop (I:Nat->Ze->Pn->Prop):∀(ds:List D) (k:Nat) (ρ:Ze) (s:Pn),I k ρ s->
  (∀i d ρ s,ds[i]?=some d->I (k+i) ρ s->∃ρ1,τ d ρ=some ρ1/\Ok (body ρ1) s λo s'=>∃ρ',o=.nx ρ'/\I (k+i+1) ρ' s')->Ok (Wu τ body ds ρ) s λo s'=>∃ρ',o=.nx ρ'/\I (k+ds.length) ρ' s'
 | [],k,ρ,s,h0,_=>.ret ⟨ρ,rfl,h0⟩
 | d::ds,k,ρ,s,h0,h=>by
  obtain⟨ρ1,e1,ok⟩:=h 0 d ρ s rfl h0;refine Ok.bind (.of e1 (.bind (ok.mono λo s' q=>?_)));obtain⟨ρ',rfl,q⟩:=q;refine(Ok.loop I ds (k+1) ρ' s' q λi d' ρ2 s2 e2 q2=>?_).mono λo s2 q2=>?_
  ·have:=h (i+1) d' ρ2 s2 (by simpa using e2) (by grind)
   rw[show k+(i+1)+1=k+1+i+1 by omega]at this;exact this
  ·rw[show k+(d::ds).length=k+1+ds.length by simp;omega]
   exact q2
theorem Ok.sfor (I:Nat->Ze->Pn->Prop)(h:Ok (fi ρ) s λds s1=>I 0 ρ s1/\(∀i d ρ s,ds[i]?=some d->I i ρ s->∃ρ1,τ d ρ=some ρ1/\Ok (body ρ1) s λo s'=>∃ρ',o=.nx ρ'/\I (i+1) ρ' s')/\
  ∀ρ' s',I ds.length ρ' s'->Q (.nx ρ') s'):Ok (Xc fi τ body ρ) s Q:=by
 refine .bind (h.mono λds s1 q=>?_);obtain⟨q0,q1,q2⟩:=q;refine(Ok.loop I ds 0 ρ s1 q0 λi d ρ s e=>?_).mono λo s' q=>?_
 ·rw[qcm];exact q1 i d ρ s e
 ·obtain⟨ρ',rfl,q⟩:=q
  simp_all
end
section
variable {ρ ρ':Ze}{s s1 s2:Pn}{f f2:Ze->M D}{g1 g2:Ze->M Out}{d e c:D}{r:Option (Out×Pn)}
theorem Yr (hl:ds.length=k)(h:g (ds.map some++qf (n-k) none) s=some (.rt d,s1)):runB n k g ds s=some (d,s1):=by
 unfold runB;rw[if_pos hl];unfold Zp;rw[h];rfl
theorem YW (h:f ρ s=some (d,s1)):ZL f ρ s=some (.rt d,s1):=by unfold ZL Zp;rw[h];rfl
theorem ZX (h:g1 ρ s=some (.rt d,s1)):Zh g1 g2 ρ s=some (.rt d,s1):=by unfold Zh Zp;rw[h];rfl
theorem Yh (h:g1 ρ s=some (.nx ρ',s1))(h2:g2 ρ' s1=r):Zh g1 g2 ρ s=r:=by unfold Zh Zp;simp_all
theorem Wd (h:f ρ s=some (d,s1)):ZT i f ρ s=some (.nx (ρ.set i (some d)),s1):=by unfold ZT Zp;rw[h];rfl
theorem Zm (h1:f ρ s=some (d,s1))(h2:f2 ρ s1=some (e,s2))(h:g d e=some c):Zc g f f2 ρ s=some (c,s2):=by
 unfold Zc Zp;rw[h1];simp;rw[h2];simp;unfold YO;rw[h]
theorem Yv (h1:fs ρ s=some (ds,s1))(h:g ds=some c):ZO g fs ρ s=some (c,s1):=by
 unfold ZO Zp;rw[h1];simp;unfold YO;rw[h]
theorem Ym (h1:fs ρ s=some (ds,s1))(h:F ds s1=q):Zx F fs ρ s=q:=by
 unfold Zx Zp;simp_all
theorem Zg (h1:f ρ s=some (d,s1))(h2:fs ρ s1=some (ds,s2)):Zb f fs ρ s=some (d::ds,s2):=by
 unfold Zb Zp;rw[h1];simp;rw[h2];rfl
theorem Xe (h1:fs ρ s=some (ds,s1))(hl:ds.length<=xg):ZB fs ρ s=some (.tup ds,s1):=by
 unfold ZB Zp;rw[h1];simp;rw[if_pos hl];rfl
theorem WM (h1:fs ρ s=some (ds,s1))(hl:ds.length<=xg):Yz fs ρ s=some (.lst ds,s1):=by
 unfold Yz Zp;rw[h1];simp;rw[if_pos hl];rfl
theorem Z6 (h:f ρ s=some (.bl b,s1)):ZF f ρ s=some (b,s1):=by unfold ZF Zp;rw[h];rfl
theorem X2 (h:fb ρ s=some (b,s1)):Xx fb ρ s=some (!b,s1):=by unfold Xx Zp;rw[h];rfl
end
theorem Zft (r:D->Ze)(b:D->Bool)(c:D->D):∀(ds:List D),(∀d∈ds,τ d ρ=some (r d)/\ft (r d) s=some (b d,s)/\(b d=true->fe (r d) s=some (c d,s)))->
  UT τ ft fe ρ ds s=some ((ds.filter b).map c,s)
 | [],_=>rfl
 | d::ds,h=>by
  obtain⟨h1,h2,h3⟩:=h d (by simp);have ih:=Zft r b c ds λd' m=>h d' (by simp[m]);unfold UT;simp only[Zp,YO,h1,h2]
  cases hb:b d with
  | true=>simp[Zp,h3 hb,ih,hb,ZJ]
  | false=>simp_all
theorem Zd5 (P:D->Prop)(I:Pn->Prop):∀(ds:List D) (s:Pn),I s->(∀d∈ds,∀s,I s->∃ρ1,τ d ρ=some ρ1/\Ok (fe ρ1) s λc s'=>P c/\I s')->
  Ok (UT τ Yi fe ρ ds) s λr s'=>r.length=ds.length/\(∀c∈r,P c)/\I s'
 | [],s,hs,_=>.ret ⟨rfl,by simp,hs⟩
 | d::ds,s,hs,h=>by
  obtain⟨ρ1,e1,ok⟩:=h d (by simp) s hs;refine .bind (.of e1 (.bind (.ret ?_)));refine .bind (ok.mono λc s1 q=>.bind ((Zd5 P I ds s1 q.2 λd' m=>h d' (by simp[m])).mono λr s2 q2=>.ret ⟨by simp[q2.1],?_,q2.2.2⟩));simp_all
end TF
namespace TP
open L2 TF
noncomputable def ZiA:Ze->M Out:=(Zh (Vo 1 (Yz Zf))
 (Zh (Xc (Yt (ZO YZ (Zb (Za 0) Zf))) (ZI 2)
 (Zh (Xc (Br (Zc ZY (Za 2) (dC (.int 1))) (ZO YZ (Zb (Za 0) Zf))) (ZI 3)
 (Zh (Vp 1 (fun ρ=>(ZB (Zb (Zc Zn (Za 0) (Za 2)) (Zb (Zc Zn (Za 0) (Za 3)) Zf))) (Yg [1] ρ)))
 Zq))
 Zq))
 (Zh (ZL (Za 1))
 Zq)))
noncomputable def Zau:List D->M D:=runB 4 1 ZiA
noncomputable def ZbM:Ze->M Out:=(Zh (ZL (Zc Xq (ZB (Zb (ZO JM (Zb (Za 1) (Zb (Za 2) Zf))) (Zb (ZO BJ (Zb (Za 1) (Zb (Za 2) Zf))) Zf))) (Za 0)))
 Zq)
noncomputable def WL:List D->M D:=runB 3 3 ZbM
noncomputable def ZpW:Ze->M Out:=(Zh (ZL (Yb [none,some 0,some 1] (Yt (Zc Zn (Za 0) (dC (.int 0)))) (ZI 0) (ZF (Zx WL (Zb (Zc Zn (Za 1) (dC (.int 1))) (Zb (Za 2) (Zb (Za 0) Zf))))) (Za 0)))
 Zq)
noncomputable def Uf:List D->M D:=runB 2 2 ZpW
noncomputable def ZeX:Ze->M Out:=(Zh (ZL (ZO ZlQ (Zb (Yb [none] (Xl (Zc Zn (Za 0) (dC (.int 1)))) (ZI 0) Yi (ZB (Zb (Za 0) (Zb (dC (.bl true)) Zf)))) Zf)))
 Zq)
noncomputable def Jh:List D->M D:=runB 1 1 ZeX
noncomputable def Za9:Ze->M Out:=(Zh (Yx (ZF (Zc Uz (Za 0) (Zc W7 (dC (.int 10)) (dC (.int 18)))))
 (Zh (ZL (Za 0))
 Zq)
 Zq)
 (Zh (ZT 2 (Zc VZ (Zc ZY (Zc ZY (Zc Us (Zc VZ (Za 0) (dC (.int 2147483647))) (dC (.int 48271))) (Zc Us (Za 1) (dC (.int 69621)))) (dC (.int 11))) (dC (.int 2147483629))))
 (Zh (ZT 2 (Zc VZ (Zc ZY (Zc ZY (Zc Us (Za 2) (Za 2)) (Zc Us (dC (.int 48271)) (Za 2))) (Za 1)) (dC (.int 2147483587))))
 (Zh (ZL (Zc ZY (Zc Us (Za 2) (dC (.int 2147483579))) (Zc VZ (Zc ZY (Zc Us (Za 2) (Za 2)) (Zc Us (dC (.int 69621)) (Za 1))) (dC (.int 2147483579)))))
 Zq))))
noncomputable def Jk:List D->M D:=runB 3 2 Za9
noncomputable def ZiB:Ze->M Out:=(Zh (ZT 2 (Zx YK (Zb (Za 0) (Zb (Zc ZY (Za 1) (dC (.int 1))) Zf))))
 (Zh (VH 3 4 (Zb (Zx YK (Zb (Za 0) (Zb (dC (.int 4)) Zf))) (Zb (Zc ZY (dC (.int 1)) (Zx YK (Zb (Za 0) (Zb (dC (.int 3)) Zf)))) Zf)))
 (Zh (ZT 5 (Yb [none,some 0] (Yt (Za 2)) (ZI 0) Yi (Zx YK (Zb (Za 1) (Zb (dC (.int 2)) Zf)))))
 (Zh (Vo 6 (Yz Zf))
 (Zh (Xc (Yt (Za 2)) (ZI 7)
 (Zh (Xc (Br (Zc ZY (Za 7) (dC (.int 1))) (Za 2)) (ZI 8)
 (Zh (ZT 9 (fun ρ=>(Zc Vb (Zx YK (Zb (Za 0) (Zb (dC (.int 4)) Zf))) (Za 4)) (Yg [6] ρ)))
 (Zh (Yx (W6 (ZF (Zc YF (Za 3) (dC (.int 0)))) (W6 (ZF (Zc YF (Zc Zn (Za 5) (Za 7)) (dC (.int 1)))) (ZF (Zc YF (Zc Zn (Za 5) (Za 8)) (dC (.int 1))))))
 (Zh (ZT 9 (fun ρ=>(dC (.bl true)) (Yg [6] ρ)))
 Zq)
 Zq)
 (Zh (Yx (ZF (Zc YF (Za 3) (dC (.int 1))))
 (Zh (ZT 9 (fun ρ=>(V1 (Zc YF (Zc Xg (Za 8) (Za 7)) (dC (.int 1))) (Zc YF (Zc Xg (Za 8) (Za 7)) (Zc Xg (Za 2) (dC (.int 1))))) (Yg [6] ρ)))
 Zq)
 Zq)
 (Zh (Yx (ZF (Za 9))
 (Zh (Vp 6 (fun ρ=>(ZB (Zb (Za 7) (Zb (Za 8) Zf))) (Yg [6] ρ)))
 Zq)
 Zq)
 Zq)))))
 Zq))
 (Zh (ZL (ZB (Zb (Za 2) (Zb (ZO Ue (Zb (Za 6) Zf)) Zf))))
 Zq))))))
noncomputable def Zav:List D->M D:=runB 10 2 ZiB
noncomputable def Zc1:Ze->M Out:=(Zh (ZL (Zc Xq (ZB (Zb (ZO JM (Zb (Za 1) (Zb (Za 2) Zf))) (Zb (ZO BJ (Zb (Za 1) (Zb (Za 2) Zf))) Zf))) (Zc Zn (Za 0) (dC (.int 1)))))
 Zq)
noncomputable def Zah:List D->M D:=runB 3 3 Zc1
noncomputable def ZeY:Ze->M Out:=(Zh (ZL (Wl (ZO X7 (Zb (Za 0) (Zb (dC (.ty "tuple")) Zf))) (Zc YF (ZO YZ (Zb (Za 0) Zf)) (Za 1))))
 Zq)
noncomputable def Vv:List D->M D:=runB 2 2 ZeY
noncomputable def ZiC:Ze->M Out:=(Zh (ZL (Wl (ZO X7 (Zb (Za 0) (Zb (dC (.ty "int")) Zf))) (JS (ZO X7 (Zb (Za 0) (Zb (dC (.ty "bool")) Zf))))))
 Zq)
noncomputable def Jl:List D->M D:=runB 1 1 ZiC
local macro_rules | `(tactic| walk_at "ev")=>`(tactic| simp[runB,Zh,ZL,ZT,Zq,Yx,ZF,Zc,ZO,Zb,Zf,ZB,Yz,Za,dC,Zx,Zp,ZJ,YO,ZY,Xg,dI,Yg,Wp,V1,Wl,JS,W6,Wa,Xx])
noncomputable def ZU (p:Nat×Nat):D:=.tup [.int p.1,.int p.2]
noncomputable def ZG (n:Nat)(jO:Qa):D:=.tup [.int n,.tup (jO.map ZU)]
noncomputable def tied (jO:Qa)(a b:Nat):Bool:=decide ((min a b,max a b)∈jO)
theorem ZlX (p q:Nat×Nat):ZR (ZU p) (ZU q)=decide (p=q):=by
 simp only[ZU,ZR,XH]
 grind
theorem ZkB (p:Nat×Nat)(jO:Qa):XX (ZU p) (jO.map ZU)=decide (p∈jO):=by
 unfold XX
 induction jO with
 | nil=>simp
 | cons t ts ih=>
  rw[qS,yR,ih,ZlX]
  grind
theorem Zc2:∀jO:Qa,YT (jO.map ZU)=true
 | []=>by rfl
 | t::ts=>by simp[YT,ZU,Zr,Zc2 ts]
theorem Zd6:∀jO:Qa,Y6 (jO.map ZU)<=1
 | []=>by simp[Y6]
 | t::ts=>by
  have:=Zd6 ts;simp only[qS,Y6,ZU,ZW];omega
theorem ZlY (p:Nat×Nat):ZW (ZU p)=1:=by rfl
theorem ZiD (p:Nat×Nat):Zr (ZU p)=true:=by rfl
theorem ZiE (p:Nat×Nat)(jO:Qa):Xy (ZU p) (jO.map ZU)=true:=by
 have:=Zd6 jO;simp[Xy,ZiD,Zc2,ZlY];omega
theorem Zfu (p:Nat×Nat)(jO:Qa):Xq (ZU p) (.tup (jO.map ZU))=some (.bl (decide (p∈jO))):=by
 have:U1 (ZU p) (.tup (jO.map ZU))=some (decide (p∈jO)):=by
  show(if Xy (ZU p) (jO.map ZU)=true then some (XX (ZU p) (jO.map ZU))else none)=_;rw[if_pos (ZiE p jO),ZkB]
 unfold Xq;simp_all
theorem VF (x:α)(xs:List α):Xz (x::xs) 0=some x:=Vf rfl
theorem Uo (x y:α)(xs:List α):Xz (x::y::xs) 1=some y:=Vf rfl
theorem two_le:2<=xg:=by decide
theorem ZbN (a b:Nat):D.tup [.int (if b<a then (b:Int)else a),.int (if a<b then (b:Int)else a)]=ZU (min a b,max a b):=by
 unfold ZU
 grind
theorem Zg9 (jO:Qa)(a b:Nat)(s:Pn):WL [.tup (jO.map ZU),.int a,.int b] s=some (.bl (tied jO a b),s):=by
 simp[WL,ZbM,runB,Zh,ZL,Zc,ZO,Zb,Zf,ZB,Za,Zp,ZJ,YO,JM,BJ,two_le,ZbN,Zfu,tied]
theorem Zha (n:Nat)(jO:Qa)(a b:Nat)(s:Pn):Zah [ZG n jO,.int a,.int b] s=some (.bl (tied jO a b),s):=by
 simp[Zah,Zc1,runB,Zh,ZL,Zc,ZO,Zb,Zf,ZB,Za,dC,Zp,ZJ,YO,JM,BJ,two_le,ZbN,ZG,Zn,Uo,Zfu,tied]
theorem XF (r:D->Ze)(b:D->Bool)(c:D->D)(hi:fi ρ s=some (ds,s))(hl:ds.length<=xg)
  (h:∀d∈ds,τ d (Wp src ρ)=some (r d)/\ft (r d) s=some (b d,s)/\(b d=true->fe (r d) s=some (c d,s))):Yb src fi τ ft fe ρ s=some (.lst ((ds.filter b).map c),s):=by
 unfold Yb;simp only[Zp,hi,hl,if_true,Zft r b c ds h,ZJ]
theorem ZkC (n:Nat)(h:n<=100000):-(2 ^ 62)<=(n:Int)/\(n:Int)<2 ^ 62:=by omega
theorem Y1:xg=16777216:=by decide
theorem XB {n:Nat}(h:f ρ s=some (.int n,s))(hn:n<=100000):Yt f ρ s=some (Yw 0 n,s):=by
 unfold Yt;simp only[Zp,h];rw[if_pos (ZkC n hn)];rfl
theorem ZcJ {a n:Nat}(h:f ρ s=some (.int a,s))(h2:g ρ s=some (.int n,s))(ha:a<=100000)(hn:n<=100000):Br f g ρ s=some (Yw a (n-a),s):=by
 unfold Br;simp only[Zp,h,h2];rw[if_pos (by omega),show((n:Int)-(a:Int)).toNat=n-a by omega];rfl
theorem XY (lo:Int)(n:Nat):(Yw lo n).length=n:=by simp[Yw]
theorem Zaw {lo:Nat}(h:(Yw lo n)[i]?=some d):i<n/\d=.int ((lo+i:Nat):Int):=by
 have hi:=by
  have:=(qC.mp h).1;simpa[Yw]using this
 unfold Yw at h;simp_all
theorem Zax (h:d∈Yw 0 n):∃i:Nat,i<n/\d=.int (i:Int):=by
 obtain⟨i,hi,e⟩:=qu.mp h;exact⟨i,by simp_all,by simp_all⟩
theorem Bv (n:Nat):Yw 0 n=(qm n).map λ(i:Nat)=>D.int (i:Int):=by
 unfold Yw;simp
noncomputable def YV:D->Nat
 | .int i=>i.toNat
 | _=>0
theorem Zc3 (n:Nat)(p:Nat->Bool):((Yw 0 n).filter λd=>p (YV d)).map (λd=>d)=((qm n).filter p).map λ(i:Nat)=>D.int (i:Int):=by
 rw[Bv,yG];simp;congr 1
theorem jA {m:M α}{a:α}(h:Ok m s λb t=>b=a/\t=s'):m s=some (a,s'):=by
 obtain⟨b,t,e,rfl,rfl⟩:=h;exact e
theorem Bw (hn:n<=100000):(Yw 0 n).length<=xg:=by rw[XY,Y1];omega
theorem ZpX (n:Nat)(jO:Qa)(p:Nat)(s:Pn)(hn:n<=100000):Yb [none,some 0,some 1] (Yt (Zc Zn (Za 0) (dC (.int 0)))) (ZI 0) (ZF (Zx WL (Zb (Zc Zn (Za 1) (dC (.int 1))) (Zb (Za 2) (Zb (Za 0) Zf))))) (Za 0) [some (ZG n jO),some (.int p)] s
   = some (.lst (((qm n).filter λo=>tied jO p o).map λ(i:Nat)=>D.int (i:Int)),s):=by
 rw[<-Zc3];refine XF (λd=>[some d,some (ZG n jO),some (.int p)]) (λd=>tied jO p (YV d)) (λd=>d) (XB (Zm rfl rfl (by rfl)) hn) (Bw hn) ?_;intro d hd;obtain⟨i,hi,rfl⟩:=Zax hd;refine⟨rfl,Z6 (Ym (Zg (Zm rfl rfl (by rfl)) (Zg rfl (Zg rfl rfl))) ?_),λ_=>rfl⟩;exact Zg9 jO p i s
theorem Zn5 (n:Nat)(jO:Qa)(p:Nat)(s:Pn)(hn:n<=100000):Uf [ZG n jO,.int p] s=some (.lst (((qm n).filter λo=>tied jO p o).map λ(i:Nat)=>D.int (i:Int)),s):=
 Yr rfl (ZX (YW (ZpX n jO p s hn)))
noncomputable def BZ (row:D)(ds:List D):Prop:=row=.lst ds∨row=.tup ds
theorem BZ.len (h:BZ row ds):YZ [row]=some (.int ds.length):=by
 rcases h with rfl | rfl <;> rfl
theorem BZ.ix (h:BZ row ds)(hi:i<ds.length):Zn row (.int (i:Int))=some (ds.getD i .non):=by
 have e:ds[i]?=some (ds.getD i .non):=by simp[hi]
 rcases h with rfl | rfl <;> exact Vf e
noncomputable def XT (n i:Nat):Qa:=(qm i).flatMap λa=>(qm (n-(a+1))).map λk=>(a,a+1+k)
noncomputable def Wv (n:Nat):Qa:=XT n n
theorem Zbr (n i:Nat):XT n (i+1)=XT n i++(qm (n-(i+1))).map λk=>(i,i+1+k):=by
 unfold XT;rw[zU];simp
theorem Zba (n:Nat):∀i,(XT n i).length<=i*n
 | 0=>by simp[XT]
 | i+1=>by
  have:=Zba n i;rw[Zbr,qQ,qe,qL]
  grind
noncomputable def Jb (ds:List D)(p:Nat×Nat):D:=.tup [ds.getD p.1 .non,ds.getD p.2 .non]
theorem Zf3 (n i j:Nat)(hn:n<=1000)(hi:i<n)(hj:j<=n):(XT n i).length+j<xg:=by
 have h1:=Zba n i;have h2:i*n<=1000*1000:=yj (by omega) hn;rw[Y1];omega
theorem Zhb (row:D)(ds:List D)(h:BZ row ds)(hn:ds.length<=1000)(s:Pn):Zau [row] s=some (.lst ((Wv ds.length).map (Jb ds)),s):=by
 refine Yr rfl (jA ?_);refine Ok.seq (.sown (.eq (a:=.lst []) rfl ⟨rfl,?_⟩));show Ok _ s _;refine Ok.seq (.sfor (λi ρ s'=>s=s'/\∃o2 o3,ρ=[some row,some (.lst ((XT ds.length i).map (Jb ds))),o2,o3]) (.eq (XB (Yv (Zg rfl rfl) h.len) (by omega)) ⟨⟨rfl,none,none,rfl⟩,λi d ρ s' hd hI=>?_,fun ρ' s' hI=>?_⟩))
 ·obtain⟨rfl,o2,o3,rfl⟩:=hI
  obtain⟨hi,rfl⟩:=Zaw hd;refine⟨_,rfl,?_⟩;refine Ok.seq (.sfor (λj ρ s'=>s=s'/\∃o3,ρ=[some row,some (.lst ((XT ds.length i).map (Jb ds)++(qm j).map λk=>Jb ds (i,i+1+k))),some (.int ((0+i:Nat):Int)),o3]) (.eq (ZcJ (a:=i+1) (Zm (d:=.int ((0+i:Nat):Int)) (e:=.int 1) (c:=.int ((i+1:Nat):Int)) rfl rfl (by simp[ZY])) (Yv (Zg rfl rfl) h.len) (by omega) (by omega)) ⟨⟨rfl,o3,by simp⟩,λj d ρ s' hd hJ=>?_,fun ρ' s' hJ=>?_⟩))
  ·obtain⟨rfl,o3,rfl⟩:=hJ
   obtain⟨hj,rfl⟩:=Zaw hd;refine⟨_,rfl,?_⟩;refine Ok.seq (.sapp (ds:=(XT ds.length i).map (Jb ds)++(qm j).map λk=>Jb ds (i,i+1+k)) rfl (by simp only[qQ,qe,qL];exact Zf3 _ _ _ hn hi (by omega)) (.eq (Xe (Zg (Zm (d:=row) (e:=.int ((0+i:Nat):Int)) rfl rfl (by rw[qcm];exact h.ix hi)) (Zg (Zm (d:=row) (e:=.int ((i+1+j:Nat):Int)) rfl rfl (h.ix (by omega))) rfl)) two_le) ?_));refine Ok.next ⟨_,rfl,rfl,some (.int ((i+1+j:Nat):Int)),?_⟩;rw[zU,qP,<-yJ];rfl
  ·obtain⟨rfl,o3',rfl⟩:=hJ
   refine Ok.next ⟨_,rfl,rfl,some (.int ((0+i:Nat):Int)),o3',?_⟩;rw[Zbr,qP,qz,XY];rfl
 ·obtain⟨rfl,o2,o3,rfl⟩:=hI
  refine Ok.seq (.sret (.eq rfl ⟨?_,rfl⟩));rw[XY];rfl
noncomputable def W9 (p:Nat×Nat):List Ye:=[.inl (p.1:Int),.inl (p.2:Int)]
theorem ZlZ (h:W9 p=W9 q):p=q:=by
 simp only[W9]at h
 grind
noncomputable def Y8 (kg:List (List Ye×V))(jO:Qa):List (List Ye×V):=jO.foldl (λkg p=>Y3 kg (W9 p) (.bl true)) kg
theorem Zfv:∀(jO:Qa) (kg:List (List Ye×V)),Um kg (jO.map λp=>D.tup [ZU p,.bl true])=some (Y8 kg jO)
 | [],kg=>rfl
 | t::ts,kg=>by
  exact Zfv ts _
theorem Zhc (p:Nat×Nat):∀(jO:Qa) (kg:List (List Ye×V)),(YY (Y8 kg jO) (W9 p)).isSome=(decide (p∈jO)||(YY kg (W9 p)).isSome)
 | [],kg=>by simp[Y8]
 | t::ts,kg=>by
  have ih:=Zhc p ts (Y3 kg (W9 t) (.bl true));have e:Y8 kg (t::ts)=Y8 (Y3 kg (W9 t) (.bl true)) ts:=rfl;rw[e,ih,Zlx];by_cases h:p=t
  ·simp_all
  ·have hk:=λz=>h (ZlZ z)
   simp_all
theorem Zfw (n:Nat)(jO:Qa)(s:Pn)(hl:jO.length<=100000):Jh [ZG n jO] s=some (.dt (Y8 [] jO),s):=by
 have hc:Yb [none] (Xl (Zc Zn (Za 0) (dC (.int 1)))) (ZI 0) Yi (ZB (Zb (Za 0) (Zb (dC (.bl true)) Zf))) [some (ZG n jO)] s=some (.lst ((jO.map ZU).map λd=>D.tup [d,.bl true]),s):=by
  have q:=XF (src:=[none]) (fi:=Xl (Zc Zn (Za 0) (dC (.int 1)))) (τ:=ZI 0) (ft:=Yi) (fe:=ZB (Zb (Za 0) (Zb (dC (.bl true)) Zf))) (ρ:=[some (ZG n jO)]) (s:=s) (λd=>[some d]) (λ_=>true) (λd=>D.tup [d,.bl true])
   (by rfl) (by rw[qe,Y1];omega)
   (λd hd=>⟨rfl,rfl,λ_=>Xe (Zg rfl (Zg rfl rfl)) two_le⟩)
  have q2:(jO.map ZU).filter (λ_=>true)=jO.map ZU:=yy.mpr (by simp);rw[q,q2]
 refine Yr rfl (ZX (YW (Yv (Zg hc rfl) ?_)));rw[qz];show(if ((jO.map ((λd=>D.tup [d,.bl true])∘ZU)).length<=xg)then (Um [] _).map D.dt else none)=_;rw[if_pos (by rw[qe,Y1];omega)];have e:=Zfv jO [];show(Um [] (jO.map λp=>D.tup [ZU p,.bl true])).map D.dt=_;rw[e];rfl
theorem Zhd (h:p∈XT n i):p.1<i/\p.1<p.2/\p.2<n:=by
 obtain⟨a,ha,h⟩:=List.mem_flatMap.mp h;obtain⟨k,hk,rfl⟩:=qu.mp h;simp at ha hk
 grind
theorem ZkD (h:p∈Wv n):Jb (Yw 0 n) p=ZU p:=by
 obtain⟨h1,h2,h3⟩:=Zhd h;have g:∀i,i<n->(Yw 0 n).getD i .non=.int (i:Int):=λi hi=>by
  rw[Bv];simp[hi]
 unfold Jb ZU;rw[g _ h1,g _ h3]
theorem Zhe (s:Pn)(hn:n<=1000):Zau [.lst (Yw 0 n)] s=some (.lst ((Wv n).map ZU),s):=by
 rw[Zhb _ _ (.inl rfl) (by rw[XY];exact hn) s,XY];congr 3;exact qT λp hp=>ZkD hp
theorem Zb6 {n:Nat}(h:f ρ s=some (.int n,s))(hn:n<=1000):Zat f ρ s=some (.lst (Yw 0 n),s):=by
 unfold Zat Zp;rw[h];show(if -(2 ^ 62)<=(n:Int)/\(n:Int)<=2 ^ 24 then ZJ (D.lst (Yw 0 (n:Int).toNat))else ZS) s=_;rw[if_pos (by omega)];rfl
theorem Zl0 (n:Nat)(hn:n<=1000):(Wv n).length<=1000000:=by
 have h1:=Zba n n;have h2:=yj hn hn;unfold Wv;omega
theorem Zf4 (l:Qa)(b:D->Bool)(q:Nat×Nat->Bool)(h:∀p,b (ZU p)=q p):((l.map ZU).filter b).map (λd=>d)=(l.filter q).map ZU:=by
 rw[yG,List.map_id'];congr 1;exact qas λp _=>h p
noncomputable def nat2:D->Nat×Nat
 | .tup [a,b]=>(YV a,YV b)
 | _=>(0,0)
end TP
namespace TF
open L2
theorem Zdu:∀(l:List D),(∀d∈l,ZW d<=n)->Y6 l<=n
 | [],_=>by simp[Y6]
 | d::l,h=>by
  have:=h d (by simp);have:=Zdu l λx m=>h x (by simp[m]);simp only[Y6];omega
theorem Ok.runB (hl:ds.length=k)(h:Ok (g (ds.map some++qf (n-k) none)) s λo s'=>match o with | .rt d=>Q d s' | .nx _=>Q .non s' | _=>False):Ok (runB n k g ds) s Q:=by
 unfold TF.runB;rw[if_pos hl];refine .bind (h.mono λo s' q=>?_)
 cases o with
 | rt d=>exact .ret q
 | nx ρ=>exact .ret q
 | bk ρ=>exact q.elim
 | ct ρ=>exact q.elim
theorem Ok.band (h:Ok (f ρ) s λb s1=>if b=true then Ok (g ρ) s1 Q else Q false s1):Ok (W6 f g ρ) s Q:=by
 refine .bind (h.mono λb s1 q=>?_)
 cases b with
 | true=>simp_all
 | false=>exact .ret (by simp_all)
theorem Ok.fn (h1:fs ρ s=some (ds,s1))(h:Ok (F ds) s1 Q):Ok (Zx F fs ρ) s Q:=by
 obtain⟨a,s',e,q⟩:=h;exact⟨a,s',Ym h1 e,q⟩
theorem Ok.draw {m:Nat}(ok:Y7 s)(h1:fs ρ s=some ([.pen,.int (m:Int)],s))(hm:0<m)(hm2:m<1073741824)(h:∀(r:Nat) s',r<m->Y7 s'->Q (.int (r:Int)) s'):Ok (Zx YK fs ρ) s Q:=by
 obtain⟨r,s1,e,r0,r1,ok1⟩:=Zjx ok (show 0<(m:Int) by omega) (show(m:Int)<1073741824 by omega);obtain⟨n,rfl⟩:=qbG r0;exact .fn h1 (.eq e (h n s1 (by omega) ok1))
theorem Ok.op (h:Ok (f ρ) s λd s1=>Ok (f2 ρ) s1 λe s2=>∃c,g d e=some c/\Q c s2):Ok (Zc g f f2 ρ) s Q:=
 .bind (h.mono λd s1 q=>.bind (q.mono λe s2 q=>let ⟨c,e1,q⟩:=q;.of e1 q))
theorem Ok.cons (h:Ok (f ρ) s λd s1=>Ok (fs ρ) s1 λds s2=>Q (d::ds) s2):Ok (Zb f fs ρ) s Q:=
 .bind (h.mono λd s1 q=>.bind (q.mono λe s2 q=>.ret q))
theorem Ok.nil (h:Q [] s):Ok (Zf ρ) s Q:=.ret h
theorem Ok.comp (P:D->Prop)(I:Pn->Prop)(hi:fi ρ s=some (ds,s))(hl:ds.length<=xg)(h0:I s)
  (hb:∀d∈ds,∀s,I s->∃ρ1,τ d (Wp src ρ)=some ρ1/\Ok (fe ρ1) s λc s'=>P c/\I s') (hq:∀r s',r.length=ds.length->(∀c∈r,P c)->I s'->Q (.lst r) s'):Ok (Yb src fi τ Yi fe ρ) s Q:=by
 refine .bind (.eq hi ?_);exact .ite hl (.bind ((Zd5 P I ds s h0 hb).mono λr s' q=>.ret (hq r s' q.1 q.2.1 q.2.2)))
end TF
namespace TP
open L2 TF
theorem Zb7:p∈Wv n↔p.1<p.2/\p.2<n:=by
 constructor
 ·intro h;exact(Zhd h).2
 ·intro ⟨h1,h2⟩
  refine List.mem_flatMap.mpr ⟨p.1,by simp;omega,qu.mpr ⟨p.2-(p.1+1),by simp;omega,?_⟩⟩
  grind
theorem Be (h:(Yw 0 n)[i]?=some d):i<n/\d=.int (i:Int):=by
 have:=Zaw h;simp_all
noncomputable def IsWeb (n:Nat)(jO:Qa):Prop:=jO.Sublist (Wv n)
theorem IsWeb.mem (h:IsWeb n jO)(hp:p∈jO):p.1<p.2/\p.2<n:=Zb7.mp (h.subset hp)
theorem IsWeb.len (h:IsWeb n jO)(hn:n<=24):jO.length<=576:=by
 have h1:=h.length_le;have h2:=Zba n n;have h3:=yj hn hn;unfold Wv at h1;omega
theorem IsWeb.filter (f:Nat×Nat->Bool):IsWeb n ((Wv n).filter f):=za
theorem Vh (h:a<b):tied jO a b=decide ((a,b)∈jO):=by
 unfold tied
 grind
theorem Bj (jO:Qa)(a b:Nat):tied jO a b=tied jO b a:=by
 unfold tied
 grind
theorem Ww:Zn (ZG n jO) (.int 0)=some (.int n):=by rfl
theorem web1:Zn (ZG n jO) (.int 1)=some (.tup (jO.map ZU)):=by rfl
theorem Zhf (way rate n i j:Nat)(somes:List D)(hi:i<somes.length)(hj:j<somes.length)(hs:∀c∈somes,∃k:Int,c=.int k)(x0 x1 x6:Option D)(s:Pn)(o9:Bool)
  (hg:∀b,Ok (g [x0,x1,some (.int n),some (.int way),some (.int rate),some (.lst somes),x6,some (.int i),some (.int j),some (.bl b)]) s Q) :
  Ok ((Zh (Yx (W6 (ZF (Zc YF (Za 3) (dC (.int 0)))) (W6 (ZF (Zc YF (Zc Zn (Za 5) (Za 7)) (dC (.int 1)))) (ZF (Zc YF (Zc Zn (Za 5) (Za 8)) (dC (.int 1))))))
 (Zh (ZT 9 (fun ρ=>(dC (.bl true)) (Yg [6] ρ)))
 Zq)
 Zq)
 (Zh (Yx (ZF (Zc YF (Za 3) (dC (.int 1))))
 (Zh (ZT 9 (fun ρ=>(V1 (Zc YF (Zc Xg (Za 8) (Za 7)) (dC (.int 1))) (Zc YF (Zc Xg (Za 8) (Za 7)) (Zc Xg (Za 2) (dC (.int 1))))) (Yg [6] ρ)))
 Zq)
 Zq) g)) [x0,x1,some (.int n),some (.int way),some (.int rate),some (.lst somes),x6,some (.int i),some (.int j),some (.bl o9)]) s Q:=by
 have V2:∀a b:Int,YF (.int a) (.int b)=some (.bl (a==b)):=λa b=>by
  unfold YF;rw[if_pos (by simp[U0,Zr,ZW])];simp[ZR]
 have ixs:∀k,k<somes.length->∃v:Int,Zn (.lst somes) (.int (k:Int))=some (.int v):=λk hk=>by
  obtain⟨v,hv⟩:=hs (somes[k]) (qbs hk);exact⟨v,by rw[<-hv];exact Vf (by simp[hk])⟩
 obtain⟨v1,e1⟩:=ixs i hi;obtain⟨v2,e2⟩:=ixs j hj;have last:∀b,Ok ((Zh (Yx (ZF (Zc YF (Za 3) (dC (.int 1))))
 (Zh (ZT 9 (fun ρ=>(V1 (Zc YF (Zc Xg (Za 8) (Za 7)) (dC (.int 1))) (Zc YF (Zc Xg (Za 8) (Za 7)) (Zc Xg (Za 2) (dC (.int 1))))) (Yg [6] ρ)))
 Zq)
 Zq) g) [x0,x1,some (.int n),some (.int way),some (.int rate),some (.lst somes),x6,some (.int i),some (.int j),some (.bl b)]) s Q:=by
  intro b;refine .seq (.sif (.eq (Z6 (Zm (d:=.int (way:Int)) (e:=.int 1) rfl rfl (V2 _ _))) ?_));split
  ·refine .seq (.sset ?_)
   refine .bind (.eq (Zm (d:=.int ((j:Int)-i)) (e:=.int 1) (Zm (d:=.int (j:Int)) (e:=.int (i:Int)) rfl rfl rfl) rfl (V2 _ _)) ?_);generalize ((j:Int)-i==1)=c
   cases c with
   | true=>
    refine .ret (.next ?_);exact hg true
   | false=>
    refine .eq (Zm (d:=.int ((j:Int)-i)) (e:=.int ((n:Int)-1)) (Zm (d:=.int (j:Int)) (e:=.int (i:Int)) rfl rfl rfl) (Zm (d:=.int (n:Int)) (e:=.int 1) rfl rfl rfl) (V2 _ _)) (.next ?_);exact hg _
  ·refine .next ?_
   exact hg b
 refine .seq (.sif (.band (.eq (Z6 (Zm (d:=.int (way:Int)) (e:=.int 0) rfl rfl (V2 _ _))) ?_)));split
 ·refine .band (.eq (Z6 (Zm (d:=.int v1) (e:=.int 1) (Zm (d:=.lst somes) (e:=.int (i:Int)) rfl rfl e1) rfl (V2 _ _))) ?_)
  split
  ·refine .eq (Z6 (Zm (d:=.int v2) (e:=.int 1) (Zm (d:=.lst somes) (e:=.int (j:Int)) rfl rfl e2) rfl (V2 _ _))) ?_
   split
   ·refine .seq (.sset (.eq (a:=.bl true) rfl ?_))
    refine .next ?_;exact last true
   ·refine .next ?_
    exact last o9
  ·refine .next ?_
   exact last o9
 ·refine .next ?_
  exact last o9
theorem Zn6 {l:Qa}(h:l.Sublist (XT n i++(qm j).map λk=>(i,i+1+k)))(hn:n<=1000)(hi:i<n)(hj:j<=n):(l.map ZU).length<xg:=by
 have h1:=h.length_le;rw[qQ,qe,qL]at h1;have h2:=Zf3 n i j hn hi hj
 grind
theorem ZpY (ok:Y7 s)(most:Nat)(hm:most<=24):Ok (Zav [.pen,.int (most:Int)]) s λd s'=>Y7 s'/\∃n jO,d=ZG n jO/\n<=most/\IsWeb n jO:=by
 refine Ok.runB rfl ?_;refine Ok.seq (.sset (.draw (m:=most+1) ok (Zg rfl (Zg (Zm (d:=.int (most:Int)) (e:=.int 1) rfl rfl rfl) rfl)) (by omega) (by omega) λn s1 hn ok1=>?_));refine Ok.seq (.spar (.cons (.draw (m:=4) ok1 (Zg rfl (Zg rfl rfl)) (by omega) (by omega) λway s2 hw ok2=>.cons (.op (.eq (a:=.int 1) rfl (.draw (m:=3) ok2 (Zg rfl (Zg rfl rfl)) (by omega) (by omega) λr s3 hr ok3=>⟨.int ((1+r:Nat):Int),by simp[ZY],.nil ⟨_,_,rfl,rfl,rfl,?_⟩⟩))))));refine Ok.seq (.sset (.comp (ds:=Yw 0 n) (λc=>∃k:Int,c=.int k) Y7 (XB rfl (by omega)) (Bw (by omega)) ok3 (λd hd s ok=>⟨_,rfl,.draw (m:=2) ok (Zg rfl (Zg rfl rfl)) (by omega) (by omega) λr s' _ ok'=>⟨⟨_,rfl⟩,ok'⟩⟩) λsomes s4 hl hs ok4=>?_));rw[XY]at hl;refine Ok.seq (.sown (.eq (a:=.lst []) rfl ⟨rfl,?_⟩));refine Ok.seq (.sfor (λi ρ s'=>Y7 s'/\∃(jO:Qa) (o7 o8 o9:Option D),jO.Sublist (XT n i)/\ρ=[some .pen,some (.int (most:Int)),some (.int (n:Int)),some (.int (way:Int)),some (.int ((1+r:Nat):Int)),some (.lst somes),some (.lst (jO.map ZU)),o7,o8,o9]) (.eq (XB rfl (by omega)) ⟨⟨ok4,[],none,none,none,List.nil_sublist _,rfl⟩,λi d ρ s' hd hI=>?_,fun ρ' s' hI=>?_⟩))
 ·obtain⟨ok5,jO,o7,o8,o9,hsub,rfl⟩:=hI
  obtain⟨hi,rfl⟩:=Be hd;refine⟨_,rfl,?_⟩;refine Ok.seq (.sfor (λj ρ s'=>Y7 s'/\∃(jO:Qa) (o8 o9:Option D),jO.Sublist (XT n i++(qm j).map λk=>(i,i+1+k))/\ρ=[some .pen,some (.int (most:Int)),some (.int (n:Int)),some (.int (way:Int)),some (.int ((1+r:Nat):Int)),some (.lst somes),some (.lst (jO.map ZU)),some (.int (i:Int)),o8,o9]) (.eq (ZcJ (a:=i+1) (n:=n) (Zm (d:=.int (i:Int)) (e:=.int 1) (c:=.int ((i+1:Nat):Int)) rfl rfl (by simp[ZY])) rfl (by omega) (by omega)) ⟨⟨ok5,jO,o8,o9,by simpa using hsub,rfl⟩,λj d ρ s' hd hJ=>?_,fun ρ' s' hJ=>?_⟩))
  ·obtain⟨ok6,jO,o8,o9,hsub,rfl⟩:=hJ
   obtain⟨hj,rfl⟩:=Zaw hd;refine⟨_,rfl,?_⟩;refine Ok.seq (.sset (.op (.draw (m:=4) ok6 (Zg rfl (Zg rfl rfl)) (by omega) (by omega) λv s7 hv ok7=>.eq (a:=.int ((1+r:Nat):Int)) rfl ⟨_,rfl,?_⟩)));have fin:∀b,Ok (Zh (Yx (ZF (Za 9)) (Zh (Vp 6 (fun ρ=>(ZB (Zb (Za 7) (Zb (Za 8) Zf))) (Yg [6] ρ))) Zq) Zq) Zq [some .pen,some (.int (most:Int)),some (.int (n:Int)),some (.int (way:Int)),some (.int ((1+r:Nat):Int)),some (.lst somes),some (.lst (jO.map ZU)),some (.int (i:Int)),some (.int ((i+1+j:Nat):Int)),some (.bl b)]) s7
     λo s'=>∃ρ',o=.nx ρ'/\Y7 s'/\∃(jO:Qa) (o8 o9:Option D),jO.Sublist (XT n i++(qm (j+1)).map λk=>(i,i+1+k))/\ρ'=[some .pen,some (.int (most:Int)),some (.int (n:Int)),some (.int (way:Int)),some (.int ((1+r:Nat):Int)),some (.lst somes),some (.lst (jO.map ZU)),some (.int (i:Int)),o8,o9]:=by
    intro b;refine Ok.seq (.sif (.eq (Z6 rfl) ?_))
    cases b with
    | true=>
     refine .seq (.sapp (ds:=jO.map ZU) rfl (Zn6 hsub (by omega) hi (by omega)) (.eq (Xe (Zg rfl (Zg rfl rfl)) two_le) ?_));refine .next (.next ⟨_,rfl,ok7,jO ++ [(i,i+1+j)],some (.int ((i+1+j:Nat):Int)),some (.bl true),?_,?_⟩)
     ·rw[zU,qP,<-yJ]
      exact qbt.append hsub (qbt.refl _)
     ·rw[qP];rfl
    | false=>
     refine .next (.next ⟨_,rfl,ok7,jO,some (.int ((i+1+j:Nat):Int)),some (.bl false),?_,rfl⟩);rw[zU,qP,<-yJ];exact hsub.trans (List.sublist_append_left _ _)
   exact Zhf way (1+r) n i (i+1+j) somes (by omega) (by omega) hs (some .pen) (some (.int (most:Int))) (some (.lst (jO.map ZU))) s7 (decide ((v:Int)<((1+r:Nat):Int))) fin
  ·obtain⟨ok6,jO,o8',o9',hsub,rfl⟩:=hJ
   refine Ok.next ⟨_,rfl,ok6,jO,some (.int (i:Int)),o8',o9',?_,rfl⟩;rw[Zbr]
   rwa[XY]at hsub
 ·obtain⟨ok5,jO,o7,o8,o9,hsub,rfl⟩:=hI
  rw[XY]at hsub;exact Ok.seq (.sret (.eq (Xe (Zg rfl (Zg (Yv (Zg rfl rfl) rfl) rfl)) two_le) ⟨ok5,n,jO,rfl,by omega,hsub⟩))
end TP
namespace HT
section
variable {prog:xD}{w:World}{A:xE}{E:xF}{s:Shared}
theorem getItem_tuple_whole {lo:Option Int}(ht:IsTup s.heap t items)(hs:s.heap.IsSliceOf sl vl vu .none)(pl:IsPart vl lo)(pu:IsPart vu hi)
  (hw:sIx items.size 0 lo=0/\sIx items.size items.size hi=items.size)
  (h:Q (.ref t) s)
  (hsz:items.size<=xg):xf (xB prog w) A (getItem (.ref t) (.ref sl)) Q E s:=by
 obtain⟨os,hos,hcs,hds⟩:=id hs;have hTs:s.TypeIs (.ref sl) "slice":=⟨os,hos,hcs⟩;unfold getItem
 try with_reducible refine xw ?_
 first | refine xa (xb ?_) | skip
 refine xa (wpAny_sequenceKey ht.typeIs (by decide) ?_);refine xa (wpAny_callSpecial?_slot (name:=qN "__getitem__") ht.typeIs qO
  (wpAny_call_entry qO ht.typeIs entry_tuple_getitem ?_ (args_tuple_getitem _ _)))
 show xf _ _ (yQ (.ref t) >>= _) _ _ s;refine xa (tupleItemsOf_ ht ?_);refine xa (wpAny_typeOf hTs ?_);rw[if_pos (by decide)];refine xa (ZaM hs pl pu ?_);have hyes:((((sIx items.size 0 lo:Nat):Int)==0&&(1:Int)==1&&(sIx items.size items.size hi-sIx items.size 0 lo)==items.size)=true):=by
  rw[hw.1,hw.2];simp
 show xf _ _ (if (((sIx items.size 0 lo:Nat):Int)==0&&(1:Int)==1&&(sIx items.size items.size hi-sIx items.size 0 lo)==items.size)=true then _ else _) _ _ s;rw[if_pos hyes];refine xa (xa (wpAny_typeOf ht.typeIs ?_));refine xb ?_;refine xa (wpAny_rule ?_)
 first
  | rfl
  | exact xa (xb (xb ⟨_,rfl,xb h⟩))
end
end HT
namespace TF
open L2
noncomputable def ZqV (K:qd):V->Option Int->Option Int->Hp->VK->Prop:=λx lo hi H Q=>∃a xs,x=.ref a/\Z0 K H a xs/\
 (HT.sIx xs.length 0 lo=0/\HT.sIx xs.length xs.length hi=xs.length)/\Q (.ref a) H
section
variable {X:Cx}{G:Gh}
theorem Zn7:U9 X (ZqV X.K):=by
 intro jN s σ H x v vl vu lo hi sl Q I rx hs pl pu h;obtain⟨a,xs,rfl,hx,hw,q⟩:=h
 cases rx
 obtain⟨jR,r,ht,hz⟩:=I.tuple hx;have jV:jR.toArray.size=xs.length:=(r.length.symm);refine⟨"tuple",_,qO.lookup,ht.typeIs,?_⟩;exact HT.getItem_tuple_whole ht hs pl pu (by rw[jV];exact hw) ⟨.ref a,H,I,rfl,q⟩ (by rw[jV];exact hz)
noncomputable def Xh (ds:List D)(lo hi:Option Int):List D:=(ds.drop (HT.sIx ds.length 0 lo)).take (HT.sIx ds.length ds.length hi-HT.sIx ds.length 0 lo)
noncomputable def POD (X:Cx)(G:Gh)(e:Option Expr)(f:Ze->M (Option Int)):Prop:=
 ∃t,PO X e t/\∀(σ:St) (Hf H:Hp) (ρ:Ze) (s:Pn) (o:Option Int) (s':Pn) (Q:Option Int->Hp->Prop),ZC G Hf H->YA G Hf σ ρ->G.st s H->f ρ s=some (o,s')->
  (∀Hf' H',Gr G Hf H Hf' H'->G.st s' H'->Q o H')->t σ H Q
noncomputable def Zjy:Ze->M (Option Int):=λ_=>ZJ none
noncomputable def Zjz (f:Ze->M D):Ze->M (Option Int):=fun ρ=>Zp (f ρ) λd=>match d with | .int i=>ZJ (some i) | _=>ZS
theorem Zd7:POD X G none Zjy:=⟨_,ZnI,fun σ Hf H ρ s o s' Q e1 e2 e3 e4 k=>by
 obtain⟨rfl,rfl⟩:=ZM e4;exact k Hf H (.refl e1) e3⟩
theorem Zd8 (h:PD X G r1 e f):POD X G (some e) (Zjz f):=by
 obtain⟨t,p,q⟩:=h.drop;refine⟨_,ZnJ p,fun σ Hf H ρ s o s' Q e1 e2 e3 e4 k=>?_⟩;obtain⟨d,s1,a1,a2⟩:=Zy e4;refine q σ Hf H ρ s d s1 _ e1 e2 e3 a1 λv jX H1 g1 jY r1=>?_
 match d,a2,r1 with
 | .int i,a2,r1=>
  obtain⟨rfl,rfl⟩:=ZM a2;exact⟨i,ja.mp r1,k jX H1 g1 jY⟩
noncomputable def BD (f:Ze->M D)(fl fh:Ze->M (Option Int)):Ze->M D:=fun ρ=>Zp (f ρ) λd=>Zp (fl ρ) λlo=>Zp (fh ρ) λhi=>match d with
 | .tup ds=>ZJ (.tup (Xh ds lo hi))
 | .lst ds=>ZJ (.lst (Xh ds lo hi))
 | _=>ZS
theorem ZjA (r:Zj G Hf ds vs)(lo hi:Option Int):Zj G Hf (Xh ds lo hi) (UY vs lo hi):=by
 unfold Xh UY;rw[r.length];exact(r.drop _).take _
theorem ZiF {lo:Option Int}(h:HT.sIx ds.length 0 lo=0/\HT.sIx ds.length ds.length hi=ds.length):Xh ds lo hi=ds:=by
 unfold Xh;simp_all
theorem Zd9 {lo:Option Expr}(he:PD X G r1 e f)(hl:POD X G lo fl)(hh:POD X G hi fh):PD X G true (.Subscript e (.Slice lo hi none p2) pos) (BD f fl fh):=by
 obtain⟨t,p,q⟩:=he.drop;obtain⟨tl,pl,ql⟩:=hl;obtain⟨th,ph,qh⟩:=hh;refine⟨_,Zlv (ZnL.or (ZpH.or Zn7)) p pl ph,fun σ Hf H ρ s d s' Q e1 e2 e3 e4 k=>?_⟩;obtain⟨d0,s1,a1,a2⟩:=Zy e4;obtain⟨lo',s2,a3,a4⟩:=Zy a2;obtain⟨hi',s3,a5,a6⟩:=Zy a4;refine q σ Hf H ρ s d0 s1 _ e1 e2 e3 a1 λv jX H1 g1 jY r1=>?_;refine ql σ jX H1 ρ s1 lo' s2 _ g1.fh (e2.ext g1.ff) jY a3 λj6 H2 g2 j8=>?_;refine qh σ j6 H2 ρ s2 hi' s3 _ g2.fh ((e2.ext g1.ff).ext g2.ff) j8 a5 λHf3 H3 g3 st3=>?_;have rr:=(r1.ext g2.ff).ext g3.ff;have g:=(g1.trans g2).trans g3
 match d0,a6,rr with
 | .lst ds,a6,rr=>
  obtain⟨rfl,rfl⟩:=ZM a6;obtain⟨a,vs,rfl,na,ha,ra⟩:=jb.mp rr;refine .inl ⟨a,vs,rfl,ZV.of (g.fh _ _ na ha),λl hl=>?_⟩;have nf:=Gh.nofp st3 hl;have g2:=Gr.new (o:=.lst (UY vs lo' hi')) g.fh hl nf;have rr:=ZjA ra lo' hi';exact k (.ref l) _ _ (g.trans g2) (Gh.grow st3 hl) (jb.mpr ⟨l,_,rfl,nf,Z1,rr.ext g2.ff⟩) λ_=>jn g.hh (λa ea _=>by cases ea;exact nf) (YJ.mk g.fh hl nf rr)
 | .tup ds,a6,rr=>
  obtain⟨rfl,rfl⟩:=ZM a6;obtain⟨a,vs,rfl,na,ha,ra⟩:=jc.mp rr;by_cases hw:HT.sIx vs.length 0 lo'=0/\HT.sIx vs.length vs.length hi'=vs.length
  ·refine .inr (.inr ⟨a,vs,rfl,Z0.of (g.fh _ _ na ha),hw,?_⟩)
   rw[<-ra.length]at hw;exact k (.ref a) _ _ g st3 (by rw[ZiF hw];exact rr) λ_=>.scal λz=>z
  ·refine .inr (.inl ⟨a,vs,rfl,Z0.of (g.fh _ _ na ha),hw,λl hl=>?_⟩)
   have nf:=Gh.nofp st3 hl;have g2:=Gr.new (o:=.tup (UY vs lo' hi')) g.fh hl nf;exact k (.ref l) _ _ (g.trans g2) (Gh.grow st3 hl) (jc.mpr ⟨l,_,rfl,nf,Z1,(ZjA ra lo' hi').ext g2.ff⟩) λ_=>.scal λz=>z
noncomputable def U3 (τ:D->Ze->Option Ze)(f:Ze->M D):Ze->M Out:=fun ρ=>Zp (f ρ) λd=>match τ d ρ with | some ρ'=>ZJ (.nx ρ') | none=>ZS
theorem Zn8 {ob:List Nat}{fr:Bool}{pos:Pos}(he:PD X G r1 e f)(hg:VL X G tg (λi=>i∉own) τ)(hs:swapsWithSole [tg] e pos.line X.env=pure false:=by rfl)(hw:swappedStores [tg] e X.env=pure none:=by rfl)
  (h1:(assignEach [tg] X.env).map (·.2)=[assign tg X.env]:=by rfl):YS X G ob own own fr (.Assign [tg] e pos) (U3 τ (fun ρ=>f (Yg own ρ))):=by
 obtain⟨t,p,q⟩:=he;obtain⟨g,pg,qg⟩:=hg;have hy:WI G r1 t f:=q;refine⟨_,Bx p pg hs hw h1,λkn jT H0 σ H ρ s out s' E ⟨Hf,j⟩ st e po=>?_⟩;obtain⟨d,s1,a1,a2⟩:=Zy e;refine hy.a kn jT H0 σ Hf H ρ s d s1 _ j st a1 λv Hf' H' j' e1 e2 st' r fz=>?_
 cases eq:τ d ρ with
 | none=>rw[eq]at a2;cases a2
 | some ρ'=>
  rw[eq]at a2;obtain⟨rfl,rfl⟩:=ZM a2;exact qg v σ Hf' H' d ρ ρ' _ j'.gr.fh r eq fun σ' hs'=>po σ' H' ⟨Hf',hs'.jf j'⟩ st'
theorem Zea {ob:List Nat}{fr:Bool}{pos:Pos}(he:PD X G r1 e f)(hg:VL X G tg (λi=>i∉([]:List Nat)) τ)(hs:swapsWithSole [tg] e pos.line X.env=pure false:=by rfl)(hw:swappedStores [tg] e X.env=pure none:=by rfl)
  (h1:(assignEach [tg] X.env).map (·.2)=[assign tg X.env]:=by rfl):YS X G ob [] [] fr (.Assign [tg] e pos) (U3 τ f):=by
 have h:=Zn8 (ob:=ob) (fr:=fr) he hg hs hw h1;have e:(fun ρ=>f (Yg [] ρ))=f:=by funext ρ;rw[Zb1]
 simp_all
end
open PySem.SeqAt
open AutoSeq1 (wpAny_loadPart')
theorem ZiG (l:Addr)(items:Array Value)(n:Nat)(dd:Option Addr)(sl:Array (Option Value))(x:Int)(u:Tok)(hc0:¬((x < -(2 ^ 63):Bool)||(x≥2 ^ 63:Bool))=true)(hc1:¬(items.isEmpty||x==1)=true)(hc2:¬((x<=0:Bool)||items.isEmpty)=true)
  (hc3:¬((items.size:Int)*x > (2 ^ 63-1) / 8)) (hc4:¬qa6 ((items.size:Int)*x)=true) (hsz:(qaJ (λx1 x2=>x1++x2) #[] (qf x.toNat items)).size<=xg) :
  Meets (Builtin.«tuple.__mul__» ⟨[.ref l,.int x u],[]⟩) (λ_ R s=>s.heap.get? l=some { cls:=.type "tuple",dict:=dd,data:=.seq items n,slots:=sl }/\R (.ok (.ret (qw s.heap.objs.size))) { s with heap:=s.heap.push { cls:=qbh "tuple",data:=Data.seq (qaJ (λx1 x2=>x1++x2) #[] (qf x.toNat items)) },toks:=s.toks }):=
 .of_wp λprog w A R s h=>by
  obtain⟨hp,g,d,tk,os⟩:=s;obtain⟨hl,h⟩:=h;have f1:=qbu;have f2:=yo;have f3:=qax;have f4:=qan;have f5:=qao;wp_walk using wpAny_loadPart' hl;rw[if_neg hc0];wp_walk using wpAny_loadPart' hl;rw[if_neg hc3];wp_walk using wpAny_loadPart' hl
  try (refine wpAny_ite_false (decide_eq_false (Nat.not_lt.mpr hsz)) ?_;wp_walk)
  exact⟨_,rfl,h⟩
theorem Zaf:fillsNumberSlot (.type "tuple") "mul" = pure false:=
 PySem.fillsNumberSlot_seq yH.lookup (by rfl) PySem.F.slot_tuple_rmul.lookup (by rfl)
theorem ZaU:seqRepeat? (.type "tuple")=pure (some (.builtin "tuple.__mul__")):=by
 rfl
theorem Zay (a:Int)(t:Tok)(l:Addr)(items:Array Value)(n:Nat)(dd:Option Addr)(sl:Array (Option Value)) :
  Meets (Builtin.«int.__rmul__» ⟨[.int a t,.ref l],[]⟩) (λ_ R s=>s.heap.get? l=some { cls:=.type "tuple",dict:=dd,data:=.seq items n,slots:=sl }/\R (.ok (.ret qb5)) s):=
 .of_wp λprog w A R s h=>by obtain⟨hl,h⟩:=h;wp_walk;exact⟨_,rfl,h⟩
section
variable {X:Cx}{G:Gh}
noncomputable def ZqW (K:qd):R2:=λx y H Q=>∃l k xs,x=.ref l/\y=.int k/\Z0 K H l xs/\xs≠[]/\2<=k/\k<2 ^ 62/\xs.length*k.toNat<=xg/\
 ∀p,H p=none->Q (.ref p) (Zs H p (.tup (qf k.toNat xs).flatten))
theorem Zn9:Yo X (binaryOp .Mult) (ZqW X.K):=by
 intro jN s σ H x y v u Q I rx ry h;obtain⟨l,k,xs,rfl,rfl,hH,hne,h1,h2,hz,q⟩:=h
 cases rx
 obtain⟨t,rfl⟩:=ry;obtain⟨jR,r,p1,_⟩:=I.tuple hH;obtain⟨⟨cls,dd,data,sl⟩,ho,hc,n,hd⟩:=id p1;simp only at hc hd;subst hc hd;have hl:=r.length;have hsz:jR.toArray.size=xs.length:=by rw[ze];exact hl.symm
 have hne':jR≠[]:=λz=>hne (r.nil_iff.mp z);have hemp:jR.toArray.isEmpty=false:=by cases jR with | nil=>exact absurd rfl hne' | cons a b=>rfl
 have e0:((k.toNat:Nat):Int)=k:=by omega
 have hcap:((jR.toArray.size:Int)*k)=((xs.length*k.toNat:Nat):Int):=by rw[hsz,Int.natCast_mul,e0]
 have sl2:(xg:Nat)=16777216:=sizeLine_eq;have hnew:qaJ (λx1 x2=>x1++x2) #[] (qf k.toNat jR.toArray)=(qf k.toNat jR).flatten.toArray:=by
  have:=ZcF jR k.toNat [];rw[List.nil_append]at this;exact this
 have hfl:(qf k.toNat jR).flatten.length<=xg:=by rw[ZfW,qbn,<-hl];exact hz
 refine wpAny_binaryOp_repeat_ref (T:="tuple") (U:="int") (by decide) ⟨_,ho,rfl⟩ (λs'=>typeIs_int s' k t) Zaf qaK zT ZaU qaD.lookup
  (call_meets zT (typeIs_int s k t) qaE (qar _ _) (Zay k t l jR.toArray n dd sl)
   ⟨ho,rfl,⟨_,ho,rfl⟩,call_meets yH ⟨_,ho,rfl⟩ qap (qah _ _) (ZiG l jR.toArray n dd sl k t ?_ ?_ ?_ ?_ ?_ ?_) ⟨ho,?_⟩⟩)
 ·simp;omega
 ·rw[hemp];simp;omega
 ·rw[hemp];simp;omega
 ·rw[hcap];omega
 ·unfold qa6
  grind
 ·rw[hnew];exact hfl
 ·rw[hnew]
  exact⟨.ref s.heap.objs.size,_,I.laid (o:=.tup (qf k.toNat xs).flatten) (λb ob q=>qj _ q) (qk _) ⟨by rw[ZfW,qbn];exact hz,_,r.rep k.toNat,qaF _ _⟩,rfl,q _ (I.hok.fresh (qk _))⟩
theorem Zj.rep (r:Zj G Hf ds vs):∀k:Nat,Zj G Hf (qf k ds).flatten (qf k vs).flatten
 | 0=>Zj.nil_iff.mpr rfl
 | k+1=>by
  exact r.append (Zj.rep r k)
noncomputable def W2:D->D->Option D
 | .int i,.int j=>if JL i j=true then some (.int (i*j))else none
 | .tup ds,.int k=>if ds≠[]/\2<=k/\k<2 ^ 62/\ds.length*k.toNat<=xg then some (.tup (qf k.toNat ds).flatten)else none
 | .lst ds,.int k=>if -(2 ^ 63)<=k/\k<2 ^ 63/\ds.length*k.toNat<=xg then some (.lst (qf k.toNat ds).flatten)else none
 | _,_=>none
theorem Zb8:Y4 X G (binaryOp .Mult) W2:=by
 obtain⟨r0,po,qo⟩:=UJ (X:=X) (G:=G);refine⟨_,po.or (Zn9.or ZpM),λHf H s x y d e c Q e1 st rx ry q k=>?_⟩
 match d,e,q,rx,ry with
 | .int i,.int j,q,rx,ry=>exact .inl (qo Hf H s x y _ _ c Q e1 st rx ry q k)
 | .tup ds,.int j,q,rx,ry=>
  have q:(if ds≠[]/\2<=j/\j<2 ^ 62/\ds.length*j.toNat<=xg then some (D.tup (qf j.toNat ds).flatten)else none)=some c:=q;split at q
  ·rename_i hz
   cases q
   obtain⟨p,vs,rfl,np,hp,rp⟩:=jc.mp rx;refine .inr (.inl ⟨p,j,vs,rfl,ja.mp ry,Z0.of (e1 _ _ np hp),λz=>hz.1 (yB.mp (by rw[rp.length,z];rfl)),hz.2.1,hz.2.2.1,by rw[<-rp.length];exact hz.2.2.2,λl hl=>?_⟩);have nf:=Gh.nofp st hl;have g2:=Gr.new (o:=.tup (qf j.toNat vs).flatten) e1 hl nf;exact k (.ref l) _ _ g2 (Gh.grow st hl) (jc.mpr ⟨l,_,rfl,nf,Z1,(rp.rep _).ext g2.ff⟩) (.scal λz=>z)
  ·cases q
 | .lst ds,.int j,q,rx,ry=>
  have q:(if -(2 ^ 63)<=j/\j<2 ^ 63/\ds.length*j.toNat<=xg then some (D.lst (qf j.toNat ds).flatten)else none)=some c:=q;split at q
  ·rename_i hz
   cases q
   obtain⟨p,vs,rfl,np,hp,rp⟩:=jb.mp rx;refine .inr (.inr ⟨p,j,vs,rfl,ja.mp ry,e1 _ _ np hp,hz.1,hz.2.1,by rw[<-rp.length];exact hz.2.2,λl hl=>?_⟩);have nf:=Gh.nofp st hl;have g2:=Gr.new (o:=.lst (qf j.toNat vs).flatten) e1 hl nf;exact k (.ref l) _ _ g2 (Gh.grow st hl) (jb.mpr ⟨l,_,rfl,nf,Z1,(rp.rep _).ext g2.ff⟩) (YJ.mk e1 hl nf (rp.rep _))
  ·cases q
end
end TF
namespace TF
open L2
section
variable {X:Cx}{G:Gh}
theorem Ug:PD X G true (.UnaryOp .USub (.Constant (.int i) j p) pos) (dC (.int (-i))):=by
 refine⟨_,ZoV Zlk Xa,fun σ Hf H ρ s d s' Q e1 e2 e3 e4 k=>?_⟩;obtain⟨rfl,rfl⟩:=ZM e4;exact⟨i,rfl,k _ Hf H (.refl e1) e3 (ja.mpr rfl) λ_=>.scal λz=>z⟩
end
mutual
noncomputable def Z8:D->Bool
 | .non=>true
 | .bl _=>true
 | .int i=>decide (i.natAbs<10 ^ 70)
 | .str x=>x.cps.toList.all λc=>decide (c<16 ^ 8)
 | .tup ds=>X8 ds
 | .lst ds=>X8 ds
 | _=>false
noncomputable def X8:List D->Bool
 | []=>true
 | d::ds=>Z8 d&&X8 ds
end
mutual
noncomputable def Xf:D->Nat
 | .str x=>x.length
 | .tup ds=>WX ds
 | .lst ds=>WX ds
 | _=>0
noncomputable def WX:List D->Nat
 | []=>0
 | d::ds=>Xf d+1+WX ds
end
theorem Zl1 (h:n<10 ^ 70):n.log2<1920:=by
 by_cases h0:n=0
 ·simp_all
 ·exact(Nat.log2_lt h0).mpr (qaM h (by decide +kernel))
theorem ZeZ (h:i.natAbs<10 ^ 70):(PyData.shown (.int i)).length<=80:=by
 have e:=PySem.int_text_length_le10 (by decide) h;show(qN (toString i)).length<=80;rw[PySem.ofString_length];omega
mutual
theorem ZiH:∀d:D,Z8 d=true->Zr d=true/\(YD d).showable=true/\(YD d).leavesShort 80=true/\(YD d).bulk=Xf d/\(YD d).depth=ZW d
 | .non,_=>by simp[Zr,YD,yb,z8,qay,Xf,qai,ZW]
 | .bl _,_=>by simp[Zr,YD,yb,z8,qay,Xf,qai,ZW]
 | .int i,h=>by
  have h:i.natAbs<10 ^ 70:=by simpa only[Z8,decide_eq_true_eq]using h
  have h1:=Zl1 h;have h2:=ZeZ h;simp only[Zr,YD,yb,z8,qay,Xf,qai,ZW,decide_eq_true_eq];exact⟨trivial,h1,h2,trivial,trivial⟩
 | .str x,h=>by
  have h:(x.cps.toList.all λc=>decide (c<16 ^ 8))=true:=by simpa only[Z8]using h
  simp only[Zr,YD,yb,z8,qay,Xf,qai,ZW];exact⟨trivial,trivial,h,rfl,trivial⟩
 | .tup ds,h=>by
  obtain⟨a,b,c,e,f⟩:=Zf5 ds (by simpa only[Z8]using h);simp only[Zr,YD,yb,z8,qay,Xf,qai,ZW];exact⟨a,b,c,e,by rw[f]⟩
 | .lst ds,h=>by
  obtain⟨a,b,c,e,f⟩:=Zf5 ds (by simpa only[Z8]using h);simp only[Zr,YD,yb,z8,qay,Xf,qai,ZW];exact⟨a,b,c,e,by rw[f]⟩
 | .dk _,h=>by simp[Z8]at h
 | .dt _,h=>by simp[Z8]at h
 | .du _,h=>by simp[Z8]at h
 | .df _,h=>by simp[Z8]at h
 | .pen,h=>by simp[Z8]at h
 | .ty _,h=>by simp[Z8]at h
 | .clo _ _,h=>by simp[Z8]at h
theorem Zf5:∀ds:List D,X8 ds=true->YT ds=true/\qaY (W1 ds)=true/\qaH 80 (W1 ds)=true/\qbX (W1 ds)=WX ds/\qbM (W1 ds)=Y6 ds
 | [],_=>by simp[YT,W1,qaY,qaH,qbX,WX,qbM,Y6]
 | d::ds,h=>by
  have h:Z8 d=true/\X8 ds=true:=by simpa only[X8,zc]using h
  obtain⟨a,b,c,e,f⟩:=ZiH d h.1;obtain⟨a',b',c',e',f'⟩:=Zf5 ds h.2;simp only[YT,W1,qaY,qaH,qbX,WX,qbM,Y6,a,a',b,b',c,c',e,e',f,f',yS,and_self]
end
theorem ZiI (h:Z8 d=true)(h1:ZW d<=40)(h2:Xf d<=100000):JE d=true:=by
 obtain⟨a,b,c,e,f⟩:=ZiH d h;have l:=PyData.shown_le_bulk 80 (by decide) (YD d) c;have l2:(YD d).shown.length<=xg:=by
  rw[sizeLine_eq];omega
 unfold JE;simp_all
theorem Zl2 (h:Z8 d=true)(h1:ZW d<=40)(h2:Xf d<=100000):Zjv [d]=some (.str (YD d).shown):=by
 show(if JE d=true then _ else _)=_;rw[if_pos (ZiI h h1 h2)]
theorem Zf6:∀(l:List D),(∀d∈l,Z8 d=true)->X8 l=true
 | [],_=>by simp[X8]
 | d::l,h=>by simp[X8,h d (by simp),Zf6 l λx m=>h x (by simp[m])]
theorem ZcK:∀(l:List D),(∀d∈l,Xf d<=n)->WX l<=(n+1)*l.length
 | [],_=>by simp[WX]
 | d::l,h=>by
  have h1:=h d (by simp);have h2:=ZcK l λx m=>h x (by simp[m]);have e:(n+1)*(l.length+1)=(n+1)*l.length+(n+1):=by rfl
  simp only[WX,zb];omega
section
variable {f g:Ze->M D}{ρ:Ze}{s s1:Pn}{a b:Bool}{r:Option (D×Pn)}
theorem ZiJ (h:f ρ s=some (.bl true,s1))(h2:g ρ s1=r):Wl f g ρ s=r:=by unfold Wl Zp;simp_all
theorem ZiK (h:f ρ s=some (.bl false,s1)):Wl f g ρ s=some (.bl false,s1):=by unfold Wl Zp;rw[h];rfl
theorem Jv (h:f ρ s=some (.bl a,s))(h2:a=true->g ρ s=some (.bl b,s)):Wl f g ρ s=some (.bl (a&&b),s):=by
 cases a with
 | false=>exact ZiK h
 | true=>exact ZiJ h (h2 rfl)
theorem Zf7 (h:f ρ s=some (.bl a,s1)):JS f ρ s=some (.bl (!a),s1):=by unfold JS Zp;rw[h];rfl
end
section
variable {f g:Ze->M Bool}{ρ:Ze}{s s1:Pn}{a b:Bool}{r:Option (Bool×Pn)}
theorem ZpZ (h:f ρ s=some (false,s1)):W6 f g ρ s=some (false,s1):=by unfold W6 Zp;rw[h];rfl
theorem Zp0 (h:f ρ s=some (true,s1))(h2:g ρ s1=r):W6 f g ρ s=r:=by unfold W6 Zp;rw[h];exact h2
theorem BM (h:f ρ s=some (true,s1)):Wa f g ρ s=some (true,s1):=by unfold Wa Zp;rw[h];rfl
theorem JN (h:f ρ s=some (false,s1))(h2:g ρ s1=r):Wa f g ρ s=r:=by unfold Wa Zp;rw[h];exact h2
theorem Zeb (h:f ρ s=some (a,s))(h2:a=false->g ρ s=some (b,s)):Wa f g ρ s=some (a||b,s):=by
 cases a with
 | true=>exact BM h
 | false=>exact JN h (h2 rfl)
theorem ZjB (h:f ρ s=some (a,s))(h2:a=true->g ρ s=some (b,s)):W6 f g ρ s=some (a&&b,s):=by
 cases a with
 | false=>exact ZpZ h
 | true=>exact Zp0 h (h2 rfl)
end
section
variable {c:Ze->M Bool}{g1 g2:Ze->M Out}{ρ:Ze}{s s1:Pn}{r:Option (Out×Pn)}
theorem WE (h:c ρ s=some (true,s1))(h2:g1 ρ s1=r):Yx c g1 g2 ρ s=r:=by unfold Yx Zp;rw[h];exact h2
theorem W3 (h:c ρ s=some (false,s1))(h2:g2 ρ s1=r):Yx c g1 g2 ρ s=r:=by unfold Yx Zp;rw[h];exact h2
end
section
variable {fa fb:Ze->M D}{f:D->Ze->M Bool}{g:D->D->Option D}{ρ:Ze}{s s1 s2:Pn}{d e:D}{k:Bool}{r:Option (Bool×Pn)}
end
theorem V2 (a b:Int):YF (.int a) (.int b)=some (.bl (a==b)):=by
 rfl
theorem nei (a b:Int):WF (.int a) (.int b)=some (.bl (!(a==b))):=by
 rfl
theorem Bb (h:τ d ρ=some ρ1)(hb:body ρ1 s=some (.nx ρ2,s1))(h2:Wu τ body ds ρ2 s1=r):Wu τ body (d::ds) ρ s=r:=by
 unfold Wu Zp YO;simp_all
theorem ZaV (h:τ d ρ=some ρ1)(hb:body ρ1 s=some (.rt e,s1)):Wu τ body (d::ds) ρ s=some (.rt e,s1):=by
 unfold Wu Zp YO;simp only[h,hb];rfl
theorem Zl3:Wu τ body [] ρ s=some (.nx ρ,s):=rfl
theorem V9 (h:fi ρ s=some (ds,s1))(h2:Wu τ body ds ρ s1=r):Xc fi τ body ρ s=r:=by
 unfold Xc Zp;simp_all
theorem VA (h:f ρ s=some (.tup ds,s1)):Xl f ρ s=some (ds,s1):=by unfold Xl Zp;rw[h];rfl
theorem Ua (h:f ρ s=some (.lst ds,s1)):Xv f ρ s=some (ds,s1):=by unfold Xv Zp;rw[h];rfl
end TF
namespace TP
open L2 TF
noncomputable def JO:D->Bool
 | .non=>true | .bl _=>true | .int _=>true | .str _=>true | .tup _=>true | .lst _=>true | _=>false
theorem UD (h:Z8 d=true):JO d=true:=by
 cases d <;> first | rfl | (simp[Z8]at h)
noncomputable def U4:D->Bool | .tup _=>true | _=>false
noncomputable def intB:D->Bool | .int _=>true | .bl _=>true | _=>false
noncomputable def Zo3:D->Bool | .bl _=>true | _=>false
noncomputable def Zhg:D->Bool | .tup [_,_]=>true | _=>false
noncomputable def XO:D->Bool | .int _=>true | _=>false
theorem Zbs (h:JO d=true):X7 [d,.ty "tuple"]=some (.bl (U4 d)):=by
 cases d <;> first | rfl | cases h
theorem ZjC (h:JO d=true):X7 [d,.ty "int"]=some (.bl (intB d)):=by
 cases d <;> first | rfl | cases h
theorem Zhh (h:JO d=true):X7 [d,.ty "bool"]=some (.bl (Zo3 d)):=by
 cases d <;> first | rfl | cases h
theorem ZaG (h:JO d=true)(s:Pn):Jl [d] s=some (.bl (XO d),s):=by
 refine Yr rfl (ZX (YW ?_));have e:XO d=((intB d) && !(Zo3 d)):=by cases d <;> rfl
 rw[e];exact Jv (Yv (Zg rfl (Zg rfl rfl)) (ZjC h)) λ_=>Zf7 (Yv (Zg rfl (Zg rfl rfl)) (Zhh h))
theorem Zb9 (h:JO d=true)(s:Pn):Vv [d,.int 2] s=some (.bl (Zhg d),s):=by
 refine Yr rfl (ZX (YW ?_));have hw:ZO X7 (Zb (Za 0) (Zb (dC (.ty "tuple")) Zf)) [some d,some (D.int 2)] s=_:=Yv (Zg rfl (Zg rfl rfl)) (Zbs h)
 cases d with
 | tup ds=>
  match ds with
  | []=>rfl
  | [_]=>rfl
  | [_,_]=>rfl
  | _::_::_::r=>
   rfl
 | pen=>cases h
 | ty _=>cases h
 | clo _ _=>cases h
 | dk _=>cases h
 | dt _=>cases h
 | _=>exact ZiK hw
theorem V7 {α:Type}(l:List α):l.filter (λ_=>true)=l:=yy.mpr (by simp)
end TP
namespace TF
open L2
section
variable {f:Ze->M D}{fs:Ze->M (List D)}{ρ:Ze}{s:Pn}
theorem Ok.tup (h:Ok (fs ρ) s λds s1=>ds.length<=xg/\Q (.tup ds) s1):Ok (ZB fs ρ) s Q:=.bind (h.mono λ_ _ q=>.ite q.1 (.ret q.2))
theorem Ok.call (h:Ok (fs ρ) s λds s1=>∃c,g ds=some c/\Q c s1):Ok (ZO g fs ρ) s Q:=.bind (h.mono λ_ _ q=>let ⟨c,e,q⟩:=q;.of e q)
theorem Ok.fn' (h:Ok (fs ρ) s λds s1=>Ok (F ds) s1 Q):Ok (Zx F fs ρ) s Q:=.bind h
theorem Ok.sunp (h:Ok (f ρ) s λd s1=>∃ρ',τ d ρ=some ρ'/\Q (.nx ρ') s1):Ok (U3 τ f ρ) s Q:=
 .bind (h.mono λd s1 q=>by obtain⟨ρ',e,q⟩:=q;rw[e];exact .ret q)
end
theorem ZjD (h1:f ρ s=some (x,s)):ZB (Zb f Zf) ρ s=some (.tup [x],s):=Xe (Zg h1 rfl) (by show 1<=xg;decide)
theorem Zoa (h1:f ρ s=some (x,s))(h2:g ρ s=some (y,s)):ZB (Zb f (Zb g Zf)) ρ s=some (.tup [x,y],s):=Xe (Zg h1 (Zg h2 rfl)) TP.two_le
theorem ZjE (h1:f ρ s=some (x,s)):Yz (Zb f Zf) ρ s=some (.lst [x],s):=WM (Zg h1 rfl) (by show 1<=xg;decide)
theorem Zec (h:f ρ s=some (.tup ds,s))(hl:fl ρ s=some (ll,s))(hh:fh ρ s=some (hi,s)):BD f fl fh ρ s=some (.tup (Xh ds ll hi),s):=by
 unfold BD Zp;simp only[h,hl,hh];rfl
theorem Zf8 (h:d∈Xh ds ll hi):d∈ds:=List.mem_of_mem_drop (List.mem_of_mem_take h)
theorem Zf9 (ds:List D)(lo hi:Option Int):(Xh ds lo hi).length<=ds.length:=by
 unfold Xh;rw[yn,qaC];omega
noncomputable def Tk (k m:Nat)(d:D):Prop:=Z8 d=true/\ZW d<=k/\Xf d<=m
theorem Tk.mono (h:Tk k m d)(h1:k<=k')(h2:m<=m'):Tk k' m' d:=⟨h.1,qp h.2.1 h1,qp h.2.2 h2⟩
theorem Tk.bl (b:Bool):Tk 0 0 (.bl b):=⟨by simp[Z8],by simp[ZW],by simp[Xf]⟩
theorem Tk.non:Tk 0 0 .non:=⟨by simp[Z8],by simp[ZW],by simp[Xf]⟩
theorem Tk.tup (h:∀d∈ds,Tk k m d):Tk (k+1) ((m+1)*ds.length) (.tup ds):=by
 refine⟨?_,?_,?_⟩
 ·exact Zf6 ds λd hd=>(h d hd).1
 ·have:=Zdu ds λd hd=>(h d hd).2.1
  simp only[ZW];omega
 ·exact ZcK ds λd hd=>(h d hd).2.2
theorem Tk.lst (h:∀d∈ds,Tk k m d):Tk (k+1) ((m+1)*ds.length) (.lst ds):=by
 refine⟨?_,?_,?_⟩
 ·exact Zf6 ds λd hd=>(h d hd).1
 ·have:=Zdu ds λd hd=>(h d hd).2.1
  simp only[ZW];omega
 ·exact ZcK ds λd hd=>(h d hd).2.2
theorem jK (k m:Nat):Tk (k+1) m (.tup []):=(Tk.tup (m:=0) (by simp)).mono (qk _) (by simp)
theorem Tk.l0 (k m:Nat):Tk (k+1) m (.lst []):=(Tk.lst (m:=0) (by simp)).mono (qk _) (by simp)
theorem jL (hx:Tk k m x):Tk (k+1) (m+1) (.tup [x]):=by
 refine⟨?_,?_,?_⟩
 ·simp only[Z8,X8,hx.1,yS]
 ·have:=hx.2.1;simp only[ZW,Y6];omega
 ·have:=hx.2.2;simp only[Xf,WX];omega
theorem jM (hx:Tk k m x)(hy:Tk k m' y):Tk (k+1) (m+m'+2) (.tup [x,y]):=by
 refine⟨?_,?_,?_⟩
 ·simp only[Z8,X8,hx.1,hy.1,yS]
 ·have:=hx.2.1;have:=hy.2.1;simp only[ZW,Y6];omega
 ·have:=hx.2.2;have:=hy.2.2;simp only[Xf,WX];omega
theorem Tk.l2 (hx:Tk k m x)(hy:Tk k m' y):Tk (k+1) (m+m'+2) (.lst [x,y]):=by
 refine⟨?_,?_,?_⟩
 ·simp only[Z8,X8,hx.1,hy.1,yS]
 ·have:=hx.2.1;have:=hy.2.1;simp only[ZW,Y6];omega
 ·have:=hx.2.2;have:=hy.2.2;simp only[Xf,WX];omega
theorem Tk.t3 (hx:Tk k m x)(hy:Tk k m' y)(hz:Tk k m2 z):Tk (k+1) (m+m'+m2+3) (.tup [x,y,z]):=by
 refine⟨?_,?_,?_⟩
 ·simp only[Z8,X8,hx.1,hy.1,hz.1,yS]
 ·have:=hx.2.1;have:=hy.2.1;have:=hz.2.1;simp only[ZW,Y6];omega
 ·have:=hx.2.2;have:=hy.2.2;have:=hz.2.2;simp only[Xf,WX];omega
theorem Zl4 {GG:Gh->Prop}(h:∀G,GG G->X6 X G ob own own' fr sts g):XV X sts (λE σ H=>∃G,GG G/\Zg8 G ob own own' fr g E σ H):=by
 intro jN s σ H D I ⟨G,hG,kn,jT,H0,ρ,pn,out,pn',j,st,e,po⟩;obtain⟨t,p,q⟩:=h G hG;exact p jN s σ H D I (q kn jT H0 σ H ρ pn out pn' D j st e po)
theorem Zp1 {K:qd}(sq:ZV K H a xs)(hp:H p=none):ZV K (Zs H p o) a xs:=by
 have hne:∀u,H a=some u->a≠p:=λu e z=>by grind
 rcases sq with(q | ⟨o',q⟩) | q
 ·exact .inl (.inl (by rw[Zv (hne _ q)];exact q))
 ·exact .inl (.inr ⟨o',by rw[Zv (hne _ q)];exact q⟩)
 ·exact .inr q
noncomputable def XJ (L:List (Addr×Str))(b:Addr):Prop:=∃q,(b,q)∈L
noncomputable def Zo4 (G0:Gh)(L:List (Addr×Str))(P:Addr)(q:Str)(H:Hp):Prop:=∃ps,H P=some (.tbl ps)/\TriplesOk ps.toList/\∀pos cv,codeAmong pos ps.toList=some cv->∃c',cv=.ref c'/\H c'=some (.ext (codeφ c' q))/\¬G0.fp c'/\¬XJ L c'
noncomputable def JP (G0:Gh)(L:List (Addr×Str)):Gh where
 fp:=λb=>G0.fp b∨XJ L b
 rd:=λb=>G0.rd b∨XJ L b
 pen:=G0.pen
 st:=λs H=>G0.st s H/\∀P q,(P,q)∈L->Zo4 G0 L P q H
 mono:=λs H H' ⟨h1,h2⟩ k1 k2 k3=>⟨G0.mono s H H' h1 (λb o r=>k1 b o (.inl r)) k2 k3,λP q m=>by
  obtain⟨ps,e,t,h⟩:=h2 P q m;refine⟨ps,k1 P _ (.inr ⟨q,m⟩) e,t,λpos cv hc=>?_⟩;obtain⟨c',z1,z2,z3⟩:=h pos cv hc;exact⟨c',z1,k2 _ _ z2,z3⟩⟩
 sub:=λb h=>h.elim (λz=>.inl (G0.sub b z)) .inr
 dom:=λs H b ⟨h1,h2⟩ hb=>by
  rcases hb with z | ⟨q,m⟩
  ·exact G0.dom s H b h1 z
  ·obtain⟨ps,e,_⟩:=h2 b q m
   exact⟨_,e⟩
 ntp:=λs H b vs ⟨h1,h2⟩ hb=>by
  rcases hb with z | ⟨q,m⟩
  ·exact G0.ntp s H b vs h1 z
  ·obtain⟨ps,e,_⟩:=h2 b q m
   rw[e];intro z;cases z
theorem Ze0 {pos:Pos}(l:List Value)(h:TriplesOk l)(hc:codeAmong pos' (l ++ [rawInt pos.line,rawInt pos.col,c])=some cv):codeAmong pos' l=some cv∨cv=c:=by
 fun_induction TriplesOk l with
 | case1=>
  simp only[List.nil_append,rawInt,codeAmong]at hc;simp_all
 | case2 a b d e f rest ih=>
  simp only[List.cons_append,codeAmong]at hc⊢;split at hc
  ·rename_i h1;rw[if_pos h1];exact .inl hc
  ·rename_i h1;rw[if_neg h1];exact ih h hc
 | case3=>cases h
theorem Zhi {pos:Pos}(l:List Value)(h:TriplesOk l):TriplesOk (l ++ [rawInt pos.line,rawInt pos.col,c]):=by
 fun_induction TriplesOk l with
 | case1=>simp[TriplesOk,rawInt]
 | case2 a b d e f rest ih=>exact ih h
 | case3=>cases h
noncomputable def Vs (L:List (Addr×Str)):Prop:=∀P q q',(P,q)∈L->(P,q')∈L->q=q'
noncomputable def Xo (GG0:Gh->Prop)(L:List (Addr×Str))(G:Gh):Prop:=∃G0,GG0 G0/\(∀b,XJ L b->¬G0.rd b)/\G=JP G0 L
theorem Zob (lo:Vs L)(hrd:∀b,XJ L b->¬G0.rd b)(m:(P,q)∈L):TabG P q (JP G0 L):=by
 refine⟨λs H st=>?_,.inr ⟨q,m⟩,λs H ps pos c' st hP hc hn=>?_⟩
 ·obtain⟨ps,e,t,h⟩:=st.2 P q m
  refine⟨ps,e,t,λpos cv hc=>?_⟩;obtain⟨c',z1,z2,z3,z4⟩:=h pos cv hc;exact⟨c',z1,z2,λz=>z.elim z3 z4⟩
 ·have hcP:c'≠P:=λz=>by rw[z,hP]at hc;cases hc
  have notL:¬XJ L c':=λ⟨q',m'⟩=>by
   obtain⟨_,e,_⟩:=st.2 c' q' m';rw[hc]at e;cases e
  have k2:∀b φ,H b=some (.ext φ)->Zs (Zs H P (.tbl (ps ++ #[rawInt pos.line,rawInt pos.col,.ref c']))) c' (.ext (codeφ c' q)) b=some (.ext φ):=λb φ e=>by
   rw[Zv (YC e hc),Zv (λz=>by rw[z,hP]at e;cases e)];exact e
  refine⟨G0.mono s H _ st.1 (λb o r e=>?_) k2 (λb vs e=>by rw[Zv (YC e hc),Zv (λz=>by rw[z,hP]at e;cases e)];exact e),λP' q' m'=>?_⟩
  ·rw[Zv (YC e hc),Zv (λz=>hrd P ⟨q,m⟩ (by simp_all))];exact e
  ·by_cases hb:P'=P
   ·subst hb
    have:=lo P' q q' m m';subst this;obtain⟨ps',e,t,h⟩:=st.2 P' q m;rw[hP]at e;cases e;refine⟨_,by rw[Zv (qJ hcP),Z1],?_,λpos' cv hcv=>?_⟩
    ·rw[qcd];exact Zhi _ t
    ·rw[qcd]at hcv
     rcases Ze0 _ t hcv with z | z
     ·obtain⟨c2,z1,z2,z3⟩:=h pos' cv z
      exact⟨c2,z1,k2 _ _ z2,z3⟩
     ·exact⟨c',z,Z1,Gh.nofp st.1 hc,notL⟩
   ·obtain⟨ps',e,t,h⟩:=st.2 P' q' m'
    refine⟨ps',by rw[Zv (YC e hc),Zv hb];exact e,t,λpos' cv hcv=>?_⟩;obtain⟨c2,z1,z2,z3⟩:=h pos' cv hcv;exact⟨c2,z1,k2 _ _ z2,z3⟩
noncomputable def Wh (L:List (Addr×Str))(G:Gh):Prop:=∀P q,(P,q)∈L->TabG P q G
theorem jw (lo:Vs L)(h:Xo GG0 L G):Wh L G:=by
 obtain⟨G0,_,hrd,rfl⟩:=h;exact λP q m=>Zob lo hrd m
mutual
theorem Zo.tr {G G':Gh}{H H':Hp}(h:∀a o,¬G.fp a->H a=some o->(∀ps,o≠.tbl ps)->¬G'.fp a/\H' a=some o)(hp:G'.pen=G.pen):∀{d:D} {v:V},Z2 d=true->Zo G H d v->Zo G' H' d v
 | .non,_,_,r=>jg.mpr (jg.mp r)
 | .bl _,_,_,r=>je.mpr (je.mp r)
 | .int _,_,_,r=>ja.mpr (ja.mp r)
 | .str _,_,_,r=>jh.mpr (jh.mp r)
 | .tup ds,v,n,r=>by
  obtain⟨a,vs,e1,nf,e2,r⟩:=jc.mp r;obtain⟨z1,z2⟩:=h a _ nf e2 (λ_ z=>by cases z);exact jc.mpr ⟨a,vs,e1,z1,z2,Zj.tr h hp (by simpa[Z2]using n) r⟩
 | .lst ds,v,n,r=>by
  obtain⟨a,vs,e1,nf,e2,r⟩:=jb.mp r;obtain⟨z1,z2⟩:=h a _ nf e2 (λ_ z=>by cases z);exact jb.mpr ⟨a,vs,e1,z1,z2,Zj.tr h hp (by simpa[Z2]using n) r⟩
 | .dk _,_,_,r=>by
  obtain⟨a,e1,nf,e2⟩:=jk.mp r;obtain⟨z1,z2⟩:=h a _ nf e2 (λ_ z=>by cases z);exact jk.mpr ⟨a,e1,z1,z2⟩
 | .dt _,_,_,r=>by
  obtain⟨a,o,e1,nf,e2⟩:=jl.mp r;obtain⟨z1,z2⟩:=h a _ nf e2 (λ_ z=>by cases z);exact jl.mpr ⟨a,o,e1,z1,z2⟩
 | .du _,_,_,r=>by
  obtain⟨a,e1,nf,e2⟩:=jm.mp r;obtain⟨z1,z2⟩:=h a _ nf e2 (λ_ z=>by cases z);exact jm.mpr ⟨a,e1,z1,z2⟩
 | .df _,_,_,r=>by
  obtain⟨a,o,e1,nf,e2⟩:=js.mp r;obtain⟨z1,z2⟩:=h a _ nf e2 (λ_ z=>by cases z);exact js.mpr ⟨a,o,e1,z1,z2⟩
 | .pen,_,_,r=>jq.mpr ((jq.mp r).trans hp.symm)
 | .ty _,_,_,r=>jr.mpr (jr.mp r)
 | .clo _ _,_,n,_=>by simp[Z2]at n
theorem Zj.tr {G G':Gh}{H H':Hp}(h:∀a o,¬G.fp a->H a=some o->(∀ps,o≠.tbl ps)->¬G'.fp a/\H' a=some o)(hp:G'.pen=G.pen):∀{ds:List D} {vs:List V},Yl ds=true->Zj G H ds vs->Zj G' H' ds vs
 | [],_,_,r=>Zj.nil_iff.mpr (Zj.nil_iff.mp r)
 | d::ds,vs,n,r=>by
  obtain⟨v,rr,e,h1,h2⟩:=jd.mp r;have n':Z2 d=true/\Yl ds=true:=by simpa[Yl]using n
  exact jd.mpr ⟨v,rr,e,Zo.tr h hp n'.1 h1,Zj.tr h hp n'.2 h2⟩
end
open Classical in
noncomputable def Uu (L:List (Addr×Str))(H H2:Hp):Hp:=λb=>if XJ L b then H2 b else H b
theorem Zoc (h:XJ L b):Uu L H H2 b=H2 b:=by unfold Uu;simp_all
theorem Ve (h:¬XJ L b):Uu L H H2 b=H b:=by unfold Uu;simp_all
theorem Zod {K:qd}(FN:FnOk P w K mg base ZP k f fd ps (Yf n fr GG0 F))
  (hF:∀ds s d s',F ds s=some (d,s')->Yl ds=true/\Z2 d=true):FnOk P w K mg base ZP k f fd ps (Yf n fr (Xo GG0 L) F):=by
 refine FN.imp λvs H Q E h=>?_;obtain⟨G,Hf,ds,s,d,s',⟨G0,hG0,hrd,rfl⟩,hl,e1,r,st,eF,k⟩:=h;obtain⟨n1,n2⟩:=hF _ _ _ _ eF;have nfp:∀b,XJ L b->¬G0.fp b:=λb m z=>hrd b m (G0.sub b z);have e1':ZC G0 (Uu L Hf λ_=>none) H:=λb o nb q=>by
  by_cases m:XJ L b
  ·rw[Zoc m]at q;cases q
  ·rw[Ve m]at q;exact e1 b o (λz=>z.elim nb m) q
 refine⟨G0,Uu L Hf λ_=>none,ds,s,d,s',hG0,hl,e1',Zj.tr (G:=JP G0 L) (G':=G0) (λa o na q _=>?_) rfl n1 r,st.1,eF,λv Hf' H' g st' r' fz=>?_⟩
 ·have m:¬XJ L a:=λz=>na (.inr z)
  exact⟨λz=>na (.inl z),by rw[Ve m];exact q⟩
 ·have tab:∀b,XJ L b->∃ps,H' b=some (.tbl ps):=λb ⟨q,m⟩=>by
   obtain⟨ps,e,_⟩:=st.2 b q m;exact⟨ps,g.hh b _ (nfp b ⟨q,m⟩) e⟩
  have out:∀a o,¬G0.fp a->Hf' a=some o->(∀ps,o≠.tbl ps)->¬XJ L a:=λa o na q no m=>by
   obtain⟨ps,e⟩:=tab a m;rw[g.fh a o na q]at e;exact no ps (zS e)
  have tr:∀a o,¬G0.fp a->Hf' a=some o->(∀ps,o≠.tbl ps)->¬(JP G0 L).fp a/\Uu L Hf' Hf a=some o:=λa o na q no=>by
   have m:=out a o na q no;exact⟨λz=>z.elim na m,by rw[Ve m];exact q⟩
  refine k v (Uu L Hf' Hf) H' ⟨λb o nb q=>g.hh b o (λz=>nb (.inl z)) q,λb o nb q=>?_,λb o nb q=>?_,λb nb q1 q2=>?_⟩ ⟨st',λP q m=>?_⟩ (Zo.tr (G:=G0) (G':=JP G0 L) tr rfl n2 r') λz a ea mu=>?_
  ·have m:¬XJ L b:=λz=>nb (.inr z)
   rw[Ve m];exact g.ff b o (λz=>nb (.inl z)) (by rw[Ve m];exact q)
  ·have m:¬XJ L b:=λz=>nb (.inr z)
   rw[Ve m]at q;exact g.fh b o (λz=>nb (.inl z)) q
  ·have m:¬XJ L b:=λz=>nb (.inr z)
   rw[Ve m];exact g.nw b (λz=>nb (.inl z)) (by rw[Ve m];exact q1) q2
  ·obtain⟨ps,e,t,h⟩:=st.2 P q m
   refine⟨ps,g.hh P _ (nfp P ⟨q,m⟩) e,t,λpos cv hc=>?_⟩;obtain⟨c',z1,z2,z3,z4⟩:=h pos cv hc;exact⟨c',z1,g.hh c' _ z3 z2,z3,z4⟩
  ·obtain⟨h1,h2⟩:=fz z a ea mu
   refine⟨h1,λxs ed=>?_⟩;obtain⟨us,Hm,q1,q2,q3,q4⟩:=h2 xs ed;have na:¬XJ L a:=λm=>by
    obtain⟨q,m⟩:=m;obtain⟨ps,e,_⟩:=st.2 a q m;rw[h1]at e;cases e
   refine⟨us,Uu L Hm λ_=>none,by rw[Ve na];exact q1,by rw[Ve na];exact q2,λb o nb q=>?_,?_⟩
   ·have m:=λz=>nb (.inr z)
    rw[Ve m]at q⊢;exact q3 b o (λz=>nb (.inl z)) q
   ·subst ed
    refine Zj.tr (G:=G0) (G':=JP G0 L) (λb o nb q no=>?_) rfl (by simpa[Z2]using n2) q4;have m:=out b o nb (q3 b o nb q) no;exact⟨λz=>z.elim nb m,by rw[Ve m];exact q⟩
theorem Zl5 {K:qd}(c:Z3 P w K mg base k x n fr GG0 F)(hF:∀ds s d s',F ds s=some (d,s')->Yl ds=true/\Z2 d=true):Z3 P w K mg base k x n fr (Xo GG0 L) F:=
 let ⟨f,fd,ps,a,b,c,d⟩:=c
 ⟨f,fd,ps,Zod a hF,b,c,d⟩
theorem Zl6 {ps:List Str}(hpl:ps.length<=N.length)(q:Dos G [] [] own fr t g)(e1:ZC G Hf H)(r:Zj G Hf ds vs)(st':G.st pn H)(eF:runB N.length ps.length g ds pn=some (d,pn'))
  (k':∀v Hf' H',Gr G Hf H Hf' H'->G.st pn' H'->Zo G Hf' d v->(fr=true->YJ G H Hf' d v)->Q v H'):t { nx:=λ_ H'=>Q .non H',rt:=Q } (L2.start N vs) H:=by
 obtain⟨hl,a0⟩:=XC eF;obtain⟨o,s1,a1,a2⟩:=Zy a0;have j0:Jf G [] Hf Hf H (L2.start N vs) Hf H (ds.map some++qf (N.length-ps.length) none):=by
  refine⟨?_,.refl _ _,.refl e1,λi d n e=>?_,λi d m e=>absurd m (by simp),λi j a di dj mi mj n e=>absurd mi (by simp)⟩
  ·have:=r.length
   unfold L2.start;simp;omega
  ·have hi:i<ds.length:=by
    by_cases hi:i<ds.length
    ·exact hi
    ·rw[zM (by simpa using hi),zW]at e
     split at e <;> cases e
   have e':ds[i]?=some d:=by
    rw[zh (by simpa using hi),qI]at e
    cases q:ds[i]? with
    | none=>rw[q]at e;cases e
    | some c=>rw[q]at e;simp at e;rw[e]
   obtain⟨v,h1,h2⟩:=r.get e';refine⟨v,?_,h2⟩;unfold L2.start;rw[zh (by simp;rw[<-r.length];exact hi),qI,h1];rfl
 refine q Hf Hf H (L2.start N vs) H _ pn o s1 _ ⟨Hf,j0⟩ st' a1 ?_
 cases o with
 | rt c=>
  obtain⟨rfl,rfl⟩:=ZM a2;exact λv Hf' H' g' j8 r2 fz=>k' v Hf' H' g' j8 r2 fz
 | nx ρ'=>
  obtain⟨rfl,rfl⟩:=ZM a2;exact fun σ' H' ⟨Hf',j'⟩ j8=>k' .non Hf' H' j'.gr j8 (jg.mpr rfl) λ_=>.scal λz=>z
 | bk ρ'=>cases a2
 | ct ρ'=>cases a2
theorem fnDC {K:qd}{st:Stmt}
  (F:Fun K x qual st f fd) (S:FnScope N ps (Zz st))
  (hb:∀(A:xE) (outer:List Env) (s:Shared) (H:Hp) (E:XK),Room k (A.deeper (envOfC qual (Zz st) s.heap.objs.size f fd.code))->∀G,GG G->X6 (Vn ZP P w K mg base N qual (Zz st) f fd.code A outer s H E).nox G [] [] own fr (XM st) g) :
  FnOk P w K mg base ZP (k+1) f fd ps (Yf ps.length fr GG (runB N.length ps.length g)):=by
 obtain⟨oc,od,kV,doc,pm,an,cdv,ct,osl,rfl,lk,hcd⟩:=F.ex;refine ZoX lk hcd S (λvs H Q E ⟨_,_,_,_,_,_,_,e,_⟩=>e) λA outer s H vs Q E hr h=>?_;obtain⟨G,Hf,ds,pn,d,pn',hG,el,e1,r,st',eF,k'⟩:=h;obtain⟨t,p,q⟩:=hb A outer s H E hr G hG;exact⟨t,p.nox,Zl6 (by have:=congrArg qcs S.pre;grind) q e1 r st' eF k'⟩
section
variable {X:Cx}{G:Gh}{P c:Addr}{q:Str}{k kl n:Nat}{x:Str}{fr frb:Bool}{F:List D->M D}{T:Nat->List D->M D}{t:Nat}{e1:Expr}{f1:Ze->M D}{r1:Bool}{params:Arguments}{scope:Scope}{lpos ppos pos:Pos}{XN N ps:List Str}{NS:List (Str×NameKind)}{cix:List Nat}
end
noncomputable def B3 (mg:Str->Option Value)(h:Heap):Prop:=∃bm o,mg "__builtins__" = some (.ref bm)/\bm≠builtinsNs/\bm≠mainGlobals/\h.get? bm=some o/\o.cls=.type "module"/\o.dict=some builtinsNs/\o.data=.plain
theorem ZkE {K:qd}{tb:List (Addr×Addr)}
  (KX:K.In s₁.heap) (hns:s₁.heap.Ns mainGlobals mg) (hb:s₁.heap.Ns builtinsNs mb) (hbb:∀x:Str,x≠"__name__"->mb x=xj x) (hlim:s₁.heap.NoLimit) (hg:s₁.gens = #[])
  (hT:∀e∈tb,zZ s₁.heap e.1 e.2/\s₁.heap.get? e.2=some (qaT #[])) (hKt:PySem.W.noTabs K=true) (hbm:B3 mg s₁.heap)
  (ha:s₁.heap.get? a=some { cls:=.type "list",data:=.seq vs.toArray }) (hi:IntsAre vs ns) (hl:ns.length<=xg) (hr:Room k callerA)
  (F:∀base:Heap,K.In base->base.Ns mainGlobals mg->(∀e∈tb,zZ base e.1 e.2)->B3 mg base->FnOk P w K mg base CX k fa fd [x] sp) (hbind:∀(s:Shared) (u:Value),BindsTo s fd ⟨[u],[]⟩ [(x,u)])
  (hsp:∀H:Hp,ZV K H a (ns.map V.int)->(∀e∈tb,H e.2=some (.tbl #[]))->sp [.ref a] H (λv _=>v=.bl true) λ_ _ _=>False)
  (hCX:∀H e s',CX [] H s₁ (λ_ _ _=>False) e s'->False) :
  xo (xB P w) callerA (.call (.ref fa) ⟨[.ref a],[]⟩) (λr s'=>r=.ok (.ret (.bool true))/\OldK s₁.heap s'.heap/\s'.os=s₁.os/\AllBare s'.gens) s₁:=by
 have rv:=Zfm hi;have lenV:=hi.length;have tabne:∀e∈tb,e.2≠a:=λe he z=>by
  have:=(hT e he).2;rw[z,ha]at this;cases this
 have noK:∀e∈tb,K.lookup e.2=none:=λe he=>by
  cases q:K.lookup e.2 with
  | none=>rfl
  | some o=>
   have h2:=zF.mp hKt (e.2,o) (PySem.W.mem_of_lookupK q);have e1:=KX _ _ q;rw[(hT e he).2]at e1
   cases e1
   exact absurd (show false=true from h2) qab
 have core:∀H:Hp,(∀b u,H b=some u->(b=a/\u=.frz { cls:=.type "list",data:=.seq vs.toArray } (.lst (ns.map V.int))/\K.lookup a=none)∨(u=.tbl #[]/\∃e∈tb,e.2=b))->ZV K H a (ns.map V.int)->(∀e∈tb,H e.2=some (.tbl #[]))->
   xo (xB P w) callerA (.call (.ref fa) ⟨[.ref a],[]⟩) (λr s'=>r=.ok (.ret (.bool true))/\OldK s₁.heap s'.heap/\s'.os=s₁.os/\AllBare s'.gens) s₁:=by
  intro H hO hS hTb;have hok:YE P w H s₁.heap:=λb u e=>by
   rcases hO b u e with⟨rfl,rfl,_⟩ | ⟨rfl,e',he,rfl⟩
   ·exact⟨ha,by rw[qe];exact hl,vs,_,rv,ha⟩
   ·exact(hT e' he).2
  have base_of:∀{b:Addr} {o:Obj},s₁.heap.get? b=some o->H b=none->(hidT s₁.heap H).get? b=some o:=λe n=>Zlf e n;have noA:∀{b:Addr} {o:Obj},s₁.heap.get? b=some o->(∀vs n,o.data≠.seq vs n)->(∀vs,o.data≠.fields vs∨o.cls≠.none)->H b=none:=λ{b o} e d1 d2=>by
   cases q:H b with
   | none=>rfl
   | some u=>
    rcases hO b u q with⟨rfl,_,_⟩ | ⟨_,e',he,rfl⟩
    ·rw[ha]at e;cases e;exact absurd rfl (d1 _ _)
    ·rw[(hT e' he).2]at e;cases e
     rcases d2 #[]with z | z
     ·exact absurd rfl z
     ·exact absurd rfl z
  have nsK:∀{b:Addr} {m:Str->Option Value},s₁.heap.Ns b m->(hidT s₁.heap H).Ns b m:=λ{b m} ⟨o,es,ep,e,d,r⟩=>⟨o,es,ep,base_of e (noA e (λ_ _ z=>by rw[d]at z;cases z) λ_=>.inl λz=>by rw[d]at z;cases z),d,r⟩;have hKb:K.In (hidT s₁.heap H):=λb o e=>base_of (KX b o e) (by
   cases q:H b with
   | none=>rfl
   | some u=>
    rcases hO b u q with⟨rfl,_,z⟩ | ⟨_,e',he,rfl⟩
    ·rw[z]at e;cases e
    ·rw[noK e' he]at e;cases e)
  have hM:Mod K mg (hidT s₁.heap H):=⟨hKb,nsK hns,⟨mb,nsK hb,hbb⟩,let ⟨mc,h1,h2⟩:=hlim;⟨mc,nsK h1,h2⟩⟩;have e0:Env0 P w K mg (hidT s₁.heap H) callerA [] s₁ H:=⟨rfl,hM,λb o e=>Znt e,qcl (Zj8 _ _),trivial,λb hb=>absurd (show b∈([]:List Addr)from hb) (by simp),hok,.of_eq hg⟩;have hCd:∀e∈tb,zZ (hidT s₁.heap H) e.1 e.2:=λe he=>by
   obtain⟨o,vs',file,tf,flags,tg,inF,text,tt,e1,r1,r2,r3⟩:=(hT e he).1;exact⟨o,vs',file,tf,flags,tg,inF,text,tt,base_of e1 (noA e1 (λ_ _ z=>by rw[r2]at z;cases z) λ_=>.inr (by rw[r1];nofun)),r1,r2,r3⟩
  have hBm:B3 mg (hidT s₁.heap H):=by
   obtain⟨bm,o,e1,e2,e3,e4,e5,e6,e7⟩:=hbm;exact⟨bm,o,e1,e2,e3,base_of e4 (noA e4 (λ_ _ z=>by rw[e7]at z;cases z) λ_=>.inl λz=>by rw[e7]at z;cases z),e5,e6,e7⟩
  refine codeAny_mono ((F _ hKb (nsK hns) hCd hBm).run callerA [] s₁ H ⟨[.ref a],[]⟩ [.ref a] [.ref a] _ _ hr e0 (hbind s₁ (.ref a)) (.cons rfl .nil) (hsp H hS hTb)) λr s' h=>?_
  cases r with
  | error e=>exact(hCX H e s' h).elim
  | ok fl=>
   cases fl with
   | next=>exact zB h
   | brk=>exact zB h
   | cont=>exact zB h
   | ret u=>
    obtain⟨v,H',os,bare,un,hok',r',q⟩:=h;have q':v=.bl true:=q;subst q';obtain rfl:u=zf true:=r';refine⟨rfl,⟨λb o e=>?_,λb o e=>un.there b o e (by simp)⟩,os,bare⟩
    cases q:H b with
    | none=>exact .inl (un.keep b o e q (by intro z;exact absurd (show b∈([]:List Addr)from z) (by simp)) (by simp))
    | some u=>
     rcases hO b u q with⟨rfl,rfl,_⟩ | ⟨rfl,e',he,rfl⟩
     ·have z2:=un.frzs b _ _ q
      obtain⟨e1,_⟩:=hok b _ q;obtain⟨e2,_⟩:=hok' b _ z2;rw[e]at e1;cases e1;exact .inl e2
     ·obtain⟨more,z⟩:=un.tbls _ _ q
      have z2:s'.heap.get? e'.2=some (qaT (#[]++more)):=hok' _ _ z;have e1:=(hT e' he).2;rw[e]at e1;cases e1;exact .inr (.inl ⟨((hT e' he).1.tab (hT e' he).2).isCodeTable,rfl,#[],more,rfl,z2⟩)
 cases hk:K.lookup a with
 | some o=>
  have e:=KX a o hk;rw[ha]at e
  cases e
  refine core (λb=>open Classical in if ∃e∈tb,e.2=b then some (.tbl #[])else none) (λb u z=>?_) (.inr ⟨_,vs.toArray,_,hk,rfl,rfl,rfl,by rw[ze,lenV];exact hl,by simpa using rv⟩) (λe he=>if_pos ⟨e,he,rfl⟩);by_cases h:∃e∈tb,e.2=b
  ·rw[if_pos h]at z;cases z;exact .inr ⟨rfl,h⟩
  ·rw[if_neg h]at z;cases z
 | none=>
  refine core (λb=>open Classical in if ∃e∈tb,e.2=b then some (.tbl #[])else if b=a then some (.frz { cls:=.type "list",data:=.seq vs.toArray } (.lst (ns.map V.int)))else none) (λb u z=>?_) (.inl (.inr ⟨{ cls:=.type "list",data:=.seq vs.toArray },?_⟩)) (λe he=>if_pos ⟨e,he,rfl⟩)
  ·by_cases h:∃e∈tb,e.2=b
   ·rw[if_pos h]at z;cases z;exact .inr ⟨rfl,h⟩
   ·rw[if_neg h]at z
    by_cases hb:b=a
    ·rw[if_pos hb]at z;cases z;exact .inl ⟨hb,rfl,hk⟩
    ·simp_all
  ·show(if ∃e∈tb,e.2=a then _ else _)=_
   rw[if_neg (λ⟨e,he,z⟩=>tabne e he z),if_pos rfl]
theorem Zl7 {l : PySem.W.OpenLaw}{K : Params -> qd}{CX : World -> Uy}{sp : World -> Sp}{tb : List (Str × Addr × Addr)}
    (hn : l.most = some n) (hn2 : n <= xg) (hdf : d.params.defaults = []) (hr : Room k callerA)
    (hY : ∀ (w : World) (h : Heap), YP w h -> (K w.params).In h)
    (hrec : ∀ e ∈ tb, ∃ d, (recsOf q).find? (λr => r.name == e.1) = some d) (htab : ∀ w : World, ∀ e ∈ tb, PySem.W.tabIn (K w.params) e.1 = some e.2) (hno : ∀ w : World, PySem.W.noTabs (K w.params) = true)
    (F : ∀ (w : World) (mg : Str -> Option Value) (fa : Addr) (h : Heap), (K w.params).In h -> h.Ns mainGlobals mg -> mg d.name = some (.ref fa) ->
      ∃ fd : xC, (∀ (s : Shared) (u : Value), BindsTo s fd ⟨[u], []⟩ [(x, u)]) /\
        ∀ base : Heap, (K w.params).In base -> base.Ns mainGlobals mg -> (∀ e ∈ tb, zZ base e.2.1 e.2.2) -> B3 mg base -> FnOk l.prog w (K w.params) mg base (CX w) k fa fd [x] (sp w))
    (hsp : ∀ (w : World) (H : Hp) (a : Addr) (ns : List Int), ns.length <= n -> ZV (K w.params) H a (ns.map V.int) -> (∀ e ∈ tb, H e.2.2 = some (.tbl #[])) -> sp w [.ref a] H (λv _ => v = .bl true) λ_ _ _ => False)
    (hCX : ∀ (w : World) (H : Hp) (s : Shared) (e : Value) (s' : Shared), CX w [] H s (λ_ _ _ => False) e s' -> False) :
    qcb q loose XP YP l.row.toRowW d [] (λf vs => qb6 f vs) := by
  refine Att.attach_call hn hdf λw s₀ s₁ mg mb fa o pm cd doc a vs ns G Y ho hd hcd hmg hobj hints jV hg => ?_;have KX := hY w _ Y;obtain⟨fd, hb, hF⟩ := F w mg fa _ KX G.T.g hmg;have hT : ∀ e ∈ tb.map (·.2), zZ s₁.heap e.1 e.2 /\ s₁.heap.get? e.2 = some (qaT #[]) := λe he => by
    obtain⟨e', he', rfl⟩ := qu.mp he;obtain⟨d', hd'⟩ := hrec e' he';exact PySem.W.tab_of G.T KX hd' (htab w e' he')
  exact ZkE KX G.T.g G.T.b G.T.builtins G.T.nolimit hg hT (hno w) (let ⟨bm, ob, a, b, c, d, e, f⟩ := G.T.bmain; ⟨bm, ob, a, b, (λz => by
      obtain⟨o, es, ep, e', hd', _⟩ := G.T.g
      grind), c, d, e, f⟩) hobj hints (qp jV hn2) hr
    (λbase h1 h2 h3 h4 => hF base h1 h2 (λe he => h3 e.2 (qaR he)) h4) hb (λH hS hTb => hsp w H a ns jV hS λe he => hTb e.2 (qaR he)) λH e s' => hCX w H s₁ e s'
end TF
namespace L2
section
variable {X:Cx}{jN:Qb}{σ:St}{H:Hp}{s:Shared}{h':Heap}
end
end L2
namespace TF
open L2
section
variable {X:Cx}{G:Gh}
end
section
variable {X:Cx}{G:Gh}
noncomputable def JQ:D->Option Bool
 | .non=>some true
 | .pen=>none
 | .ty _=>none
 | .clo _ _=>none
 | _=>some false
noncomputable def dIsN (d e:D):Option D:=match e with | .non=>(JQ d).map .bl | _=>none
theorem Zfx (h:JQ d=some b)(r:Zo G Hf d v):decide (v=.non)=b:=by
 cases d with
 | non=>cases h;rw[jg.mp r];rfl
 | bl _=>cases h;rw[je.mp r];rfl
 | int _=>cases h;rw[ja.mp r];rfl
 | str _=>cases h;rw[jh.mp r];rfl
 | tup _=>cases h;obtain⟨p,vs,rfl,_⟩:=jc.mp r;rfl
 | lst _=>cases h;obtain⟨p,vs,rfl,_⟩:=jb.mp r;rfl
 | dk _=>cases h;obtain⟨p,rfl,_⟩:=jk.mp r;rfl
 | dt _=>cases h;obtain⟨p,_,rfl,_⟩:=jl.mp r;rfl
 | du _=>cases h;obtain⟨p,rfl,_⟩:=jm.mp r;rfl
 | df _=>cases h;obtain⟨p,_,rfl,_⟩:=js.mp r;rfl
 | pen=>cases h
 | ty _=>cases h
 | clo _ _=>cases h
theorem Zoe:Y4 X G (xk .Is) dIsN:=
 ⟨_,ZpD,λHf H s x y d e c Q e1 st rx ry q k=>by
  cases e with
  | non=>
   have q:(JQ d).map D.bl=some c:=q
   cases hb:JQ d with
   | none=>simp_all
   | some b=>
    rw[hb]at q
    cases q
    refine⟨jg.mp ry,?_⟩;rw[Zfx hb rx];exact k _ Hf H (.refl e1) st (je.mpr rfl) (.scal λz=>z)
  | _=>cases q⟩
noncomputable def ZjF (i:Nat)(fx fv:Ze->M D):Ze->M Out:=fun ρ=>Zp (fv ρ) λv=>Zp (fx ρ) λx=>match x,(ρ[i]?).bind id with
 | .int k,some (.lst ds)=>match Xp ds.length k with | some j=>ZJ (.nx (ρ.set i (some (.lst (ds.set j v))))) | none=>ZS
 | _,_=>ZS
theorem Zhj {ob:List Nat}{fr:Bool}{pos:Pos}(hi:i∈own)(hn:PE X (.Name x p1) (Yd i))(hx:PD X G r1 ex fx)(hv:PD X G r2 ev fv)
  (hs:swapsWithSole [.Subscript (.Name x p1) ex p2] ev pos.line X.env=pure false:=by rfl) (hw:swappedStores [.Subscript (.Name x p1) ex p2] ev X.env=pure none:=by rfl)
  (h1:(assignEach [.Subscript (.Name x p1) ex p2] X.env).map (·.2)=[assign (.Subscript (.Name x p1) ex p2) X.env]:=by rfl)
  (ha:∀v,assign (.Subscript (.Name x p1) ex p2) X.env v=(do
   let ov<-holding [v] (eval (.Name x p1) X.env)
   let iv<-holding [v,ov] (eval ex X.env)
   standAt p2
   holding [v,ov,iv] (setItem ov iv v)
   release [v,ov,iv] []):=by intro _;rfl) :
  YS X G ob own own fr (.Assign [.Subscript (.Name x p1) ex p2] ev pos) (ZjF i (fun ρ=>fx (Yg own ρ)) (fun ρ=>fv (Yg own ρ))):=by
 obtain⟨tv,pv',qv⟩:=hv;obtain⟨tx,px,qx⟩:=hx;have yv:WI G r2 tv fv:=qv;have yx:WI G r1 tx fx:=qx;refine⟨_,Bx pv' (ZdG hn px Za5 ha) hs hw h1,λkn jT H0 σ H ρ s out s' E ⟨Hf,j⟩ st e po=>?_⟩;obtain⟨v,s1,a1,a2⟩:=Zy e;obtain⟨xx,s2,a3,a4⟩:=Zy a2;refine yv.a kn jT H0 σ Hf H ρ s v s1 _ j st a1 λw jX H1 j1 e1 e2 jY r1 _=>?_
 match xx,a4,a3 with
 | .int k,a4,a3=>
  cases hb:(ρ[i]?).bind id with
  | none=>rw[hb]at a4;cases a4
  | some c=>
   rw[hb]at a4
   cases c with
   | lst ds=>
    have a4':(match Xp ds.length k with | some j=>ZJ (Out.nx (ρ.set i (some (.lst (ds.set j v))))) | none=>ZS) s2=some (out,s'):=a4
    cases hj:Xp ds.length k with
    | none=>rw[hj]at a4';cases a4'
    | some jj=>
     rw[hj]at a4';obtain⟨rfl,rfl⟩:=ZM a4';have ei:=ZfY hb;obtain⟨a,vs,h1,h2,h3,h4⟩:=Zdr j1 hi ei;refine⟨_,h1,?_⟩;refine yx.a kn jT H0 σ jX H1 ρ s1 _ _ _ j1 jY a3 λw2 j6 H2 j2 e3 e4 j8 r2 _=>?_;rw[ja.mp r2];obtain⟨a',vs',h1',h2',h3',h4'⟩:=Zdr j2 hi ei;rw[h1]at h1';cases h1';refine⟨a,vs',k,jj,rfl,rfl,h3',by rw[<-h4'.length];exact hj,?_⟩;exact po σ _ ⟨j6,j2.put hi ei h1 ⟨vs'.set jj w,Z1,h4'.set jj (r1.ext e3)⟩⟩ (jz j8 h2)
   | _=>cases a4
end
section
variable {X:Cx}{G:Gh}
theorem ZaN:∀ns:List Int,Zj G Hf (ns.map D.int) (ns.map V.int)
 | []=>Zj.nil_iff.mpr rfl
 | n::ns=>.cons (ja.mpr rfl) (ZaN ns)
end
end TF
namespace HT
section
variable {prog:xD}{w:World}{A:xE}{E:xF}{s:Shared}
theorem ZiL (n:Nat):zi ((n:Int)-1) (-1) (-1)=n:=by
 unfold zi
 grind
theorem ZcL {n:Nat}(hs:s.heap.IsSliceOf sl .none .none (.int (-1) t))
  (h:Q ((n:Int)-1,-1,n) s):xf (xB prog w) A (yP (.ref sl) (pure (n:Int))) Q E s:=by
 obtain⟨os,hos,hcs,hds⟩:=id hs;unfold yP Builtin.Slice.sliceFields;refine xa (xa (wpAny_field hos hds (x:=.none) rfl (xa (wpAny_field hos hds (x:=.none) rfl (xa (wpAny_field hos hds (x:=.int (-1) t) rfl (xb ?_)))))));refine xa (slicePart_int ?_);show xf _ _ (if ((-1:Int)==0)=true then _ else _) _ _ s;rw[if_neg (by decide)];refine xa (slicePart_none (xa (slicePart_none (xa (xb ?_)))));show xf _ _ (match yZ none none (-1) (n:Int)with | (lo,hi)=>pure (lo,(-1:Int),zi lo hi (-1))) _ _ s;show xf _ _ (pure ((n:Int)-1,(-1:Int),zi ((n:Int)-1) (-1) (-1))) _ _ s;rw[ZiL];exact xb h
theorem Zl8 (xs:Array Value):((qm xs.size).filterMap λ(m:Nat)=>xs[(((xs.size:Nat):Int)-1+(m:Int)*(-1)).toNat]?).toArray=xs.toList.reverse.toArray:=by
 congr 1;have e:∀l:List Value,∀k,k<=l.length->(qm k).filterMap (λ(m:Nat)=>l[((l.length:Int)-1+(m:Int)*(-1)).toNat]?)=l.reverse.take k:=by
  intro l k
  induction k with
  | zero=>intro _;simp
  | succ k ih=>
   intro hk;rw[zU,List.filterMap_append,ih (by omega)];have hi:((l.length:Int)-1+(k:Int)*(-1)).toNat=l.length-1-k:=by omega
   have hg:l[l.length-1-k]?=some (l[l.length-1-k]'(by omega)):=qX _;have hr:l.reverse[k]?=some (l[l.length-1-k]'(by omega)):=by rw[List.getElem?_reverse (by omega)];exact hg
   rw[qbY,hr];simp only[yV,List.filterMap_nil,hi,hg];rfl
 have:=e xs.toList xs.toList.length (qk _);rw[qbQ (by simp)]at this;simp_all
theorem getItem_tuple_rev (ht:IsTup s.heap t items)(hs:s.heap.IsSliceOf sl .none .none (.int (-1) tk))
  (h:Q (.ref s.heap.objs.size) { s with heap:=s.heap.push { cls:=.type "tuple",data:=.seq items.toList.reverse.toArray } })
  (hsz:items.size<=xg):xf (xB prog w) A (getItem (.ref t) (.ref sl)) Q E s:=by
 have htake:sizeOk (.seq items.toList.reverse.toArray):=by
  show items.toList.reverse.toArray.size<=xg;rw[ze,qce,zX];exact hsz
 obtain⟨os,hos,hcs,hds⟩:=id hs;have hTs:s.TypeIs (.ref sl) "slice":=⟨os,hos,hcs⟩;unfold getItem
 try with_reducible refine xw ?_
 first | refine xa (xb ?_) | skip
 refine xa (wpAny_sequenceKey ht.typeIs (by decide) ?_);refine xa (wpAny_callSpecial?_slot (name:=qN "__getitem__") ht.typeIs qO
  (wpAny_call_entry qO ht.typeIs entry_tuple_getitem ?_ (args_tuple_getitem _ _)))
 show xf _ _ (yQ (.ref t) >>= _) _ _ s;refine xa (tupleItemsOf_ ht ?_);refine xa (wpAny_typeOf hTs ?_);rw[if_pos (by decide)];refine xa (ZcL hs ?_);have hno:¬((((items.size:Int)-1)==0&&(-1:Int)==1&&items.size==items.size)=true):=by simp
 show xf _ _ (if (((items.size:Int)-1)==0&&(-1:Int)==1&&items.size==items.size)=true then _ else _) _ _ s;rw[if_neg hno,Zl8]
 first
  | exact xa (xl (xb ⟨_,rfl,xb h⟩) htake)
  | rfl
  | rfl
  | rfl
end
end HT
namespace TF
open L2
section
variable {X:Cx}{G:Gh}
noncomputable def tRev (K:qd)(te:TE):TE:=fun σ H Q=>te σ H λx H1=>∃a xs,x=.ref a/\Z0 K H1 a xs/\∀p,H1 p=none->Q (.ref p) (Zs H1 p (.tup xs.reverse))
theorem Zca:∀{xs:List V} {us:List Value},ZH xs us->ZH xs.reverse us.reverse
 | _,_,.nil=>.nil
 | _,_,.cons r t=>by
  rw[qat,qat];exact(Zca t).append (.cons r .nil)
theorem Zp2 (he:PE X e te):PE X (.Subscript e (.Slice none none (some (.UnaryOp .USub (.Constant (.int 1) j p3) p4)) p2) pos) (tRev X.K te):=by
 intro jN s σ H Q I h;refine Subscript_ (ZK (he jN s σ H _ I h) λv s1 ⟨x,H1,I1,r1,q1⟩=>?_);obtain⟨a,xs,rfl,hx,q⟩:=q1
 cases r1
 refine wpAny_Slice ?_;rw[evalPart_none];refine xb ?_;refine xb ?_;rw[evalPart_some];refine ZK (ZoV Zlk Xa jN s1 σ H1 (λy H2=>y=.int (-1)/\H2=H1) I1 ⟨1,rfl,rfl,rfl⟩) λu s3 ⟨y,H3,I3,r3,q3⟩=>?_;obtain⟨rfl,rfl⟩:=q3;obtain⟨t,rfl⟩:=r3;have I4:Inv X jN σ H3 { s3 with heap:=s3.heap.push { cls:=.type "slice",data:=.fields #[.none,.none,.int (-1) t] } }:=I3.kept (t':=s3.toks) λb ob q=>qj _ q;obtain⟨jR,r,ht,hz⟩:=I4.tuple hx;have jV:jR.toArray.size=xs.length:=by rw[ze];exact r.length.symm
 show xf (xB X.prog X.w) X.A (subscriptTail e (.Slice none none (some (.UnaryOp .USub (.Constant (.int 1) j p3) p4)) p2) (.ref a) (.ref s3.heap.objs.size)) (EP X jN σ Q) X.xe { s3 with heap:=s3.heap.push { cls:=.type "slice",data:=.fields #[.none,.none,.int (-1) t] } };refine tail_any (ops:=[.ref a,.ref s3.heap.objs.size]) ht.typeIs qO.lookup ?_ (by with_unfolding_all rfl);refine HT.getItem_tuple_rev ht (Heap.IsSliceOf.new ..) ?_ (by rw[jV];exact hz);refine⟨.ref _,_,I4.laid (t':=s3.toks) (o:=.tup xs.reverse) (λb ob q=>qj _ q) (qk _) ?_,rfl,q _ (I4.hok.fresh (qk _))⟩;exact⟨by simp_all,_,Zca r,qaF _ _⟩
theorem Zj.reverse:∀{ds:List D} {vs:List V},Zj G Hf ds vs->Zj G Hf ds.reverse vs.reverse
 | [],vs,h=>by rw[Zj.nil_iff.mp h];rfl
 | d::ds,vs,h=>by
  obtain⟨v,r,rfl,h1,h2⟩:=jd.mp h;rw[qat,qat];exact(Zj.reverse h2).append (.one h1)
noncomputable def dRev (f:Ze->M D):Ze->M D:=fun ρ=>Zp (f ρ) λd=>match d with | .tup ds=>ZJ (.tup ds.reverse) | _=>ZS
theorem Zp3 (he:PD X G r1 e f):PD X G true (.Subscript e (.Slice none none (some (.UnaryOp .USub (.Constant (.int 1) j p3) p4)) p2) pos) (dRev f):=by
 obtain⟨t,p,q⟩:=he.drop;refine⟨_,Zp2 p,fun σ Hf H ρ s d s' Q e1 e2 e3 e4 k=>?_⟩;obtain⟨d0,s1,a1,a2⟩:=Zy e4;refine q σ Hf H ρ s d0 s1 _ e1 e2 e3 a1 λv jX H1 g1 jY r1=>?_
 match d0,a2,r1 with
 | .tup ds,a2,r1=>
  obtain⟨rfl,rfl⟩:=ZM a2;obtain⟨a,vs,rfl,na,ha,ra⟩:=jc.mp r1;refine⟨a,vs,rfl,Z0.of (g1.fh _ _ na ha),λl hl=>?_⟩;have nf:=Gh.nofp jY hl;have g2:=Gr.new (o:=.tup vs.reverse) g1.fh hl nf;exact k (.ref l) _ _ (g1.trans g2) (Gh.grow jY hl) (jc.mpr ⟨l,_,rfl,nf,Z1,ra.reverse.ext g2.ff⟩) λ_=>.scal λz=>z
end
end TF
namespace L2
open AutoSeq1 (wpAny_loadPart')
section
variable {prog:xD}{w:World}{A:xE}{E:xF}{s:Shared}
end
end L2
namespace TF
open L2
section
variable {X:Cx}{G:Gh}
end
section
variable {X:Cx}{G:Gh}
theorem Zhk {pos p2 p3:Pos}{fr:Bool}{ob:List Nat}(hi:i∈own)(hv:PE X (.Name x p1) (Yd i))(he:PD X G r1 e f)
  (hbase:xq (.Name x p1) "append" X.env (eval (.Name x p1) X.env)=eval (.Name x p1) X.env:=by rfl)
  (hfew:((backTo p3 (xh [e] X.env)).all (λx=>!x.1)&&(xp p3 (xi [] X.env)).all (λx=>x.1.isSome)
   && decide ([e].length+([]:List Keyword).length+(if ([]:List Keyword).isEmpty then 0 else 1)<30))=true:=by rfl)
  (hline:(p2.endLine==p3.line)=true:=by rfl) (hs:xh [e] X.env=(false,eval e X.env)::xh [] X.env:=by rfl)
  (hsw:xr (.Call (.Attribute (.Name x p1) "append" p2) [e] [] p3) none pos.line X.env=pure false:=by rfl) :
  YS X G ob own own fr (.Expr (.Call (.Attribute (.Name x p1) "append" p2) [e] [] p3) pos) (Vp i (fun ρ=>f (Yg own ρ))):=
 Bn hi he λte p=>Bi hv p hbase hfew hline hs hsw
end
end TF
namespace L2
section
variable {prog:xD}{w:World}{A:xE}{E:xF}{s:Shared}
end
end L2
namespace TF
open L2
section
variable {X:Cx}{G:Gh}
end
end TF
namespace L2
end L2
namespace TF
open L2
section
variable {X:Cx}{G:Gh}
end
end TF
namespace L2
section
variable {prog:xD}{w:World}{A:xE}{E:xF}{s:Shared}{o:Obj}{es:Array DictEntry}{d it:Addr}{ep i:Nat}
end
section
variable {X:Cx}{tg:Expr}
end
end L2
namespace TF
open L2
section
variable {X:Cx}{G:Gh}
end
end TF
namespace L2
section
variable {prog:xD}{w:World}{A:xE}{E:xF}{s:Shared}{z TI TO i1 i2:Addr}{f1 f2:List Addr}{n1 n2 k:Nat}{P1 P2:Nat->Value->Prop}{S1 S2:Nat->Heap->Prop}{a b:Value}
end
section
variable {prog:xD}{w:World}{A:xE}{E:xF}{s:Shared}
end
end L2
namespace TF
open L2
section
variable {X:Cx}{G:Gh}
end
end TF
namespace TS
open PySem.W
noncomputable def YH {α:Type}(lt:Nat->Nat->Bool)(n:Nat):KasT α->(α->Prop)->Prop
 | .ret a,Q=>Q a
 | .ask i j k,Q=>i<n/\j<n/\YH lt n (k (lt i j)) Q
theorem YH.bind {f:α->KasT β}{Q:β->Prop}:∀{t:KasT α},YH lt n t (λa=>YH lt n (f a) Q)->YH lt n (t.bind f) Q
 | .ret _,h=>h
 | .ask i j k,h=>⟨h.1,h.2.1,YH.bind h.2.2⟩
theorem YH.mono {Q R:α->Prop}(hr:∀a,Q a->R a):∀{t:KasT α},YH lt n t Q->YH lt n t R
 | .ret _,h=>hr _ h
 | .ask i j k,h=>⟨h.1,h.2.1,YH.mono hr h.2.2⟩
theorem jH {Q:α->Prop}{R:α->Shared->Prop}(hc:∀i j,i<n->j<n->∀C:Bool->Shared->Prop,C (lt i j) s->cmp i j C s)(hr:∀a,Q a->R a s):∀{t:KasT α},YH lt n t Q->t.kasWp cmp R s
 | .ret _,h=>hr _ h
 | .ask i j k,h=>hc i j h.1 h.2.1 _ (jH hc hr h.2.2)
noncomputable def g (p:Array Nat)(k:Nat):Nat:=p.getD k 0
theorem g_eq (h:p[i]?=q[j]?):g p i=g q j:=by
 have e:∀(r:Array Nat) (k:Nat),g r k=(r[k]?).getD 0:=λr k=>by unfold g;simp
 rw[e,e,h]
structure Pm (n:Nat)(p:Array Nat):Prop where
 pos:0<n
 pm:p.toList.Perm (qm n)
section
variable {lt:Nat->Nat->Bool}{n:Nat}{p q:Array Nat}
theorem Pm.size (h:Pm n p):p.size=n:=by
 have:=h.pm.length_eq;simpa using this
theorem Pm.of (h:Pm n p)(e:q.Perm p):Pm n q:=⟨h.pos,(Array.perm_iff_toList_perm.mp e).trans h.pm⟩
theorem Pm.bd (h:Pm n p)(k:Nat):g p k<n:=by
 unfold g;by_cases hk:k<p.size
 ·have:p.getD k 0=p[k]:=by simp[hk]
  rw[this];have m:p[k]∈p.toList:=by simp
  have:=h.pm.mem_iff.mp m;simp_all
 ·have:p.getD k 0=0:=by simp[Array.getD,hk]
  rw[this];exact h.pos
theorem Pm.inj (h:Pm n p)(hi:i<n)(hj:j<n)(e:g p i=g p j):i=j:=by
 have hi':i<p.size:=by rw[h.size];exact hi
 have hj':j<p.size:=by rw[h.size];exact hj
 have nd:=h.pm.nodup_iff.mpr List.nodup_range;have e1:g p i=p.toList[i]'(by omega):=by unfold g;simp[hi']
 have e2:g p j=p.toList[j]'(by omega):=by unfold g;simp[hj']
 rw[e1,e2]at e;have pw:=zQ.mp nd;rcases qau i j with z | z | z
 ·simp_all
 ·exact z
 ·exact absurd e.symm (pw j i (by omega) (by omega) z)
structure Ord (lt:Nat->Nat->Bool)(n:Nat):Prop where
 tr:∀a b c,lt a b=true->lt b c=true->lt a c=true
 to:∀a b,a<n->b<n->a≠b->lt a b=false->lt b a=true
noncomputable def So (lt:Nat->Nat->Bool)(p:Array Nat)(m:Nat):Prop:=∀i j,i<j->j<m->lt (g p i) (g p j)=true
noncomputable def De (lt:Nat->Nat->Bool)(p:Array Nat)(m:Nat):Prop:=∀i j,i<j->j<m->lt (g p j) (g p i)=true
theorem Pm.to (h:Pm n p)(o:Ord lt n)(hi:i<n)(hj:j<n)(hij:i≠j)(e:lt (g p i) (g p j)=false):lt (g p j) (g p i)=true:=
 o.to _ _ (h.bd i) (h.bd j) (λz=>hij (h.inj hi hj z)) e
theorem ZiM (o:Ord lt n)(h:Pm n p):∀(f k:Nat),1<=k->k+f=n->So lt p k->YH lt n (kas_asc p f k) (λm=>k<=m/\m<=n/\So lt p m/\(m<n->lt (g p m) (g p (m-1))=true))
 | 0,k,h1,h2,hs=>⟨qk _,by omega,hs,λz=>by omega⟩
 | f+1,k,h1,h2,hs=>by
  show g p k<n/\g p (k-1)<n/\YH lt n (if lt (g p k) (g p (k-1))=true then .ret k else kas_asc p f (k+1)) _;refine⟨h.bd _,h.bd _,?_⟩
  cases e:lt (g p k) (g p (k-1))with
  | true=>rw[if_pos rfl];exact⟨qk _,by omega,hs,λ_=>e⟩
  | false=>
   rw[if_neg (by simp)];have e2:=h.to o (by omega) (by omega) (by omega) e;refine YH.mono (λm ⟨a,b⟩=>⟨by omega,b⟩) (ZiM o h f (k+1) (by omega) (by omega) λi j hij hj=>?_);by_cases hjk:j<k
   ·exact hs i j hij hjk
   ·have:j=k:=by omega
    subst this;by_cases hi:i=j-1
    ·simp_all
    ·exact o.tr _ _ _ (hs i (j-1) (by omega) (by omega)) e2
theorem ZjG (o:Ord lt n)(h:Pm n p):∀(f k:Nat),1<=k->k+f=n->De lt p k->YH lt n (kas_desc f p k 0) (λr=>r.1=p/\r.2.2=0/\k<=r.2.1/\r.2.1<=n/\De lt p r.2.1)
 | 0,k,h1,h2,hs=>⟨rfl,rfl,qk _,by show k<=n;omega,hs⟩
 | f+1,k,h1,h2,hs=>by
  show g p k<n/\g p (k-1)<n/\YH lt n (if lt (g p k) (g p (k-1))=true then (if 0 > 0 then kas_desc f (kas_rev p (k-(0+1)) k) (k+1) 0 else kas_desc f p (k+1) 0)else .ask (g p (k-1)) (g p k) λd=>if d=true then .ret (p,k,0)else kas_desc f p (k+1) (0+1)) _;refine⟨h.bd _,h.bd _,?_⟩
  cases e:lt (g p k) (g p (k-1))with
  | true=>
   rw[if_pos rfl,if_neg (by omega)];refine YH.mono (λm ⟨a,b,c,d⟩=>⟨a,b,by omega,d⟩) (ZjG o h f (k+1) (by omega) (by omega) λi j hij hj=>?_);by_cases hjk:j<k
   ·exact hs i j hij hjk
   ·have:j=k:=by omega
    subst this;by_cases hi:i=j-1
    ·simp_all
    ·exact o.tr _ _ _ e (hs i (j-1) (by omega) (by omega))
  | false=>
   have e2:=h.to o (by omega) (by omega) (by omega) e;refine⟨h.bd _,h.bd _,?_⟩;rw[e2];exact⟨rfl,rfl,qk _,by show k<=n;omega,hs⟩
theorem Zo5 (hj:q.size=n)(hm:m<=n)(k:Nat):g (kas_rev q 0 m) k=if k<m then g q (m-1-k)else g q k:=by
 have e:=getElem?_mirror_all (xs:=q) (i:=0) (j:=m) (by omega) k;unfold kas_rev;by_cases hk:k<m
 ·rw[if_pos ⟨by omega,hk⟩]at e
  rw[if_pos hk];exact g_eq (by rw[e];simp)
 ·rw[if_neg (λz=>hk z.2)]at e
  rw[if_neg hk];exact g_eq e
theorem Zof (o:Ord lt n)(h:Pm n p)(h1:1<=k)(h2:k<=n)(hs:De lt p k):YH lt n (kas_tail3 k n p) (λr=>1<=r.1/\r.1<=n/\Pm n r.2/\So lt r.2 r.1):=by
 have h':Pm n (kas_rev p 0 k):=h.of (mirror_perm _ _ _ _);have hs':So lt (kas_rev p 0 k) k:=λi j hij hj=>by
  rw[Zo5 h.size h2,Zo5 h.size h2,if_pos (by omega),if_pos hj];exact hs _ _ (by omega) (by omega)
 refine YH.bind (YH.mono (λm ⟨a,b,c,_⟩=>?_) (ZiM o h' (n-k) k h1 (by omega) hs'));exact⟨by omega,b,h',c⟩
theorem Zl9 (o:Ord lt n)(h:Pm n p):YH lt n (kas_count n p) (λr=>1<=r.1/\r.1<=n/\Pm n r.2/\So lt r.2 r.1):=by
 have hn:=h.pos;refine YH.bind (YH.mono (λm ⟨a,b,c,d⟩=>?_) (ZiM o h (n-1) 1 (by omega) (by omega) λi j hij hj=>by omega));by_cases hm:m=n
 ·rw[if_pos (by simpa using hm)]
  exact⟨a,b,h,c⟩
 ·rw[if_neg (by simpa using hm)]
  by_cases h1:m > 1
  ·rw[if_pos h1]
   refine⟨h.bd 0,h.bd (m-1),?_⟩;have e:lt (p.getD 0 0) (p.getD (m-1) 0)=true:=c 0 (m-1) (by omega) (by omega);show YH lt n (if lt (p.getD 0 0) (p.getD (m-1) 0)=true then _ else _) _;rw[e,if_pos rfl];exact⟨a,b,h,c⟩
  ·have:m=1:=by omega
   subst this;have hd:De lt p (1+1):=λi j hij hj=>by
    grind
   refine YH.bind (YH.mono (λr ⟨r1,r2,r3,r4,r5⟩=>?_) (ZjG o h (n-(1+1)) (1+1) (by omega) (by omega) hd));rw[if_neg (by omega),r1];exact Zof o h (by omega) r4 r5
theorem Zed (o:Ord lt n)(h:Pm n p)(hk:k<n)(hs:So lt p k):∀(f l r:Nat),l<=r->r<=k->r-l<=f->(∀i,i<l->lt (g p i) (g p k)=true)->(∀i,r<=i->i<k->lt (g p k) (g p i)=true)->
  YH lt n (kas_place p k f l r) (λm=>m<=k/\(∀i,i<m->lt (g p i) (g p k)=true)/\∀i,m<=i->i<k->lt (g p k) (g p i)=true)
 | 0,l,r,h1,h2,h3,ha,hb=>⟨by omega,ha,λi hi=>hb i (by omega)⟩
 | f+1,l,r,h1,h2,h3,ha,hb=>by
  show YH lt n (if l≥r then .ret l else .ask (g p k) (g p ((l+r) / 2)) λc=>if c=true then kas_place p k f l ((l+r) / 2)else kas_place p k f ((l+r) / 2+1) r) _;by_cases hlr:l≥r
  ·rw[if_pos hlr]
   exact⟨by omega,ha,λi hi=>hb i (by omega)⟩
  ·rw[if_neg hlr]
   refine⟨h.bd _,h.bd _,?_⟩;show YH lt n (if lt (g p k) (g p ((l+r) / 2))=true then kas_place p k f l ((l+r) / 2)else kas_place p k f ((l+r) / 2+1) r) _
   cases e:lt (g p k) (g p ((l+r) / 2))with
   | true=>
    rw[if_pos rfl];refine Zed o h hk hs f l _ (by omega) (by omega) (by omega) ha λi hi hik=>?_;by_cases hq:i=(l+r) / 2
    ·subst hq;exact e
    ·exact o.tr _ _ _ e (hs _ i (by omega) hik)
   | false=>
    have e2:=h.to o hk (by omega) (by omega) e;refine Zed o h hk hs f _ r (by omega) h2 (by omega) (λi hi=>?_) hb;by_cases hq:i=(l+r) / 2
    ·simp_all
    ·exact o.tr _ _ _ (hs i _ (by omega) (by omega)) e2
theorem Zma (o:Ord lt n):∀(f k:Nat) (p:Array Nat),Pm n p->1<=k->k+f=n->So lt p k->YH lt n (kas_bin f p k) (λq=>Pm n q/\So lt q n)
 | 0,k,p,h,h1,h2,hs=>⟨h,by have:k=n:=(by omega);subst this;exact hs⟩
 | f+1,k,p,h,h1,h2,hs=>by
  refine YH.bind (YH.mono (λm ⟨a,b,c⟩=>?_) (Zed o h (k:=k) (by omega) hs k 0 k (by omega) (by omega) (by omega) (λi hi=>by omega) λi hi hik=>by omega));have hg:∀i,g (bubble p k (k-m)) i=if i=m then g p k else if m<i/\i<=k then g p (i-1)else g p i:=λi=>by
   have e:=getElem?_bubble (xs:=p) (src:=k) (by rw[h.size];omega) (k-m) (by omega) i;rw[show k-(k-m)=m by omega]at e;by_cases q1:i=m
   ·rw[if_pos q1]at e⊢;exact g_eq e
   ·rw[if_neg q1]at e⊢
    by_cases q2:m<i/\i<=k
    ·rw[if_pos q2]at e⊢;exact g_eq e
    ·rw[if_neg q2]at e⊢;exact g_eq e
  refine Zma o f (k+1) _ (h.of (bubble_perm _ _ _)) (by omega) (by omega) λi j hij hj=>?_;rw[hg,hg];by_cases i1:i=m
  ·rw[if_pos i1,if_neg (by omega),if_pos (by omega)]
   exact c _ (by omega) (by omega)
  ·rw[if_neg i1]
   by_cases i2:m<i/\i<=k
   ·rw[if_pos i2,if_neg (by omega),if_pos (by omega)]
    exact hs _ _ (by omega) (by omega)
   ·rw[if_neg i2]
    by_cases j1:j=m
    ·rw[if_pos j1];exact b i (by omega)
    ·rw[if_neg j1]
     by_cases j2:m<j/\j<=k
     ·rw[if_pos j2]
      exact hs _ _ (by omega) (by omega)
     ·rw[if_neg j2]
      exact hs _ _ hij (by omega)
theorem Zog (o:Ord lt n)(hn:0<n):YH lt n (kas_sort n) (λq=>Pm n q/\So lt q n):=by
 have h:Pm n (zJ (qm n)):=⟨hn,by simp⟩;refine YH.bind (YH.mono (λr ⟨a,b,c,d⟩=>?_) (Zl9 o h));by_cases hr:r.1<n
 ·rw[if_pos hr]
  have e:max r.1 1=r.1:=by omega
  rw[e];exact Zma o _ _ _ c a (by omega) d
 ·rw[if_neg hr]
  exact⟨c,by grind⟩
end
noncomputable def XU:List Int->List Int->Bool
 | [],[]=>false
 | [],_::_=>true
 | _::_,[]=>false
 | a::as,b::bs=>if a=b then XU as bs else decide (a<b)
theorem Zhl:∀a,XU a a=false
 | []=>rfl
 | a::as=>by unfold XU;rw[if_pos rfl];exact Zhl as
theorem Zdv:∀a b c,XU a b=true->XU b c=true->XU a c=true
 | [],[],_,h,_=>by cases h
 | [],_::_,[],_,h=>by cases h
 | [],_::_,_::_,_,_=>rfl
 | _::_,[],_,h,_=>by cases h
 | _::_,_::_,[],_,h=>by cases h
 | a::as,b::bs,c::cs,h1,h2=>by
  unfold XU at h1 h2⊢;split at h1
  ·rename_i e;subst e
   split at h2
   ·rename_i e;subst e;rw[if_pos rfl];exact Zdv as bs cs h1 h2
   ·simp_all
  ·split at h2
   ·simp_all
   ·grind
theorem Zcb:∀a b,a≠b->XU a b=false->XU b a=true
 | [],[],n,_=>absurd rfl n
 | [],_::_,_,h=>by cases h
 | _::_,[],_,_=>rfl
 | a::as,b::bs,n,h=>by
  unfold XU at h⊢;split at h
  ·rename_i e;subst e;rw[if_pos rfl]
   exact Zcb as bs (λz=>n (by rw[z])) h
  ·simp at h
   grind
theorem Zee (h:XU a b=true):XU b a=false:=by
 cases e:XU b a with
 | false=>rfl
 | true=>have:=Zdv _ _ _ h e;rw[Zhl]at this;cases this
noncomputable def Wz (a b:List Int):Bool:=!XU b a
theorem Zmb (h1:Wz a b=true)(h2:Wz b a=true):a=b:=by
 unfold Wz at h1 h2;simp at h1 h2;by_cases e:a=b
 ·exact e
 ·rw[Zcb a b e h2]at h1;cases h1
theorem Zp4 (a b c:List Int)(h1:Wz a b=true)(h2:Wz b c=true):Wz a c=true:=by
 unfold Wz at h1 h2⊢;simp at h1 h2⊢;by_cases e1:a=b
 ·simp_all
 ·by_cases e2:b=c
  ·simp_all
  ·exact Zee (Zdv _ _ _ (Zcb b a (qJ e1) h1) (Zcb c b (qJ e2) h2))
theorem Zp5 (a b:List Int):(Wz a b||Wz b a)=true:=by
 unfold Wz
 cases e:XU b a with
 | false=>rfl
 | true=>rw[Zee e];rfl
theorem Zef:∀{a b:List (List Int)},a.Perm b->a.Pairwise (λx y=>Wz x y=true)->b.Pairwise (λx y=>Wz x y=true)->a=b
 | [],b,p,_,_=>(List.nil_perm.mp p).symm
 | x::a,[],p,_,_=>absurd p.length_eq (by simp)
 | x::a,y::b,p,ha,hb=>by
  have ha':=zO.mp ha;have hb':=zO.mp hb;have e:x=y:=by
   have h1:x∈y::b:=p.mem_iff.mp (by simp);have h2:y∈x::a:=p.mem_iff.mpr (by simp);rcases qB.mp h1 with h1 | h1
   ·exact h1
   ·rcases qB.mp h2 with h2 | h2
    ·exact h2.symm
    ·exact Zmb (ha'.1 y h2) (hb'.1 x h1)
  subst e;rw[Zef (List.Perm.cons_inv p) ha'.2 hb'.2]
noncomputable def W4 (jZ:List (List Int)):List (List Int):=jZ.mergeSort Wz
theorem ZbO (jZ:List (List Int)):(W4 jZ).Perm jZ:=List.mergeSort_perm jZ _
theorem Zga (jZ:List (List Int)):(W4 jZ).Pairwise (λx y=>Wz x y=true):=List.pairwise_mergeSort Zp4 Zp5 jZ
theorem ZbP (p:a.Perm jZ)(h:a.Pairwise (λx y=>Wz x y=true)):a=W4 jZ:=Zef (p.trans (ZbO jZ).symm) h (Zga jZ)
noncomputable def Vk (h:Heap)(v:Value)(ns:List Int):Prop:=∃a xs,v=.ref a/\h.IsTuple a (zJ xs)/\IntsAre xs ns
section
variable {prog:xD}{w:World}{A:xE}{E:xF}{s:Shared}
theorem Zo6:∀{as bs:List Int} {xs ys:List Value} (i:Nat),IntsAre xs as->IntsAre ys bs->fin=decide (as.length<bs.length)->Q (XU as bs) s->KatLex prog w A true fin Q (xs.zip ys) i s
 | [],[],_,_,i,.nil,.nil,e,h=>by subst e;exact kat_nil h
 | [],_::_,_,_,i,.nil,.cons _ _ _,e,h=>by subst e;exact kat_nil h
 | _::_,[],_,_,i,.cons _ _ _,.nil,e,h=>by subst e;exact kat_nil h
 | a::as,b::bs,_,_,i,.cons _ t hx,.cons _ u hy,e,h=>by
  unfold XU at h;refine kat_cons (wpAny_eqBool_int ?_);by_cases q:a=b
  ·rw[if_pos q]at h
   rw[show(a==b)=true by simp[q]];exact kat_yes (Zo6 (i+1) hx hy (by rw[e];simp) h)
  ·rw[if_neg q]at h
   rw[show(a==b)=false by simp[q]];refine kat_no ?_;by_cases hi:i=0
   ·subst hi
    exact oneLt_int h
   ·rw[show(true&&i==0)=false by simp[hi]]
    exact kat_one _ _ (lt_int h)
theorem ZqX (hx:Vk s.heap x as)(hy:Vk s.heap y bs)(h:C (XU as bs) s):xf (xB prog w) A (keyLt' (tuples' true) x y) C E s:=by
 obtain⟨a,xs,rfl,⟨o,ho,hc,n,hd⟩,ix⟩:=hx;obtain⟨b,ys,rfl,⟨o',ho',hc',n',hd'⟩,iy⟩:=hy;refine kat_lt ho hd ho' hd' ?_;have e:decide ((zJ xs).size<(zJ ys).size)=decide (as.length<bs.length):=by rw[ze,ze,ix.length,iy.length]
 exact Zo6 0 ix iy e h
theorem Zmc:∀{vs:List Value} {jZ:List (List Int)},Paired (Vk h) vs jZ->(∀ns∈jZ,ns≠[])->∃fs,KatTups h vs fs/\fs.length=vs.length/\∀v∈fs,∃n t,v=qaX n t
 | _,_,.nil,_=>⟨[],.nil,rfl,λ_ z=>by simp at z⟩
 | _,_,.cons hv r,hne=>by
  obtain⟨fs,h1,h2,h3⟩:=Zmc r λns' m=>hne ns' (qW _ m);obtain⟨a,xs,rfl,⟨o,ho,hc,n,hd⟩,ix⟩:=hv
  cases ix with
  | nil=>simp_all
  | cons m t r'=>
   refine⟨.int m t::fs,.cons ho hc hd (by simp) h1,by simp[h2],λv hv=>?_⟩
   grind
theorem Zp6 (h:Paired (Vk s.heap) vs jZ)(hne:∀ns∈jZ,ns≠[])(h0:0<vs.length)(q:Q (tuples' true) s):xf (xB prog w) A (keyKind' vs.toArray) Q E s:=by
 obtain⟨fs,h1,h2,h3⟩:=Zmc h hne;refine kat_kind (T:=.type "int") h1 (by omega) (λv hv=>?_) rfl ?_
 ·obtain⟨n,t,rfl⟩:=h3 v hv
  exact Looks.of_pure rfl
 ·exact q
theorem Vk.at (k:∀c o,c≠b->h.get? c=some o->h'.get? c=some o)(hb:∃o,h.get? b=some o/\o.cls=.type "list")(x:Vk h v ns):Vk h' v ns:=by
 obtain⟨a,xs,e,⟨o,ho,hc,r⟩,i⟩:=x;refine⟨a,xs,e,⟨o,k a o (λz=>?_) ho,hc,r⟩,i⟩
 grind
theorem jt {F:α->β->Prop}:∀{l:List α} {r:List β} {i:Nat} (d:α) (d':β),Paired F l r->i<l.length->F (l.getD i d) (r.getD i d')
 | _,_,i,_,_,.nil,e=>absurd e (by simp)
 | _,_,0,_,_,.cons h t,e=>h
 | _,_,i+1,d,d',.cons h t,e=>by
  have:=jt d d' t (i:=i) (by simp_all);simpa using this
theorem range_getD {α:Type}(vs:List α)(d:α):((qm vs.length).map λi=>vs.getD i d)=vs:=by
 refine List.ext_getElem (by simp) λi h1 h2=>?_;simp[h2]
theorem Zoh (vs:List Value)(κ:SortKind):(arrOf (SortSt.mk' κ (vs.toArray.zip vs.toArray) #[] 7 none)).map (·.2)=zJ ((zJ (qm vs.length)).toList.map λi=>vs.getD i zk):=by
 apply Array.toList_inj.mp;rw[range_getD,Array.toList_map];show(pairsOf vs).toList.map Prod.snd=_;rw[pairsOf_toList];exact List.map_snd_zip (qk _)
theorem Zhm (ho:s.heap.get? a=some (seqObj "list" vs.toArray n))(ht:Paired (Vk s.heap) vs jZ)(h64:vs.length<64)(nd:jZ.Nodup)(hne:2<=vs.length->∀ns∈jZ,ns≠[])
  (h:∀p:Array Nat,p.toList.Perm (qm vs.length)->(p.toList.map λi=>jZ.getD i [])=W4 jZ->P (.done (.ret .none)) { s with heap:=sortedHeap s.heap a vs (zJ (p.toList.map λi=>vs.getD i zk)) }) :
  xf (xB prog w) A (Builtin.«list.sort» ⟨[.ref a],[]⟩) P E s:=by
 have jV:vs.length=jZ.length:=yO ht;rw[list_sort_plain];have ha:a<s.heap.objs.size:=qy ho;refine xa (listItems_at ho rfl ?_);refine xa (listUpdate_at ho rfl ?_);obtain⟨e1,ho1⟩:∃e1,(s.heap.update a (zq λ_=>#[])).get? a=some (seqObj "list" #[] e1):=⟨_,get?_update_seq ho (λ_=>#[])⟩;refine xa (seqEpoch_at ho1 rfl ?_);refine xa (wpAny_newTuple ?_);refine xa (wpAny_newList ?_);refine xw ?_;have ho6:(((s.heap.update a (zq λ_=>#[])).push (seqObj "tuple" vs.toArray 0)).push (seqObj "list" #[] 0)).get? a=some (seqObj "list" #[] e1):=qj _ (qj _ ho1);have kk:∀c o,c≠a->s.heap.get? c=some o->(((s.heap.update a (zq λ_=>#[])).push (seqObj "tuple" vs.toArray 0)).push (seqObj "list" #[] 0)).get? c=some o:=λc o hc e=>qj _ (qj _ (by rw[qcf _ _ _ _ hc];exact e));have ht2:Paired (Vk (((s.heap.update a (zq λ_=>#[])).push (seqObj "tuple" vs.toArray 0)).push (seqObj "list" #[] 0))) vs jZ:=L2.Paired.mapP ht λv ns x=>x.at kk ⟨_,ho,rfl⟩;show xf (xB prog w) A _ P E { s with heap:=((s.heap.update a (zq λ_=>#[])).push (seqObj "tuple" vs.toArray 0)).push (seqObj "list" #[] 0) };dsimp only;have hsz:vs.toArray.size=vs.length:=by simp
 by_cases h2:vs.toArray.size<2
 ·rw[if_pos h2,if_pos h2];refine xa (xb ?_);rw[StateT.run_pure]
  refine xa (xb ?_);dsimp only;refine xa (seqEpoch_at ho6 rfl ?_);refine xa (listUpdate_at ho6 rfl ?_ (hsz2:=by rw[Array.size_map];show(pairsOf vs).size<=_;rw[pairsOf_size,sizeLine_eq];omega));simp only[bne_self_eq_false,qaZ,if_false];have eo:(arrOf (SortSt.mk' general' (vs.toArray.zip vs.toArray) #[] 7 none)).map (·.2)=zJ ((zJ (qm vs.length)).toList.map λi=>vs.getD i zk):=by
   exact Zoh vs general'
  rw[eo];refine xb (h _ (by simp) ?_)
  match jZ,(by omega:jZ.length<2),jV with
  | [],_,hl=>
   simp only[yY]at hl;rw[hl];exact ZbP (by simp) (by simp)
  | [x],_,hl=>
   simp only[zb,yY]at hl;rw[hl];exact ZbP (by simp) (by simp)
 ·rw[if_neg h2,if_neg h2]
  have h2':2<=vs.length:=by omega
  refine xa (Zp6 (s:={ s with heap:=((s.heap.update a (zq λ_=>#[])).push (seqObj "tuple" vs.toArray 0)).push (seqObj "list" #[] 0) }) ht2 (hne h2') (by omega) ?_)
  let lt:Nat->Nat->Bool:=λi j=>XU (jZ.getD i []) (jZ.getD j [])
  have hord:Ord lt vs.length:=⟨λx y z=>Zdv _ _ _,λx y hx hy hxy=>Zcb _ _ λz=>hxy ?_⟩
  ·have wp:=jH (s:={ s with heap:=((s.heap.update a (zq λ_=>#[])).push (seqObj "tuple" vs.toArray 0)).push (seqObj "list" #[] 0) }) (cmp:=kas_ask prog w A (tuples' true) vs) (R:=λq s'=>(Pm vs.length q/\So lt q vs.length)/\s' = { s with heap:=((s.heap.update a (zq λ_=>#[])).push (seqObj "tuple" vs.toArray 0)).push (seqObj "list" #[] 0) }) (λi j hi hj C hC=>ZqX (jt _ [] ht2 hi) (jt _ [] ht2 hj) hC) (λq hq=>⟨hq,rfl⟩) (Zog hord (by omega))
   refine xa (xc (kat_run (ks:=vs) (vs:=vs) (Q:=λst' s'=>∃p:Array Nat,(Pm vs.length p/\So lt p vs.length)/\arrOf st'=p.map (kas_item (vs.toArray.zip vs.toArray))/\failedOf st'=none/\s' = { s with heap:=((s.heap.update a (zq λ_=>#[])).push (seqObj "tuple" vs.toArray 0)).push (seqObj "list" #[] 0) }) rfl h2' h64 (λp' st' s' a1 a2 a3 a4=>⟨p',a4.1,a2,a3,a4.2⟩) wp) ?_ λ_ _ e=>e);rintro⟨⟨⟩,st'⟩ s' ⟨p,⟨hpm,hso⟩,har,hf,rfl⟩;dsimp only;have hout:=kat_snds (ks:=vs) (vs:=vs) rfl har;have hps:p.toList.length=vs.length:=by rw[zX];exact hpm.size
   rw[hout];refine xa (seqEpoch_at ho6 rfl ?_);refine xa (listUpdate_at ho6 rfl ?_ (hsz2:=by rw[ze,qe,hps,sizeLine_eq];omega));rw[hf];simp only[bne_self_eq_false,qaZ,if_false];refine xb (h p hpm.pm (ZbP ?_ ?_))
   ·have e:=(hpm.pm).map (λi=>jZ.getD i [])
    rw[jV]at e;rw[range_getD]at e;exact e
   ·rw[zQ]
    intro i j hi hj hij;have hj':j<vs.length:=by rw[qe,hps]at hj;exact hj
    have:=hso i j hij hj';have e1:g p i=p.toList[i]'(by rw[hps];omega):=by unfold g;simp[Array.getD,show i<p.size by rw[hpm.size];omega]
    have e2:g p j=p.toList[j]'(by rw[hps];omega):=by unfold g;simp[Array.getD,show j<p.size by rw[hpm.size];omega]
    rw[e1,e2]at this;rw[qbv,qbv];unfold Wz;rw[Zee this];rfl
  ·have hx':x<jZ.length:=by omega
   have hy':y<jZ.length:=by omega
   have e1:jZ.getD x []=jZ[x]:=by simp[hx']
   have e2:jZ.getD y []=jZ[y]:=by simp[hy']
   rw[e1,e2]at z;have pw:=zQ.mp nd;rcases qau x y with q | q | q
   ·exact absurd z (pw x y hx' hy' q)
   ·exact q
   ·exact absurd z.symm (pw y x hy' hx' q)
end
section
variable {prog:xD}{w:World}{A:xE}{E:xF}{s:Shared}
theorem Zmd (hl:s.heap.IsList l vs.toArray)(ht:Paired (Vk s.heap) vs jZ)(h64:vs.length<64)(nd:jZ.Nodup)(hne:2<=vs.length->∀ns∈jZ,ns≠[])
  (h:∀p:Array Nat,p.toList.Perm (qm vs.length)->(p.toList.map λi=>jZ.getD i [])=W4 jZ->Q (.ref (s.heap.objs.size+1)) { s with heap:=sortedAll s.heap vs (zJ (p.toList.map λi=>vs.getD i zk)) }):xf (xB prog w) A (call (.builtin "sorted") [.ref l]) Q E s:=by
 refine Calls.call_function_entry kind_sorted plain_sorted entry_sorted (args_sorted1 _) ?_;unfold Builtin.«sorted»;refine xa (m:=checkCount "sorted" 1 1 _) (xb ?_);refine xa (collect_list hl ?_ (by rw[sizeLine_eq];omega));refine xa (wpAny_newList ?_);have z1:((s.heap.push (seqObj "list" #[] 0)).update s.heap.objs.size (zq (· ++ vs.toArray))).objs.size=s.heap.objs.size+1:=by rw[Heap.size_update,size_push']
 have g1:(((s.heap.push (seqObj "list" #[] 0)).update s.heap.objs.size (zq (· ++ vs.toArray))).push (seqObj "list" vs.toArray 0)).get? (s.heap.objs.size+1)=some (seqObj "list" vs.toArray 0):=by rw[<-z1];exact qE _ rfl
 have kp:∀c o,c≠s.heap.objs.size->s.heap.get? c=some o->(((s.heap.push (seqObj "list" #[] 0)).update s.heap.objs.size (zq (· ++ vs.toArray))).push (seqObj "list" vs.toArray 0)).get? c=some o:=λc o hc e=>qj _ (by rw[qcf _ _ _ _ hc];exact qj _ e);have ht2:Paired (Vk (((s.heap.push (seqObj "list" #[] 0)).update s.heap.objs.size (zq (· ++ vs.toArray))).push (seqObj "list" vs.toArray 0))) vs jZ:=L2.Paired.mapP ht λv ns ⟨a,xs,e,⟨o,ho,r⟩,i⟩=>⟨a,xs,e,⟨o,kp a o (qK (qy ho)) ho,r⟩,i⟩;rw[z1];refine xa (xw (wpAny_call_entry slot_list_sort ⟨_,g1,rfl⟩ entry_list_sort (Zhm g1 ht2 h64 nd hne λp a1 a2=>⟨_,rfl,?_⟩) (args_list_sort _)));exact xb ⟨_,rfl,h p a1 a2⟩
end
theorem Paired.pick {F:α->β->Prop}{l:List α}{r:List β}(d:α)(d':β)(h:Paired F l r):∀(ix:List Nat),(∀i∈ix,i<l.length)->Paired F (ix.map λi=>l.getD i d) (ix.map λi=>r.getD i d')
 | [],_=>.nil
 | i::ix,hb=>.cons (jt d d' h (hb i (by simp))) (Paired.pick d d' h ix λj m=>hb j (qW _ m))
end TS
namespace TF
open L2 TS
section
variable {X:Cx}{G:Gh}
theorem Zfy {σ:St}(I:Inv X jN σ H s)(hT:∀v ns,T v ns->∃a,v=.ref a/\Z0 X.K H a (ns.map V.int)):∀{vs:List V} {jR:List Value} {jZ:List (List Int)},ZH vs jR->Paired T vs jZ->Paired (Vk s.heap) jR jZ
 | _,_,_,.nil,.nil=>.nil
 | _,_,_,.cons r rr,.cons t tt=>by
  refine .cons ?_ (Zfy I hT rr tt);obtain⟨a,rfl,hq⟩:=hT _ _ t
  cases r
  obtain⟨xs,rv,pl,hz⟩:=I.tuple hq;exact⟨a,xs,rfl,show s.heap.IsTuple a xs.toArray from pl,Zaq rv⟩
theorem Zhn:Wg X (.builtin "sorted") (λxs H Q=>∃(p:Addr) (vs:List V) (jZ:List (List Int)) (T:V->List Int->Prop),xs=[.ref p]/\ZV X.K H p vs/\(∀v ns,T v ns->∃a,v=.ref a/\Z0 X.K H a (ns.map V.int))/\Paired T vs jZ/\
  jZ.length<64/\jZ.Nodup/\(2<=jZ.length->∀ns∈jZ,ns≠[])/\∀l vs',Paired T vs' (W4 jZ)->H l=none->Q (.ref l) (Zs H l (.lst vs'))):=by
 intro jN s σ H xs us Q I r h;obtain⟨p,vs,jZ,T,rfl,hp,hT,pT,h64,nd,hne,q⟩:=h;obtain⟨u,rfl,ru⟩:=WZ r
 cases ru
 obtain⟨jR,rv,pl,hz⟩:=I.list hp;have hl:=rv.length;have hl2:vs.length=jZ.length:=yO pT;refine Zmd pl.isList (Zfy I hT rv pT) (by omega) nd (λz=>hne (by omega)) λpm a1 a2=>?_;obtain⟨e,he⟩:=sortedAll_at s.heap jR (zJ (pm.toList.map λi=>jR.getD i zk));have hle:s.heap.objs.size<=s.heap.objs.size+1:=Nat.le_succ _;have hb:∀i∈pm.toList,i<jR.length:=λi m=>by
  have:=a1.mem_iff.mp m;simp_all
 have pv:ZH (pm.toList.map λi=>vs.getD i V.non) (pm.toList.map λi=>jR.getD i zk):=TS.Paired.pick _ _ rv _ λi m=>by rw[hl];exact hb i m
 have pt:Paired T (pm.toList.map λi=>vs.getD i V.non) (pm.toList.map λi=>jZ.getD i []):=TS.Paired.pick _ _ pT _ λi m=>by rw[hl];exact hb i m
 rw[a2]at pt;refine⟨.ref (s.heap.objs.size+1),_,I.laid (o:=.lst (pm.toList.map λi=>vs.getD i V.non)) (λ_ _=>sortedAll_old) hle ⟨?_,_,e,pv,he⟩,rfl,q _ _ pt (I.hok.fresh hle)⟩;have:=a1.length_eq
 grind
noncomputable def X9 (ns:List Int):D:=.tup (ns.map .int)
noncomputable def VQ:List D->Option (List (List Int))
 | []=>some []
 | .tup ds::r=>match Yc ds,VQ r with | some ns,some jZ=>some (ns::jZ) | _,_=>none
 | _::_=>none
theorem Zeg:∀jZ:List (List Int),VQ (jZ.map X9)=some jZ
 | []=>rfl
 | ns::jZ=>by
  show(match Yc (ns.map D.int),VQ (jZ.map X9)with | some ns,some jZ=>some (ns::jZ) | _,_=>none)=_;rw[Zar,Zeg jZ]
theorem Zfz:∀{ds:List D} {jZ:List (List Int)},VQ ds=some jZ->ds=jZ.map X9
 | [],jZ,h=>by
  cases h;rfl
 | d::r,jZ,h=>by
  cases d with
  | tup ds=>
   have h:(match Yc ds,VQ r with | some ns,some jZ=>some (ns::jZ) | _,_=>none)=some jZ:=h
   cases e1:Yc ds with
   | none=>simp_all
   | some ns=>
    cases e2:VQ r with
    | none=>simp_all
    | some ms=>
     rw[e1,e2]at h;cases h;rw[qS,<-Zfz e2];unfold X9;rw[<-UF e1]
  | _=>cases h
noncomputable def UQ (jZ:List (List Int)):Prop:=jZ.length<64/\jZ.Nodup/\(2<=jZ.length->∀ns∈jZ,ns≠[])
noncomputable instance (jZ:List (List Int)):Decidable (UQ jZ):=by unfold UQ;infer_instance
noncomputable def Zdw:List D->Option D
 | [.lst ds]=>match VQ ds with | some jZ=>if UQ jZ then some (.lst ((W4 jZ).map X9))else none | none=>none
 | _=>none
theorem ZfA:∀{jZ:List (List Int)} {vs:List V},Zj G Hf (jZ.map X9) vs->Paired (λv ns=>Zo G Hf (X9 ns) v) vs jZ
 | [],vs,h=>by
  rw[Zj.nil_iff.mp h];exact .nil
 | ns::jZ,vs,h=>by
  obtain⟨v,r,rfl,h1,h2⟩:=jd.mp h;exact .cons h1 (ZfA h2)
theorem ZfB:∀{jZ:List (List Int)} {vs:List V},Paired (λv ns=>Zo G Hf (X9 ns) v) vs jZ->Zj G Hf (jZ.map X9) vs
 | _,_,.nil=>Zj.nil_iff.mpr rfl
 | _,_,.cons h t=>.cons h (ZfB t)
theorem Ze1:WO X G (.builtin "sorted") Zdw:=
 ⟨_,Zhn,λHf H s xs ds c Q e1 st r q k=>by
  match ds,q,r with
  | [.lst es],q,r=>
   have q:(match VQ es with | some jZ=>if UQ jZ then some (D.lst ((W4 jZ).map X9))else none | none=>none)=some c:=q
   cases he:VQ es with
   | none=>rw[he]at q;cases q
   | some jZ=>
    rw[he]at q;have q:(if UQ jZ then some (D.lst ((W4 jZ).map X9))else none)=some c:=q;split at q
    ·rename_i ok
     cases q
     obtain⟨v,rfl,rv⟩:=ji r;obtain⟨p,vs,rfl,np,hp,rp⟩:=jb.mp rv;rw[Zfz he]at rp;refine⟨p,vs,jZ,λv ns=>Zo G Hf (X9 ns) v,rfl,ZV.of (e1 _ _ np hp),λv ns h=>?_,ZfA rp,ok.1,ok.2.1,ok.2.2,λl vs' pt hl=>?_⟩
     ·obtain⟨a,us,rfl,na,ha,ra⟩:=jc.mp h
      rw[jp ra]at ha;exact⟨a,rfl,Z0.of (e1 _ _ na ha)⟩
     ·have nf:=Gh.nofp st hl
      have g2:=Gr.new (o:=.lst vs') e1 hl nf;have rl:=ZfB pt;exact k (.ref l) _ _ g2 (Gh.grow st hl) (jb.mpr ⟨l,_,rfl,nf,Z1,rl.ext g2.ff⟩) (YJ.mk e1 hl nf rl)
    ·cases q⟩
end
end TF
namespace TF
open L2
section
variable {X:Cx}{G:Gh}{own:List Nat}{fr:Bool}
end
section
variable {X:Cx}{G:Gh}
end
section
variable {X:Cx}{G:Gh}{ob:List Nat}{fr:Bool}
end
section
variable {X:Cx}{G:Gh}{ob own:List Nat}{fr:Bool}
noncomputable def BE (c:Ze->M Bool)(g:Ze->M Out):Nat->Ze->M Out
 | 0,_=>ZS
 | n+1,ρ=>Zp (c ρ) λb=>if b=true then Zp (g ρ) λo=>match o with | .nx ρ2=>BE c g n ρ2 | .ct ρ2=>BE c g n ρ2 | .bk ρ2=>ZJ (.nx ρ2) | .rt d=>ZJ (.rt d)else ZJ (.nx ρ)
noncomputable def Zme (n:Nat)(c:Ze->M Bool)(g:Ze->M Out):Ze->M Out:=BE c g n
theorem ZkF (hp:PassesOwn (xB X.prog X.w) X.A X.env X.xe)(hc:XW X G c fc)(hb:X6 X G own own own fr body g):YS X G ob own own fr (.While c body [] pos) (Zme n fc g):=by
 obtain⟨tc,pc,qc⟩:=hc;obtain⟨tb,pb,qb⟩:=hb;refine⟨_,ZgL hp pc pb,λkn jT H0 σ H ρ s out s' E ⟨Hf,j⟩ st e po=>?_⟩;refine⟨λm σ2 H2=>∃ρ2 s2,J G own kn jT H0 σ2 H2 ρ2/\G.st s2 H2/\BE fc g m ρ2 s2=some (out,s'),⟨n,ρ,s,⟨Hf,j⟩,st,e⟩,?_⟩;rintro m σ2 H2 ⟨ρ2,s2,⟨j6,j2⟩,j8,eq2⟩
 cases m with
 | zero=>cases eq2
 | succ m=>
  obtain⟨b,s3,a1,a2⟩:=Zy eq2;refine qc σ2 _ H2 ρ2 s2 b s3 _ Jq j2.envB j8 a1 λHf' H' g' st'=>?_;obtain⟨F,j',fF,q1,q2⟩:=j2.growB g'
  cases b with
  | false=>
   obtain⟨rfl,rfl⟩:=ZM a2;exact VV (po σ2 H' ⟨F,j'⟩ st')
  | true=>
   rw[if_pos rfl]at a2;obtain⟨o,s4,b3,b4⟩:=Zy a2;refine VW ⟨fun σ' H'=>∃ρ5 s5,J G own kn jT H0 σ' H' ρ5/\G.st s5 H'/\BE fc g m ρ5 s5=some (out,s'),fun σ' H' h=>⟨m,yk m,h⟩,?_⟩;refine qb kn jT H0 σ2 H' ρ2 s3 o s4 _ ⟨F,j'⟩ st' b3 ?_
   cases o with
   | nx ρ5=>exact fun σ5 H5 j5 st5=>⟨ρ5,s4,j5,st5,b4⟩
   | ct ρ5=>exact fun σ5 H5 j5 st5=>⟨ρ5,s4,j5,st5,b4⟩
   | bk ρ5=>
    obtain⟨rfl,rfl⟩:=ZM b4;exact fun σ5 H5 j5 st5=>po σ5 H5 j5 st5
   | rt d=>
    obtain⟨rfl,rfl⟩:=ZM b4;exact po
end
section
variable {X:Cx}{G:Gh}{ob own:List Nat}{fr:Bool}
noncomputable def minI (n:Int)(r:List Int):Int:=r.foldl min n
theorem Zoi (r:List Int):∀n,minI n r<=n/\∀a∈r,minI n r<=a:=by
 induction r with
 | nil=>intro n;exact⟨qct _,by simp⟩
 | cons b r ih=>
  intro n;obtain⟨h1,h2⟩:=ih (min n b);refine⟨?_,λa ha=>?_⟩
  ·show minI (min n b) r<=n;omega
  ·show minI (min n b) r<=a
   grind
theorem Zmf (r:List Int):∀n,minI n r∈n::r:=by
 induction r with
 | nil=>simp[minI]
 | cons b r ih=>
  intro n;show minI (min n b) r∈n::b::r
  grind
theorem min_uniq {M:Int}(h1:M∈n::r)(h2:∀a∈n::r,M<=a):M=minI n r:=by
 obtain⟨g1,g2⟩:=Zoi r n;have g3:=h2 _ (Zmf r n)
 grind
noncomputable def Zp7 (K:qd):V->List V->Hp->VK->Prop:=λx vs H Q=>∃(p:Addr) (ns:List Int) (k:Int),x=.ref p/\vs=[.int k]/\ZV K H p (ns.map V.int)/\k∈ns/\Q (.int (ns.idxOf k:Nat)) H
theorem Zmg : MtR X "list.index" (Zp7 X.K) := by
  intro jN s σ H x xs v us Q I rx rv h;obtain⟨p, ns, k, rfl, rfl, hp, hk, q⟩ := h
  cases rx
  obtain⟨u, rfl, t, rfl⟩ := WZ rv;obtain⟨jR, r2, pl, hz⟩ := I.list hp;have hi : IntsAre jR ns := Zaq r2;obtain⟨⟨c0, d0, dat, sl0⟩, hob, hcl, n0, hdat⟩ := id pl.isList;simp only at hcl hdat;subst hcl hdat;have l1 := hi.length;have l2 : ns.idxOf k < ns.length := by rw[qbw]; exact hk
  have l3 : ns.length <= xg := by simpa using hz
  have l4 := ZdJ;have go := SeqAt.list_indexAt p jR.toArray n0 d0 sl0 (.int k t) (isInt k) (ns.idxOf k) (by simpa[l1] using l2) (by omega)
    (by show isInt k jR[ns.idxOf k] = true
        rw[isInt_at k hi (ns.idxOf k) (by omega) l2]; simp)
    (λj hjs hlt => by
        show isInt k jR[j] = false;rw[isInt_at k hi j (by omega) (by omega)]; exact ne_of_lt_idxOf hlt _)
  refine call_meets qbH ⟨_, hob, rfl⟩ PySem.F.entry_list_index (PySem.F.args_list_index_2 _ _) go ⟨hob, λy hy => (eq_isInt k t hi y (by simp_all)).at _ _, ?_⟩;exact⟨.int (ns.idxOf k : Nat), H, I.tok _, ⟨_, rfl⟩, q⟩
noncomputable def Zp8:D->D->Option D
 | .lst ds,.int k=>(Yc ds).bind λns=>if k∈ns then some (.int (ns.idxOf k:Nat))else none
 | _,_=>none
end
section
variable {X:Cx}{G:Gh}{ob own:List Nat}{fr:Bool}
noncomputable def Zo7 (d e:D):Option D:=match e with | .non=>(JQ d).map λb=>.bl (!b) | _=>none
theorem Zmh:Y4 X G (xk .IsNot) Zo7:=
 ⟨_,Znz,λHf H s x y d e c Q e1 st rx ry q k=>by
  cases e with
  | non=>
   have q:(JQ d).map (λb=>D.bl (!b))=some c:=q
   cases hb:JQ d with
   | none=>simp_all
   | some b=>
    rw[hb]at q
    cases q
    refine⟨jg.mp ry,?_⟩;rw[Zfx hb rx];exact k _ Hf H (.refl e1) st (je.mpr rfl) (.scal λz=>z)
  | _=>cases q⟩
theorem Zmi:PD X G true (.Dict [] [] pos) (dC (.du [])):=by
 refine⟨_,ZlC,fun σ Hf H ρ s d s' Q e1 e2 e3 e4 k=>?_⟩;obtain⟨rfl,rfl⟩:=ZM e4;intro p hp;have nf:=Gh.nofp e3 hp;have g2:=Gr.new (o:=.dT []) e1 hp nf;exact k (.ref p) _ _ g2 (Gh.grow e3 hp) (jm.mpr ⟨p,rfl,nf,Z1⟩) λ_ a ea _=>by simp_all
noncomputable def keyT:D->Option (List Ye)
 | .tup ks=>Wq ks
 | _=>none
noncomputable def Zho (i:Nat)(fx fv:Ze->M D):Ze->M Out:=fun ρ=>Zp (fv ρ) λv=>Zp (fx ρ) λx=>match (ρ[i]?).bind id with
 | some (.du kvs)=>match keyT x,Ul v with | some k,some w=>if kvs.length<xg then ZJ (.nx (ρ.set i (some (.du (Y3 kvs k w)))))else ZS | _,_=>ZS
 | _=>ZS
theorem ZkG (hu:X.A.units+1<cLine)(hi:i∈own)(hn:PE X (.Name x p1) (Yd i))(px:PE X ex tx)(yx:JT G own r1 tx fx)(pv':PE X ev tv)(yv:JT G own r2 tv fv)
  (hs:xr ev (some (.Subscript (.Name x p1) ex p2)) pos.line X.env=pure false) :
  YS X G ob own own fr (.Assign [.Subscript (.Name x p1) ex p2] ev pos) (Zho i fx fv):=by
 refine⟨_,ZnN hu hn px pv' hs,λkn jT H0 σ H ρ s out s' E ⟨Hf,j⟩ st e po=>?_⟩;obtain⟨v,s1,a1,a2⟩:=Zy e;obtain⟨xx,s2,a3,a4⟩:=Zy a2;refine yv kn jT H0 σ Hf H ρ s v s1 _ j st a1 λw jX H1 j1 e1 e2 jY r1 _=>?_
 cases hb:(ρ[i]?).bind id with
 | none=>rw[hb]at a4;cases a4
 | some c=>
  rw[hb]at a4
  cases c with
  | du kvs=>
   have a4':(match keyT xx,Ul v with | some k,some w=>if kvs.length<xg then ZJ (Out.nx (ρ.set i (some (.du (Y3 kvs k w)))))else ZS | _,_=>ZS) s2=some (out,s'):=a4
   cases hk:keyT xx with
   | none=>rw[hk]at a4';cases a4'
   | some k=>
    cases hw:Ul v with
    | none=>rw[hk,hw]at a4';cases a4'
    | some w'=>
     rw[hk,hw]at a4';obtain⟨hl,a5⟩:=XC a4';obtain⟨rfl,rfl⟩:=ZM a5;have ei:=ZfY hb;obtain⟨a,h1,h2,h3,h4,h5⟩:=j1.ow i _ hi ei;refine⟨_,h1,?_⟩;refine yx kn jT H0 σ jX H1 ρ s1 _ _ _ j1 jY a3 λw2 j6 H2 j2 e3 e4 j8 r2 _=>?_;obtain⟨a',h1',h2',h3',h4',h5'⟩:=j2.ow i _ hi ei;rw[h1]at h1';cases h1';have ew:=Zfr hw r1;subst ew
     match xx,hk,r2 with
     | .tup ks,hk,r2=>
      obtain⟨q,vs,rfl,nq,hq,rq⟩:=jc.mp r2;have ey:=Zas (show Wq ks=some k from hk) rq;subst ey;refine⟨a,_,rfl,Uq.t (show H2 a=some (.dT kvs)from h5') (j2.gr.fh _ _ nq hq) (by omega),?_⟩;exact po σ _ ⟨j6,j2.put hi ei h1 (show Zs H2 a (.dT (Y3 kvs k w)) a=some (.dT (Y3 kvs k w))from Z1)⟩ (jz j8 h2)
  | _=>cases a4
theorem ZiN (hu:X.A.units+1<cLine)(hi:i∈own)(hn:PE X (.Name x p1) (Yd i))(hx:PD X G r1 ex fx)(hv:PD X G r2 ev fv)
  (hs:xr ev (some (.Subscript (.Name x p1) ex p2)) pos.line X.env=pure false:=by rfl) :
  YS X G ob own own fr (.Assign [.Subscript (.Name x p1) ex p2] ev pos) (Zho i (fun ρ=>fx (Yg own ρ)) (fun ρ=>fv (Yg own ρ))):=by
 obtain⟨tv,pv',qv⟩:=hv;obtain⟨tx,px,qx⟩:=hx;have yv:WI G r2 tv fv:=qv;have yx:WI G r1 tx fx:=qx;exact ZkG hu hi hn px yx.a pv' yv.a hs
end
end TF
namespace HT
section
variable {prog:xD}{w:World}{A:xE}{E:xF}{s:Shared}
end
end HT
namespace TF
open L2
section
variable {X:Cx}{G:Gh}
end
end TF
namespace HT
section
variable {prog:xD}{w:World}{A:xE}{R:Result->Shared->Prop}{I:Addr}{fp wr:List Addr}{n:Nat}{P:Nat->Value->Prop}{St:Nat->Heap->Prop}
end
section
variable {prog:xD}{w:World}{A:xE}{E:xF}{s:Shared}
end
section
variable {prog:xD}{w:World}{A:xE}{R:Result->Shared->Prop}{I:Addr}{fp wr:List Addr}{n:Nat}{P:Nat->Value->Prop}{St:Nat->Heap->Prop}
theorem ZkH (kw:List (Str×Value))(W:Walks prog w A.in1 I fp wr n P St)(bt:Nat->Nat->Bool)(hcmp:CmpOf prog w A.in1 .Lt P bt)(S:Addr)(hSf:S∉fp):∀(k j:Nat) (s:Shared) (vb:Value) (c:Nat),n-(j+1)=k->j+1<=n->St (j+1) s.heap->P (argBest bt j) vb->s.heap.get? S=some { cls:=.type "list",dict:=none,data:=.seq #[vb,vb] c,slots:=#[] }->
  (∀v h' tk,P (argBest bt (n-1)) v->(∀b o,b∉wr->b≠S->s.heap.get? b=some o->h'.get? b=some o)->R (.ok (.ret v)) { s with heap:=h',toks:=tk })->xo (xB prog w) A (.builtin "min.loop" ⟨[.ref I,.none,.ref S],kw⟩) R s:=by
 have hSw:S∉wr:=λh=>hSf (W.sub _ h);have hname:(toString "min" ++ toString ".loop" : String) = "min.loop":=by decide
 intro k
 induction k with
 | zero=>
  intro j s vb c hk hj hst hPb hS hR;have hin:j+1=n:=by omega
  refine xm qaz ?_;rw[yf zy _];show xf _ A.in1 (seqItems? (.ref S) >>= _) _ _ s;refine xa (xt hS rfl ?_);show xf _ A.in1 (tryCatch (pyNext (.ref I)) _ >>= _) _ _ s;refine xa (xu (W.done s _ _ (hin▸hst) λh' tk hk'=>?_));have hS':=hk' S _ hSw hS;show xf _ A.in1 (updateSeq S (λ_=>#[]) >>= _) _ _ _;refine xa ?_;refine xz hS' rfl (xa (xy (xb ?_)));refine hR vb _ tk (by rw[<-hin];exact hPb) λb o hbw hbS e=>(zx _ _ (qJ hbS)).trans (hk' b o hbw e)
 | succ k ih=>
  intro j s vb c hk hj hst hPb hS hR;have hlt:j+1<n:=by omega
  refine xm qaz ?_;rw[yf zy _];show xf _ A.in1 (seqItems? (.ref S) >>= _) _ _ s;refine xa (xt hS rfl ?_);show xf _ A.in1 (tryCatch (pyNext (.ref I)) _ >>= _) _ _ s;refine xa (xu (W.item (j+1) s _ _ hlt hst λv h' tk hP hst' hk'=>?_));have hS':=hk' S _ hSw hS;show xf _ A.in1 (tryCatch (holding [v,v] (richCompare .Lt v vb >>= _)) _ >>= _) _ _ _;refine xa (xu (xw (xa (hcmp (j+1) (argBest bt j) v vb _ _ _ hP hPb ?_))));refine xa (xw (wpAny_truthy_bool ?_));refine xa (xy (xb ?_))
  cases hb:bt (j+1) (argBest bt j)with
  | true=>
   simp only[if_true];refine xa ?_;refine xz hS' rfl (xa (xy ?_));rw[hname];refine xb ⟨plainId_quiet zy _,ih (j+1) _ v _ (by omega) hlt (W.frame _ _ _ hst' λb hbf o e=>?_) (by simp only[argBest,hb,if_true];exact hP) (qaG _ hS' rfl) λv' h'' tk'' hP' hk''=>?_⟩
   ·exact(zx _ _ (λh:S=b=>hSf (by rw[h];exact hbf))).trans e
   ·exact hR v' h'' tk'' hP' λb o hbw hbS e=>hk'' b o hbw hbS ((zx _ _ (qJ hbS)).trans (hk' b o hbw e))
  | false=>
   simp only[qaZ,if_false];refine xa (xy ?_);rw[hname];refine xb ⟨plainId_quiet zy _,ih (j+1) _ vb c (by omega) hlt hst' (by simp only[argBest,hb];exact hPb) hS' λv' h'' tk'' hP' hk''=>?_⟩;exact hR v' h'' tk'' hP' λb o hbw hbS e=>hk'' b o hbw hbS (hk' b o hbw e)
theorem ZiO (d:Value)(W:Walks prog w A.in1 I fp wr n P St)(bt:Nat->Nat->Bool)(hcmp:CmpOf prog w A.in1 .Lt P bt)(S:Addr)(hSf:S∉fp)(hst:St 0 s.heap)(hS:s.heap.get? S=some { cls:=.type "list",dict:=none,data:=.seq #[] c,slots:=#[] })
  (hR:0<n->∀v h' tk,P (argBest bt (n-1)) v->(∀b o,b∉wr->b≠S->s.heap.get? b=some o->h'.get? b=some o)->R (.ok (.ret v)) { s with heap:=h',toks:=tk })
  (hD:n=0->∀h' tk,(∀b o,b∉wr->b≠S->s.heap.get? b=some o->h'.get? b=some o)->R (.ok (.ret d)) { s with heap:=h',toks:=tk }):xo (xB prog w) A (.builtin "min.loop" ⟨[.ref I,.none,.ref S],[("default",d)]⟩) R s:=by
 have hSw:S∉wr:=λh=>hSf (W.sub _ h);have hname:(toString "min" ++ toString ".loop" : String) = "min.loop":=by decide
 refine xm qaz ?_;rw[yf zy _];show xf _ A.in1 (seqItems? (.ref S) >>= _) _ _ s;refine xa (xt hS rfl ?_);show xf _ A.in1 (tryCatch (pyNext (.ref I)) _ >>= _) _ _ s;by_cases hn:0<n
 ·refine xa (xu (W.item 0 s _ _ hn hst λv h' tk hP hst' hk'=>?_));have hS':=hk' S _ hSw hS
  show xf _ A.in1 (updateSeq S (λ_=>#[v,v]) >>= _) _ _ _;refine xa ?_;refine xz hS' rfl ?_;rw[hname];refine xb ⟨plainId_quiet zy _,ZkH _ W bt hcmp S hSf _ 0 _ v _ rfl hn (W.frame _ _ _ hst' λb hbf o e=>?_) hP (qaG _ hS' rfl) λv' h'' tk'' hP' hk''=>?_⟩
  ·exact(zx _ _ (λh:S=b=>hSf (by rw[h];exact hbf))).trans e
  ·exact hR hn v' h'' tk'' hP' λb o hbw hbS e=>hk'' b o hbw hbS ((zx _ _ (qJ hbS)).trans (hk' b o hbw e))
 ·have h0:n=0:=by omega
  refine xa (xu (W.done s _ _ (by rw[h0];exact hst) λh' tk hk'=>?_));show xf _ A.in1 (do rule _;ret d) _ _ _;refine xa (wpAny_rule (xb ?_));exact hD h0 h' tk λb o hbw hbS e=>hk' b o hbw e
end
section
variable {prog:xD}{w:World}{A:xE}{E:xF}{s:Shared}
theorem ZkI (x d:Value):argsOk "min" ⟨[x],[("default",d)]⟩:=by rfl
theorem minD_walk (h:xf (xB prog w) A.in1 (pyIter x) (λit s₂=>∃I fp wr n P St bt,it=.ref I/\Walks prog w A.in1 I fp wr n P St/\St 0 s₂.heap/\(∀b∈fp,b<s₂.heap.objs.size)/\CmpOf prog w A.in1 .Lt P bt/\
   (0<n->∀v h' tk,P (argBest bt (n-1)) v->(∀b o,b∉wr->s₂.heap.get? b=some o->h'.get? b=some o)->Q v { s₂ with heap:=h',toks:=tk })/\(n=0->∀h' tk,(∀b o,b∉wr->s₂.heap.get? b=some o->h'.get? b=some o)->Q d { s₂ with heap:=h',toks:=tk })) E s) :
  xf (xB prog w) A (call (.builtin "min") [x] [("default",d)]) Q E s:=by
 have hname:(toString "min" ++ toString ".loop" : String) = "min.loop":=by decide
 refine xA (codeAny_call_builtin PySem.F.plain_min PySem.F.entry_min ?_);simp only[checkBuiltinCall,PySem.F.kind_min];suffices hgo:xf (xB prog w) A.in1 (Builtin.«min» ⟨[x],[("default",d)]⟩) (λfin s'=>match fin with | .done f=>(match (Except.ok f:Result)with | .ok (.ret v)=>Q v s' | .ok _=>False | .error e=>E e s') | .again c'=>c'.quiet=true/\xo (xB prog w) A c' (λr s'=>match r with | .ok (.ret v)=>Q v s' | .ok _=>False | .error e=>E e s') s') E s by
  cases hsig:Manifest.signature? "min" with
  | none=>exact xb hgo
  | some sig=>
   have ha:=ZkI x d;simp only[argsOk,hsig]at ha;have h2:Bind.checkArgs "min" sig ⟨[x],[("default",d)]⟩=pure ():=ha;show xf _ A.in1 (Bind.checkArgs "min" sig ⟨[x],[("default",d)]⟩) _ _ s;rw[h2];exact xb hgo
 show xf _ A.in1 (qa0 "min" ["key","default"] 0 ⟨[],[("default",d)]⟩ >>= _) _ _ s;refine xa (wpAny_of_eq (show qa0 "min" ["key","default"] 0 ⟨[],[("default",d)]⟩=pure [none,some d]from rfl) ?_);refine xa (xb ?_);refine xa (xc h (λit s₂ h₂=>?_) λ_ _ e=>e);obtain⟨I,fp,wr,n,P,St,bt,rfl,W,hst,hfp,hcmp,hQ,hQ0⟩:=h₂;refine xa (xl ?_);have hSf:s₂.heap.objs.size∉fp:=λhm=>yc _ (hfp _ hm);rw[hname];refine xb ⟨plainId_quiet zy _,ZiO d W bt hcmp s₂.heap.objs.size hSf (W.frame _ _ _ hst λb _ o e=>qj _ e) (qE _ rfl) (λhn v h' tk hP hk=>?_) λhn h' tk hk=>?_⟩
 ·exact hQ hn v h' tk hP λb o hbw e=>hk b o hbw (qK (qy e)) (qj _ e)
 ·exact hQ0 hn h' tk λb o hbw e=>hk b o hbw (qK (qy e)) (qj _ e)
end
end HT
namespace L2
section
variable {X:Cx}
theorem Ze2 {id:String}:PySem.W.Looks M h (keeperOf (.builtin id)) Keeper.machine:=λA Q E s _ q=>by
 exact xb q
noncomputable def Zmj (X:Cx)(id:String)(nm:Str)(r:List V->List V->Hp->VK->Prop):Prop:=
 ∀(jN:Qb) (s:Shared) (σ:St) (H:Hp) (xs ys:List V) (us vs:List Value) (Q:VK),Inv X jN σ H s->ZH xs us->ZH ys vs->r xs ys H Q->xf (xB X.prog X.w) X.A (call (.builtin id) us ([nm].zip vs)) (EP X jN σ Q) X.xe s
noncomputable def tCK (r:List V->List V->Hp->VK->Prop)(ta tb:TE):TE:=fun σ H Q=>Uk ta VU σ H λxs H1=>Uk tb VU σ H1 λys H2=>r xs ys H2 Q
theorem ZkJ {id:String}{p pos kpos:Pos}(hc:Zmj X id nm r)(hg:Gl X x)(hm:X.mg x=none)(hv:xj x=some (.builtin id))(ha:PE X e ta)(hb:PE X d tb)
  (hn:x≠"__name__":=by decide) (hdb:(x==("__debug__" : Str))=false:=by decide) (he:xh [e] X.env=(false,eval e X.env)::xh [] X.env:=by rfl)
  (hall:(xp pos (xi [⟨some nm,d,kpos⟩] X.env)).all (·.1.isSome)=true:=by rfl) (hks:(xp pos (xi [⟨some nm,d,kpos⟩] X.env)).filterMap (·.1)=[nm]:=by rfl)
  (hpl:((backTo pos (xh [e] X.env)).any (·.1)||(xp pos (xi [⟨some nm,d,kpos⟩] X.env)).any (·.1.isNone))=false:=by rfl):PE X (.Call (.Name x p) [e] [⟨some nm,d,kpos⟩] pos) (tCK r ta tb):=by
 intro jN s σ H Q I h;refine wpAny_Call_Name_kw (JB I hg hm hv ?_ hn hdb);refine PySem.W.callWith_of (P:=λ_=>True) hpl (λh _=>⟨Keeper.machine,.inr (.inl rfl),Ze2⟩) (evalArgs_kw2 hall (ZK ((Xt ha X4 he) pos jN s σ H _ I h) λus s1 ⟨vs,H1,I1,rv,q1⟩=>?_) he);refine ZK ((ZnG hb ZpF) pos jN s1 σ H1 _ I1 q1) λws s2 ⟨zs,H2,I2,rz,q2⟩=>?_;refine⟨trivial,?_⟩;exact hc jN s2 σ H2 vs zs us ws Q I2 rv rz q2
end
end L2
namespace TF
open L2
section
variable {X:Cx}{G:Gh}
end
end TF
namespace TS
open L2
section
variable {prog:xD}{w:World}{A:xE}{E:xF}{s:Shared}
end
end TS
namespace TF
open L2 TS
section
variable {X:Cx}{G:Gh}
end
end TF
namespace TP2
open L2 TF TP
noncomputable def g_all_near:Ze->M Out:=(Zh (ZL (Yb [none,some 0] (Yt (Zc Zn (Za 0) (dC (.int 0)))) (ZI 0) Yi (Zx Uf (Zb (Za 1) (Zb (Za 0) Zf)))))
 Zq)
noncomputable def F_all_near:List D->M D:=runB 1 1 g_all_near
noncomputable def Ze3:Ze->M Out:=(Zh (ZL (ZO JV (Zb (Yb [none,some 0,some 1] (Xl (Za 2)) (ZI 0) Yi (Zc Xq (Za 0) (Zc Zn (Za 1) (Za 2)))) Zf)))
 Zq)
noncomputable def UB:List D->M D:=runB 3 3 Ze3
noncomputable def Zhp:Ze->M Out:=(Zh (ZT 1 (Yz (Zb (ZB Zf) Zf)))
 (Zh (Xc (Yt (ZO YZ (Zb (Za 0) Zf))) (ZI 2)
 (Zh (ZT 1 (Zc ZY (Za 1) (Yb [none,some 2,some 0] (Xv (Za 1)) (ZI 0) (ZF (Zx UB (Zb (Za 2) (Zb (Za 1) (Zb (Za 0) Zf))))) (Zc ZY (Za 0) (ZB (Zb (Za 1) Zf))))))
 Zq))
 (Zh (ZL (Za 1))
 Zq)))
noncomputable def Bf:List D->M D:=runB 3 1 Zhp
end TP2
namespace TP3
open L2 TF TP
open TP2
noncomputable def ZkK:Ze->M Out:=(Zh (ZL (JS (ZO dAny (Zb (Yb [none,some 0,some 1] (Yt (ZO YZ (Zb (Za 0) Zf))) (ZI 0) Yi (Zx UB (Zb (Za 1) (Zb (Za 0) (Zb (Za 2) Zf))))) Zf))))
 Zq)
noncomputable def Bk:List D->M D:=runB 2 2 ZkK
noncomputable def g_full_knots:Ze->M Out:=(Zh (ZT 1 (Zx F_all_near (Zb (Za 0) Zf)))
 (Zh (ZL (ZO Zdw (Zb (Yb [none,some 1] (Xv (Zx Bf (Zb (Za 1) Zf))) (ZI 0) (ZF (Zx Bk (Zb (Za 1) (Zb (Za 0) Zf)))) (Za 0)) Zf)))
 Zq))
noncomputable def F_full_knots:List D->M D:=runB 2 1 g_full_knots
noncomputable def Zgb:Ze->M Out:=(Zh (Vo 1 (dC (.du [])))
 (Zh (Xc (fun ρ=>(Xl (Zc Zn (Za 0) (dC (.int 1)))) (Yg [1] ρ)) (ZI 2)
 (Zh (Zho 1 (fun ρ=>(Za 2) (Yg [1] ρ)) (fun ρ=>(dC (.bl true)) (Yg [1] ρ)))
 Zq))
 (Zh (ZT 3 (fun ρ=>(Yz (Zb (ZB Zf) Zf)) (Yg [1] ρ)))
 (Zh (Xc (Yt (Zc Zn (Za 0) (dC (.int 0)))) (ZI 4)
 (Zh (Vo 5 (Yz Zf))
 (Zh (Xc (fun ρ=>(Xv (Za 3)) (Yg [5] ρ)) (ZI 6)
 (Zh (Yx (ZF (Zc UP (dC (.bl false)) (Yb [none,some 4,some 1] (Xl (Za 6)) (ZI 0) Yi (Zc Xq (ZB (Zb (Za 0) (Zb (Za 1) Zf))) (Za 2)))))
 (Zh (Vp 5 (fun ρ=>(Zc ZY (Za 6) (ZB (Zb (Za 4) Zf))) (Yg [5] ρ)))
 Zq)
 Zq)
 Zq))
 (Zh (ZT 3 (Zc ZY (Za 3) (Za 5)))
 Zq))))
 (Zh (ZL (Za 3))
 Zq)))))
noncomputable def Zad:List D->M D:=runB 7 1 Zgb
end TP3
namespace TQ
open L2 TF TQ
open TP
open TP2
open TP3
noncomputable def ZkL:Ze->M Out:=(Zh (ZL (Wl (Zc Vb (Zc Zn (Za 0) (dC (.int 0))) (Zc Zn (Za 1) (dC (.int 1)))) (Zc Vb (Zc Zn (Za 1) (dC (.int 0))) (Zc Zn (Za 0) (dC (.int 1))))))
 Zq)
noncomputable def ZkM:List D->M D:=runB 2 2 ZkL
noncomputable def Zcc:Ze->M Out:=(Zh (ZL (V1 (Zc YF (Za 1) (Za 2)) (Zx WL (Zb (Za 0) (Zb (Za 1) (Zb (Za 2) Zf))))))
 Zq)
noncomputable def ZaH:List D->M D:=runB 3 3 Zcc
noncomputable def Zgc:List D->M D:=runB 4 4 (Zh (Yx (ZF (Zc YF (Zc Zn (Za 0) (dC (.int 0))) (Zc Zn (Za 1) (dC (.int 0)))))
 (Zh (ZL (Zx WL (Zb (Zc Zn (Za 2) (Zc Zn (Za 0) (dC (.int 0)))) (Zb (Zc Zn (Za 0) (dC (.int 1))) (Zb (Zc Zn (Za 1) (dC (.int 1))) Zf)))))
 Zq)
 Zq)
 (Zh (ZL (Zx WL (Zb (Za 3) (Zb (Zc Zn (Za 0) (dC (.int 0))) (Zb (Zc Zn (Za 1) (dC (.int 0))) Zf)))))
 Zq))
noncomputable def Zcd:List D->M D:=Ut 3 (JS (Zx WL (Zb (Za 2) (Zb (Za 0) (Zb (Za 1) Zf)))))
noncomputable def Zeh:List D->M D:=runB 4 4 (Zh (ZL (Wl (Zx ZaH (Zb (Za 2) (Zb (Zc Zn (Za 0) (dC (.int 0))) (Zb (Zc Zn (Za 1) (dC (.int 0))) Zf)))) (Zx ZaH (Zb (Za 3) (Zb (Zc Zn (Za 0) (dC (.int 1))) (Zb (Zc Zn (Za 1) (dC (.int 1))) Zf))))))
 Zq)
noncomputable def Zby:List D->M D:=Ut 3 (Zx WL (Zb (Za 2) (Zb (Za 0) (Zb (Za 1) Zf))))
noncomputable def ZbQ:List D->M D:=Ut 3 (V1 (Zc Xq (ZB (Zb (Za 0) (Zb (Za 1) Zf))) (Za 2)) (Zc Xq (ZB (Zb (Za 1) (Zb (Za 0) Zf))) (Za 2)))
noncomputable def Zei:List D->M D:=Ut 3 (Zc WF (Zc VZ (Za 0) (Za 2)) (Zc VZ (Za 1) (Za 2)))
noncomputable def Zce:List D->M D:=Ut 4 (Zc Xq (ZO JM (Zb (Zc Xg (Za 1) (Za 0)) (Zb (Zc ZY (Zc Xg (Za 2) (Za 1)) (Za 0)) Zf))) (Za 3))
noncomputable def Tl:Nat->List D->M D
 | 0=>Zcd
 | 1=>Zby
 | 2=>ZkM
 | 3=>Zgc
 | 4=>Zeh
 | 5=>ZbQ
 | 6=>Zei
 | 7=>Zce
 | _=>λ_=>ZS
noncomputable def Zhq:Ze->M Out:=(Zh (ZT 2 (Zx Zau (Zb (Zat (ZO YZ (Zb (Za 0) Zf))) Zf)))
 (Zh (ZL (ZB (Zb (ZO YZ (Zb (Za 0) Zf)) (Zb (ZO Ue (Zb (Yb [none,some 1,some 0] (Xv (Za 2)) (ZI 0) (ZF (dApp Tl 1 (Zb (Zc Zn (Za 2) (Zc Zn (Za 0) (dC (.int 0)))) (Zb (Zc Zn (Za 2) (Zc Zn (Za 0) (dC (.int 1)))) Zf)))) (Za 0)) Zf)) Zf))))
 Zq))
noncomputable def Zai:List D->M D:=runB 3 2 Zhq
noncomputable def Zmk:Ze->M Out:=(Zh (ZT 1 (Zx Jh (Zb (Za 0) Zf)))
 (Zh (ZL (dFnC Zai 0 [1] (Zat (Zc Zn (Za 0) (dC (.int 0))))))
 Zq))
noncomputable def V8:List D->M D:=runB 2 1 Zmk
end TQ
namespace TF
open L2
noncomputable def ZiP (K:qd)(L:List (Addr×Str)):Sp:=λvs H Q _=>∃(a:Addr) (ns:List Int),vs=[.ref a]/\ZV K H a (ns.map V.int)/\ns.length<=63/\(∀P q,(P,q)∈L->H P=some (.tbl #[]))/\∀H',Q (.bl true) H'
theorem ZiQ {L:List (Addr×Str)}{tb:List (Str×Addr×Addr)}{H:Hp}(h:∀P q,(P,q)∈L->∃x c,(x,c,P)∈tb)(hT:∀e∈tb,H e.2.2=some (.tbl #[])):∀P q,(P,q)∈L->H P=some (.tbl #[]):=λP q m=>by
 obtain⟨x,c,z⟩:=h P q m;exact hT _ z
theorem ZqY (h:∀P q,(P,q)∈L->H P=some (.tbl #[])):∀P q,(P,q)∈L->Zo4 G0 L P q H:=λP q m=>⟨#[],h P q m,trivial,λpos cv hc=>by cases hc⟩
theorem Zml {K:qd}{N:List Str}(sq:ZV K H a (ns.map V.int))(hTb:∀P q,(P,q)∈L->H P=some (.tbl #[]))(hp:H p=none)(hk:K.lookup p=none)(hQ:∀H',Q (.bl true) H')
  (hg:g (none::some .pen::qf n none) ([0,0],ns)=some (.rt (.bl true),s')) :
  ∃G,Xo (XI K) L G/\Zg8 G [] [] [] false g { nx:=λ_ H'=>Q .non H',rt:=Q } (some (.ref a)::some (.ref p)::qf n none) (Zs H p (.lst [.ref a,.int 0,.int 0])):=by
 have main:∀tr:Bool,(tr=true->∃o,H a=some o/\∀ps,o≠.tbl ps)->(tr=false->∀H':Hp,ZV K H' a (ns.map V.int))->a≠p->∃G,Xo (XI K) L G/\Zg8 G [] [] [] false g { nx:=λ_ H'=>Q .non H',rt:=Q } (some (.ref a)::some (.ref p)::qf n none) (Zs H p (.lst [.ref a,.int 0,.int 0])):=by
  intro tr t1 t2 ne;refine⟨JP (U2 K p a tr) L,⟨U2 K p a tr,⟨p,a,tr,rfl⟩,λb ⟨q,mb⟩ hb=>?_,rfl⟩,λ_=>none,λ_=>none,Zs H p (.lst [.ref a,.int 0,.int 0]),none::some .pen::qf n none,([0,0],ns),_,s',⟨λ_=>none,⟨by simp,.refl _ _,.refl (λb o _ e=>by cases e),λi d _ e=>?_,λi d m=>by simp at m,λi j b di dj m=>by simp at m⟩⟩,⟨⟨0,0,rfl,Z1,ne,?_,λht=>?_,t2⟩,ZqY λP q z=>?_⟩,hg,λv Hf' H' g st r _=>?_⟩
  ·have e:=hTb b q mb
   rcases hb with rfl | ⟨ht,rfl⟩
   ·rw[hp]at e;cases e
   ·obtain⟨o,z1,z2⟩:=t1 ht
    rw[e]at z1;cases z1;exact z2 _ rfl
  ·match i,e with
   | 0,e=>cases e
   | 1,e=>cases e;exact⟨_,rfl,jq.mpr rfl⟩
   | i+2,e=>
    have e':(qf n (none:Option D))[i]?=some (some d):=e;rw[zW]at e';split at e' <;> cases e'
  ·exact Zp1 sq hp
  ·obtain⟨o,q,_⟩:=t1 ht
   exact⟨o,by rw[Zv ne];exact q⟩
  ·rw[Zv (YC (hTb P q z) hp)];exact hTb P q z
  ·rw[je.mp r]
   exact hQ H'
 have hne:∀o,H a=some o->a≠p:=λo e z=>by grind
 rcases sq with(q | ⟨o,q⟩) | q
 ·exact main true (λ_=>⟨_,q,λ_ z=>by cases z⟩) (λz=>by cases z) (hne _ q)
 ·exact main true (λ_=>⟨_,q,λ_ z=>by cases z⟩) (λz=>by cases z) (hne _ q)
 ·by_cases e:a=p
  ·obtain⟨o,_,_,q1,_⟩:=q
   rw[e,hk]at q1;cases q1
  ·exact main false (λz=>by cases z) (λ_ H'=>.inr q) e
theorem lok_nd:∀{L:List (Addr×Str)},(L.map (·.1)).Nodup->Vs L
 | [],_=>λP q q' h=>by simp at h
 | (a,b)::L,nd=>λP q q' h1 h2=>by
  rw[qS,z9]at nd;rcases qB.mp h1 with e1 | m1
  ·grind
  ·rcases qB.mp h2 with e2 | m2
   ·grind
   ·exact lok_nd nd.2 P q q' m1 m2
theorem Zmm:∀ds s d s',YK ds s=some (d,s')->Yl ds=true/\Z2 d=true:=λds s d s' h=>by
 unfold YK at h;split at h
 ·split at h
  ·cases h;exact⟨rfl,rfl⟩
  ·cases h
 ·cases h
end TF
namespace TT
section
variable {M:Model}{A:xE}{E:xF}{s:Shared}
end
section
variable (rk:Keyed->Int)
variable {rk}{a b out:Array Keyed}{ia ib:Nat}
end
section
variable {M:Model}{A:xE}{E:xF}{s:Shared}
variable {rk:Keyed->Int}{κ:SortKind}{In:Keyed->Prop}
end
section
variable (rk:Keyed->Int)
variable {rk}{a b out:Array Keyed}{na nb:Nat}
end
section
variable {M:Model}{A:xE}{E:xF}{s:Shared}{rk:Keyed->Int}{κ:SortKind}{In:Keyed->Prop}
end
section
variable {M:Model}{A:xE}{E:xF}{s:Shared}{rk:Keyed->Int}{κ:SortKind}{In:Keyed->Prop}
end
section
variable (rk:Keyed->Int)
end
section
variable {rk:Keyed->Int}
end
section
variable {M:Model}{A:xE}{E:xF}{s:Shared}{rk:Keyed->Int}{κ:SortKind}{In:Keyed->Prop}
end
section
variable {M:Model}{A:xE}{E:xF}{s:Shared}{rk:Keyed->Int}{κ:SortKind}{In:Keyed->Prop}
end
section
variable {M:Model}{A:xE}{E:xF}{s:Shared}{rk:Keyed->Int}{κ:SortKind}{In:Keyed->Prop}{a₀:List Keyed}
end
section
variable {M:Model}{A:xE}{E:xF}{s:Shared}{rk:Keyed->Int}{κ:SortKind}{In:Keyed->Prop}{a₀:List Keyed}
end
open L2 TS
section
variable {prog:xD}{w:World}{A:xE}{E:xF}{s:Shared}
end
end TT
namespace TF
open L2
section
variable {X:Cx}{G:Gh}
end
end TF
namespace L2
section
variable {X:Cx}{tg:Expr}
end
end L2
namespace TF
open L2
section
variable {X:Cx}{G:Gh}{ob own:List Nat}{fr:Bool}
end
open Sem (wp)
section
variable {prog:xD}{w:World}{A:xE}{E:xF}{s:Shared}
end
variable {X:Cx}{G:Gh}{f:Ze->M D}
end TF
namespace HT
section
variable {prog:xD}{w:World}
variable {A:xE}{E:xF}{s:Shared}
end
namespace FS
end FS
section
variable {prog:xD}{w:World}{A:xE}{E:xF}{s:Shared}
end
end HT
namespace HT
section
variable {prog:xD}{w:World}{A:xE}{E:xF}{s:Shared}
variable {a:Addr}{o:Obj}{es:Array (Int×Value)}{ep:Nat}{t:SetTable}
namespace FS
end FS
end
end HT
namespace HT
section
variable {prog:xD}{w:World}{A:xE}{E:xF}{s:Shared}
variable {a:Addr}{o:Obj}{es:Array (Int×Value)}{ep:Nat}{t:SetTable}
end
section
variable {prog:xD}{w:World}{A:xE}{E:xF}{s:Shared}
variable {a:Addr}{o:Obj}{es:Array (Int×Value)}{ep:Nat}{t:SetTable}
end
end HT
namespace TF
open L2
section
variable {X:Cx}{G:Gh}
end
section
variable {X:Cx}{G:Gh}{ob own:List Nat}{fr:Bool}{f:Ze->M D}
end
end TF
namespace TT
open L2 TS
section
variable {prog:xD}{w:World}{A:xE}{E:xF}{s:Shared}
end
end TT
namespace TS
open L2
section
variable {prog:xD}{w:World}{A:xE}{E:xF}{s:Shared}
end
end TS
namespace TF
open L2 TS
section
variable {X:Cx}{G:Gh}
end
end TF
namespace TF
open L2 TT
section
variable {X:Cx}{G:Gh}
end
end TF
namespace TQ
open L2 TF TQ
open TP
open TP2
open TP3
end TQ
namespace TF
open L2
section
variable {X:Cx}{G:Gh}{f g:Ze->M D}
end
end TF
namespace TQ
open L2 TF
end TQ
namespace TF
open L2
section
variable {X:Cx}{G:Gh}
end
section
variable {X:Cx}{G:Gh}
end
open PySem.SeqAt
open AutoSeq1 (wpAny_loadPart')
theorem Zhr (l:Addr)(items:Array Value)(n:Nat)(dd:Option Addr)(sl:Array (Option Value))(u:Tok) :
  Meets (Builtin.«tuple.__mul__» ⟨[.ref l,.int 1 u],[]⟩) (λ_ R s=>s.heap.get? l=some { cls:=.type "tuple",dict:=dd,data:=.seq items n,slots:=sl }/\R (.ok (.ret (qw l))) s):=
 .of_wp λprog w A R s h=>by
  obtain⟨hp,g,d,tk,os⟩:=s;obtain⟨hl,h⟩:=h;have f1:=qbu;have f2:=yo;have f3:=qax;have f4:=qan;have f5:=qao;wp_walk using wpAny_loadPart' hl;exact⟨_,rfl,h⟩
theorem Zhs (l:Addr)(items:Array Value)(n:Nat)(dd:Option Addr)(sl:Array (Option Value))(u:Tok)(hc1:items.isEmpty=false) :
  Meets (Builtin.«tuple.__mul__» ⟨[.ref l,.int 0 u],[]⟩) (λ_ R s=>s.heap.get? l=some { cls:=.type "tuple",dict:=dd,data:=.seq items n,slots:=sl }/\R (.ok (.ret (qw s.heap.objs.size))) { s with heap:=s.heap.push { cls:=qbh "tuple",data:=Data.seq #[] },toks:=s.toks }):=
 .of_wp λprog w A R s h=>by
  obtain⟨hp,g,d,tk,os⟩:=s;obtain⟨hl,h⟩:=h;have f1:=qbu;have f2:=yo;have f3:=qax;have f4:=qan;have f5:=qao;wp_walk using wpAny_loadPart' hl;exact⟨_,rfl,h⟩
section
variable {X:Cx}{G:Gh}
noncomputable def Zp9 (K:qd):R2:=λx y H Q=>∃l xs,x=.ref l/\y=.int 1/\Z0 K H l xs/\Q (.ref l) H
noncomputable def Zqa (K:qd):R2:=λx y H Q=>∃l xs,x=.ref l/\y=.int 0/\Z0 K H l xs/\xs≠[]/\∀p,H p=none->Q (.ref p) (Zs H p (.tup []))
theorem Zmn:Yo X (binaryOp .Mult) (Zp9 X.K):=by
 intro jN s σ H x y v u Q I rx ry h;obtain⟨l,xs,rfl,rfl,hH,q⟩:=h
 cases rx
 obtain⟨t,rfl⟩:=ry;obtain⟨jR,r,p1,_⟩:=I.tuple hH;obtain⟨⟨cls,dd,data,sl⟩,ho,hc,n,hd⟩:=id p1;subst hc hd;exact wpAny_binaryOp_repeat_ref (by decide) ⟨_,ho,rfl⟩ (λs'=>typeIs_int s' 1 t) Zaf qaK zT ZaU qaD.lookup
  (call_meets zT (typeIs_int s 1 t) qaE (qar _ _) (Zay 1 t l jR.toArray n dd sl)
   ⟨ho,rfl,⟨_,ho,rfl⟩,call_meets yH ⟨_,ho,rfl⟩ qap (qah _ _) (Zhr l jR.toArray n dd sl t) ⟨ho,.ref l,H,I,rfl,q⟩⟩)
theorem Zmo:Yo X (binaryOp .Mult) (Zqa X.K):=by
 intro jN s σ H x y v u Q I rx ry h;obtain⟨l,xs,rfl,rfl,hH,hne,q⟩:=h
 cases rx
 obtain⟨t,rfl⟩:=ry;obtain⟨jR,r,p1,_⟩:=I.tuple hH;obtain⟨⟨cls,dd,data,sl⟩,ho,hc,n,hd⟩:=id p1;subst hc hd;have hne':=λz=>hne (r.nil_iff.mp z);have hemp:jR.toArray.isEmpty=false:=by grind
 exact wpAny_binaryOp_repeat_ref (by decide) ⟨_,ho,rfl⟩ (λs'=>typeIs_int s' 0 t) Zaf qaK zT ZaU qaD.lookup
  (call_meets zT (typeIs_int s 0 t) qaE (qar _ _) (Zay 0 t l jR.toArray n dd sl)
   ⟨ho,rfl,⟨_,ho,rfl⟩,call_meets yH ⟨_,ho,rfl⟩ qap (qah _ _) (Zhs l jR.toArray n dd sl t hemp) ⟨ho,.ref s.heap.objs.size,_,I.laid (o:=.tup []) (λb ob q=>qj _ q) (qk _) ⟨zr _,[],.nil,qaF _ _⟩,rfl,q _ (I.hok.fresh (qk _))⟩⟩)
noncomputable def BN (d e:D):Option D:=match d,e with
 | .tup ds,.int k=>if k=1 then some (.tup ds)else if k=0/\ds≠[]then some (.tup [])else W2 (.tup ds) (.int k)
 | _,_=>W2 d e
theorem Zej:Y4 X G (binaryOp .Mult) BN:=by
 obtain⟨r0,po,qo⟩:=Zb8 (X:=X) (G:=G);refine⟨_,po.or (Zmn.or Zmo),λHf H s x y d e c Q e1 st rx ry q k=>?_⟩;by_cases hd:∃ds j,d=.tup ds/\e=.int j
 ·obtain⟨ds,j,rfl,rfl⟩:=hd
  have q:(if j=1 then some (D.tup ds)else if j=0/\ds≠[]then some (.tup [])else W2 (.tup ds) (.int j))=some c:=q;by_cases h1:j=1
  ·rw[if_pos h1]at q
   cases q
   obtain⟨p,vs,rfl,np,hp,rp⟩:=jc.mp rx;refine .inr (.inl ⟨p,vs,rfl,by rw[ja.mp ry,h1],Z0.of (e1 _ _ np hp),?_⟩);exact k (.ref p) _ _ (.refl e1) st (jc.mpr ⟨p,vs,rfl,np,hp,rp⟩) (.scal λz=>z)
  ·rw[if_neg h1]at q
   by_cases h2:j=0/\ds≠[]
   ·rw[if_pos h2]at q
    cases q
    obtain⟨p,vs,rfl,np,hp,rp⟩:=jc.mp rx;refine .inr (.inr ⟨p,vs,rfl,by rw[ja.mp ry,h2.1],Z0.of (e1 _ _ np hp),λz=>h2.2 (yB.mp (by rw[rp.length,z];rfl)),λl hl=>?_⟩);have nf:=Gh.nofp st hl;have g2:=Gr.new (o:=.tup []) e1 hl nf;exact k (.ref l) _ _ g2 (Gh.grow st hl) (jc.mpr ⟨l,_,rfl,nf,Z1,Zj.nil_iff.mpr rfl⟩) (.scal λz=>z)
   ·rw[if_neg h2]at q
    exact .inl (qo Hf H s x y _ _ c Q e1 st rx ry q k)
 ·have q':W2 d e=some c:=by
   unfold BN at q;simp_all
  exact .inl (qo Hf H s x y _ _ c Q e1 st rx ry q' k)
end
end TF
namespace TQ
open L2 TF TQ
open TP
open TP2 hiding g_all_near F_all_near
open TP3 hiding g_full_knots F_full_knots
noncomputable def g_all_near:Ze->M Out:=(Zh (ZT 1 (ZB (Zb (Zc Zn (Za 0) (dC (.int 0))) (Zb (Zx Jh (Zb (Za 0) Zf)) Zf))))
 (Zh (ZL (Yb [none,some 1] (Yt (Zc Zn (Za 0) (dC (.int 0)))) (ZI 0) Yi (Zx Uf (Zb (Za 1) (Zb (Za 0) Zf)))))
 Zq))
noncomputable def F_all_near:List D->M D:=runB 2 1 g_all_near
noncomputable def g_full_knots:Ze->M Out:=(Zh (ZT 1 (Zx F_all_near (Zb (Za 0) Zf)))
 (Zh (ZL (ZO Zdw (Zb (Yb [none,some 1] (Xv (Zx Bf (Zb (Za 1) Zf))) (ZI 0) (ZF (Zx Bk (Zb (Za 1) (Zb (Za 0) Zf)))) (Za 0)) Zf)))
 Zq))
noncomputable def F_full_knots:List D->M D:=runB 2 1 g_full_knots
end TQ
namespace TF
open L2
section
variable {X:Cx}{G:Gh}
end
section
variable {X:Cx}{G:Gh}
end
section
variable {X:Cx}{G:Gh}
end
end TF
namespace TS
open PySem.W
section
variable {lt:Nat->Nat->Bool}{n:Nat}{p q:Array Nat}
end
end TS
namespace TF
open L2 TS PySem.W
section
variable {X:Cx}{jN:Qb}{σ:St}{H:Hp}{s:Shared}
end
section
variable {prog:xD}{w:World}{A:xE}{E:xF}{s:Shared}
end
section
variable {X:Cx}{jN:Qb}{σ:St}{H:Hp}{s:Shared}
end
end TF
namespace TF
open L2 TS
section
variable {X:Cx}
end
section
variable {X:Cx}{G:Gh}{σ:St}
end
section
variable {X:Cx}{G:Gh}{P c:Addr}{q:Str}{kl:Nat}{frb:Bool}{e1:Expr}{f1:Ze->M D}{r1:Bool}{params:Arguments}{scope:Scope}{lpos ppos pos kpos:Pos}{XN N ps:List Str}{NS:List (Str×NameKind)}{cix:List Nat}{body:Expr}{fe:Ze->M D}
end
end TF
namespace TQ
open L2 TF TQ
open TP
open TP2 hiding g_all_near F_all_near
open TP3 hiding g_full_knots F_full_knots
end TQ
namespace TF
open L2
section
variable {X:Cx}{G:Gh}
end
section
variable {X:Cx}{G:Gh}
end
section
variable {X:Cx}{G:Gh}
end
end TF
namespace TQ
open L2 TF TQ
open TP
open TP2 hiding g_all_near F_all_near
open TP3 hiding g_full_knots F_full_knots
end TQ
namespace TF
open L2
section
variable {X:Cx}
end
section
variable {X:Cx}
end
section
variable {X:Cx}
end
section
variable {X:Cx}
end
section
variable {X:Cx}
end
noncomputable def Zo8:Gh where
 fp:=λ_=>False
 rd:=λ_=>False
 pen:=.non
 st:=λ_ _=>True
 mono:=λ_ _ _ _ _ _ _=>trivial
 sub:=λ_ h=>h
 dom:=λ_ _ _ _ h=>h.elim
 ntp:=λ_ _ _ _ _ h=>h.elim
section
variable {X:Cx}
end
section
variable {X:Cx}
end
structure TAd where
 a:Addr
 C:Addr
 dx:Addr
 l:Addr
structure TVs where
 n:Int
 r:Addr
 c:Int
 hs:List Int
noncomputable def UV (k:TAd)(q:TVs):List (Str×V):=[("n",.int q.n),("rows",.ref q.r),("holders",.ref k.l),("scale",.int q.c)]
noncomputable def Zt (G0:Gh)(k:TAd)(q:TVs):Gh where
 fp:=λb=>G0.fp b∨b=k.a∨b=k.l
 rd:=λb=>G0.rd b∨b=k.a∨b=k.l
 pen:=G0.pen
 st:=λs H=>G0.st s H/\H k.a=some (.ins k.C k.dx (UV k q))/\H k.l=some (.lst (q.hs.map V.int))
 mono:=λs H H' ⟨h1,h2,h3⟩ k1 k2 k3=>⟨G0.mono s H H' h1 (λb o r=>k1 b o (.inl r)) k2 k3,k1 _ _ (.inr (.inl rfl)) h2,k1 _ _ (.inr (.inr rfl)) h3⟩
 sub:=λb h=>h.elim (λz=>.inl (G0.sub b z)) .inr
 dom:=λs H b ⟨h1,h2,h3⟩ hb=>by
  rcases hb with hb | rfl | rfl
  ·exact G0.dom s H b h1 hb
  ·exact⟨_,h2⟩
  ·exact⟨_,h3⟩
 ntp:=λs H b vs ⟨h1,h2,h3⟩ hb z=>by
  rcases hb with hb | rfl | rfl
  ·exact G0.ntp s H b vs h1 hb z
  ·rw[h2]at z;cases z
  ·rw[h3]at z;cases z
 clo:=λt v vs=>t=0/\v=.ref k.a/\vs=.int q.n :: .ref q.r :: .int q.c::q.hs.map V.int
noncomputable def YN (i:Nat)(g:List D->Option D):Ze->M D:=fun ρ=>Zp (Za i ρ) λd=>match d with | .clo 0 ds=>YO (g ds) | _=>ZS
theorem ZaO (e:YN i g ρ s=some (d,s')):s'=s/\∃ds,(ρ[i]?).bind id=some (.clo 0 ds)/\g ds=some d:=by
 obtain⟨d0,s1,a1,a2⟩:=Zy e;obtain⟨b1,rfl⟩:=Wo a1
 match d0,a2 with
 | .clo 0 ds,a2=>
  obtain⟨c3,rfl⟩:=Wo a2;exact⟨rfl,ds,b1,c3⟩
section
variable {X:Cx}
theorem WY {i:Nat}(e2:YA (Zt G0 k q) Hf σ ρ)(h:(ρ[i]?).bind id=some (.clo 0 ds)) :
  σ[i]?=some (some (.ref k.a))/\Zj (Zt G0 k q) Hf ds (.int q.n :: .ref q.r :: .int q.c::q.hs.map V.int):=by
 have e':ρ[i]?=some (some (.clo 0 ds)):=by
  cases z:ρ[i]? with
  | none=>simp_all
  | some o=>simp_all
 obtain⟨v,h1,h2⟩:=e2 i _ e';obtain⟨vs,c,r⟩:=(show ∃vs,(Zt G0 k q).clo 0 v vs/\Zj (Zt G0 k q) Hf ds vs by exact h2);rw[c.2.2]at r;rw[h1,c.2.1];simp_all
theorem X3 {j:Nat}(hv:PE X (.Name x p) (Yd i))(c:Cls X.K k.C)(na:Xd X.K k.C f)(hj:(UV k q).lookup f=(V.int q.n :: .ref q.r :: .int q.c::q.hs.map V.int)[j]?:=by rfl)(hb:xq (.Name x p) f X.env (eval (.Name x p) X.env)=eval (.Name x p) X.env:=by rfl) :
  PD X (Zt G0 k q) false (.Attribute (.Name x p) f pos) (YN i λds=>ds[j]?):=by
 refine⟨_,UL hv hb,fun σ Hf H ρ s d s' Q e1 e2 e3 e4 kk=>?_⟩;obtain⟨rfl,ds,b1,b2⟩:=ZaO e4;obtain⟨h1,h2⟩:=WY e2 b1;obtain⟨v,h3,h4⟩:=Zj.get h2 b2;exact⟨_,h1,k.a,k.C,k.dx,_,v,rfl,e3.2.1,c,na,hj.trans h3,kk v Hf H (.refl e1) e3 h4 λz=>by cases z⟩
noncomputable def JR (g:List Int->Option D):List D->Option D:=λds=>match ds with | _::_::_::hs=>(Yc hs).bind g | _=>none
theorem Zek:∀{a b:List Int},a.map V.int=b.map V.int->a=b
 | [],[],_=>rfl
 | [],_::_,e=>by cases e
 | _::_,[],e=>by cases e
 | x::a,y::b,e=>by
  simp at e;rw[e.1,Zek e.2]
theorem Zbt (r:Zj (Zt G0 k q) Hf ds (.int q.n :: .ref q.r :: .int q.c::q.hs.map V.int))(e:JR g ds=some d):g q.hs=some d:=by
 match ds,e,r with
 | _::_::_::hs,e,r=>
  obtain⟨_,_,e1,_,r⟩:=jd.mp r
  cases e1
  obtain⟨_,_,e1,_,r⟩:=jd.mp r
  cases e1
  obtain⟨_,_,e1,_,r⟩:=jd.mp r
  cases e1
  have e:(Yc hs).bind g=some d:=e
  cases hi:Yc hs with
  | none=>simp_all
  | some ns=>
   rw[hi]at e;rw[UF hi]at r;rw[Zek (jp r)];exact e
theorem ZiR {k:TAd}{q:TVs}{p pos p2:Pos}(hm:X.mg "len" = none)(hv:PE X (.Name x p1) (Yd i))(c:Cls X.K k.C)(na:Xd X.K k.C "holders")(hg:Gl X "len":=by rfl)(hb:xq (.Name x p1) "holders" X.env (eval (.Name x p1) X.env)=eval (.Name x p1) X.env:=by rfl)
  (he:xh [.Attribute (.Name x p1) "holders" p2] X.env=(false,eval (.Attribute (.Name x p1) "holders" p2) X.env)::xh [] X.env:=by rfl) (hpl:(backTo pos (xh [] X.env)).any (·.1)=false:=by rfl) :
  PD X (Zt G0 k q) true (.Call (.Name "len" p) [.Attribute (.Name x p1) "holders" p2] [] pos) (YN i (JR λns=>some (.int ns.length))):=by
 refine⟨_,Za4 B9 hg hm boot_len (Xt (UL hv hb) X4 he) (by decide) (by decide) he hpl,fun σ Hf H ρ s d s' Q e1 e2 e3 e4 kk=>?_⟩;obtain⟨rfl,ds,b1,b2⟩:=ZaO e4;obtain⟨h1,h2⟩:=WY e2 b1;have h3:=Zbt h2 b2
 cases h3
 exact⟨_,h1,k.a,k.C,k.dx,_,.ref k.l,rfl,e3.2.1,c,na,rfl,k.l,_,rfl,.inl (ZV.of e3.2.2),kk _ Hf H (.refl e1) e3 (ja.mpr (by simp)) λ_=>.scal λz=>z⟩
noncomputable def Zcf (i:Nat)(f:Ze->M D):Ze->M D:=fun ρ=>Zp (f ρ) λy=>YN i (JR λns=>Zn (.lst (ns.map D.int)) y) ρ
theorem ZfC {p1 pos:Pos}(hv:PE X (.Name x p) (Yd i))(c:Cls X.K k.C)(na:Xd X.K k.C "holders")(he:PD X (Zt G0 k q) r1 e f)(hb:xq (.Name x p) "holders" X.env (eval (.Name x p) X.env)=eval (.Name x p) X.env:=by rfl)(hs:ZfT e:=by intro _ _;rfl) :
  PD X (Zt G0 k q) true (.Subscript (.Attribute (.Name x p) "holders" p1) e pos) (Zcf i f):=by
 obtain⟨te,pe,ye⟩:=he.drop;refine⟨_,W0 WU (UL hv hb) pe hs,fun σ Hf H ρ s d s' Q e1 e2 e3 e4 kk=>?_⟩;obtain⟨y,s1,a1,a2⟩:=Zy e4;obtain⟨rfl,ds,b1,b2⟩:=ZaO a2;obtain⟨h1,h2⟩:=WY e2 b1;have h3:=Zbt h2 b2;refine⟨_,h1,k.a,k.C,k.dx,_,.ref k.l,rfl,e3.2.1,c,na,rfl,?_⟩;refine ye σ Hf H ρ s y _ _ e1 e2 e3 a1 λv jX H1 g1 jY r=>?_
 match y,h3,r with
 | .int z,h3,r=>
  obtain⟨u,h4,h5⟩:=Zf0 (ZaN q.hs) h3;refine⟨k.l,_,z,u,rfl,ja.mp r,ZV.of jY.2.2,h4,?_⟩;refine kk u jX H1 g1 jY h5 λ_=>.scal λm=>?_;have h6:Xz (q.hs.map D.int) z=some d:=h3;unfold Xz at h6
  cases hx:Xp q.hs.length z with
  | none=>simp_all
  | some w=>
   simp[hx]at h6;obtain⟨_,w2,_,rfl⟩:=h6;exact m
noncomputable def Zcg (i:Nat)(f:Ze->M D):Ze->M D:=fun ρ=>Zp (f ρ) λy=>match y with | .int z=>YN i (JR λns=>UP (.int z) (.lst (ns.map D.int))) ρ | _=>ZS
theorem ZkN {ns:List Int}(h:H l=some (.lst (ns.map V.int))):Zo Zo8 H (.lst (ns.map D.int)) (.ref l):=jb.mpr ⟨l,_,rfl,λz=>z,h,ZaN ns⟩
theorem ZiS (c:Cls X.K k.C)(na:Xd X.K k.C "holders")(ye:WI (Zt G0 k q) fr te f) :
  WI (Zt G0 k q) true (WH (rInD Zo8 true) te (tFld X.K (Yd i) "holders")) (Zcg i f):=fun σ Hf H ρ s d s' Q e1 e2 e3 e4 kk=>by
 obtain⟨y,s1,a1,a2⟩:=Zy e4
 match y,a1,a2 with
 | .int z,a1,a2=>
  obtain⟨rfl,ds,b1,b2⟩:=ZaO a2;obtain⟨h1,h2⟩:=WY e2 b1;have h3:=Zbt h2 b2;refine ye σ Hf H ρ s _ _ _ e1 e2 e3 a1 λv jX H1 g1 jY r _=>?_;refine⟨_,h1,k.a,k.C,k.dx,_,.ref k.l,rfl,jY.2.1,c,na,rfl,?_⟩;have h3:(if Xy (.int z) (q.hs.map D.int)=true then some (XX (.int z) (q.hs.map D.int))else none).map (λb=>D.bl (!b))=some d:=h3;split at h3
  ·rename_i ok
   cases h3
   exact⟨H1,.int z,q.hs.map D.int,.refl _ _,ok,ja.mpr (ja.mp r),.inl (ZkN jY.2.2),kk _ jX H1 g1 jY (je.mpr rfl) λ_=>.scal λz=>z⟩
  ·cases h3
theorem ZiT {p2 pos:Pos}(hu:X.A.units+64<cLine)(he:PD X (Zt G0 k q) r1 e f)(hv:PE X (.Name x p) (Yd i))(c:Cls X.K k.C)(na:Xd X.K k.C "holders")
  (hb:xq (.Name x p) "holders" X.env (eval (.Name x p) X.env)=eval (.Name x p) X.env:=by rfl) (hm:behindInMarks .NotIn (.Attribute (.Name x p) "holders" p2)=false:=by rfl) :
  XW X (Zt G0 k q) (.Compare e [.NotIn] [.Attribute (.Name x p) "holders" p2] pos) (ZF (Zcg i f)):=by
 obtain⟨te,pe,ye⟩:=he;exact⟨_,ZbZ (Zfp hu) pe (UL hv hb) hm,fun σ Hf H ρ s b s' Q e1 e2 e3 e4 kk=>ZiS c na ye σ Hf H ρ s (.bl b) s' _ e1 e2 e3 (ZdQ e4) λv Hf' H' g1 g2 g3 fz=>⟨b,je.mp g3,kk Hf' H' g1 g2⟩⟩
noncomputable def Zdx (i:Nat)(f:Ze->M D):Ze->M D:=fun ρ=>Zp (f ρ) λy=>YN i (JR λns=>Zp8 (.lst (ns.map D.int)) y) ρ
theorem ZkO {p1 ap cp:Pos}(hv:PE X (.Name x p) (Yd i))(c:Cls X.K k.C)(na:Xd X.K k.C "holders")(he:PD X (Zt G0 k q) r2 e fe)(hb:xq (.Name x p) "holders" X.env (eval (.Name x p) X.env)=eval (.Name x p) X.env:=by rfl)
  (hbase:xq (.Attribute (.Name x p) "holders" p1) "index" X.env (eval (.Attribute (.Name x p) "holders" p1) X.env)=eval (.Attribute (.Name x p) "holders" p1) X.env:=by rfl)
  (hfew:((backTo cp (xh [e] X.env)).all (λx=>!x.1)&&(xp cp (xi [] X.env)).all (λx=>x.1.isSome)
   && decide ([e].length+([]:List Keyword).length+(if ([]:List Keyword).isEmpty then 0 else 1)<30))=true:=by rfl)
  (hline:(ap.endLine==cp.line)=true:=by rfl) (hs:xh [e] X.env=(false,eval e X.env)::xh [] X.env:=by rfl) :
  PD X (Zt G0 k q) true (.Call (.Attribute (.Attribute (.Name x p) "holders" p1) "index" ap) [e] [] cp) (Zdx i fe):=by
 obtain⟨te,pe,ye⟩:=he.drop;refine⟨_,Zjt yA qbH PySem.F.type_list_index Zmg (UL hv hb) (Xt pe X4 hs) hbase hfew hline hs rfl,fun σ Hf H ρ s d s' Q e1 e2 e3 e4 kk=>?_⟩;obtain⟨y,s1,a1,a2⟩:=Zy e4;obtain⟨rfl,ds,b1,b2⟩:=ZaO a2;obtain⟨h1,h2⟩:=WY e2 b1;have h3:=Zbt h2 b2;refine⟨_,h1,k.a,k.C,k.dx,_,.ref k.l,rfl,e3.2.1,c,na,rfl,.inl ⟨rfl,_,ZV.of e3.2.2⟩,?_⟩;refine ye σ Hf H ρ s y _ _ e1 e2 e3 a1 λv jX H1 g1 jY r=>?_
 match y,h3,r with
 | .int z,h3,r=>
  have h3:((Yc (q.hs.map D.int)).bind λns=>if z∈ns then some (D.int (ns.idxOf z:Nat))else none)=some d:=h3;rw[Zar]at h3;have h3:(if z∈q.hs then some (D.int (q.hs.idxOf z:Nat))else none)=some d:=h3;split at h3
  ·rename_i hmem
   cases h3
   rw[ja.mp r];exact⟨k.l,q.hs,z,rfl,rfl,ZV.of jY.2.2,hmem,kk _ jX H1 g1 jY (ja.mpr rfl) λ_=>.scal λz=>z⟩
  ·cases h3
end
noncomputable def UR (ρ:Ze):Bool:=ρ.all λo=>match o with | some d=>Z2 d | none=>true
theorem ZcM {i:Nat}(h:UR ρ=true)(e:ρ[i]?=some (some d)):Z2 d=true:=by
 have:=zF.mp h _ (zp e);exact this
section
variable {X:Cx}{G:Gh}{ob:List Nat}{fr:Bool}
end
end TF
namespace L2
section
variable {P:xD}{w:World}
section
variable {K:qd}{mg:Str->Option Value}{base:Heap}{N:List Str}{qual:Str}{scope:Scope}{f:Addr}{cd:Value}{A:xE}{outer:List Env}{s₀:Shared}{H₀:Hp}{E:XK}
variable {jN:Qb}{σ:St}{H H':Hp}{s s':Shared}{x:Addr}{cls a0:Value}{B h:Heap}
end
end
section
variable {P:xD}{w:World}{K:qd}{mg:Str->Option Value}{base:Heap}{N:List Str}{qual:Str}{scope:Scope}{f:Addr}{cd:Value}{A:xE}{outer:List Env}{s₀:Shared}{H₀:Hp}{E:XK}
end
open PySem.Builtin PySem.Builtin.Getset_descriptor PySem.Builtin.ObjectAttr PySem.Calls PySem.W
section
variable {prog:xD}{w:World}{A:xE}{E:xF}{s:Shared}{K:Frag}{x D:Addr}
end
end L2
namespace L2
open PySem.Calls
section
variable {X:Cx}{jN:Qb}{σ:St}{H H':Hp}{s s':Shared}{v:Value}
end
section
variable {X:Cx}
end
end L2
namespace TF
open PySem.Calls L2
section
variable {X:Cx}
end
section
variable {X:Cx}{G:Gh}{own own2:List Nat}{Ex:Hp->Prop}
end
end TF
namespace TF
open L2
section
variable {X:Cx}{G:Gh}
theorem va (i:Nat){pos:Pos}(hN:X.N[i]?=some x:=by rfl)(hv:Vis X.env.scope x:=by first | exact qt rfl | exact z7 (qt rfl) | exact z7 (z7 rfl))(hd:(x==("__debug__" : Str))=false:=by decide)(hcd:(x==("__classdict__" : Str))=false:=by decide):PD X G false (.Name x pos) (Za i):=Zim i (pv i hN hv hd hcd)
theorem bk (XN:List Str)(NS:List (Str×NameKind))(N':List Str)(src:List (Option Nat)){scope:Scope}(a:X.N=XN:=by rfl)(b:X.env.scope.names=NS:=by rfl)(c:∀y∈scope.names,y.2≠.cell:=by decide +kernel)(d:scope.kind=.function:=by rfl)(e:∀y∈scope.names,y.2=.local->scope.names.lookup y.1=some .local:=by decide +kernel)(f:src.length=N'.length:=by rfl)(g:∀y∈scope.names,y.2=.free->NS.lookup y.1=some .cell∨NS.lookup y.1=some .free:=by decide +kernel)
  (h:(src.zip N').all (λp=>match p.1 with | some j=>decide (XN[j]?=some p.2)&&(decide (NS.lookup p.2=some .cell)||decide (NS.lookup p.2=some .free))&&decide (scope.names.lookup p.2=some .free) | none=>true)=true:=by decide +kernel):BlkS X XN NS N' src scope:=⟨a,b,c,d,e,f,g,h⟩
theorem Yy {N P:List Str}{sc:Scope}(a:sc.kind=.function:=by rfl)(b:sc.isCoroutine=false:=by rfl)(c:sc.isGenerator=false:=by rfl)(d:N.Nodup:=by decide +kernel)(e:N.take P.length=P:=by rfl)(f:∀x∈P,sc.names.lookup x=some .local∨sc.names.lookup x=some .cell:=by decide +kernel)(g:∀y∈sc.names,y.2≠.free:=by decide +kernel):FnScope N P sc:=⟨a,b,c,d,e,f,g⟩
end
section
variable {X:Cx}{G:Gh}{elt tg iter:Expr}{ifs:List Expr}{scope:Scope}{pos pos' spos:Pos}{XN:List Str}{NS:List (Str×NameKind)}{N':List Str}{src:List (Option Nat)}{fi:Ze->M (List D)}{τ:D->Ze->Option Ze}{ft:Ze->M Bool}{fe:Ze->M D}{r1:Bool}{i:Nat}{x:Str}
theorem Y9 {cl:_}{jN:_}{C:_}{s:_}{H:_}{fp:_}{ok:Nat->Prop}(nd:N'.Nodup:=by decide +kernel)(hi:N'[i]?=some x:=by rfl)(hx:WR (YR X jN N' scope cl C s H fp).env.scope x:=by exact qt rfl)(oi:ok i:=by rfl)(hf:(YR X jN N' scope cl C s H fp).fn x=true∨(YR X jN N' scope cl C s H fp).env.scope.names.lookup x=some .local:=by first | exact .inl rfl | exact .inr rfl | assumption):VL (YR X jN N' scope cl C s H fp) G (.Name x pos) ok (ZI i):=XD nd hi hx oi hf
theorem Xw (B:BlkS X XN NS N' src scope)(hi:XA X G tg iter fi)
  (hg:∀{cl jN C s H fp},VL (YR X jN N' scope cl C s H fp) G tg (λi=>src[i]?=some none) τ) (ht:∀{cl jN C s H fp},VX (YR X jN N' scope cl C s H fp) ifs (UZ G ft)) (he:∀{cl jN C s H fp},PD (YR X jN N' scope cl C s H fp) G r1 elt fe)
  (hc:X.calm=true:=by rfl) (hs:∀x,foldedSetIterable iter X.env x=pure x:=by intro _;rfl):PD X G true (.ListComp elt [⟨tg,iter,ifs,0⟩] scope pos) (Yb src fi τ ft fe):=ZlR hc B hi (λ_ _ _ _ _ _=>hg) (λ_ _ _ _ _ _=>ht) (λ_ _ _ _ _ _=>he) hs
end
theorem Z7 {p pos:Pos}(c:Z3 X.prog X.w X.K X.mg X.base k x n fr GG F)(hG:GG G)(hr:Room k X.A)
  (ha:Wy X G (e::es) fs) (hg:Gl X x:=by rfl) (hal:∀ρ s ds s',fs ρ s=some (ds,s')->ds.length=(e::es).length:=by first | exact YI WB | exact YI (YI WB) | exact YI (YI (YI WB)) | exact YI (YI (YI (YI WB))) | exact YI (YI (YI (YI (YI WB)))) | exact YI (YI (YI (YI (YI (YI WB)))))) (jV:(e::es).length=n:=by rfl)
  (hdb:(x==("__debug__" : Str))=false:=by decide) (he:xh (e::es) X.env=(false,eval e X.env)::xh es X.env:=by rfl) (hpl:(backTo pos (xh es X.env)).any (·.1)=false:=by rfl) :
  PD X G fr (.Call (.Name x p) (e::es) [] pos) (Zx F fs):=ZlS c hG hr hg ha hal jV hdb he hpl
section
variable {X:Cx}{G:Gh}{ob own own':List Nat}{fr:Bool}
theorem Zu {st:Stmt}(h:YS X G ob own [] fr st g1)(h2:X6 X G ob [] own' fr sts g2):X6 X G ob own own' fr (st::sts) (Zh g1 g2):=Yq h h2
theorem ZZ (hs:∀k,k∈own'->k∈([]:List Nat):=by decide):X6 X G ob [] own' fr [] Zq:=Ys hs
theorem WA (hc:XW X G c fc)(ha:X6 X G ob own [] fr a g1)(hb:X6 X G ob own [] fr b g2):YS X G ob own [] fr (.If c a b pos) (Yx fc g1 g2):=BB hc ha hb
theorem WJ {p pos:Pos}(hm:X.mg "len" = none)(ha:Wy X G [e] f)(hg:Gl X "len":=by rfl)(h1:xh [e] X.env=(false,eval e X.env)::xh [] X.env:=by rfl)(h2:(backTo pos (xh [] X.env)).any (·.1)=false:=by rfl):PD X G true (.Call (.Name "len" p) [e] [] pos) (ZO YZ f):=Xk Zis hg hm boot_len ha (he:=h1)
end
theorem ux1 {α:Type}(us:List α)(e:us.length=1):∃a,us=[a]:=by
 cases us with | nil=>cases e | cons a r=>simp_all
theorem ux2 {α:Type}(us:List α)(e:us.length=2):∃a b,us=[a,b]:=by
 cases us with | nil=>cases e | cons a r=>obtain⟨b,rfl⟩:=ux1 r (qcv.inj e);exact⟨a,b,rfl⟩
theorem ux3 {α:Type}(us:List α)(e:us.length=3):∃a b c,us=[a,b,c]:=by
 cases us with | nil=>cases e | cons a r=>obtain⟨b,c,rfl⟩:=ux2 r (qcv.inj e);exact⟨a,b,c,rfl⟩
noncomputable def IsC (K:qd)(x:Str)(st:Stmt)(c:Addr):Prop:=∃(f:Addr) (fd:xC),qbx K mainGlobals x=some (some (.ref f))/\Fun K x x st f fd/\fd.code=.ref c
noncomputable def fnO (x:Str)(st:Stmt)(pm:Value)(c:Addr):Obj:=⟨.type "function",none,.func (zv x x (WC st) (XM st) (Zz st) .none .none .none pm none (.ref c) .none),#[]⟩
noncomputable def cdO (x:Str)(t:Nat)(ln ac:Int)(a:Addr)(tx k:Nat)(v:Bool):Obj:=
 ⟨.type "code",none,.fields #[.str x t,.str x (t+1),.str "/claim/cut.py" (t+2),.int ln 0,.int ac 0,.int 0 0,.int 0 0,.int 3 0,.ref a,.bool true,.int tx 0,.ref (a+1),.none,
  (match v with | true=>.ref (a+2) | false=>.none),(match v with | true=>.ref (a+3) | false=>.none),.ref (match v with | true=>a+4 | false=>a+2),.int k 0,.int ln 0,.str "/claim/cut.py" (k+1)],#[]⟩
structure DRow where
 x:Str
 i:Nat
 t:Nat
 ln:Int
 ac:Int
 a:Addr
 k:Nat
 v:Bool
 pm:Str
 pt:Nat
noncomputable def DRow.c (r:DRow):Addr:=match r.v with | true=>r.a+5 | false=>r.a+3
noncomputable def dE (P:Params)(x:Str)(t:Nat)(v:Value):DictEntry:=⟨PyData.keyHash P x,.str x t,v⟩
noncomputable abbrev nE (x:Str)(t:Nat)(a:Addr):Str×Nat×Addr:=(x,t,a)
noncomputable abbrev dR (x:Str)(i t:Nat)(ln ac:Int)(a:Addr)(k:Nat)(v:Bool)(pm:Str)(pt:Nat):DRow:=⟨x,i,t,ln,ac,a,k,v,pm,pt⟩
noncomputable def dRs (P:Params)(l:List (Str×Nat×Addr)):List DictEntry:=l.map λe=>dE P e.1 e.2.1 (.ref e.2.2)
noncomputable def ZqZ (top:Nat->Stmt)(tx:Nat)(m:List DictEntry)(n:Nat)(rs:List DRow):qd:=
 (mainNs,⟨.type "dict",none,.dict m.toArray n,#[]⟩)::rs.flatMap λr=>[(r.c,cdO r.x r.t r.ln r.ac r.a tx r.k r.v),(r.c+1,fnO r.x (top r.i) (.str r.pm r.pt) r.c)]
theorem Zq0 {K:qd}{x:Str}{st:Stmt}{pm:Value}{c f:Addr}(a:qbx K mainGlobals x=some (some (.ref f)))(l:K.lookup f=some (fnO x st pm c))(cd:yL K (.ref c) x=true):IsC K x st c:=
 ⟨f,_,a,ZlD l cd (by unfold zH;dsimp only;rw[l];rfl),rfl⟩
noncomputable def Zqb:Stmt->Pos
 | .FunctionDef _ _ _ _ _ _ _ _ _ p=>p
 | _=>⟨0,0,0,0⟩
noncomputable abbrev ZiU (st:Stmt):DefRec:=⟨"law",WC st,XM st,Zz st,Zqb st⟩
theorem head_of {l:PySem.W.OpenLaw}{q:xD}{K:Params->qd}{as:List Addr}{e:∀P,as=(K P).map (·.1)}{N:Nat}{st:Stmt}(said:l.wellSaid=true)
  (left:PySem.W.LeftO l.prog q [] (λs=>PySem.W.xlAt q [] s&&PySem.W.recOk l.row.records s) (yC K as e).obs (yC K as e).val N)
  (hdef:PySem.W.defOf q l.row.name=some (ZiU st,[])) (hp:l.row.prog.theDef l.row.name=some (WC st,XM st,Zz st))
  (hk:PySem.W.kwWritten? (WC st).kwonlyargs (WC st).kw_defaults=some [])
  (ok:(PySem.W.chainsOk q&&PySem.W.opensWell l.row.prog&&(PySem.W.frees l.row.toRowW&&l.row.within.isEmpty))=true) (hb:l.row.prog.bare) (hw:l.row.toRowW.promised) (hwr:(!l.row.writes||l.row.records.isEmpty)=true)
  (call:qcb q [] (PySem.W.XL q []) (yC K as e).says l.row.toRowW (ZiU st) [] λf vs=>qb6 f vs):l.Holds:=
 PySem.W.holds_law said λsd=>PySem.W.holds_open left (yC K as e).of (yC K as e).keeps (λs z=>PySem.W.xl_of s (yN.mp z).1) PySem.W.XL.keeps hdef hp hk (λs z=>PySem.W.recFacts_of (yN.mp z).2) hwr sd ok hb hw call
noncomputable def AtR (K:qd)(mg:Str->Option Value)(top:Nat->Stmt)(r:DRow):Prop:=∃(f:Addr) (fd:xC),Fun K r.x r.x (top r.i) f fd/\mg r.x=some (.ref f)/\fd.code=.ref r.c
noncomputable def Zo9 (K:qd)(top:Nat->Stmt)(r:DRow):Prop:=qbx K mainGlobals r.x=some (some (.ref (r.c+1)))/\K.lookup (r.c+1)=some (fnO r.x (top r.i) (.str r.pm r.pt) r.c)/\yL K (.ref r.c) r.x=true
noncomputable def Zgd (K:qd)(top:Nat->Stmt):List DRow->Prop
 | []=>True
 | r::l=>Zo9 K top r/\Zgd K top l
theorem Zht {K:qd}{top:Nat->Stmt}:∀{l:List DRow} {j:Nat} {r:DRow},Zgd K top l->l[j]?=some r->Zo9 K top r
 | _::_,0,_,h,e=>by cases e;exact h.1
 | _::l,j+1,_,h,e=>Zht h.2 e
theorem Zqc {K:qd}{h:Heap}{mg:Str->Option Value}{top:Nat->Stmt}{l:List DRow}(ok:Zgd K top l)(X:K.In h)(G:h.Ns mainGlobals mg)(j:Nat){r:DRow}(e:l[j]?=some r:=by rfl):AtR K mg top r:=by
 obtain⟨a,b,c⟩:=Zht ok e;obtain⟨f,fd,a,F,d⟩:=Zq0 a b c;exact⟨f,fd,F,PySem.W.mg_of X G a,d⟩
theorem bdc {K:qd}{x:Str}{st:Stmt}{f:Addr}{fd:xC}(ps:List Str)(F:Fun K x x st f fd)
  (h:∀(kV doc pm:Value) (an:Option Addr) (cdv ct:Value) (us:List Value),us.length=ps.length->bindArgs (zv x x (WC st) (XM st) (Zz st) .none kV doc pm an cdv ct) ⟨us,[]⟩=pure (ps.zip us):=by
   intro _ _ _ _ _ _ us hl
   first
    | (obtain⟨_,rfl⟩:=TF.ux1 us hl;rfl)
    | (obtain⟨_,_,rfl⟩:=TF.ux2 us hl;rfl)
    | (obtain⟨_,_,_,rfl⟩:=TF.ux3 us hl;rfl)
    | (obtain⟨_,_,_,_,rfl⟩:=TF.ux4 us hl;rfl)
    | (obtain⟨_,_,_,_,_,rfl⟩:=TF.ux5 us hl;rfl)
    | (obtain⟨_,_,_,_,_,_,rfl⟩:=TF.ux6 us hl;rfl)
    | (obtain⟨_,_,_,_,_,_,_,rfl⟩:=TF.ux7 us hl;rfl)
    | (obtain rfl:=TF.ux0 us hl;rfl)):Xb K fd ps []:=F.binds h
theorem mkc {P:xD}{w:World}{K:qd}{mg:Str->Option Value}(base:Heap){x:Str}{st:Stmt}{f:Addr}{fd:xC}{k n:Nat}{ps:List Str}{fr:Bool}{GG:Gh->Prop}{F9:List D->M D}(F:Fun K x x st f fd)(m:mg x=some (.ref f))(ok:FnOk P w K mg base ZP k f fd ps (Yf n fr GG F9))
  (h:∀(kV doc pm:Value) (an:Option Addr) (cdv ct:Value) (us:List Value),us.length=ps.length->bindArgs (zv x x (WC st) (XM st) (Zz st) .none kV doc pm an cdv ct) ⟨us,[]⟩=pure (ps.zip us):=by
   intro _ _ _ _ _ _ us hl
   first
    | (obtain⟨_,rfl⟩:=TF.ux1 us hl;rfl)
    | (obtain⟨_,_,rfl⟩:=TF.ux2 us hl;rfl)
    | (obtain⟨_,_,_,rfl⟩:=TF.ux3 us hl;rfl)
    | (obtain⟨_,_,_,_,rfl⟩:=TF.ux4 us hl;rfl)
    | (obtain⟨_,_,_,_,_,rfl⟩:=TF.ux5 us hl;rfl)
    | (obtain⟨_,_,_,_,_,_,rfl⟩:=TF.ux6 us hl;rfl)
    | (obtain⟨_,_,_,_,_,_,_,rfl⟩:=TF.ux7 us hl;rfl)
    | (obtain rfl:=TF.ux0 us hl;rfl)):Z3 P w K mg base k x n fr GG F9:=⟨f,fd,ps,ok,m,F.kp,F.binds h⟩
open PySem.Calls
section
variable {X:Cx}{G:Gh}{own:List Nat}{Ex:Hp->Prop}{R:Ze->M Unit}{e:Expr}{es:List Expr}
end
section
variable {P:xD}{w:World}{K:qd}{mg:Str->Option Value}{base:Heap}{N:List Str}{qual:Str}{scope:Scope}{f:Addr}{cd:Value}{A:xE}{outer:List Env}{s₀:Shared}{H₀:Hp}{E:XK}
end
noncomputable def nsO (P:Params)(l:List (Str×Nat×Value))(n:Nat):Obj:=⟨.type "dict",none,.dict (l.map λe=>dE P e.1 e.2.1 e.2.2).toArray n,#[]⟩
section
variable {X:Cx}
end
section
variable {X:Cx}{G:Gh}{own:List Nat}{Ex:Hp->Prop}
end
end TF
namespace L2
open PySem.Calls
section
variable {X:Cx}{jN:Qb}{σ:St}{H:Hp}{s:Shared}
end
end L2
namespace TF
open PySem.Calls L2
section
variable {X:Cx}{G:Gh}{ob:List Nat}{fr:Bool}
end
end TF
namespace TS
open PySem.W
section
variable {prog:xD}{w:World}{A:xE}{E:xF}{s:Shared}
end
end TS
namespace TF
open L2 TS
section
variable {X:Cx}{G:Gh}
end
end TF
namespace L2
section
variable {prog:xD}{w:World}{A:xE}{E:xF}{s:Shared}{o:Obj}{es:Array DictEntry}{d:Addr}{ep:Nat}
end
end L2
namespace TS
open PySem.W
section
variable {prog:xD}{w:World}{A:xE}{E:xF}{s:Shared}{o:Obj}{es:Array DictEntry}{d:Addr}{ep:Nat}
end
end TS
namespace TF
open L2 TS
section
variable {X:Cx}{G:Gh}
end
end TF
namespace TF
open L2
section
variable {prog:xD}{w:World}{Kt:Type}[DecidableEq Kt]{knd:HeapKind prog w Kt}{A:xE}{E:xF}{s:Shared}
end
section
variable {X:Cx}{jN:Qb}{σ:St}{H:Hp}{s:Shared}{A:xE}{E:xF}{Q:xF}
end
section
variable {X:Cx}{o e:Expr}{apos cpos:Pos}{td ty:TE}
end
noncomputable def Va (st:Stmt)(j:Nat):Stmt:=match st with | .ClassDef _ _ _ b _ _ _ _ _ _ _=>b.getD j (.Pass ⟨0,0,0,0⟩) | _=>.Pass ⟨0,0,0,0⟩
noncomputable def Wm (P:xD)(w:World)(K:qd)(mg:Str->Option Value)(base:Heap)(C:Addr)(k:Nat)(m:Str)(n:Nat)(GG:Gh->Prop)(F:List D->M D):Prop:=
 ∃f fd ps,FnOk P w K mg base ZP k f fd ps (Yf n false GG F)/\Meth K C m f/\Xb K fd ps []
section
variable {X:Cx}
end
theorem bdm {K:qd}{st:Stmt}(ps:List Str)(F:Fun K x q st f fd)
  (h:∀(kV doc pm:Value) (an:Option Addr) (cdv ct:Value) (us:List Value),us.length=ps.length->bindArgs (zv x q (WC st) (XM st) (Zz st) .none kV doc pm an cdv ct) ⟨us,[]⟩=pure (ps.zip us):=by
   intro _ _ _ _ _ _ us hl
   first
    | (obtain⟨_,rfl⟩:=TF.ux1 us hl;rfl)
    | (obtain⟨_,_,rfl⟩:=TF.ux2 us hl;rfl)
    | (obtain⟨_,_,_,rfl⟩:=TF.ux3 us hl;rfl)):Xb K fd ps []:=F.binds h
noncomputable def fnM (x q:Str)(st:Stmt)(pm:Value)(c:Addr):Obj:=⟨.type "function",none,.func (zv x q (WC st) (XM st) (Zz st) .none .none .none pm none (.ref c) .none),#[]⟩
noncomputable def clsM (nm:Str)(C N:Addr)(t1 t2:Nat):Obj:=⟨.type "type",none,.cls { name:=nm,bases:=[.type "object"],mro:=[.ref C,.type "object"],ns:=N,qualname:=nm },#[none,none,some (.str nm t1),some (.str nm t2),some (.builtin "object.__new__"),some (.bool true)]⟩
theorem J4 {K:qd}(base:Heap){st:Stmt}(F:Fun K x q st f fd)(m:Meth K C x f)(ok:FnOk P w K mg base ZP k f fd ps (Yf n false GG F9))(b:Xb K fd ps []):Wm P w K mg base C k x n GG F9:=⟨f,fd,ps,ok,m,b⟩
structure TCl (K:qd)(C:Addr):Prop where
 cl:Cls K C
 n:Xd K C "n"
 rows:Xd K C "rows"
 holders:Xd K C "holders"
 scale:Xd K C "scale"
noncomputable def Vt (G0:Gh)(k:TAd):Prop:=¬G0.rd k.a/\¬G0.rd k.l
noncomputable def GT (C:Addr)(G:Gh):Prop:=∃(G0:Gh) (k:TAd) (q:TVs),k.C=C/\Vt G0 k/\G=Zt G0 k q
noncomputable def XG (F:List D->M D)(i:Nat)(fs:Ze->M (List D)):Ze->M D:=fun ρ=>Zp (Za i ρ) λc=>match c with
 | .clo 0 hs=>Zp (fs ρ) λds=>F (.clo 0 hs::ds)
 | _=>ZS
noncomputable abbrev BO (q:TVs):List V:=.int q.n :: .ref q.r :: .int q.c::q.hs.map V.int
theorem Zo.tab (r:Zj (Zt G0 k q) Hf ds (BO q)):Zo (Zt G0 k q) Hf (.clo 0 ds) (.ref k.a):=by
 exact⟨_,⟨rfl,rfl,rfl⟩,r⟩
noncomputable abbrev JX (m:Str):Prop:=m≠"n"/\m≠"rows"/\m≠"holders"/\m≠"scale"
theorem Zel (hl:JX m):(UV k q).lookup m=none:=by
 obtain⟨h1,h2,h3,h4⟩:=hl;have b1:(m==("n" : Str))=false:=by simpa using h1
 have b2:(m==("rows" : Str))=false:=by simpa using h2
 have b3:(m==("holders" : Str))=false:=by simpa using h3
 have b4:(m==("scale" : Str))=false:=by simpa using h4
 unfold UV;simp only[qaU,b1,b2,b3,b4]
section
variable {X:Cx}
theorem ZfD (hG:GG (Zt G0 k q))(hl:JX m)
  (ya:∀(σ:St) (Hf H:Hp) (ρ:Ze) (s:Pn) (ds:List D) (s':Pn) (Q:List V->Hp->Prop),ZC (Zt G0 k q) Hf H->YA (Zt G0 k q) Hf σ ρ->(Zt G0 k q).st s H->fs ρ s=some (ds,s')->
   (∀vs Hf' H',Gr (Zt G0 k q) Hf H Hf' H'->(Zt G0 k q).st s' H'->Zj (Zt G0 k q) Hf' ds vs->Q vs H')->t σ H Q)
  (hal:∀ρ s ds s',fs ρ s=some (ds,s')->ds.length+1=n) (E:XK) :
  WI (Zt G0 k q) fr (Zjo k.C m (Yf n fr GG F) [] E (Yd i) t) (XG F i fs):=fun σ Hf H ρ s d s' Q e1 e2 e3 e4 kk=>by
 obtain⟨c0,s1,a1,a2⟩:=Zy e4;obtain⟨b1,rfl⟩:=Wo a1
 match c0,a2,b1 with
 | .clo 0 hs,a2,b1=>
  obtain⟨ds,s2,c1,c2⟩:=Zy a2;obtain⟨h1,h2⟩:=WY e2 b1;refine⟨_,h1,k.a,k.dx,_,rfl,e3.2.1,Zel hl,?_⟩;refine ya σ Hf H ρ _ ds s2 _ e1 e2 e3 c1 λvs Hf' H' g st' r=>?_;rw[zu];have jV:=hal _ _ _ _ c1;exact⟨Zt G0 k q,Hf',.clo 0 hs::ds,s2,d,s',hG,by rw[zb,<-r.length];exact jV,g.fh,Zj.cons (Zo.tab (h2.ext g.ff)) r,st',c2,λv j6 H2 g2 j8 r2 fz=>kk v j6 H2 (g.trans g2) j8 r2 λz=>jn g.hh r2.nofp (fz z)⟩
theorem pdT {pl:Sem Bool}{apos pos:Pos}(c:Wm X.prog X.w X.K X.mg X.base k.C j m n GG F)(hG:GG (Zt G0 k q))(hr:Room kl X.A)(kc:TCl X.K k.C)(hv:PE X (.Name x p) (Yd i))
  (ha:Wy X (Zt G0 k q) (e::es) fs) (hal:∀ρ s ds s',fs ρ s=some (ds,s')->ds.length+1=n:=by intro ρ s ds s' h;first | exact congrArg (· + 1) (YI WB ρ s ds s' h) | exact congrArg (· + 1) (YI (YI WB) ρ s ds s' h) | exact congrArg (· + 1) (YI (YI (YI WB)) ρ s ds s' h)) (hjk:j<=kl:=by decide) (hl:JX m:=by decide)
  (hst:xh (e::es) X.env=(false,eval e X.env)::xh es X.env:=by rfl) (hpl:(backTo pos (xh es X.env)).any (·.1)=false:=by rfl)
  (ht:eval (.Call (.Attribute (.Name x p) m apos) (e::es) [] pos) X.env=(do
   let ov<-eval (.Name x p) X.env
   standAt apos.atName
   let (f,first)<-holding [ov] (getMethod ov m pl)
   callWith pos f first (backTo pos (xh (e::es) X.env)) (xp pos (xi [] X.env))):=by rfl) :
  PD X (Zt G0 k q) false (.Call (.Attribute (.Name x p) m apos) (e::es) [] pos) (XG F i fs):=by
 obtain⟨f,fd,ps,FN,hm,hb⟩:=c;obtain⟨t,pa,qa⟩:=ha;exact⟨_,Zjp hv kc.cl hm (FN.mono hjk) hr hb .nil JJ pa hst hpl ht,ZfD hG hl qa hal _⟩
theorem pdT0 {pl:Sem Bool}{apos pos:Pos}(c:Wm X.prog X.w X.K X.mg X.base k.C j m 1 GG F)(hG:GG (Zt G0 k q))(hr:Room kl X.A)(kc:TCl X.K k.C)(hv:PE X (.Name x p) (Yd i))
  (hjk:j<=kl:=by decide) (hl:JX m:=by decide)
  (ht:eval (.Call (.Attribute (.Name x p) m apos) [] [] pos) X.env=(do
   let ov<-eval (.Name x p) X.env
   standAt apos.atName
   let (f,first)<-holding [ov] (getMethod ov m pl)
   callWith pos f first (backTo pos (xh [] X.env)) (xp pos (xi [] X.env))):=by rfl) :
  PD X (Zt G0 k q) false (.Call (.Attribute (.Name x p) m apos) [] [] pos) (XG F i Zf):=by
 obtain⟨f,fd,ps,FN,hm,hb⟩:=c;exact⟨_,ZgN hv kc.cl hm (FN.mono hjk) hr hb .nil JJ ht,ZfD hG hl (fun σ Hf H ρ s ds s' Q e1 e2 e3 e4 kk=>by
  obtain⟨rfl,rfl⟩:=ZM e4;exact kk [] Hf H (.refl e1) e3 (Zj.nil_iff.mpr rfl)) (fun ρ s ds s' q=>by rw[WB ρ s ds s' q]) _⟩
end
open PySem.Calls
section
variable {K:qd}{mg:Str->Option Value}{cT cN cI cL cR:Addr}{ys:List (Addr×Addr)}
end
end TF
namespace TF
open L2
section
variable {X:Cx}{G:Gh}
end
end TF
namespace TQ
open L2 TF TQ
open TP
open TP2 hiding g_all_near F_all_near
open TP3 hiding g_full_knots F_full_knots
end TQ
namespace TF
open L2
theorem Zoj (e1:ZC G Hf H)(r:Zj G Hf ds vs)(hn:N.length=ds.length+n:=by rfl):Jf G [] Hf Hf H (L2.start N vs) Hf H (ds.map some++qf n none):=by
 have hl:=r.length;refine⟨?_,.refl _ _,.refl e1,λi d n e=>?_,λi d m e=>?_,λi j a di dj mi mj n e=>?_⟩
 ·unfold L2.start;simp;omega
 ·have hi:i<ds.length:=by
   by_cases hi:i<ds.length
   ·exact hi
   ·rw[zM (by simp_all),zW]at e
    grind
  have e':ds[i]?=some d:=by
   rw[zh (by simp_all)]at e;simp_all
  obtain⟨v,h1,h2⟩:=r.get e';refine⟨v,?_,h2⟩;unfold L2.start;rw[zh (by simp_all),qI,h1];rfl
 ·simp_all
 ·simp_all
section
variable {X:Cx}{G:Gh}
end
noncomputable def Zmp (G0:Gh)(k:TAd)(kn jT H0:Hp)(out:Out)(s':Pn)(E:Ends):Prop:=match out with
 | .nx ρ=>∀q σ H,J (Zt G0 k q) [] kn jT H0 σ H ρ->(Zt G0 k q).st s' H->E.nx σ H
 | .rt d=>∀q v Hf' H',Gr (Zt G0 k q) jT H0 Hf' H'->(Zt G0 k q).st s' H'->Zo (Zt G0 k q) Hf' d v->E.rt v H'
 | _=>False
noncomputable def DosT (G0:Gh)(k:TAd)(t:TS)(g:Ze->M Out):Prop:=
 ∀q (kn jT H0:Hp) (σ:St) (H:Hp) (ρ:Ze) (s:Pn) (out:Out) (s':Pn) (E:Ends),J (Zt G0 k q) [] kn jT H0 σ H ρ->(Zt G0 k q).st s H->g ρ s=some (out,s')->Zmp G0 k kn jT H0 out s' E->t E σ H
noncomputable def PX (X:Cx)(G0:Gh)(k:TAd)(st:Stmt)(g:Ze->M Out):Prop:=∃t,PS X st t/\DosT G0 k t g
noncomputable def B4 (X:Cx)(G0:Gh)(k:TAd)(sts:List Stmt)(g:Ze->M Out):Prop:=∃t,XV X sts t/\DosT G0 k t g
section
variable {X:Cx}{G0:Gh}{k:TAd}{st:Stmt}{sts:List Stmt}{g g1 g2:Ze->M Out}
theorem Zmq (po:Zmp G0 k kn jT H0 out s' E):Post (Zt G0 k q) [] [] kn jT H0 false out s' E:=by
 cases out with
 | nx ρ=>exact fun σ H j st=>po q σ H j st
 | rt d=>exact λv Hf' H' g st r _=>po q v Hf' H' g st r
 | bk ρ=>exact po.elim
 | ct ρ=>exact po.elim
theorem BP (h:∀q,YS X (Zt G0 k q) [] [] [] false st g):PX X G0 k st g:=by
 refine⟨λE σ H=>∃q,Zg8 (Zt G0 k q) [] [] [] false g E σ H,?_,λq kn jT H0 σ H ρ s out s' E j st e po=>⟨q,kn,jT,H0,ρ,s,out,s',j,st,e,Zmq po⟩⟩;intro jN s σ H D I ⟨q,kn,jT,H0,ρ,pn,out,pn',j,st,e,po⟩;obtain⟨t,p,qq⟩:=h q;exact p jN s σ H D I (qq kn jT H0 σ H ρ pn out pn' D j st e po)
theorem Zge:B4 X G0 k [] Zq:=by
 refine⟨_,Zdn,λq kn jT H0 σ H ρ s out s' E j st e po=>?_⟩;obtain⟨rfl,rfl⟩:=ZM e;exact po q σ H j st
theorem Vi (h1:PX X G0 k st g1)(h2:B4 X G0 k sts g2):B4 X G0 k (st::sts) (Zh g1 g2):=by
 obtain⟨t,p,d⟩:=h1;obtain⟨u,p2,d2⟩:=h2;refine⟨_,XZ p p2,λq kn jT H0 σ H ρ s out s' E j st e po=>?_⟩;obtain⟨o,s1,a1,a2⟩:=Zy e;refine d q kn jT H0 σ H ρ s o s1 _ j st a1 ?_
 cases o with
 | nx ρ1=>exact λq2 σ2 H2 j2 j8=>d2 q2 kn jT H0 σ2 H2 ρ1 s1 out s' E j2 j8 a2 po
 | rt d0=>
  obtain⟨rfl,rfl⟩:=ZM a2;exact λq2 v Hf' H' g st r=>po q2 v Hf' H' g st r
 | bk ρ1=>obtain⟨rfl,rfl⟩:=ZM a2;exact po.elim
 | ct ρ1=>obtain⟨rfl,rfl⟩:=ZM a2;exact po.elim
noncomputable def Vq (c:Ze->M Bool)(g:Ze->M Out):Nat->Ze->M Out
 | 0,_=>ZS
 | n+1,ρ=>Zp (c ρ) λb=>if b=true then Zp (g ρ) λo=>match o with | .nx ρ2=>Vq c g n ρ2 | .rt d=>ZJ (.rt d) | _=>ZS else ZJ (.nx ρ)
open Classical in
noncomputable def V3 (c:Ze->M Bool)(g:Ze->M Out):Ze->M Out:=fun ρ s=>if h:∃n r,Vq c g n ρ s=some r then some (choose (choose_spec h))else none
theorem ZcN:∀{n m:Nat} {ρ:Ze} {s:Pn} {o:Out} {s':Pn},Vq c g n ρ s=some (o,s')->n<=m->Vq c g m ρ s=some (o,s')
 | 0,m,ρ,s,o,s',h,_=>by cases h
 | n+1,0,ρ,s,o,s',h,l=>by omega
 | n+1,m+1,ρ,s,o,s',h,l=>by
  obtain⟨b,s1,a1,a2⟩:=Zy h;show Zp (c ρ) (λb=>if b=true then Zp (g ρ) λo=>match o with | .nx ρ2=>Vq c g m ρ2 | .rt d=>ZJ (.rt d) | _=>ZS else ZJ (.nx ρ)) s=_;unfold Zp;simp only[a1]
  cases b with
  | false=>exact a2
  | true=>
   rw[if_pos rfl]at a2⊢;obtain⟨o2,s2,a3,a4⟩:=Zy a2;simp only[a3]
   cases o2 with
   | nx ρ2=>exact ZcN a4 (by omega)
   | rt d=>exact a4
   | ct ρ2=>cases a4
   | bk ρ2=>cases a4
theorem Zqd (h:Vq c g n ρ s=some r):V3 c g ρ s=some r:=by
 unfold V3;have hx:∃n r,Vq c g n ρ s=some r:=⟨n,r,h⟩;rw[dif_pos hx];have h2:=zC (zC hx);have h3:=ZcN h2 (Nat.le_max_left _ n);have h4:=ZcN h (Nat.le_max_right (qby hx) n);exact h3.symm.trans h4
theorem Zhu (h:V3 c g ρ s=some r):∃n,Vq c g n ρ s=some r:=by
 unfold V3 at h;split at h
 ·grind
 ·cases h
theorem Zmr (hp:PassesOwn (xB X.prog X.w) X.A X.env X.xe)(hc:∀q,XW X (Zt G0 k q) c fc)(hb:B4 X G0 k body g):PX X G0 k (.While c body [] pos) (V3 fc g):=by
 obtain⟨tb,pb,qb⟩:=hb;have pc:PT X c (fun σ H Q=>∃q,UZ (Zt G0 k q) fc σ H Q):=by
  intro jN s σ H Q I ⟨q,Hf,ρ,pn,b,pn',h1,h2,h3,h4,h5⟩;obtain⟨t,p,qq⟩:=hc q;exact p jN s σ H Q I (qq σ Hf H ρ pn b pn' Q h1 h2 h3 h4 h5)
 refine⟨_,ZgL hp pc pb,λq kn jT H0 σ H ρ s out s' E j st e po=>?_⟩;obtain⟨n,e⟩:=Zhu e;refine⟨λm σ2 H2=>∃q2 ρ2 s2,J (Zt G0 k q2) [] kn jT H0 σ2 H2 ρ2/\(Zt G0 k q2).st s2 H2/\Vq fc g m ρ2 s2=some (out,s'),⟨n,q,ρ,s,j,st,e⟩,?_⟩;rintro m σ2 H2 ⟨q2,ρ2,s2,⟨j6,j2⟩,j8,eq2⟩
 cases m with
 | zero=>cases eq2
 | succ m=>
  obtain⟨b,s3,a1,a2⟩:=Zy eq2;have env:=by
   have:=j2.envA;rw[Zb1]at this;exact this
  refine⟨q2,j6,ρ2,s2,b,s3,j2.gr.fh,env,j8,a1,λHf' H' g' st'=>?_⟩;have j':J (Zt G0 k q2) [] kn jT H0 σ2 H' ρ2:=⟨Hf',j2.grow g'⟩
  cases b with
  | false=>
   obtain⟨rfl,rfl⟩:=ZM a2;exact VV (po q2 σ2 H' j' st')
  | true=>
   rw[if_pos rfl]at a2;obtain⟨o,s4,b3,b4⟩:=Zy a2;refine VW ⟨fun σ' H'=>∃q5 ρ5 s5,J (Zt G0 k q5) [] kn jT H0 σ' H' ρ5/\(Zt G0 k q5).st s5 H'/\Vq fc g m ρ5 s5=some (out,s'),fun σ' H' h=>⟨m,yk m,h⟩,?_⟩;refine qb q2 kn jT H0 σ2 H' ρ2 s3 o s4 _ j' st' b3 ?_
   cases o with
   | nx ρ5=>exact λq5 σ5 H5 j5 st5=>⟨q5,ρ5,s4,j5,st5,b4⟩
   | rt d=>
    obtain⟨rfl,rfl⟩:=ZM b4;exact po
   | ct ρ5=>cases b4
   | bk ρ5=>cases b4
end
noncomputable def JY (i:Nat)(g:List D->Option (List D)):Ze->M Out:=fun ρ=>Zp (Za i ρ) λd=>match d with
 | .clo 0 ds=>match g ds with
  | some ds'=>if UR (ρ.set i none)=true/\Yl ds'=true then ZJ (.nx (ρ.set i (some (.clo 0 ds'))))else ZS
  | none=>ZS
 | _=>ZS
theorem Zbu (e:JY i g ρ s=some (out,s')):s'=s/\∃ds ds',(ρ[i]?).bind id=some (.clo 0 ds)/\g ds=some ds'/\UR (ρ.set i none)=true/\Yl ds'=true/\out=.nx (ρ.set i (some (.clo 0 ds'))):=by
 obtain⟨d0,s1,a1,a2⟩:=Zy e;obtain⟨b1,rfl⟩:=Wo a1
 match d0,a2 with
 | .clo 0 ds,a2=>
  cases hg:g ds with
  | none=>simp only[hg]at a2;cases a2
  | some ds'=>
   simp only[hg]at a2;obtain⟨⟨h1,h2⟩,a3⟩:=XC a2;obtain⟨rfl,rfl⟩:=ZM a3;exact⟨rfl,ds,ds',b1,hg,h1,h2,rfl⟩
section
variable {G0:Gh}{k:TAd}{q q':TVs}
theorem Zo.tabq (nc:Z2 d=true)(r:Zo (Zt G0 k q) Hf d v):Zo (Zt G0 k q') Hf d v:=Zo.tr (G:=Zt G0 k q) (G':=Zt G0 k q') (λa o na e _=>⟨na,e⟩) rfl nc r
theorem Zj.tabq (nc:Yl ds=true)(r:Zj (Zt G0 k q) Hf ds vs):Zj (Zt G0 k q') Hf ds vs:=Zj.tr (G:=Zt G0 k q) (G':=Zt G0 k q') (λa o na e _=>⟨na,e⟩) rfl nc r
theorem Zch (j:Jf (Zt G0 k q) [] kn jT H0 σ Hf H ρ)(hi:(ρ[i]?).bind id=some (.clo 0 ds))(nc:UR (ρ.set i none)=true)(ho:∀b,¬(Zt G0 k q).fp b->H' b=H b)(r:Zj (Zt G0 k q') Hf ds' (BO q')) :
  J (Zt G0 k q') [] kn jT H0 σ H' (ρ.set i (some (.clo 0 ds'))):=by
 have hi':ρ[i]?=some (some (.clo 0 ds)):=by
  cases z:ρ[i]? with
  | none=>simp_all
  | some o=>simp_all
 have hl:=(qC.mp hi').1;refine⟨Hf,by simp[j.len],j.kn,⟨λb o nb e=>by rw[ho b nb];exact j.gr.hh b o nb e,j.gr.ff,λb o nb e=>by rw[ho b nb];exact j.gr.fh b o nb e,j.gr.nw⟩,λm d _ e=>?_,λm d z=>by simp at z,λm d a di dj z=>by simp at z⟩;by_cases h:i=m
 ·subst h
  rw[qU hl]at e
  cases e
  refine⟨.ref k.a,?_,Zo.tab r⟩;have:=(WY (λn d e=>j.fz n d (by simp) e) hi).1;exact this
 ·rw[qD h]at e
  obtain⟨v,q1,q2⟩:=j.fz m d (by simp) e;exact⟨v,q1,Zo.tabq (ZcM nc (by rw[qD h];exact e)) q2⟩
theorem Vl (j:Jf G [] kn jT H0 σ Hf H ρ):YA G Hf σ ρ:=λn d e=>j.fz n d (by simp) e
theorem ZcO {ds:List D}(r:Zj (Zt G0 k q) Hf (dn::dr::dc::hs) (BO q)):Zo (Zt G0 k q) Hf dn (.int q.n)/\Zo (Zt G0 k q) Hf dr (.ref q.r)/\Zo (Zt G0 k q) Hf dc (.int q.c)/\Zj (Zt G0 k q) Hf hs (q.hs.map V.int):=by
 obtain⟨_,_,e1,r1,r⟩:=jd.mp r;obtain⟨_,_,e1,r2,r⟩:=jd.mp r;obtain⟨_,_,e1,r3,r⟩:=jd.mp r;simp_all
theorem Zgf (h:Yl (dn::dr::dc::hs)=true):Z2 dn=true/\Z2 dr=true/\Z2 dc=true/\Yl hs=true:=by
 simp only[Yl,zc]at h;exact h
end
noncomputable def ZjH (i:Nat)(f:Ze->M D):Ze->M Out:=fun ρ=>Zp (f ρ) λd=>match d with
 | .lst xs=>JY i (λds=>match ds with | n::_::c::hs=>some (n :: .lst xs::c::hs) | _=>none) ρ
 | _=>ZS
noncomputable def Zgg (i:Nat)(f:Ze->M D):Ze->M Out:=fun ρ=>Zp (f ρ) λd=>match d with
 | .int z=>JY i (λds=>match ds with | n::r::_::hs=>some (n::r :: .int z::hs) | _=>none) ρ
 | _=>ZS
noncomputable def ZjI (i:Nat)(fx fv:Ze->M D):Ze->M Out:=fun ρ=>Zp (fv ρ) λv=>Zp (fx ρ) λx=>match v,x with
 | .int z,.int y=>JY i (λds=>match ds with | n::r::c::hs=>(Yc hs).bind λns=>(Xp ns.length y).map λj=>n::r::c::(ns.set j z).map D.int | _=>none) ρ
 | _,_=>ZS
section
variable {X:Cx}{G0:Gh}{k:TAd}
theorem Zok (hrd:Vt G0 k)(hal:k.a≠k.l)(he:∀q,PD X (Zt G0 k q) r1 e f)(hv:PE X (.Name x p) (Yd i))(c:Cls X.K k.C)(na:Xd X.K k.C "rows")
  (hs:xr e (some (.Attribute (.Name x p) "rows" p1)) pos.line X.env=pure false:=by rfl):PX X G0 k (.Assign [.Attribute (.Name x p) "rows" p1] e pos) (ZjH i f):=by
 have pe:PE X e (fun σ H Q=>∃q,B2 (Zt G0 k q) r1 f σ H Q):=by
  intro jN s σ H Q I ⟨q,Hf,ρ,pn,d,pn',h1,h2,h3,h4,h5⟩;obtain⟨t,pp,qq⟩:=he q;exact pp jN s σ H Q I (qq σ Hf H ρ pn d pn' Q h1 h2 h3 h4 h5)
 refine⟨_,By hv pe hs,λq kn jT H0 σ H ρ s out s' E ⟨Hf,j⟩ st e4 po=>?_⟩;obtain⟨d,s1,a1,a2⟩:=Zy e4
 match d,a1,a2 with
 | .lst xs,a1,a2=>
  obtain⟨rfl,ds,ds',b1,b2,b3,b4,rfl⟩:=Zbu a2
  match ds,b2,b1 with
  | dn::dr::dc::hs,b2,b1=>
   cases b2
   refine⟨q,Hf,ρ,s,_,_,j.gr.fh,Vl j,st,a1,λv jX H1 g1 jY r1 _=>?_⟩;have j1:=j.grow g1;obtain⟨h1,h2⟩:=WY (Vl j1) b1;obtain⟨r',vs,rfl,nr,hr,rr⟩:=jb.mp r1;refine⟨_,h1,k.a,k.C,k.dx,_,rfl,jY.2.1,c,na,by show 4<1000;decide,?_⟩;obtain⟨p1,p2,p3,p4⟩:=ZcO (ds:=[]) h2;obtain⟨n1,n2,n3,n4⟩:=Zgf b4
   let q':={ q with r:=r' }
   have ho:∀b,¬(Zt G0 k q).fp b->Zs H1 k.a (.ins k.C k.dx (YU "rows" (.ref r') (UV k q))) b=H1 b:=λb nb=>Zv λz=>nb (.inr (.inl z));refine po q' σ _ (Zch j1 b1 b3 ho (Zj.cons (Zo.tabq n1 p1) (Zj.cons (Zo.tabq n2 r1) (Zj.cons (Zo.tabq n3 p3) (Zj.tabq n4 p4))))) ⟨?_,by rw[Z1];rfl,by rw[Zv (qJ hal)];exact jY.2.2⟩;refine G0.mono _ H1 _ jY.1 (λb o rb eb=>?_) (λb φ eb=>?_) λb vs eb=>?_
   ·rw[Zv (show b≠k.a from λz=>hrd.1 (z▸rb))];exact eb
   ·rw[Zv (show b≠k.a from λz=>by rw[z,jY.2.1]at eb;cases eb)];exact eb
   ·rw[Zv (show b≠k.a from λz=>by rw[z,jY.2.1]at eb;cases eb)];exact eb
theorem Zms (hrd:Vt G0 k)(hal:k.a≠k.l)(he:∀q,PD X (Zt G0 k q) r1 e f)(hv:PE X (.Name x p) (Yd i))(c:Cls X.K k.C)(na:Xd X.K k.C "scale")
  (hs:xr e (some (.Attribute (.Name x p) "scale" p1)) pos.line X.env=pure false:=by rfl):PX X G0 k (.Assign [.Attribute (.Name x p) "scale" p1] e pos) (Zgg i f):=by
 have pe:PE X e (fun σ H Q=>∃q,B2 (Zt G0 k q) r1 f σ H Q):=by
  intro jN s σ H Q I ⟨q,Hf,ρ,pn,d,pn',h1,h2,h3,h4,h5⟩;obtain⟨t,pp,qq⟩:=he q;exact pp jN s σ H Q I (qq σ Hf H ρ pn d pn' Q h1 h2 h3 h4 h5)
 refine⟨_,By hv pe hs,λq kn jT H0 σ H ρ s out s' E ⟨Hf,j⟩ st e4 po=>?_⟩;obtain⟨d,s1,a1,a2⟩:=Zy e4
 match d,a1,a2 with
 | .int z,a1,a2=>
  obtain⟨rfl,ds,ds',b1,b2,b3,b4,rfl⟩:=Zbu a2
  match ds,b2,b1 with
  | dn::dr::dc::hs,b2,b1=>
   cases b2
   refine⟨q,Hf,ρ,s,_,_,j.gr.fh,Vl j,st,a1,λv jX H1 g1 jY r1 _=>?_⟩;have j1:=j.grow g1;obtain⟨h1,h2⟩:=WY (Vl j1) b1
   cases ja.mp r1
   refine⟨_,h1,k.a,k.C,k.dx,_,rfl,jY.2.1,c,na,by show 4<1000;decide,?_⟩;obtain⟨p1,p2,p3,p4⟩:=ZcO (ds:=[]) h2;obtain⟨n1,n2,n3,n4⟩:=Zgf b4
   let q':={ q with c:=z }
   have ho:∀b,¬(Zt G0 k q).fp b->Zs H1 k.a (.ins k.C k.dx (YU "scale" (.int z) (UV k q))) b=H1 b:=λb nb=>Zv λz=>nb (.inr (.inl z));refine po q' σ _ (Zch j1 b1 b3 ho (Zj.cons (Zo.tabq n1 p1) (Zj.cons (Zo.tabq n2 p2) (Zj.cons (ja.mpr rfl) (Zj.tabq n4 p4))))) ⟨?_,by rw[Z1];rfl,by rw[Zv (qJ hal)];exact jY.2.2⟩;refine G0.mono _ H1 _ jY.1 (λb o rb eb=>?_) (λb φ eb=>?_) λb vs eb=>?_
   ·rw[Zv (show b≠k.a from λz=>hrd.1 (z▸rb))];exact eb
   ·rw[Zv (show b≠k.a from λz=>by rw[z,jY.2.1]at eb;cases eb)];exact eb
   ·rw[Zv (show b≠k.a from λz=>by rw[z,jY.2.1]at eb;cases eb)];exact eb
end
section
variable {X:Cx}{G0:Gh}{k:TAd}
theorem Zmt (he:∀q,PD X (Zt G0 k q) r1 e f):PE X e (fun σ H Q=>∃q,B2 (Zt G0 k q) r1 f σ H Q):=by
 intro jN s σ H Q I ⟨q,Hf,ρ,pn,d,pn',h1,h2,h3,h4,h5⟩;obtain⟨t,pp,qq⟩:=he q;exact pp jN s σ H Q I (qq σ Hf H ρ pn d pn' Q h1 h2 h3 h4 h5)
theorem Zol {p1 p2 pos:Pos}(hrd:Vt G0 k)(hal:k.a≠k.l)(hx:∀q,PD X (Zt G0 k q) r1 ex fx)(hv:∀q,PD X (Zt G0 k q) r2 ev fv)(hn:PE X (.Name x p) (Yd i))(c:Cls X.K k.C)(na:Xd X.K k.C "holders")
  (hb:xq (.Name x p) "holders" X.env (eval (.Name x p) X.env)=eval (.Name x p) X.env:=by rfl)
  (hs:swapsWithSole [.Subscript (.Attribute (.Name x p) "holders" p1) ex p2] ev pos.line X.env=pure false:=by rfl) (hw:swappedStores [.Subscript (.Attribute (.Name x p) "holders" p1) ex p2] ev X.env=pure none:=by rfl)
  (h1:(assignEach [.Subscript (.Attribute (.Name x p) "holders" p1) ex p2] X.env).map (·.2)=[assign (.Subscript (.Attribute (.Name x p) "holders" p1) ex p2) X.env]:=by rfl)
  (ha:∀v,assign (.Subscript (.Attribute (.Name x p) "holders" p1) ex p2) X.env v=(do
   let ov<-holding [v] (eval (.Attribute (.Name x p) "holders" p1) X.env)
   let iv<-holding [v,ov] (eval ex X.env)
   standAt p2
   holding [v,ov,iv] (setItem ov iv v)
   release [v,ov,iv] []):=by intro _;rfl):PX X G0 k (.Assign [.Subscript (.Attribute (.Name x p) "holders" p1) ex p2] ev pos) (ZjI i fx fv):=by
 refine⟨_,Bx (Zmt hv) (ZdG (UL hn hb) (Zmt hx) Za5 ha) hs hw h1,λq kn jT H0 σ H ρ s out s' E ⟨Hf,j⟩ st e4 po=>?_⟩;obtain⟨v,s1,a1,a2⟩:=Zy e4;obtain⟨y,s2,a3,a4⟩:=Zy a2
 match v,y,a1,a3,a4 with
 | .int z,.int y,a1,a3,a4=>
  obtain⟨rfl,ds,ds',b1,b2,b3,b4,rfl⟩:=Zbu a4
  match ds,b2,b1 with
  | dn::dr::dc::hs,b2,b1=>
   refine⟨q,Hf,ρ,s,_,_,j.gr.fh,Vl j,st,a1,λw jX H1 g1 jY r1 _=>?_⟩;have j1:=j.grow g1;obtain⟨h1,_⟩:=WY (Vl j1) b1
   cases ja.mp r1
   refine⟨_,h1,k.a,k.C,k.dx,_,.ref k.l,rfl,jY.2.1,c,na,rfl,?_⟩;refine⟨q,jX,ρ,s1,_,_,g1.fh,Vl j1,jY,a3,λw2 j6 H2 g2 j8 r2 _=>?_⟩;have j2:=j1.grow g2;obtain⟨_,h2⟩:=WY (Vl j2) b1;rw[ja.mp r2];obtain⟨p1,p2,p3,p4⟩:=ZcO (ds:=[]) h2;have b2:((Yc hs).bind λns=>(Xp ns.length y).map λj=>dn::dr::dc::(ns.set j z).map D.int)=some ds':=b2
   cases hi:Yc hs with
   | none=>rw[hi]at b2;cases b2
   | some ns=>
    rw[hi]at b2;have b2:((Xp ns.length y).map λj=>dn::dr::dc::(ns.set j z).map D.int)=some ds':=b2;have en:q.hs=ns:=by
     rw[UF hi]at p4;exact Zek (jp p4)
    cases hj:Xp ns.length y with
    | none=>rw[hj]at b2;cases b2
    | some jj=>
     rw[hj]at b2
     cases b2
     obtain⟨n1,n2,n3,n4⟩:=Zgf b4;refine⟨k.l,_,y,jj,rfl,rfl,j8.2.2,by rw[qe,en];exact hj,?_⟩
     let q':TVs:={ q with hs:=ns.set jj z }
     have ho:∀b,¬(Zt G0 k q).fp b->Zs H2 k.l (.lst ((q.hs.map V.int).set jj (.int z))) b=H2 b:=λb nb=>Zv λz=>nb (.inr (.inr z));refine po q' σ _ (Zch (q':=q') j2 b1 b3 ho (Zj.cons (Zo.tabq n1 p1) (Zj.cons (Zo.tabq n2 p2) (Zj.cons (Zo.tabq n3 p3) (ZaN _))))) ⟨?_,by rw[Zv hal];exact j8.2.1,by rw[Z1,en,<-List.map_set]⟩;refine G0.mono _ H2 _ j8.1 (λb o rb eb=>?_) (λb φ eb=>?_) λb vs eb=>?_
     ·rw[Zv (show b≠k.l from λz=>hrd.2 (z▸rb))];exact eb
     ·rw[Zv (show b≠k.l from λz=>by rw[z,j8.2.2]at eb;cases eb)];exact eb
     ·rw[Zv (show b≠k.l from λz=>by rw[z,j8.2.2]at eb;cases eb)];exact eb
end
noncomputable def spTm (n:Nat)(C:Addr)(F:List D->M D):Sp:=λvs H Q _=>∃(G0:Gh) (k:TAd) (q:TVs) (Hf:Hp) (ds:List D) (s:Pn) (ds':List D) (s':Pn),k.C=C/\Vt G0 k/\k.a≠k.l/\vs.length=n/\ZC (Zt G0 k q) Hf H/\Zj (Zt G0 k q) Hf ds vs/\(Zt G0 k q).st s H/\F ds s=some (.clo 0 ds',s')/\
 ∀q' Hf' H',Gr (Zt G0 k q) Hf H Hf' H'->(Zt G0 k q').st s' H'->Zj (Zt G0 k q') Hf' ds' (BO q')->Q .non H'
noncomputable def runT (n kk:Nat)(g:Ze->M Out):List D->M D:=λds=>if ds.length=kk then Zp (g (ds.map some++qf (n-kk) none)) λo=>match o with
 | .nx ρ=>YO ((ρ[0]?).bind id)
 | _=>ZS else ZS
theorem fnT {P:xD}{w:World}{K:qd}{mg:Str->Option Value}{base:Heap}{st:Stmt}{C:Addr}{g:Ze->M Out}{lv:Nat}(F:Fun K x qual st f fd)(S:FnScope N ps (Zz st))(hN:ps.length<=N.length:=by decide)(h0:ps.length≠0:=by decide)
  (h:∀(cdv:Value) (A:xE) (outer:List Env) (s:Shared) (H:Hp) (E:XK),Room lv (A.deeper (envOfC qual (Zz st) s.heap.objs.size f cdv))->∀(G0:Gh) (k:TAd),k.C=C->Vt G0 k->k.a≠k.l->B4 (Vn ZP P w K mg base N qual (Zz st) f cdv A outer s H E).nox G0 k (XM st) g) :
  FnOk P w K mg base ZP (lv+1) f fd ps (spTm ps.length C (runT N.length ps.length g)):=by
 refine F.ok S (λvs H Q E h=>?_) λcdv A outer s0 H vs Q E hr hh=>?_
 ·obtain⟨G0,k,q,Hf,ds,s,ds',s',_,_,_,e,_⟩:=h
  exact e
 ·obtain⟨G0,k,q,Hf,ds,s,ds',s',hC,hrd,hal,el,e1,r,st,eF,kk⟩:=hh
  obtain⟨t,p,d⟩:=h cdv A outer s0 H E hr G0 k hC hrd hal;refine⟨t,p,?_⟩;obtain⟨hd,eF⟩:=XC eF;obtain⟨o,s1,a1,a2⟩:=Zy eF;have j0:J (Zt G0 k q) [] Hf Hf H (L2.start N vs) H (ds.map some++qf (N.length-ps.length) none):=⟨Hf,Zoj e1 r (by omega)⟩
  cases o with
  | nx ρ=>
   obtain⟨a3,rfl⟩:=Wo a2;refine d q Hf Hf H _ H _ s _ _ _ j0 st a1 λq' σ' H' ⟨Hf',j'⟩ st'=>?_;obtain⟨h1,h2⟩:=WY (Vl j') a3;exact kk q' Hf' H' ⟨j'.gr.hh,j'.gr.ff,j'.gr.fh,j'.gr.nw⟩ st' h2
  | rt d0=>cases a2
  | bk ρ=>cases a2
  | ct ρ=>cases a2
noncomputable def BQ (P:xD)(w:World)(K:qd)(mg:Str->Option Value)(base:Heap)(C:Addr)(k:Nat)(m:Str)(n:Nat)(F:List D->M D):Prop:=
 ∃f fd ps,FnOk P w K mg base ZP k f fd ps (spTm n C F)/\Meth K C m f/\Xb K fd ps []
noncomputable def VN (F:List D->M D)(i:Nat)(fs:Ze->M (List D)):Ze->M Out:=fun ρ=>Zp (Za i ρ) λc=>match c with
 | .clo 0 hs=>Zp (fs ρ) λds=>Zp (F (.clo 0 hs::ds)) λd=>match d with
  | .clo 0 hs'=>JY i (λ_=>some hs') ρ
  | _=>ZS
 | _=>ZS
section
variable {X:Cx}{G0:Gh}{k:TAd}
theorem ZjJ {E0:XK}(hrd:Vt G0 k)(hal:k.a≠k.l)(hl:JX m)
  (ya:∀q (σ:St) (Hf H:Hp) (ρ:Ze) (s:Pn) (ds:List D) (s':Pn) (Q:List V->Hp->Prop),ZC (Zt G0 k q) Hf H->YA (Zt G0 k q) Hf σ ρ->(Zt G0 k q).st s H->fs ρ s=some (ds,s')->
   (∀vs Hf' H',Gr (Zt G0 k q) Hf H Hf' H'->(Zt G0 k q).st s' H'->Zj (Zt G0 k q) Hf' ds vs->Q vs H')->t σ H Q)
  (jV:∀ρ s ds s',fs ρ s=some (ds,s')->ds.length+1=n):DosT G0 k (JI (Zjo k.C m (spTm n k.C F) [] E0 (Yd i) t)) (VN F i fs):=λq kn jT H0 σ H ρ s out s' E ⟨Hf,j⟩ st e4 po=>by
 obtain⟨c0,s1,a1,a2⟩:=Zy e4;obtain⟨b1,rfl⟩:=Wo a1
 match c0,a2,b1 with
 | .clo 0 hs,a2,b1=>
  obtain⟨ds,s2,c1,c2⟩:=Zy a2;obtain⟨d,s3,c3,c4⟩:=Zy c2
  match d,c3,c4 with
  | .clo 0 hs',c3,c4=>
   obtain⟨rfl,ds0,ds',b2,b3,b4,b5,rfl⟩:=Zbu c4
   cases b3
   obtain⟨h1,h2⟩:=WY (Vl j) b1;refine⟨_,h1,k.a,k.dx,_,rfl,st.2.1,Zel hl,?_⟩;refine ya q σ Hf H ρ _ ds s2 _ j.gr.fh (Vl j) st c1 λvs Hf' H' g st' r=>?_;rw[zu];have hn:=jV _ _ _ _ c1;refine⟨G0,k,q,Hf',.clo 0 hs::ds,s2,hs',_,rfl,hrd,hal,by rw[zb,<-r.length];exact hn,g.fh,Zj.cons (Zo.tab (h2.ext g.ff)) r,st',c3,λq' j6 H2 g2 j8 r2=>?_⟩;have j2:=(j.grow g).grow g2;exact po q' σ H2 (Zch j2 b1 b4 (λb _=>rfl) r2) j8
theorem Zmu {apos pos pos':Pos}{pl:Sem Bool}(c:BQ X.prog X.w X.K X.mg X.base k.C j m 1 F)(hrd:Vt G0 k)(hal:k.a≠k.l)(hr:Room kl X.A)(kc:TCl X.K k.C)(hv:PE X (.Name x p) (Yd i))(hjk:j<=kl:=by decide)(hl:JX m:=by decide)
  (ht:eval (.Call (.Attribute (.Name x p) m apos) [] [] pos) X.env=(do
   let ov<-eval (.Name x p) X.env
   standAt apos.atName
   let (f,first)<-holding [ov] (getMethod ov m pl)
   callWith pos f first (backTo pos (xh [] X.env)) (xp pos (xi [] X.env))):=by rfl)
  (hs:xr (.Call (.Attribute (.Name x p) m apos) [] [] pos) none pos'.line X.env=pure false:=by rfl):PX X G0 k (.Expr (.Call (.Attribute (.Name x p) m apos) [] [] pos) pos') (VN F i Zf):=by
 obtain⟨f,fd,ps,FN,hm,hb⟩:=c;exact⟨_,ZbY (ZgN hv kc.cl hm (FN.mono hjk) hr hb .nil JJ ht) hs,ZjJ hrd hal hl (λq σ Hf H ρ s ds s' Q e1 e2 e3 e4 kk=>by
  obtain⟨rfl,rfl⟩:=ZM e4;exact kk [] Hf H (.refl e1) e3 (Zj.nil_iff.mpr rfl)) fun ρ s ds s' q=>by rw[WB ρ s ds s' q]⟩
theorem Zom {apos pos pos':Pos}{pl:Sem Bool}(c:BQ X.prog X.w X.K X.mg X.base k.C j m n F)(hrd:Vt G0 k)(hal:k.a≠k.l)(hr:Room kl X.A)(kc:TCl X.K k.C)(hv:PE X (.Name x p) (Yd i))(ha:∀q,Wy X (Zt G0 k q) (e::es) fs)
  (jV:∀ρ s ds s',fs ρ s=some (ds,s')->ds.length+1=n:=by intro ρ s ds s' h;first | exact congrArg (· + 1) (YI WB ρ s ds s' h) | exact congrArg (· + 1) (YI (YI WB) ρ s ds s' h)) (hjk:j<=kl:=by decide) (hl:JX m:=by decide)
  (hst:xh (e::es) X.env=(false,eval e X.env)::xh es X.env:=by rfl) (hpl:(backTo pos (xh es X.env)).any (·.1)=false:=by rfl)
  (ht:eval (.Call (.Attribute (.Name x p) m apos) (e::es) [] pos) X.env=(do
   let ov<-eval (.Name x p) X.env
   standAt apos.atName
   let (f,first)<-holding [ov] (getMethod ov m pl)
   callWith pos f first (backTo pos (xh (e::es) X.env)) (xp pos (xi [] X.env))):=by rfl)
  (hs:xr (.Call (.Attribute (.Name x p) m apos) (e::es) [] pos) none pos'.line X.env=pure false:=by rfl):PX X G0 k (.Expr (.Call (.Attribute (.Name x p) m apos) (e::es) [] pos) pos') (VN F i fs):=by
 obtain⟨f,fd,ps,FN,hm,hb⟩:=c;have pa:PA X (e::es) (fun σ H Q=>∃q Hf ρ s ds s',ZC (Zt G0 k q) Hf H/\YA (Zt G0 k q) Hf σ ρ/\(Zt G0 k q).st s H/\fs ρ s=some (ds,s')/\∀vs Hf' H',Gr (Zt G0 k q) Hf H Hf' H'->(Zt G0 k q).st s' H'->Zj (Zt G0 k q) Hf' ds vs->Q vs H'):=by
  intro pos jN s σ H Q I ⟨q,Hf,ρ,pn,ds,pn',h1,h2,h3,h4,h5⟩;obtain⟨t,pp,qq⟩:=ha q;exact pp pos jN s σ H Q I (qq σ Hf H ρ pn ds pn' Q h1 h2 h3 h4 h5)
 exact⟨_,ZbY (Zjp hv kc.cl hm (FN.mono hjk) hr hb .nil JJ pa hst hpl ht) hs,ZjJ hrd hal hl (λq σ Hf H ρ s ds s' Q e1 e2 e3 e4 kk=>⟨q,Hf,ρ,s,ds,s',e1,e2,e3,e4,kk⟩) jV⟩
end
noncomputable def mIni (fw fr:Ze->M D):List D->Ze->M (List D×Ze)
 | [],ρ=>ZJ ([],ρ)
 | d::ds,ρ=>Zp (fw (ρ.set 4 (some d))) λw=>Zp (fr ((ρ.set 4 (some d)).set 5 (some w))) λr=>Zp (mIni fw fr ds ((ρ.set 4 (some d)).set 5 (some w))) λp=>ZJ (r::p.1,p.2)
noncomputable def iniF (f1 fw fr fl fh:Ze->M D)(fi:Ze->M (List D)):D->D->M (List D):=λdn dA=>
 Zp (f1 [none,some dn,some dA,none,none,none]) λdm=>Zp (fi [none,some dn,some dA,some dm,none,none]) λis=>
 Zp (mIni fw fr is [none,some dn,some dA,some dm,none,none]) λp=>Zp (fl p.2) λlast=>Zp (fh p.2) λdh=>match dn,dh with
  | .int n,.lst hs=>match Yc hs with
   | some ns=>if Yl (p.1 ++ [last])=true/\p.1.length+1<=xg then ZJ (.int n :: .lst (p.1 ++ [last]) :: .int 1::ns.map D.int)else ZS
   | none=>ZS
  | _,_=>ZS
structure IS (G:Gh)(x:Addr)(H Hf j6 H2:Hp)(s2:Pn):Prop where
 hh:∀b o,b≠x->¬G.fp b->H b=some o->H2 b=some o
 ff:ZC G Hf j6
 fh:ZC G j6 H2
 nw:∀b,¬G.fp b->Hf b=none->Nt (H b)->j6 b=none
 st:G.st s2 H2
section
variable {G:Gh}{x:Addr}{H Hf j6 H2 Hf3 H3:Hp}{s2 s3:Pn}
theorem IS.grow (i:IS G x H Hf j6 H2 s2)(hx:H2 x=some o)(nx:¬G.fp x)(hN:Nt (H x))(ht:Nt (H2 x))(hf:j6 x=none)(g:Gr G j6 H2 Hf3 H3)(st:G.st s3 H3):IS G x H Hf Hf3 H3 s3/\H3 x=some o/\Hf3 x=none:=by
 refine⟨⟨λb o n1 n2 e=>g.hh b o n2 (i.hh b o n1 n2 e),i.ff.trans g.ff,g.fh,λb n e t=>?_,st⟩,g.hh x o nx hx,g.nw x nx hf ht⟩;by_cases e1:b=x
 ·subst e1;exact g.nw b n (i.nw b n e t) ht
 ·exact g.nw b n (i.nw b n e t) (let ⟨u,q1,q2⟩:=t;⟨u,i.hh b u e1 n q1,q2⟩)
theorem IS.put (i:IS G x H Hf j6 H2 s2)(nr:¬G.rd b0)(hf:j6 b0=none)(hb:b0=x∨H b0=none)(hx:(∀φ,H2 b0≠some (.ext φ))/\∀vs,H2 b0≠some (.tup vs)):IS G x H Hf j6 (Zs H2 b0 o) s2:=by
 refine⟨λb u n1 n2 e=>?_,i.ff,λb u n e=>?_,i.nw,?_⟩
 ·rw[Zv λz=>?_]
  ·exact i.hh b u n1 n2 e
  ·grind
 ·rw[Zv λz=>by grind]
  exact i.fh b u n e
 ·refine G.mono _ H2 _ i.st (λb u rb e=>?_) (λb φ e=>?_) λb vs e=>?_
  ·rw[Zv (show b≠b0 from λz=>nr (z▸rb))];exact e
  ·rw[Zv (show b≠b0 from λz=>hx.1 φ (z▸e))];exact e
  ·rw[Zv (show b≠b0 from λz=>hx.2 vs (z▸e))];exact e
end
theorem WN (h:o=some (HO.ins C dx fs)):Nt o:=⟨_,h,λvs z=>by cases z⟩
theorem Zqe (h:o=some (HO.lst vs)):Nt o:=⟨_,h,λvs z=>by cases z⟩
theorem Zgh (h:o=some (HO.ins C dx fs)):(∀φ,o≠some (.ext φ))/\∀vs,o≠some (.tup vs):=⟨fun φ z=>(by grind),fun φ z=>(by grind)⟩
theorem Zmv (h:o=some (HO.lst vs)):(∀φ,o≠some (.ext φ))/\∀vs,o≠some (.tup vs):=⟨fun φ z=>(by grind),fun φ z=>(by grind)⟩
theorem Zon (h:o=none):(∀φ,o≠some (HO.ext φ))/\∀vs,o≠some (.tup vs):=⟨fun φ z=>(by grind),fun φ z=>(by grind)⟩
theorem BR (g:Gr G j6 H2 Hf3 H3)(nr:¬G.fp r)(h:H2 r=some (.lst refs))(hf:j6 r=none):H3 r=some (.lst refs)/\Hf3 r=none:=⟨g.hh r _ nr h,g.nw r nr hf (Zqe h)⟩
theorem env6 (rb:Zo G Hf dA vb)(rm:Zo G Hf dm vm)(h4:∀d,o4=some d->∃v,x4=some v/\Zo G Hf d v)(h5:∀d,o5=some d->∃v,x5=some v/\Zo G Hf d v) :
  YA G Hf [some (.ref x),some (.int n),some vb,some vm,x4,x5] [none,some (.int n),some dA,some dm,o4,o5]:=λi d e=>by
 match i,e with
 | 0,e=>cases e
 | 1,e=>cases e;exact⟨_,rfl,ja.mpr rfl⟩
 | 2,e=>simp_all
 | 3,e=>simp_all
 | 4,e=>
  simp_all
 | 5,e=>
  simp_all
 | i+6,e=>simp at e
noncomputable def ZiV (G:Gh)(C x dx:Addr)(H Hf:Hp)(ds':List D)(s':Pn)(Q:Hp->Prop):Prop:=
 ∀(q:TVs) (l:Addr) (Hf' H':Hp),H l=none->l≠x->IS G x H Hf Hf' H' s'->Hf' x=none->Hf' l=none->H' x=some (.ins C dx (UV ⟨x,C,dx,l⟩ q))->H' l=some (.lst (q.hs.map V.int))->Zj (Zt G ⟨x,C,dx,l⟩ q) Hf' ds' (BO q)->Q H'
theorem Zmw (kc:TCl X.K C)(hN:X.N.Nodup)(h3:X.N[3]?=some ("many" : Str))(h4:X.N[4]?=some ("i" : Str))(l3:WR X.env.scope "many")(l4:WR X.env.scope "i")
  (hf3:X.fn "many" = true∨X.env.scope.names.lookup ("many" : Str)=some .local) (hf4:X.fn "i" = true∨X.env.scope.names.lookup ("i" : Str)=some .local)
  (hs:∀p,PE X (.Name "self" p) (Yd 0)) (hn:PE X (.Name "n" q2) (Yd 1)) (hp:PassesOwn (xB X.prog X.w) X.A X.env X.xe) (hcalm:X.calm=true)
  (p1:PD X G r1 e1 f1) (pi:XA X G (.Name "i" q4) iter fi) (pw:JU X G rw_ 5 stw fw) (pr:PD X G rr er fr) (pl:PD X G rl el fl) (ph:PD X G true eh fh)
  (s1:xr e1 (some (.Name "many" q1)) u1.line X.env=pure false)
  (s2:xr (.Name "n" q2) (some (.Attribute (.Name "self" q3) "n" u2)) u3.line X.env=pure false)
  (s3:xr (.List [] q5) (some (.Attribute (.Name "self" q6) "rows" u4)) u5.line X.env=pure false)
  (s4:∀x,foldedSetIterable iter X.env x=pure x)
  (s6:xr eh (some (.Attribute (.Name "self" v1) "holders" v2)) v3.line X.env=pure false)
  (s7:xr (.Constant (.int 1) j9 v4) (some (.Attribute (.Name "self" v5) "scale" v6)) v7.line X.env=pure false)
  (ap1:∀te,PE X er te->PS X (.Expr (.Call (.Attribute (.Attribute (.Name "self" q8) "rows" u7) "append" u8) [er] [] u9) v8) (JI (B1 X.K "list" Bp (tFld X.K (Yd 0) "rows") (Uk te VU))))
  (ap2:∀te,PE X el te->PS X (.Expr (.Call (.Attribute (.Attribute (.Name "self" q9) "rows" w1) "append" w2) [el] [] w3) w4) (JI (B1 X.K "list" Bp (tFld X.K (Yd 0) "rows") (Uk te VU)))) :
  ∃t,XV X [.Assign [.Name "many" q1] e1 u1,.Assign [.Attribute (.Name "self" q3) "n" u2] (.Name "n" q2) u3,.Assign [.Attribute (.Name "self" q6) "rows" u4] (.List [] q5) u5,
   .For (.Name "i" q4) iter [stw,.Expr (.Call (.Attribute (.Attribute (.Name "self" q8) "rows" u7) "append" u8) [er] [] u9) v8] [] v9,
   .Expr (.Call (.Attribute (.Attribute (.Name "self" q9) "rows" w1) "append" w2) [el] [] w3) w4,.Assign [.Attribute (.Name "self" v1) "holders" v2] eh v3,.Assign [.Attribute (.Name "self" v5) "scale" v6] (.Constant (.int 1) j9 v4) v7] t/\
  ∀(x dx:Addr) (va vb:V) (dn dA:D) (H Hf:Hp) (s:Pn) (ds':List D) (s':Pn) (E:Ends),H x=some (.ins C dx [])->¬G.rd x->Hf x=none->ZC G Hf H->Zj G Hf [dn,dA] [va,vb]->G.st s H->iniF f1 fw fr fl fh fi dn dA s=some (ds',s')->ZiV G C x dx H Hf ds' s' (λH'=>∀σ',E.nx σ' H')->
   t E [some (.ref x),some va,some vb,none,none,none] H:=by
 obtain⟨t1,a1,y1⟩:=p1;obtain⟨wi,ai,yi⟩:=pi;obtain⟨tw,aw,yw⟩:=pw;obtain⟨tr,ar,yr⟩:=pr;obtain⟨tl,al,yl⟩:=pl;obtain⟨th,ah,yh⟩:=ph;refine⟨_,XZ (Ub hN h3 l3 a1 s1 hf3) (XZ (By (hs _) hn s2) (XZ (By (hs _) (Zlq X4) s3) (XZ (Zlj hp hcalm ai (Vy hN h4 l4 hf4) (XZ aw (Js (ap1 _ ar))) s4) (XZ (ap2 _ al) (XZ (By (hs _) ah s6) (Js (By (hs _) Xa s7))))))),?_⟩;intro x dx va vb dn dA H Hf s ds' s' E hx nrx hfx e0 r0 st0 eF kk;have nfx:¬G.fp x:=λz=>nrx (G.sub x z);obtain⟨dm,s1,c1,eF⟩:=Zy eF;obtain⟨is,s2,c2,eF⟩:=Zy eF;obtain⟨pp,s3,c3,eF⟩:=Zy eF;obtain⟨last,s4,c4,eF⟩:=Zy eF;obtain⟨dh,s5,c5,eF⟩:=Zy eF
 match dn,dh,eF,c1,c2,c3,c5,r0 with
 | .int n,.lst hs,eF,c1,c2,c3,c5,r0=>
  cases hi:Yc hs with
  | none=>simp only[hi]at eF;cases eF
  | some ns=>
   simp only[hi]at eF;obtain⟨⟨nc,sz⟩,eF⟩:=XC eF;obtain⟨rfl,rfl⟩:=ZM eF;obtain⟨u1,u2,eu,ra,rb⟩:=jo r0
   cases eu
   cases ja.mp ra
   have i0:IS G x H Hf Hf H s:=⟨λb o _ _ e=>e,.refl _ _,e0,λb _ e _=>e,st0⟩;have env0:YA G Hf [some (.ref x),some (.int n),some vb,none,none,none] [none,some (.int n),some dA,none,none,none]:=λi d e=>by
    match i,e with
    | 0,e=>cases e
    | 1,e=>cases e;exact⟨_,rfl,ra⟩
    | 2,e=>cases e;exact⟨_,rfl,rb⟩
    | 3,e=>cases e
    | 4,e=>cases e
    | 5,e=>cases e
    | i+6,e=>simp at e
   refine y1 _ Hf H _ s dm s1 _ e0 env0 st0 c1 λvm jX H1 g1 jY rm _=>?_;obtain⟨i1,hx1,hfx1⟩:=i0.grow hx nfx (WN hx) (WN hx) hfx g1 jY;have env1:YA G jX [some (.ref x),some (.int n),some vb,some vm,none,none] [none,some (.int n),some dA,some dm,none,none]:=λi d e=>by
    match i,e with
    | 0,e=>cases e
    | 1,e=>cases e;exact⟨_,rfl,ra.ext g1.ff⟩
    | 2,e=>cases e;exact⟨_,rfl,rb.ext g1.ff⟩
    | 3,e=>cases e;exact⟨_,rfl,rm⟩
    | 4,e=>cases e
    | 5,e=>cases e
    | i+6,e=>simp at e
   refine⟨_,rfl,_,rfl,x,C,dx,[],rfl,hx1,kc.cl,kc.n,by decide,?_⟩;have i2:IS G x H Hf jX (Zs H1 x (.ins C dx (YU "n" (.int n) []))) s1:=i1.put nrx hfx1 (.inl rfl) (Zgh hx1);refine⟨zr _,λr hr=>?_⟩;have rx:r≠x:=λz=>by rw[z,Z1]at hr;cases hr
   have hr1:H1 r=none:=by rw[Zv rx]at hr;exact hr
   have nrr:¬G.rd r:=ju jY hr1;have hrf:jX r=none:=by
    cases z:jX r with
    | none=>rfl
    | some o=>rw[g1.fh r o (λy=>nrr (G.sub r y)) z]at hr1;cases hr1
   have hr0:H r=none:=by
    cases z:H r with
    | none=>rfl
    | some o=>rw[i1.hh r o rx (λy=>nrr (G.sub r y)) z]at hr1;cases hr1
   have i3:=i2.put (o:=.lst []) nrr hrf (.inr hr0) (Zon hr);have hx3:Zs (Zs H1 x (.ins C dx (YU "n" (.int n) []))) r (.lst []) x=some (.ins C dx [("n",.int n)]):=by rw[Zv (qJ rx),Z1];rfl
   refine⟨_,rfl,x,C,dx,_,rfl,hx3,kc.cl,kc.rows,by show 1<1000;decide,?_⟩;have i4:=i3.put (o:=.ins C dx (YU "rows" (.ref r) [("n",.int n)])) nrx hfx1 (.inl rfl) (Zgh hx3);have hx4:Zs (Zs (Zs H1 x (.ins C dx (YU "n" (.int n) []))) r (.lst [])) x (.ins C dx (YU "rows" (.ref r) [("n",.int n)])) x=some (.ins C dx [("n",.int n),("rows",.ref r)]):=by rw[Z1];rfl
   have hr4:Zs (Zs (Zs H1 x (.ins C dx (YU "n" (.int n) []))) r (.lst [])) x (.ins C dx (YU "rows" (.ref r) [("n",.int n)])) r=some (.lst []):=by rw[Zv rx,Z1]
   generalize Zs (Zs (Zs H1 x (.ins C dx (YU "n" (.int n) []))) r (.lst [])) x (.ins C dx (YU "rows" (.ref r) [("n",.int n)]))=H4 at i4 hx4 hr4;have nfr:¬G.fp r:=λy=>nrr (G.sub r y);refine yi _ jX H4 _ s1 is s2 _ i4.fh env1 i4.st c2 λJt j6 H5 g5 st5 it=>?_;obtain⟨i5,hx5,hfx5⟩:=i4.grow hx4 nfx (WN hx) (WN hx4) hfx1 g5 st5;obtain⟨hr5,hfr5⟩:=BR g5 nfr hr4 hrf;have rb5:=(rb.ext g1.ff).ext g5.ff;have rm5:=rm.ext g5.ff;refine⟨λi m σ2 H2=>∃Hf3 s0 rows refs o4 o5 x4 x5 rest,σ2=[some (.ref x),some (.int n),some vb,some vm,x4,x5]/\YA G Hf3 σ2 [none,some (.int n),some dA,some dm,o4,o5]/\IS G x H Hf Hf3 H2 s0/\ZC G j6 Hf3/\H2 x=some (.ins C dx [("n",.int n),("rows",.ref r)])/\Hf3 x=none/\H2 r=some (.lst refs)/\Hf3 r=none/\Zj G Hf3 rows refs/\mIni fw fr (is.drop i) [none,some (.int n),some dA,some dm,o4,o5] s0=some ((rest,pp.2),s3)/\rows++rest=pp.1/\i<=is.length/\m=is.length-i,
    ⟨_,j6,s2,[],[],none,none,none,none,pp.1,rfl,env6 rb5 rm5 (λd z=>by cases z) (λd z=>by cases z),i5,.refl _ _,hx5,hfx5,hr5,hfr5,Zj.nil_iff.mpr rfl,c3,rfl,zr _,rfl⟩,?_⟩
   rintro i m σ2 H2 ⟨Hf3,s0,rows,refs,o4,o5,x4,x5,rest,rfl,env3,i6,e23,hx6,hfx6,hr6,hfr6,rr6,c6,c7,hle,rfl⟩;obtain⟨it1,it2⟩:=it i Hf3 H2 s0 e23 i6.fh i6.st;have rb6:=rb5.ext e23;have rm6:=rm5.ext e23;by_cases hlt:i<is.length
   ·rw[yd hlt]at c6
    obtain⟨w,s6,d1,c6⟩:=Zy c6;obtain⟨rw',s7,d2,c6⟩:=Zy c6;obtain⟨p2,s8,d3,c6⟩:=Zy c6;obtain⟨ep,rfl⟩:=ZM c6;obtain⟨go,yld⟩:=it1 is[i] (by simp[hlt]);refine .inr ⟨go,fun σ' H'=>∃Hf3 s0 rows refs o4 o5 x4 x5 rest,σ'=[some (.ref x),some (.int n),some vb,some vm,x4,x5]/\YA G Hf3 σ' [none,some (.int n),some dA,some dm,o4,o5]/\IS G x H Hf Hf3 H' s0/\ZC G j6 Hf3/\H' x=some (.ins C dx [("n",.int n),("rows",.ref r)])/\Hf3 x=none/\H' r=some (.lst refs)/\Hf3 r=none/\Zj G Hf3 rows refs/\mIni fw fr (is.drop (i+1)) [none,some (.int n),some dA,some dm,o4,o5] s0=some ((rest,pp.2),s3)/\rows++rest=pp.1,
     fun σ' H' ⟨Hf3,s0,rows,refs,o4,o5,x4,x5,rest,a1,a2,a3,a4,a5,a6,a7,a8,a9,b1,b2⟩=>⟨_,by omega,Hf3,s0,rows,refs,o4,o5,x4,x5,rest,a1,a2,a3,a4,a5,a6,a7,a8,a9,b1,b2,hlt,rfl⟩,λy H3 y3=>?_⟩
    obtain⟨Hf4,g4,st4,r4⟩:=yld y H3 y3;obtain⟨i7,hx7,hfx7⟩:=i6.grow hx6 nfx (WN hx) (WN hx6) hfx6 g4 st4;obtain⟨hr7,hfr7⟩:=BR g4 nfr hr6 hfr6;have env4:=env6 (x:=x) (n:=n) (x4:=some y) (x5:=x5) (o4:=some is[i]) (o5:=o5) (rb6.ext g4.ff) (rm6.ext g4.ff) (λd z=>by cases z;exact⟨y,rfl,r4⟩) (λd z=>by
     obtain⟨v,h1,h2⟩:=env3 5 d (by rw[z];rfl);exact⟨v,by simpa using h1,h2.ext g4.ff⟩)
    refine yw _ Hf4 H3 _ s0 w s6 _ g4.fh env4 st4 d1 λv5 Hf5 H5' g6 st6 r5 _=>?_;obtain⟨i8,hx8,hfx8⟩:=i7.grow hx7 nfx (WN hx) (WN hx7) hfx7 g6 st6;obtain⟨hr8,hfr8⟩:=BR g6 nfr hr7 hfr7;have env5:=env6 (x:=x) (n:=n) (x4:=some y) (x5:=some v5) (o4:=some is[i]) (o5:=some w) ((rb6.ext g4.ff).ext g6.ff) ((rm6.ext g4.ff).ext g6.ff) (λd z=>by cases z;exact⟨y,rfl,r4.ext g6.ff⟩) (λd z=>by cases z;exact⟨v5,rfl,r5⟩);refine⟨_,rfl,x,C,dx,_,.ref r,rfl,hx8,kc.cl,kc.rows,rfl,.inl ⟨rfl,_,ZV.of hr8⟩,?_⟩;refine yr _ Hf5 H5' _ s6 rw' s7 _ g6.fh env5 st6 d2 λv6 Hf6 H6 g7 st7 r6 _=>?_;obtain⟨i9,hx9,hfx9⟩:=i8.grow hx8 nfx (WN hx) (WN hx8) hfx8 g7 st7;obtain⟨hr9,hfr9⟩:=BR g7 nfr hr8 hfr8;have ln:refs.length<xg:=by
     have l1:=rr6.length;have l2:rows.length+rest.length=pp.1.length:=by rw[<-c7,qQ]
     omega
    refine⟨r,refs,v6,rfl,rfl,hr9,ln,?_⟩;have i10:=i9.put (o:=.lst (refs ++ [v6])) nrr hfr9 (.inr hr0) (Zmv hr9);have e1:rest=rw'::p2.1:=(qbR ep).1;have e2:pp.2=p2.2:=(qbR ep).2;refine⟨Hf6,s7,rows ++ [rw'],refs ++ [v6],some is[i],some w,some y,some v5,p2.1,rfl,env5.ext g7.ff,i10,((e23.trans g4.ff).trans g6.ff).trans g7.ff,by rw[Zv (qJ rx)];exact hx9,hfx9,Z1,hfr9,((((rr6.ext g4.ff).ext g6.ff).ext g7.ff).append (Zj.one r6)),?_,?_⟩
    ·rw[e2];exact d3
    ·rw[<-c7,e1];simp
   ·have hd:is.drop i=[]:=qaN.mpr (by omega)
    rw[hd]at c6;obtain⟨ep,rfl⟩:=ZM c6;have e1:rest=[]:=(qbR ep).1;have e2:pp.2=[none,some (.int n),some dA,some dm,o4,o5]:=(qbR ep).2;subst e1;rw[zu]at c7;refine .inl ⟨it2 (by omega),?_⟩;rw[e2]at c4 c5;refine⟨_,rfl,x,C,dx,_,.ref r,rfl,hx6,kc.cl,kc.rows,rfl,.inl ⟨rfl,_,ZV.of hr6⟩,?_⟩;refine yl _ Hf3 H2 _ _ last s4 _ i6.fh env3 i6.st c4 λv6 Hf6 H6 g7 st7 r6 _=>?_;obtain⟨i9,hx9,hfx9⟩:=i6.grow hx6 nfx (WN hx) (WN hx6) hfx6 g7 st7;obtain⟨hr9,hfr9⟩:=BR g7 nfr hr6 hfr6;have ln:refs.length<xg:=by
     have l1:=rr6.length;rw[c7]at l1;omega
    refine⟨r,refs,v6,rfl,rfl,hr9,ln,?_⟩;have i10:=i9.put (o:=.lst (refs ++ [v6])) nrr hfr9 (.inr hr0) (Zmv hr9);have hx10:Zs H6 r (.lst (refs ++ [v6])) x=some (.ins C dx [("n",.int n),("rows",.ref r)]):=by rw[Zv (qJ rx)];exact hx9
    have rows10:Zj G Hf6 (pp.1 ++ [last]) (refs ++ [v6]):=by rw[<-c7];exact(rr6.ext g7.ff).append (Zj.one r6)
    refine yh _ Hf6 _ _ s4 _ _ _ i10.fh (env3.ext g7.ff) i10.st c5 λv7 Hf7 H7 g8 st8 r7 fz=>?_;obtain⟨i11,hx11,hfx11⟩:=i10.grow hx10 nfx (WN hx) (WN hx10) hfx9 g8 st8;obtain⟨hr11,hfr11⟩:=BR g8 nfr Z1 hfr9;obtain⟨l,vs7,rfl,nl,hl7,rl7⟩:=jb.mp r7;have hl0:=(fz rfl l rfl trivial).1;have lx:l≠x:=λz=>by rw[z,hx10]at hl0;cases hl0
    have lr:l≠r:=λz=>by rw[z,Z1]at hl0;cases hl0
    have hl6:Hf6 l=none:=by
     cases z:Hf6 l with
     | none=>rfl
     | some o=>rw[i10.fh l o nl z]at hl0;cases hl0
    have hlH:H l=none:=by
     cases z:H l with
     | none=>rfl
     | some o=>rw[i10.hh l o lx nl z]at hl0;cases hl0
    have hf0:∀b o,¬G.fp b->H b=none->Hf b=some o->False:=λb o n1 n2 z=>by rw[e0 b o n1 z]at n2;cases n2
    rw[UF hi]at rl7;have ev7:=jp rl7;subst ev7;have hl11:=g8.fh l _ nl hl7;refine⟨_,rfl,x,C,dx,_,rfl,hx11,kc.cl,kc.holders,by show 2<1000;decide,?_⟩;have i12:=i11.put (o:=.ins C dx (YU "holders" (.ref l) [("n",.int n),("rows",.ref r)])) nrx hfx11 (.inl rfl) (Zgh hx11);have hx12:Zs H7 x (.ins C dx (YU "holders" (.ref l) [("n",.int n),("rows",.ref r)])) x=some (.ins C dx [("n",.int n),("rows",.ref r),("holders",.ref l)]):=by rw[Z1];rfl
    refine⟨_,rfl,x,C,dx,_,rfl,hx12,kc.cl,kc.scale,by show 3<1000;decide,?_⟩;have i13:=i12.put (o:=.ins C dx (YU "scale" (.int 1) [("n",.int n),("rows",.ref r),("holders",.ref l)])) nrx hfx11 (.inl rfl) (Zgh hx12);have out:∀b,b≠x->Zs (Zs H7 x (.ins C dx (YU "holders" (.ref l) [("n",.int n),("rows",.ref r)]))) x (.ins C dx (YU "scale" (.int 1) [("n",.int n),("rows",.ref r),("holders",.ref l)])) b=H7 b:=λb hb=>by rw[Zv hb,Zv hb]
    refine kk ⟨n,r,1,ns⟩ l (λb=>if b=l then none else if b=r then some (.lst (refs ++ [v6]))else Hf7 b) _ hlH lx ⟨i13.hh,λb o n1 z=>?_,λb o n1 z=>?_,λb n1 z1 z2=>?_,i13.st⟩ ?_ ?_ ?_ ?_ ?_ _
    ·show(if b=l then none else if b=r then some (.lst (refs ++ [v6]))else Hf7 b)=some o
     rw[if_neg λq=>hf0 b o n1 (by rw[q];exact hlH) z,if_neg λq=>hf0 b o n1 (by rw[q];exact hr0) z];exact i11.ff b o n1 z
    ·have z:(if b=l then none else if b=r then some (HO.lst (refs ++ [v6]))else Hf7 b)=some o:=z
     split at z
     ·cases z
     ·split at z
      ·rename_i q
       cases z
       rw[q,out r rx];exact hr11
      ·have bx:b≠x:=λq=>by rw[q,hfx11]at z;cases z
       rw[out b bx];exact i11.fh b o n1 z
    ·show(if b=l then none else if b=r then some (.lst (refs ++ [v6]))else Hf7 b)=none
     split
     ·rfl
     ·rw[if_neg λq=>z2.no (by rw[q];exact hr0)]
      exact i11.nw b n1 z1 z2
    ·show(if x=l then none else if x=r then some (.lst (refs ++ [v6]))else Hf7 x)=none
     rw[if_neg (qJ lx),if_neg (qJ rx)];exact hfx11
    ·show(if l=l then none else _)=none
     rw[if_pos rfl]
    ·rw[Z1];rfl
    ·rw[out l lx];exact hl11
    ·refine Zj.cons (ja.mpr rfl) (Zj.cons (jb.mpr ⟨r,refs ++ [v6],rfl,?_,?_,?_⟩) (Zj.cons (ja.mpr rfl) (ZaN _)))
     ·rintro(z | z | z)
      ·exact nfr z
      ·exact rx z
      ·exact lr z.symm
     ·show(if r=l then none else if r=r then some (.lst (refs ++ [v6]))else Hf7 r)=_
      rw[if_neg (qJ lr),if_pos rfl]
     ·refine Zj.tr (G:=G) (G':=Zt G ⟨x,C,dx,l⟩ ⟨n,r,1,ns⟩) (λb o n1 z _=>?_) rfl nc rows10
      have bx:b≠x:=λq=>by rw[q,hfx9]at z;cases z
      have bl:b≠l:=λq=>by rw[q,hl6]at z;cases z
      have br:b≠r:=λq=>by rw[q,hfr9]at z;cases z
      refine⟨?_,?_⟩
      ·rintro(y | y | y)
       ·exact n1 y
       ·exact bx y
       ·exact bl y
      ·show(if b=l then none else if b=r then some (.lst (refs ++ [v6]))else Hf7 b)=some o
       rw[if_neg bl,if_neg br];exact g8.ff b o n1 z
noncomputable def Zqf (X:Cx)(G:Gh)(C:Addr)(body:List Stmt)(F:D->D->M (List D)):Prop:=∃t,XV X body t/\
 ∀(x dx:Addr) (va vb:V) (dn dA:D) (H Hf:Hp) (s:Pn) (ds':List D) (s':Pn) (E:Ends),H x=some (.ins C dx [])->¬G.rd x->Hf x=none->ZC G Hf H->Zj G Hf [dn,dA] [va,vb]->G.st s H->F dn dA s=some (ds',s')->ZiV G C x dx H Hf ds' s' (λH'=>∀σ',E.nx σ' H')->
   t E [some (.ref x),some va,some vb,none,none,none] H
noncomputable def Zdy (GG:Gh->Prop)(C:Addr)(F:D->D->M (List D)):Sp:=λvs H Q _=>∃(G:Gh) (Hf:Hp) (dn dA:D) (va vb:V) (x dx:Addr) (s:Pn) (ds':List D) (s':Pn),GG G/\vs=[.ref x,va,vb]/\H x=some (.ins C dx [])/\¬G.rd x/\Hf x=none/\ZC G Hf H/\Zj G Hf [dn,dA] [va,vb]/\G.st s H/\F dn dA s=some (ds',s')/\ZiV G C x dx H Hf ds' s' (λH'=>Q .non H')
theorem Zmx {K:qd}{st:Stmt}(F:Fun K x qual st f fd)(S:FnScope [a,b,c,d,e,f'] [a,b,c] (Zz st))
  (h:∀(cdv:Value) (A:xE) (outer:List Env) (s:Shared) (H:Hp) (E:XK),Room lv (A.deeper (envOfC qual (Zz st) s.heap.objs.size f cdv))->∀G,GG G->Zqf (Vn ZP P w K mg base [a,b,c,d,e,f'] qual (Zz st) f cdv A outer s H E).nox G C (XM st) F9) :
  FnOk P w K mg base ZP (lv+1) f fd [a,b,c] (Zdy GG C F9):=by
 refine F.ok S (λvs H Q E h=>?_) λcdv A outer s0 H vs Q E hr hh=>?_
 ·obtain⟨G,Hf,dn,dA,va,vb,x,dx,s,ds',s',_,rfl,_⟩:=h
  rfl
 ·obtain⟨G,Hf,dn,dA,va,vb,x,dx,s,ds',s',hG,rfl,h1,h2,h3,h4,h5,h6,h7,h8⟩:=hh
  obtain⟨t,p,q⟩:=h cdv A outer s0 H E hr G hG;exact⟨t,p,q x dx va vb dn dA H Hf s ds' s' _ h1 h2 h3 h4 h5 h6 h7 λq l Hf' H' b1 b2 b3 b4 b5 b6 b7 b8 σ'=>h8 q l Hf' H' b1 b2 b3 b4 b5 b6 b7 b8⟩
noncomputable def ZjK (i:Nat)(m:M Out):M Out:=λs=>match m s with
 | some (.nx ρ,s')=>if UR (ρ.set i none)=true then some (.nx (ρ.set i none),s')else none
 | some (.rt d,s')=>if Z2 d=true/\JC d=false then some (.rt d,s')else none
 | _=>none
noncomputable def ZiW (i:Nat)(Fi:D->D->M (List D))(fs:Ze->M (List D))(g:Ze->M Out):Ze->M Out:=fun ρ=>Zp (fs ρ) λds=>match ds with
 | [dn,dA]=>Zp (Fi dn dA) λvs=>if i < ρ.length/\UR (ρ.set i none)=true then ZjK i (g (ρ.set i (some (.clo 0 vs))))else ZS
 | _=>ZS
noncomputable def hidT (x l:Addr)(H:Hp):Hp:=λb=>if b=x∨b=l then none else H b
theorem Zci (h1:b≠x)(h2:b≠l):hidT x l H b=H b:=by
 unfold hidT;grind
theorem ZkP (h:hidT x l H b=some o):b≠x/\b≠l/\H b=some o:=by
 unfold hidT at h;simp_all
section
variable {G:Gh}{C x dx l:Addr}{q:TVs}
noncomputable abbrev U5 (H1:Hp)(x dx C:Addr):Hp:=Zs (Zs H1 dx (.own x)) x (.ins C dx [])
theorem Jw (hx:H1 x=none)(hdx:H1 dx=none)(e:H1 b=some o):U5 H1 x dx C b=some o:=by
 rw[U5,Zv (YC e hx),Zv (YC e hdx)];exact e
theorem ZjL (hx:H1 x=none)(hdx:H1 dx=none)(hl:U5 H1 x dx C l=none)(g0:Gr G jT H0 jX H1)(is:IS G x (U5 H1 x dx C) jX Hf' H' s2)(hfl:Hf' l=none)(hfx:Hf' x=none)(gi:Gr (Zt G ⟨x,C,dx,l⟩ q) Hf' H' j6 H2) :
  Gr G jT H0 (hidT x l j6) H2:=by
 have step:∀b o,¬G.fp b->H1 b=some o->b≠x/\b≠l/\H' b=some o:=λb o n e=>by
  have e1:=Jw (C:=C) hx hdx e;have bx:=YC e hx;exact⟨bx,λz=>(by grind),is.hh b o bx n e1⟩
 have nt:∀b,¬G.fp b->b≠x->b≠l->¬(Zt G ⟨x,C,dx,l⟩ q).fp b:=λb n n1 n2 z=>by
  rcases z with z | z | z
  ·exact n z
  ·exact n1 z
  ·exact n2 z
 refine⟨λb o n e=>?_,λb o n e=>?_,λb o n e=>?_,λb n h1 h2=>?_⟩
 ·obtain⟨a1,a2,a3⟩:=step b o n (g0.hh b o n e)
  exact gi.hh b o (nt b n a1 a2) a3
 ·have e1:=is.ff b o n (g0.ff b o n e)
  have b1:b≠x:=λz=>by grind
  have b2:b≠l:=λz=>by grind
  rw[Zci b1 b2];exact gi.ff b o (nt b n b1 b2) e1
 ·obtain⟨b1,b2,e⟩:=ZkP e
  exact gi.fh b o (nt b n b1 b2) e
 ·by_cases z1:b=x
  ·unfold hidT;rw[if_pos (.inl z1)]
  ·by_cases z2:b=l
   ·unfold hidT;rw[if_pos (.inr z2)]
   ·rw[Zci z1 z2]
    obtain⟨u,e,ntu⟩:=h2;have e1:=g0.hh b u n e;have e2:=Jw (C:=C) hx hdx e1;exact gi.nw b (nt b n z1 z2) (is.nw b n (g0.nw b n h1 ⟨u,e,ntu⟩) ⟨u,e2,ntu⟩) ⟨u,is.hh b u z1 n e2,ntu⟩
theorem Zhv (nc:Z2 d=true)(r:Zo (Zt G ⟨x,C,dx,l⟩ q) j6 d v):Zo G (hidT x l j6) d v:=
 Zo.tr (G:=Zt G ⟨x,C,dx,l⟩ q) (λa o na e _=>⟨λz=>na (.inl z),by rw[Zci (λz=>na (.inr (.inl z))) λz=>na (.inr (.inr z))];exact e⟩) rfl nc r
end
noncomputable def dosX (G:Gh)(k:TAd)(g:Ze->M Out):TS:=λE σ H=>∃q kn jT H0 ρ s out s',J (Zt G k q) [] kn jT H0 σ H ρ/\(Zt G k q).st s H/\g ρ s=some (out,s')/\Zmp G k kn jT H0 out s' E
section
variable {X:Cx}{G:Gh}{ob:List Nat}{fr:Bool}
theorem ZkQ (j:Jf G [] kn jT H0 σ jX H1 ρ)(jY:G.st s1 H1)(hi:i < ρ.length)(nc:UR (ρ.set i none)=true)
  (hx:H1 x=none) (hdx:H1 dx=none) (hl:U5 H1 x dx C l=none) (lx:l≠x) (is:IS G x (U5 H1 x dx C) jX Hf' H' s2) (hfx:Hf' x=none) (hfl:Hf' l=none) (hX:H' x=some (.ins C dx (UV ⟨x,C,dx,l⟩ q))) (hL:H' l=some (.lst (q.hs.map V.int))) (r:Zj (Zt G ⟨x,C,dx,l⟩ q) Hf' vs (BO q))
  (hg:ZjK i (g (ρ.set i (some (.clo 0 vs)))) s2=some (out,s')) (po:Post G ob [] kn jT H0 fr out s' E) :
  ∃k:TAd,(k.C=C/\Vt G k/\k.a≠k.l)/\dosX G k g E (σ.set i (some (.ref x))) H':=by
 have hlH:H1 l=none:=by
  cases z:H1 l with
  | none=>rfl
  | some o=>rw[Jw (C:=C) hx hdx z]at hl;cases hl
 have nf:∀b o,¬G.fp b->jX b=some o->b≠x/\b≠l/\Hf' b=some o:=λb o n e=>by
  have e1:=j.gr.fh b o n e;exact⟨YC e1 hx,YC e1 hlH,is.ff b o n e⟩
 have jj:J (Zt G ⟨x,C,dx,l⟩ q) [] Hf' Hf' H' (σ.set i (some (.ref x))) H' (ρ.set i (some (.clo 0 vs))):=by
  refine⟨Hf',by simp[j.len],.refl _ _,.refl λb o n e=>is.fh b o (λz=>n (.inl z)) e,λm d _ e=>?_,λm d z=>by simp at z,λm d a di dj z=>by simp at z⟩;by_cases h:i=m
  ·subst h
   rw[qU hi]at e
   cases e
   exact⟨.ref x,qU (by rw[j.len];exact hi),Zo.tab r⟩
  ·rw[qD h]at e⊢
   obtain⟨v,q1,q2⟩:=j.fz m d (by simp) e;refine⟨v,q1,Zo.tr (G:=G) (G':=Zt G ⟨x,C,dx,l⟩ q) (λa o na e _=>?_) rfl (ZcM nc (by rw[qD h];exact e)) q2⟩;obtain⟨a1,a2,a3⟩:=nf a o na e;refine⟨?_,a3⟩;rintro(z | z | z)
   ·exact na z
   ·exact a1 z
   ·exact a2 z
 refine⟨⟨x,C,dx,l⟩,⟨rfl,⟨ju jY hx,ju jY hlH⟩,qJ lx⟩,q,Hf',Hf',H',ρ.set i (some (.clo 0 vs)),s2,?_⟩;have knH:∀q2 j6 H2,Gr (Zt G ⟨x,C,dx,l⟩ q2) Hf' H' j6 H2->ZC G kn (hidT x l j6):=λq2 j6 H2 gi b o nb e=>by
  obtain⟨a1,a2,a3⟩:=nf b o nb (j.kn b o nb e);rw[Zci a1 a2];refine gi.ff b o ?_ a3;rintro(z | z | z)
  ·exact nb z
  ·exact a1 z
  ·exact a2 z
 unfold ZjK at hg
 cases hq:g (ρ.set i (some (.clo 0 vs))) s2 with
 | none=>simp only[hq]at hg;cases hg
 | some p=>
  obtain⟨o,s3⟩:=p;simp only[hq]at hg;refine⟨o,s3,jj,⟨is.st,hX,hL⟩,rfl,?_⟩
  cases o with
  | nx ρ2=>
   simp only at hg;split at hg
   ·rename_i nc2
    cases hg
    intro q2 σ2 H2 ⟨j6,j2⟩ st3;refine po σ2 H2 ⟨hidT x l j6,by simp[j2.len],knH q2 _ _ j2.gr,ZjL hx hdx hl j.gr is hfl hfx j2.gr,λm d _ e=>?_,λm d z=>by simp at z,λm d a di dj z=>by simp at z⟩ st3.1;by_cases h:i=m
    ·subst h
     rw[List.getElem?_set]at e;split at e
     ·split at e <;> cases e
     ·exact absurd rfl ‹_›
    ·have e2:=e
     rw[qD h]at e2;obtain⟨v,q1,q2'⟩:=j2.fz m d (by simp) e2;exact⟨v,q1,Zhv (ZcM nc2 e) q2'⟩
   ·cases hg
  | rt d=>
   simp only at hg;split at hg
   ·rename_i h
    cases hg
    intro q2 v j6 H2 gi st3 r3;exact po v _ H2 (ZjL hx hdx hl j.gr is hfl hfx gi) st3.1 (Zhv h.1 r3) λ_=>.scal λz=>by
     cases d <;> simp_all[JK,JC]
   ·cases hg
  | bk ρ2=>simp_all
  | ct ρ2=>simp_all
theorem ZiX {p pos pos' apos:Pos}(hG:GG G)(M:Mk X.K C f)(F:FnOk X.prog X.w X.K X.mg X.base ZP kl f fd ps (Zdy GG C Fi))(hr:Room (kl+1) X.A)(hg:Gl X nm)(hm:X.mg nm=some (.ref C))
  (hb:Xb X.K fd ps []) (he:Wy X G [e1,e2] fs) (hN:X.N.Nodup) (hi:X.N[i]?=some x) (hx:WR X.env.scope x)
  (hrest:∀k:TAd,k.C=C->Vt G k->k.a≠k.l->B4 X G k sts g)
  (hdb:(nm==("__debug__" : Str))=false:=by decide) (hst:xh [e1,e2] X.env=(false,eval e1 X.env)::xh [e2] X.env:=by rfl) (hpl:(backTo pos (xh [e2] X.env)).any (·.1)=false:=by rfl) (hs:xr (.Call (.Name nm p) [e1,e2] [] pos) (some (.Name x pos')) apos.line X.env=pure false:=by rfl)
  (hf:X.fn x=true∨X.env.scope.names.lookup x=some .local:=by first | exact .inl rfl | exact .inr rfl | assumption) :
  X6 X G ob [] [] fr (.Assign [.Name x pos'] (.Call (.Name nm p) [e1,e2] [] pos) apos::sts) (ZiW i Fi fs g):=by
 obtain⟨te,pe,ye⟩:=he;have rest:XV X sts (λE σ H=>∃k:TAd,(k.C=C/\Vt G k/\k.a≠k.l)/\dosX G k g E σ H):=by
  intro jN s σ H D I ⟨k,⟨h1,h2,h3⟩,q,kn,jT,H0,ρ,pn,out,pn',j,st,e,po⟩;obtain⟨t,p,d⟩:=hrest k h1 h2 h3;exact p jN s σ H D I (d q kn jT H0 σ H ρ pn out pn' D j st e po)
 refine⟨_,XZ (Ub hN hi hx (ZnF M F hr hg hm hb .nil JJ pe hdb hst hpl) hs hf) rest,λkn jT H0 σ H ρ s out s' E ⟨Hf,j⟩ st e4 po=>?_⟩;obtain⟨ds,s1,a1,a2⟩:=Zy e4
 match ds,a1,a2 with
 | [dn,dA],a1,a2=>
  obtain⟨vs,s2,a3,a4⟩:=Zy a2;obtain⟨⟨hi',nc⟩,a5⟩:=XC a4;refine ye σ Hf H ρ s _ s1 _ j.gr.fh (Vl j) st a1 λws jX H1 g1 jY r=>?_;obtain⟨va,vb,rfl,ra,rb⟩:=jo r;intro x dx hx hdx ne;have hxf:∀b,H1 b=none->jX b=none:=λb hb=>by
   cases z:jX b with
   | none=>rfl
   | some o=>rw[g1.fh b o (Gh.nofp jY hb) z]at hb;cases hb
  have e1:ZC G jX (U5 H1 x dx C):=λb o nb e=>Jw hx hdx (g1.fh b o nb e);have stn:G.st s1 (U5 H1 x dx C):=G.mono s1 H1 _ jY (λb o _ e=>Jw hx hdx e) (λb φ e=>Jw hx hdx e) λb vs e=>Jw hx hdx e;refine⟨G,jX,dn,dA,va,vb,x,dx,s1,vs,s2,hG,rfl,Z1,ju jY hx,hxf x hx,e1,r,stn,a3,λq l Hf' H' b1 b2 b3 b4 b5 b6 b7 b8=>⟨rfl,?_⟩⟩;exact ZkQ (j.grow g1) jY hi' nc hx hdx b1 b2 b3 b4 b5 b6 b7 b8 a5 po
end
end TF
namespace L2
section
variable {X:Cx}
theorem ZkR:Wg X (.builtin "abs") (λxs H Q=>∃i,xs=[.int i]/\Q (.int (if i<0 then -i else i)) H):=by
 intro jN s σ H xs us Q I r h;obtain⟨i,rfl,q⟩:=h;obtain⟨u,rfl,t,rfl⟩:=WZ r;exact call_abs_int λu tk=>⟨.int (if i<0 then -i else i),H,I.tok _,⟨_,rfl⟩,q⟩
theorem Zhw (hc:X.calm=true):Zmj X "min" "default" (λxs ys H Q=>∃(p:Addr) (ns:List Int) (y:V),xs=[.ref p]/\ys=[y]/\ZV X.K H p (ns.map V.int)/\Q (match ns with | n::r=>.int (TF.minI n r) | []=>y) H):=by
 intro jN s σ H xs ys us vs Q I r r2 h;obtain⟨p,ns,y,rfl,rfl,hp,q⟩:=h;obtain⟨u,rfl,ru⟩:=WZ r
 cases ru
 obtain⟨v,rfl,rv⟩:=WZ r2;obtain⟨jR,rv2,pl,hz⟩:=I.list hp;have hi:IntsAre jR ns:=Zaq rv2;obtain⟨xs,e⟩:=hi.allInts.items;have hns:ns=xs.toList.map (·.1):=by rw[<-hi.numsOf,<-nums_intItems,<-e]
 have hl:=pl.isList;rw[e]at hl;refine HT.minD_walk (iter_intList hl λs₂ e2 st hfp hlI=>?_);subst e2;refine⟨_,_,_,_,_,_,_,rfl,Walks.list (A:=X.A.in1) (I.ok.hd hc) _ p hlI (intItems xs),st,hfp,CmpOf.ints_lt (numAt xs) (λ_ _=>intItems_at),λhn v h' tk hP hk=>?_,λhn h' tk hk=>?_⟩
 ·have hkk:∀b o,s.heap.get? b=some o->h'.get? b=some o:=old_kept hk
  have hsz:0<xs.size:=by simpa[intItems]using hn
  have hn1:(intItems xs).size=xs.size:=by simp[intItems]
  rw[hn1]at hP;obtain⟨t,rfl⟩:=intItems_at hP;obtain⟨h1,h2⟩:=argBest_lt (numAt xs) (xs.size-1)
  cases ns with
  | nil=>
   have:xs.toList=[]:=List.map_eq_nil_iff.mp hns.symm;have:xs.size=0:=by rw[<-zX,this];rfl
   omega
  | cons n rr=>
   have e2:numAt xs (argBest (λi j=>decide (numAt xs i<numAt xs j)) (xs.size-1))=TF.minI n rr:=by
    refine TF.min_uniq ?_ λa ha=>?_
    ·rw[hns,numAt_eq];exact getD_mem (by rw[qe,zX];omega)
    ·rw[hns]at ha
     obtain⟨j,hj,rfl⟩:=mem_getD ha;rw[qe,zX]at hj;rw[<-numAt_eq];exact h2 j (by omega)
   rw[e2];exact⟨.int (TF.minI n rr),H,I.kept hkk,⟨_,rfl⟩,q⟩
 ·have hkk:=old_kept hk
  have h0:=by simpa[intItems]using hn
  have:ns=[]:=by
   simp_all
  subst this;exact⟨y,H,I.kept hkk,rv,q⟩
end
end L2
namespace TF
open L2
theorem boot_abs:xj "abs" = some (.builtin "abs"):=by rfl
noncomputable def dAbs:List D->Option D
 | [.int i]=>some (.int (if i<0 then -i else i))
 | _=>none
section
variable {X:Cx}{G:Gh}
theorem ZfE:WO X G (.builtin "abs") dAbs:=
 ⟨_,ZkR,λHf H s xs ds c Q e1 st r q k=>by
  match ds,q,r with
  | [.int i],q,r=>
   cases q
   obtain⟨v,rfl,rv⟩:=ji r;rw[ja.mp rv];exact⟨i,rfl,k _ Hf H (.refl e1) st (ja.mpr rfl) (.scal λz=>z)⟩⟩
noncomputable def Xr (i:Int):Bool:=decide (i.natAbs<2 ^ 8000)
theorem ZjM (h:Xr i=true):i.natAbs.log2<8000:=by
 have h:=of_decide_eq_true h;by_cases z:i.natAbs=0
 ·rw[z];simp
 ·exact(Nat.log2_lt z).mpr h
theorem Zhx (h:Xr i=true):qcg i<=2 ^ 20:=by
 have:=ZjM h;unfold qcg;split
 ·simp
 ·omega
noncomputable def YX:=dI (λi j=>Xr i&&Xr j) λi j=>.int (i*j)
noncomputable def Zem:=dI (λ_ j=>decide (0<j)&&Xr j) λi j=>.int (i / j)
theorem Zoo:Yo X (binaryOp .Mult) (rI (λi j=>Xr i=true/\Xr j=true) λi j=>.int (i*j)):=J3 λ_ _ _ _ _ _ _ hc q=>mul_int q (IntMulOk.of_bits (Zhx hc.1) (Zhx hc.2))
theorem Zmy:Yo X (binaryOp .FloorDiv) (rI (λ_ j=>0<j/\Xr j=true) λi j=>.int (i / j)):=J3 λi j _ _ _ _ _ hc q=>
 floordiv_int (by omega) (by rw[qa4 i (by omega)];exact q) (.inl (PyProof.noPylong_of_log2 (qaM (ZjM hc.2) (by decide))))
theorem X0:Y4 X G (binaryOp .Mult) YX:=BI Zoo λi j h=>by simpa using h
theorem ZcP:Y4 X G (binaryOp .FloorDiv) Zem:=BI Zmy λi j h=>by simpa using h
noncomputable def ZiY (f g:Ze->M D):Ze->M D:=fun ρ=>Zp (f ρ) λd=>Zp (g ρ) λe=>match d with
 | .lst ds=>(match Yc ds with | some (n::r)=>ZJ (.int (minI n r)) | some []=>ZJ e | none=>ZS)
 | _=>ZS
theorem Zmz {p pos kpos:Pos}(hc:X.calm=true)(hg:Gl X "min")(hm:X.mg "min" = none)(hv:xj "min" = some (.builtin "min"))(ha:PD X G r1 a f)(hb:PD X G r2 b g)
  (he:xh [a] X.env=(false,eval a X.env)::xh [] X.env:=by rfl)
  (hall:(xp pos (xi [⟨some "default",b,kpos⟩] X.env)).all (·.1.isSome)=true:=by rfl) (hks:(xp pos (xi [⟨some "default",b,kpos⟩] X.env)).filterMap (·.1)=[("default" : Str)]:=by rfl)
  (hpl:((backTo pos (xh [a] X.env)).any (·.1)||(xp pos (xi [⟨some "default",b,kpos⟩] X.env)).any (·.1.isNone))=false:=by rfl):PD X G false (.Call (.Name "min" p) [a] [⟨some "default",b,kpos⟩] pos) (ZiY f g):=by
 obtain⟨ta,pa,qa⟩:=ha.drop;obtain⟨tb,pb,qb⟩:=hb.drop;refine⟨_,ZkJ (Zhw hc) hg hm hv pa pb (by decide) (by decide) he hall hks hpl,fun σ Hf H ρ s d s' Q e1 e2 e3 e4 k=>?_⟩;obtain⟨da,s1,a1,a2⟩:=Zy e4;obtain⟨db,s2,a3,a4⟩:=Zy a2;refine qa σ Hf H ρ s da s1 _ e1 e2 e3 a1 λx jX H1 g1 jY r1=>?_;refine qb σ jX H1 ρ s1 db s2 _ g1.fh (e2.ext g1.ff) jY a3 λy j6 H2 g2 j8 r2=>?_;have r1:=r1.ext g2.ff
 match da,a4,r1 with
 | .lst ds,a4,r1=>
  have a4:(match Yc ds with | some (n::r)=>ZJ (D.int (minI n r)) | some []=>ZJ db | none=>ZS) s2=some (d,s'):=a4
  cases he:Yc ds with
  | none=>rw[he]at a4;cases a4
  | some ns=>
   rw[he]at a4;obtain⟨q,vs,rfl,nq,hq,rq⟩:=jb.mp r1;rw[UF he]at rq;rw[jp rq]at hq;refine⟨q,ns,y,rfl,rfl,ZV.of (g2.fh _ _ nq hq),?_⟩
   cases ns with
   | nil=>
    obtain⟨rfl,rfl⟩:=ZM a4;exact k y j6 H2 (g1.trans g2) j8 r2 (λz=>by cases z)
   | cons n r=>
    obtain⟨rfl,rfl⟩:=ZM a4;exact k _ j6 H2 (g1.trans g2) j8 (ja.mpr rfl) (λz=>by cases z)
theorem Zen:∀{n:Nat} {ρ:Ze} {s:Pn} {r},Vq c g n ρ s=some r->BE c g n ρ s=some r
 | 0,ρ,s,r,h=>by cases h
 | n+1,ρ,s,(o,s'),h=>by
  obtain⟨b,s1,a1,a2⟩:=Zy h;show Zp (c ρ) _ s=_;unfold Zp;simp only[a1]
  cases b with
  | false=>exact a2
  | true=>
   rw[if_pos rfl]at a2⊢;obtain⟨o2,s2,a3,a4⟩:=Zy a2;simp only[a3]
   cases o2 with
   | nx ρ2=>exact Zen a4
   | rt d=>exact a4
   | ct ρ2=>cases a4
   | bk ρ2=>cases a4
theorem ZmA (hp:PassesOwn (xB X.prog X.w) X.A X.env X.xe)(hc:XW X G c fc)(hb:X6 X G own own own fr body g):YS X G ob own own fr (.While c body [] pos) (V3 fc g):=by
 refine⟨λE σ H=>∃n,Zg8 G ob own own fr (Zme n fc g) E σ H,?_,λkn jT H0 σ H ρ s out s' E j st e po=>?_⟩
 ·intro jN s σ H D I ⟨n,kn,jT,H0,ρ,pn,out,pn',j,st,e,po⟩
  obtain⟨t,p,q⟩:=ZkF hp hc hb;exact p jN s σ H D I (q kn jT H0 σ H ρ pn out pn' D j st e po)
 ·obtain⟨n,e⟩:=Zhu e
  exact⟨n,kn,jT,H0,ρ,s,out,s',j,st,Zen e,po⟩
end
theorem jE (I:Nat->Ze->Pn->Prop)(m:Nat)(h0:I m ρ s)
  (step:∀m ρ s,I m ρ s->Ok (c ρ) s λb s1=>if b=true then Ok (g ρ) s1 λo s2=>match o with | .nx ρ'=>∃m',m'<m/\I m' ρ' s2 | .rt d=>Q (.rt d) s2 | _=>False else Q (.nx ρ) s1):Ok (V3 c g ρ) s Q:=by
 suffices h:∀n m ρ s,m<n->I m ρ s->Ok (Vq c g n ρ) s Q by
  obtain⟨o,s',e,q⟩:=h (m+1) m ρ s (yk m) h0;exact⟨o,s',Zqd e,q⟩
 intro n
 induction n with
 | zero=>simp
 | succ n ih=>
  intro m ρ s hm hI;refine Ok.bind ((step m ρ s hI).mono λb s1 q=>?_)
  cases b with
  | false=>exact .ret (by simpa using q)
  | true=>
   rw[if_pos rfl];refine Ok.bind (q.mono λo s2 q=>?_)
   cases o with
   | nx ρ'=>obtain⟨m',hm',h'⟩:=q;exact ih m' ρ' s2 (by omega) h'
   | rt d=>exact .ret q
   | ct ρ'=>exact q.elim
   | bk ρ'=>exact q.elim
end TF
namespace TQ
open L2 TF TQ
open TP
open TP2 hiding g_all_near F_all_near
open TP3 hiding g_full_knots F_full_knots
noncomputable def ZbR:Ze->M Out:=(Zh (V3 (ZF (Zc WF (Za 1) (dC (.int 0))))
 (Zh (ZT 2 (Zc VZ (Za 0) (Za 1)))
 (Zh (ZT 0 (Za 1))
 (Zh (ZT 1 (Za 2))
 Zq))))
 (Zh (ZL (ZO dAbs (Zb (Za 0) Zf)))
 Zq))
noncomputable def J7:List D->M D:=runB 3 2 ZbR
noncomputable def Zeo:Ze->M Out:=(Zh (ZT 2 (Zx J7 (Zb (Za 0) (Zb (Za 1) Zf))))
 (Zh (ZL (ZB (Zb (Zc Zem (Za 0) (Za 2)) (Zb (Zc Zem (Za 1) (Za 2)) Zf))))
 Zq))
noncomputable def UA:List D->M D:=runB 3 2 Zeo
noncomputable def ZbS:Ze->M Out:=(Zh (ZT 1 (Yb [none,some 0] (Yt (Zc Xg (ZO YZ (Zb (Zc Zn (YN 0 λds=>ds[1]?) (dC (.int (-1)))) Zf)) (dC (.int 1)))) (ZI 0) (ZF (Zc Vb (Zc Zn (Zc Zn (YN 1 λds=>ds[1]?) (dC (.int (-1)))) (Za 0)) (dC (.int 0)))) (Za 0)))
 (Zh (ZL (ZiY (Za 1) (dC .non)))
 Zq))
noncomputable def WS:List D->M D:=runB 2 1 ZbS
noncomputable def Zep:Ze->M Out:=(Zh (ZT 4 (Zc YX (Zc Zn (Zc Zn (YN 0 λds=>ds[1]?) (Za 1)) (dC (.int (-1)))) (Zc Zn (Zc Zn (YN 0 λds=>ds[1]?) (Za 2)) (Za 3))))
 (Zh (ZT 5 (Zc YX (Zc Zn (Zc Zn (YN 0 λds=>ds[1]?) (Za 2)) (dC (.int (-1)))) (Zc Zn (Zc Zn (YN 0 λds=>ds[1]?) (Za 1)) (Za 3))))
 (Zh (ZL (V1 (Zc Vb (Za 4) (Za 5)) (Wl (Zc YF (Za 4) (Za 5)) (Zc Vb (Zcf 0 (Za 1)) (Zcf 0 (Za 2))))))
 Zq)))
noncomputable def B7:List D->M D:=runB 6 4 Zep
noncomputable def ZaP:Ze->M Out:=(Zh (ZT 2 (dC .non))
 (Zh (Xc (Yt (YN 0 (JR λns=>some (.int ns.length)))) (ZI 3)
 (Zh (Yx (W6 (ZF (Zc VM (Zc Zn (Zc Zn (YN 0 λds=>ds[1]?) (Za 3)) (Za 1)) (dC (.int 0)))) (Wa (ZF (Zc dIsN (Za 2) (dC .non))) (ZF (XG B7 0 (Zb (Za 3) (Zb (Za 2) (Zb (Za 1) Zf)))))))
 (Zh (ZT 2 (Za 3))
 Zq)
 Zq)
 Zq))
 (Zh (ZL (Za 2))
 Zq)))
noncomputable def Jg:List D->M D:=runB 4 2 ZaP
noncomputable def Zhy:Ze->M Out:=(Zh (ZL (Yb [none,some 1,some 2,some 3,some 0] (Yt (ZO YZ (Zb (Za 1) Zf))) (ZI 0) Yi (Zc Zem (Zc Xg (Zc YX (Zc Zn (Za 1) (Za 0)) (Zc Zn (Za 2) (Za 3))) (Zc YX (Zc Zn (Za 1) (Za 3)) (Zc Zn (Za 2) (Za 0)))) (YN 4 λds=>ds[2]?))))
 Zq)
noncomputable def Bg:List D->M D:=runB 4 4 Zhy
noncomputable def ZkS:Ze->M Out:=(Zh (ZL (Zx UA (Zb (Zc Zn (Zc Zn (YN 0 λds=>ds[1]?) (dC (.int (-1)))) (dC (.int (-1)))) (Zb (YN 0 λds=>ds[2]?) Zf))))
 Zq)
noncomputable def Bl:List D->M D:=runB 1 1 ZkS
noncomputable def ZkT:Ze->M Out:=(Zh (ZL (Zx UA (Zb (Zc Zn (Zc Zn (YN 0 λds=>ds[1]?) (dC (.int (-1)))) (Zc ZY (YN 0 λds=>ds[0]?) (Za 1))) (Zb (YN 0 λds=>ds[2]?) Zf))))
 Zq)
noncomputable def Jp:List D->M D:=runB 2 2 ZkT
noncomputable def ZiZ:Ze->M Out:=(Zh (Yx (ZF (Zcg 0 (Za 1)))
 (Zh (ZL (ZB (Zb (dC (.int 0)) (Zb (dC (.int 1)) Zf))))
 Zq)
 Zq)
 (Zh (ZL (Zx UA (Zb (Zc Zn (Zc Zn (YN 0 λds=>ds[1]?) (Zdx 0 (Za 1))) (dC (.int (-1)))) (Zb (YN 0 λds=>ds[2]?) Zf))))
 Zq))
noncomputable def Jm:List D->M D:=runB 2 2 ZiZ
noncomputable def ZaW:Ze->M Out:=(Zh (ZT 3 (Zc Zn (YN 0 λds=>ds[1]?) (Za 1)))
 (Zh (ZjH 0 (Yb [none,some 1,some 3,some 0,some 2] (Yt (ZO YZ (Zb (YN 0 λds=>ds[1]?) Zf))) (ZI 0) Yi (Vr (ZF (Zc YF (Za 0) (Za 1))) (Za 2) (XG Bg 3 (Zb (Zc Zn (YN 3 λds=>ds[1]?) (Za 0)) (Zb (Za 2) (Zb (Za 4) Zf)))))))
 (Zh (ZjI 0 (Za 1) (Za 2))
 (Zh (Zgg 0 (Zc Zn (Za 3) (Za 2)))
 Zq))))
noncomputable def Jj:List D->M D:=runT 4 3 ZaW
noncomputable def ZaX:Ze->M Out:=(Zh (ZT 1 (XG WS 0 Zf))
 (Zh (V3 (ZF (Zc Zo7 (Za 1) (dC .non)))
 (Zh (VN Jj 0 (Zb (XG Jg 0 (Zb (Za 1) Zf)) (Zb (Za 1) Zf)))
 (Zh (ZT 1 (XG WS 0 Zf))
 Zq)))
 Zq))
noncomputable def V6:List D->M D:=runT 2 1 ZaX
noncomputable def Zbb:D->D->M (List D):=iniF (ZO YZ (Zb (Za 2) Zf)) (Yb [none,some 2,some 4] (Yt (Za 1)) (ZI 0) Yi (Vr (ZF (Zc Xq (Za 0) (Zc Zn (Za 1) (Za 2)))) (dC (.int 1)) (dC (.int 0)))) (Zc ZY (Zc ZY (Za 5) (Yb [none,some 4] (Yt (Za 3)) (ZI 0) Yi (Vr (ZF (Zc YF (Za 0) (Za 1))) (dC (.int 1)) (dC (.int 0))))) (Yz (Zb (dC (.int 1)) Zf))) (Zc ZY (Zc W2 (Yz (Zb (dC (.int (-1))) Zf)) (Za 1)) (Zc W2 (Yz (Zb (dC (.int 0)) Zf)) (Zc ZY (Za 3) (dC (.int 1))))) (Yb [none,some 1] (Yt (Za 3)) (ZI 0) Yi (Zc ZY (Za 1) (Za 0))) (Yt (Za 3))
noncomputable def ZmB:Ze->M Out:=(Zh (ZT 1 (Zx F_full_knots (Zb (Zx V8 (Zb (Za 0) Zf)) Zf)))
 (ZiW 2 Zbb (Zb (Zc Zn (Za 0) (dC (.int 0))) (Zb (Za 1) Zf))
 (Zh (VN V6 2 Zf)
 (Zh (ZT 3 (Yb [none,some 1,some 2] (Yt (ZO YZ (Zb (Za 1) Zf))) (ZI 0) Yi (ZB (Zb (Zc Zn (Za 1) (Za 0)) (Zb (XG Jp 2 (Zb (Za 0) Zf)) Zf)))))
 (Zh (ZT 4 (ZO Ue (Zb (Yb [none,some 2] (Yt (Zc Zn (Za 0) (dC (.int 0)))) (ZI 0) Yi (XG Jm 1 (Zb (Za 0) Zf))) Zf)))
 (Zh (ZL (ZB (Zb (XG Bl 2 Zf) (Zb (Yb [none] (Xv (Za 3)) (ZI 0) (ZF (Zc VM (Zc Zn (Zc Zn (Za 0) (dC (.int 1))) (dC (.int 0))) (dC (.int 0)))) (Za 0)) (Zb (Za 4) Zf)))))
 Zq))))))
noncomputable def Bo:List D->M D:=runB 5 1 ZmB
end TQ
namespace TF
open PySem.Calls L2
section
variable {X:Cx}{G:Gh}{fr:Bool}{sts:List Stmt}{g g1 g2:Ze->M Out}
end
end TF
namespace TF
open L2
noncomputable def ZmC:=dI (λ_ j=>decide (j≠0)) λi j=>.int (i.fmod j)
theorem ZmD:Y4 X G (binaryOp .Mod) ZmC:=BI Zny λi j h=>by simpa using h
end TF
namespace TP2
open L2 TF TP
noncomputable abbrev nD (i:Nat):D:=.int (i:Int)
noncomputable def Zw (k:List Nat):D:=.tup (k.map nD)
noncomputable def Xj (jO:Qa)(i:Nat)(k:List Nat):Bool:=k.all λo=>decide ((o,i)∈jO)
noncomputable def kn (jO:Qa):Nat->List (List Nat)
 | 0=>[[]]
 | i+1=>kn jO i++((kn jO i).filter (Xj jO i)).map (· ++ [i])
theorem Uh:∀{i:Nat} {k:List Nat},k∈kn jO i->(∀o∈k,o<i)/\k.length<=i
 | 0,k,h=>by
  have:=by simpa[kn]using h
  subst this;simp
 | i+1,k,h=>by
  rcases qV.mp h with h | h
  ·have:=Uh h
   exact⟨λo ho=>qav (this.1 o ho),by omega⟩
  ·obtain⟨q,hq,rfl⟩:=qu.mp h
   have:=Uh (qA.mp hq).1;refine⟨λo ho=>?_,by simp;omega⟩;rcases qV.mp ho with ho | ho
   ·exact qav (this.1 o ho)
   ·grind
theorem Zi0 (jO:Qa):∀i,(kn jO i).length<=2 ^ i
 | 0=>by simp[kn]
 | i+1=>by
  have h:=Zi0 jO i;have h2:=zD (Xj jO i) (kn jO i);rw[kn,qQ,qe];omega
theorem ZmE (p:Nat×Nat)(jO:Qa):Xq (ZU p) (.dt (Y8 [] jO))=some (.bl (decide (p∈jO))):=by
 have e:U1 (ZU p) (.dt (Y8 [] jO))=some (decide (p∈jO)):=by
  show some ((YY (Y8 [] jO) (W9 p)).isSome)=_;rw[Zhc];simp[YY]
 unfold Xq;rw[e];rfl
theorem Zbv {α:Type}(l:List α)(p:α->Bool):JV [.lst (l.map λx=>D.bl (p x))]=some (.bl (l.all p)):=by
 show(Y5 _).map _=_;rw[show l.map (λx=>D.bl (p x))=(l.map p).map D.bl by rw[qz];rfl,ZcZ];simp
theorem ZjN (k:List Nat)(i:Nat)(h:k.length<=1000):ZY (Zw k) (.tup [nD i])=some (Zw (k ++ [i])):=by
 unfold Zw;show(if (k.map nD).length + [nD i].length<=xg then some (D.tup (k.map nD ++ [nD i]))else none)=_;rw[if_pos (by rw[Y1];simp;omega),qP];rfl
noncomputable def WP (n:Nat)(jO:Qa)(p:Nat):List Nat:=(qm n).filter λo=>tied jO p o
noncomputable def Wf (n:Nat)(jO:Qa):D:=.lst ((qm n).map λp=>.lst ((WP n jO p).map nD))
theorem Zc4 (n:Nat)(jO:Qa)(hn:n<=100000)(s:Pn):F_all_near [ZG n jO] s=some (Wf n jO,s):=by
 refine Yr rfl (ZX (YW ?_));have hc:=XF (src:=[none,some 0]) (fi:=Yt (Zc Zn (Za 0) (dC (.int 0)))) (τ:=ZI 0) (ft:=Yi) (fe:=Zx Uf (Zb (Za 1) (Zb (Za 0) Zf))) (ρ:=[some (ZG n jO)]) (λd=>[some d,some (ZG n jO)]) (λ_=>true) (λd=>.lst ((WP n jO (YV d)).map nD)) (XB (Zm rfl rfl Ww) hn) (Bw hn) λd hd=>by
  obtain⟨i,hi,rfl⟩:=Zax hd;exact⟨rfl,rfl,λ_=>Ym (Zg rfl (Zg rfl rfl)) (Zn5 n jO i s hn)⟩
 rw[V7,Bv,qz]at hc;exact hc
theorem Zqg (a b:Nat):ZR (nD a) (nD b)=decide (a=b):=by
 show((a:Int)==(b:Int))=_
 grind
theorem Zhz (o:Nat)(l:List Nat):XX (nD o) (l.map nD)=decide (o∈l):=by
 unfold XX
 induction l with
 | nil=>simp
 | cons t ts ih=>
  rw[qS,yR,ih,Zqg]
  grind
theorem Zeq (l:List Nat):YT (l.map nD)=true:=by
 induction l with
 | nil=>rfl
 | cons a l ih=>simp[YT,Zr,ih]
theorem ZjO (l:List Nat):Y6 (l.map nD)=0:=by
 induction l with
 | nil=>simp[Y6]
 | cons a l ih=>simp[Y6,ZW,ih]
theorem ZhA (o:Nat)(l:List Nat):Xq (nD o) (.lst (l.map nD))=some (.bl (decide (o∈l))):=by
 have h:Xy (nD o) (l.map nD)=true:=by simp[Xy,Zr,Zeq,ZW,ZjO]
 simp only[Xq,U1,h,if_true,Option.map,Zhz]
noncomputable def Vc (n:Nat)(jO:Qa)(i:Nat)(k:List Nat):Bool:=k.all λo=>decide (o∈WP n jO i)
theorem Zc5 (n:Nat)(jO:Qa)(i:Nat)(hi:i<n)(k:List Nat)(hk:k.length<=1000)(s:Pn):UB [Wf n jO,nD i,Zw k] s=some (.bl (Vc n jO i k),s):=by
 refine Yr rfl (ZX (YW ?_));have hx:Zn (Wf n jO) (nD i)=some (.lst ((WP n jO i).map nD)):=by
  refine Vf ?_;simp_all
 have hc:=XF (src:=[none,some 0,some 1]) (fi:=Xl (Za 2)) (τ:=ZI 0) (ft:=Yi) (fe:=Zc Xq (Za 0) (Zc Zn (Za 1) (Za 2))) (ρ:=[some (Wf n jO),some (nD i),some (Zw k)]) (s:=s) (λd=>[some d,some (Wf n jO),some (nD i)]) (λ_=>true) (λd=>.bl (decide (YV d∈WP n jO i))) (VA rfl) (by rw[qe,Y1];omega) (λd hd=>by
  obtain⟨o,ho,rfl⟩:=qu.mp hd;exact⟨rfl,rfl,λ_=>Zm rfl (Zm rfl rfl hx) (ZhA o _)⟩)
 rw[V7,qz]at hc;exact Yv (Zg hc rfl) (Zbv k λo=>decide (o∈WP n jO i))
theorem Zop (hi:i<n)(hk:∀o∈k,o<i):Vc n jO i k=Xj jO i k:=by
 unfold Vc Xj;rw[qaO];have e:∀o∈k,(decide (o∈WP n jO i)=true↔decide ((o,i)∈jO)=true):=λo ho=>by
  have h1:=hk o ho;unfold WP;rw[decide_eq_true_eq,qA,Bj,Vh h1]
  grind
 simp_all
theorem Zgi (n:Nat)(jO:Qa)(hn:n<=20)(s:Pn):Bf [Wf n jO] s=some (.lst ((kn jO n).map Zw),s):=by
 have p20:∀i,i<=20->2 ^ i<=1048576:=λi hi=>zV (by omega) hi;have jV:∀(r:List (Option D)),ZO YZ (Zb (Za 0) Zf) (some (Wf n jO)::r) s=some (nD n,s):=λr=>Yv (Zg rfl rfl) (by show some (D.int (((qm n).map _).length:Nat))=_;rw[qe,qL]);apply jA;refine Ok.runB rfl ?_;refine Ok.seq (.sset (.eq (a:=.lst [.tup []]) (ZjE (Xe rfl (by decide))) ?_));refine Ok.seq (.sfor (λi ρ s'=>s=s'/\∃o2,ρ=[some (Wf n jO),some (.lst ((kn jO i).map Zw)),o2]) (.eq (XB (jV _) (by omega)) ⟨⟨rfl,none,rfl⟩,λi d ρ s' hd hI=>?_,fun ρ' s' hI=>?_⟩))
 ·obtain⟨rfl,o2,rfl⟩:=hI
  obtain⟨hi,rfl⟩:=Be hd;refine⟨_,rfl,?_⟩;have hkl:=Zi0 jO i;have hpi:=p20 i (by omega);have J5:∀k:List Nat,(match Zw k with | .tup ds=>ds.map YV | _=>[])=k:=λk=>by
   unfold Zw;show(k.map nD).map YV=k;rw[qz];exact qaV k
  have hc:=XF (src:=[none,some 2,some 0]) (fi:=Xv (Za 1)) (τ:=ZI 0) (ft:=ZF (Zx UB (Zb (Za 2) (Zb (Za 1) (Zb (Za 0) Zf))))) (fe:=Zc ZY (Za 0) (ZB (Zb (Za 1) Zf))) (ρ:=[some (Wf n jO),some (.lst ((kn jO i).map Zw)),some (nD i)]) (s:=s) (ds:=(kn jO i).map Zw) (λd=>[some d,some (nD i),some (Wf n jO)]) (λd=>Xj jO i (match d with | .tup ds=>ds.map YV | _=>[])) (λd=>Zw ((match d with | .tup ds=>ds.map YV | _=>[]) ++ [i])) (Ua rfl) (by rw[qe,Y1];omega) (λd hd=>by
   obtain⟨k,hk,rfl⟩:=qu.mp hd;have hkm:=Uh hk;have e:=Zc5 n jO i hi k (by omega) s;rw[Zop hi hkm.1]at e;refine⟨rfl,?_,λ_=>?_⟩
   ·rw[J5];exact Z6 (Ym (Zg rfl (Zg rfl (Zg rfl rfl))) e)
   ·rw[J5];exact Zm (d:=Zw k) (e:=.tup [nD i]) rfl (ZjD rfl) (ZjN k i (by omega)))
  have e2:(((kn jO i).map Zw).filter λd=>Xj jO i (match d with | .tup ds=>ds.map YV | _=>[])).map (λd=>Zw ((match d with | .tup ds=>ds.map YV | _=>[]) ++ [i]))=(((kn jO i).filter (Xj jO i)).map (· ++ [i])).map Zw:=by
   rw[yG,qz,qz];have:((λd=>Xj jO i (match d with | .tup ds=>ds.map YV | _=>[]))∘Zw)=Xj jO i:=by
    funext k;show Xj jO i (match Zw k with | .tup ds=>ds.map YV | _=>[])=_;rw[J5]
   rw[this];refine qT λk _=>?_;show Zw ((match Zw k with | .tup ds=>ds.map YV | _=>[]) ++ [i])=_;rw[J5];rfl
  rw[e2]at hc;have hf:((kn jO i).filter (Xj jO i)).length<=(kn jO i).length:=zD _ _;refine Ok.seq (.sset (.eq (Zm (d:=.lst ((kn jO i).map Zw)) (c:=.lst ((kn jO (i+1)).map Zw)) rfl hc ?_) ?_))
  ·show(if _<=xg then some (D.lst _)else none)=_
   rw[if_pos (by simp only[qe,Y1];omega),<-qP];rfl
  ·exact .next ⟨_,rfl,rfl,some (nD i),rfl⟩
 ·obtain⟨rfl,o2,rfl⟩:=hI
  rw[XY];exact Ok.seq (.sret (.eq rfl ⟨rfl,rfl⟩))
theorem ZhB:∀{a b:List Nat},a.Pairwise (· < ·)->b.Pairwise (· < ·)->(∀x,x∈a↔x∈b)->a=b
 | [],[],_,_,_=>rfl
 | [],y::b,_,_,h=>absurd ((h y).mpr (by simp)) (by simp)
 | x::a,[],_,_,h=>absurd ((h x).mp (by simp)) (by simp)
 | x::a,y::b,ha,hb,h=>by
  have ha':=zO.mp ha;have hb':=zO.mp hb;have e:x=y:=by
   have h1:=(h x).mp (by simp);have h2:=(h y).mpr (by simp)
   grind
  subst e;rw[ZhB ha'.2 hb'.2 λz=>?_]
  grind
theorem ZcQ {α:Type}(q:α->Bool):∀l:List α,l.length=(l.filter q).length+(l.filter λx=>!q x).length
 | []=>rfl
 | a::l=>by
  have:=ZcQ q l
  grind
theorem ZfF {α:Type}{p:Nat->α->Bool}:∀(B:List Nat) (L:List α),(∀K∈L,∃u∈B,p u K=true)->(∀u∈B,(L.filter (p u)).length<=m)->L.length<=B.length*m
 | [],L,h,_=>by
  cases L with
  | nil=>simp
  | cons K L=>obtain⟨u,hu,_⟩:=h K (by simp);simp at hu
 | u::B,L,h,hm=>by
  have e:=ZcQ (p u) L;have h1:=hm u (by simp);have h2:=ZfF B (L.filter λK=>!p u K) (λK hK=>by
   obtain⟨hL,hn⟩:=qA.mp hK;obtain⟨w,hw,pw⟩:=h K hL;rcases qB.mp hw with rfl | hw
   ·rw[pw]at hn;simp at hn
   ·exact⟨w,hw,pw⟩) (λw hw=>by
   refine qp (qbt.length_le ?_) (hm w (qW _ hw));exact qbt.filter (p w) (za))
  rw[zb,Nat.succ_mul];omega
theorem ZmF (f:Nat->Nat):∀(V:List Nat),V≠[]->∃v∈V,∀u∈V,f u<=f v
 | [],h=>absurd rfl h
 | [x],_=>⟨x,by simp,λu hu=>by simp_all⟩
 | x::y::V,_=>by
  obtain⟨v,hv,h⟩:=ZmF f (y::V) (by simp)
  grind
structure Full (adj:Nat->Nat->Bool)(V K:List Nat):Prop where
 rise:K.Pairwise (· < ·)
 sub:∀o∈K,o∈V
 tie:∀a∈K,∀b∈K,a≠b->adj a b=true
 full:∀v∈V,¬∀o∈K,adj v o=true
noncomputable def mm:List Nat:=[1,1,2,3,4,6,9,12,18,27,36]
theorem Zoq:∀n≤10,∀d<n,(n-d)*mm.getD d 0<=mm.getD n 0:=by decide
theorem ZjP:∀b≤10,∀a≤b,mm.getD a 0<=mm.getD b 0:=by decide
theorem Zi1 (sy:∀a b,adj a b=adj b a)(ir:∀a,adj a a=false):∀(n:Nat),n<=10->∀(V:List Nat) (L:List (List Nat)),V.length=n->L.Nodup->(∀K∈L,Full adj V K)->L.length<=mm.getD n 0:=by
 intro n
 induction n using qbN with
 | _ n ih=>
  intro hn V L hV nd hL;by_cases h0:V=[]
  ·subst h0
   have hn0:n=0:=by simpa using hV.symm
   subst hn0
   match L,nd,hL with
   | [],_,_=>simp
   | [_],_,_=>simp[mm]
   | a::b::L,nd,hL=>
    exfalso;have e:∀K,Full adj [] K->K=[]:=λK h=>by
     cases K with
     | nil=>rfl
     | cons x K=>exact absurd (h.sub x (by simp)) (by simp)
    have h1:=e a (hL a (by simp));have h2:=e b (hL b (by simp));rw[h1,h2]at nd;simp at nd
  ·obtain⟨v,hv,hmax⟩:=ZmF (λu=>(V.filter (adj u)).length) V h0
   have hd:(V.filter (adj v)).length<n:=by
    rw[<-hV];refine Nat.lt_of_le_of_ne (zD _ _) λe=>?_;have:=(List.length_filter_eq_length_iff.mp e) v hv;rw[ir]at this;cases this
   have hB:(V.filter λu=>!adj v u).length=n-(V.filter (adj v)).length:=by
    have:=ZcQ (adj v) V;omega
   have hc:=ZfF (p:=λu K=>decide (u∈K)) (m:=mm.getD (V.filter (adj v)).length 0) (V.filter λu=>!adj v u) L (λK hK=>?_) λu hu=>?_
   ·rw[hB]at hc
    exact qp hc (Zoq n hn _ hd)
   ·have F:=hL K hK
    by_cases h:∃o∈K,adj v o=false
    ·obtain⟨o,ho,e⟩:=h
     exact⟨o,qA.mpr ⟨F.sub o ho,by rw[e];rfl⟩,by simpa using ho⟩
    ·exfalso
     refine F.full v hv λo ho=>?_
     cases e:adj v o with
     | true=>rfl
     | false=>exact absurd ⟨o,ho,e⟩ h
   ·have hu':=(qA.mp hu).1
    have hdu:(V.filter (adj u)).length<=(V.filter (adj v)).length:=hmax u hu';have hnd:((L.filter λK=>decide (u∈K)).map λK=>K.filter λo=>decide (o≠u)).Nodup:=by
     refine qbe.mpr ((List.Nodup.sublist (za (p:=λK=>decide (u∈K)) (l:=L)) nd).imp_of_mem λ{a b} ha hb hab e=>hab ?_);obtain⟨ha1,ha2⟩:=qA.mp ha;obtain⟨hb1,hb2⟩:=qA.mp hb;simp at ha2 hb2;refine ZhB (hL a ha1).rise (hL b hb1).rise λx=>?_;by_cases hx:x=u
     ·subst hx;exact⟨λ_=>hb2,λ_=>ha2⟩
     ·have q:x∈a.filter (λo=>decide (o≠u))↔x∈b.filter λo=>decide (o≠u):=by rw[e]
      simpa[hx]using q
    have:=ih (V.filter (adj u)).length (by omega) (by omega) (V.filter (adj u)) _ rfl hnd λK hK=>?_
    ·rw[qe]at this
     exact qp this (ZjP _ (by omega) _ hdu)
    ·obtain⟨K0,hK0,rfl⟩:=qu.mp hK
     obtain⟨hK1,hK2⟩:=qA.mp hK0;simp at hK2;have F:=hL K0 hK1;refine⟨F.rise.sublist za,λo ho=>?_,λa ha b hb=>F.tie a (qA.mp ha).1 b (qA.mp hb).1,λx hx z=>?_⟩
     ·obtain⟨h1,h2⟩:=qA.mp ho
      simp at h2;exact qA.mpr ⟨F.sub o h1,F.tie u hK2 o h1 (qJ h2)⟩
     ·obtain⟨h1,h2⟩:=qA.mp hx
      refine F.full x h1 λo ho=>?_;by_cases ho2:o=u
      ·simp_all
      ·simp_all
noncomputable def RT (jO:Qa)(a b:Nat):Prop:=a<b/\(a,b)∈jO
theorem Ui:∀{n:Nat} {k:List Nat},k∈kn jO n↔k.Pairwise (RT jO)/\∀o∈k,o<n
 | 0,k=>by
  constructor
  ·intro h
   have:k=[]:=by simpa[kn]using h
   subst this;exact⟨.nil,by simp⟩
  ·rintro⟨_,h⟩
   cases k with
   | nil=>simp[kn]
   | cons a k=>exact absurd (h a (by simp)) (by omega)
 | n+1,k=>by
  rw[kn,qV];constructor
  ·rintro(h | h)
   ·have:=Ui.mp h
    exact⟨this.1,λo ho=>qav (this.2 o ho)⟩
   ·obtain⟨q,hq,rfl⟩:=qu.mp h
    obtain⟨hq1,hq2⟩:=qA.mp hq;have:=Ui.mp hq1;unfold Xj at hq2;rw[zF]at hq2;refine⟨yg.mpr ⟨this.1,by simp,λa ha b hb=>?_⟩,λo ho=>?_⟩
    ·rw[zP.mp hb]
     exact⟨this.2 a ha,by simpa using hq2 a ha⟩
    ·rcases qV.mp ho with ho | ho
     ·exact qav (this.2 o ho)
     ·rw[zP.mp ho];omega
  ·rintro⟨h1,h2⟩
   by_cases hn:n∈k
   ·right
    obtain⟨a,b,rfl⟩:=List.append_of_mem hn;have hp:=yg.mp h1;have hb:b=[]:=by
     cases b with
     | nil=>rfl
     | cons y b=>
      have r1:=(zO.mp hp.2.1).1 y (by simp);have:=h2 y (by simp);have:=r1.1;omega
    subst hb;have ha:=λo ho=>hp.2.2 o ho n (by simp);refine qu.mpr ⟨a,qA.mpr ⟨Ui.mpr ⟨hp.1,λo ho=>(ha o ho).1⟩,?_⟩,rfl⟩;unfold Xj;rw[zF];exact λo ho=>by simpa using(ha o ho).2
   ·left
    refine Ui.mpr ⟨h1,λo ho=>?_⟩
    grind
theorem Zcj (jO:Qa):∀n,(kn jO n).Nodup
 | 0=>by simp[kn]
 | n+1=>by
  refine yg.mpr ⟨Zcj jO n,?_,λa ha b hb e=>?_⟩
  ·refine qbe.mpr (((Zcj jO n).sublist za).imp λh e=>h ?_)
   simp_all
  ·obtain⟨q,_,rfl⟩:=qu.mp hb
   have:=(Uh ha).1 n (by rw[e];simp);omega
theorem Zdz (h:k∈kn jO n):k.Pairwise (· < ·):=(Ui.mp h).1.imp λh=>h.1
theorem JF {k:List Nat}(hr:k.Pairwise (· < ·))(h:k.Pairwise R)(ha:a∈k)(hb:b∈k)(hab:a<b):R a b:=by
 obtain⟨i,hi,rfl⟩:=qch ha;obtain⟨j,hj,rfl⟩:=qch hb;have p1:=zQ.mp hr;have p2:=zQ.mp h;rcases qau i j with z | z | z
 ·simp_all
 ·simp_all
 ·have:=p1 j i hj hi z;omega
noncomputable def Uv (p:Nat)(k:List Nat):List Nat:=(k.filter λo=>decide (o<p))++p::(k.filter λo=>decide (p<o))
theorem Zck (hp:p∉k)(x:Nat):x∈Uv p k↔x=p∨x∈k:=by
 unfold Uv
 grind
theorem ZkU (hk:k.Pairwise (· < ·)):(Uv p k).Pairwise (· < ·):=by
 refine yg.mpr ⟨hk.sublist za,zO.mpr ⟨λb hb=>?_,hk.sublist za⟩,λa ha b hb=>?_⟩
 ·simp_all
 ·grind
theorem ZkV (hp:p∉k):(Uv p k).Perm (k ++ [p]):=by
 unfold Uv;have h1:(k.filter λo=>decide (p<o))=k.filter λo=>!decide (o<p):=by
  refine qas λo ho=>?_
  grind
 rw[h1];refine List.perm_middle.trans ?_;refine List.Perm.trans ?_ (List.perm_append_singleton p k).symm;exact List.Perm.cons p (List.filter_append_perm (λo=>decide (o<p)) k)
theorem Zor (h:k∈kn jO n)(hp:p∉k)(hn:p<n):Uv p k∈kn jO n↔Vc n jO p k=true:=by
 have hk:=Ui.mp h;have hr:=Zdz h;have key:Vc n jO p k=true↔∀o∈k,tied jO p o=true:=by
  unfold Vc WP;rw[zF];constructor
  ·intro z o ho
   have:=z o ho;rw[decide_eq_true_eq,qA]at this;exact this.2
  ·intro z o ho
   rw[decide_eq_true_eq,qA,qY];exact⟨hk.2 o ho,z o ho⟩
 rw[key,Ui];constructor
 ·rintro⟨h1,_⟩ o ho
  have hop:o≠p:=λz=>hp (z▸ho);have ir:=ZkU (p:=p) hr;have mo:=(Zck hp o).mpr (.inr ho);have mp:=(Zck hp p).mpr (.inl rfl);by_cases hlt:o<p
  ·rw[Bj,Vh hlt]
   simpa using(JF ir h1 mo mp hlt).2
  ·have hlt:p<o:=by omega
   rw[Vh hlt];simpa using(JF ir h1 mp mo hlt).2
 ·intro z
  have zl:∀o∈k,o<p->(o,p)∈jO:=λo ho hlt=>by
   have:=z o ho;rw[Bj,Vh hlt]at this;simpa using this
  have zg:∀o∈k,p<o->(p,o)∈jO:=λo ho hlt=>by
   have:=z o ho;rw[Vh hlt]at this;simp_all
  refine⟨?_,λo ho=>?_⟩
  ·refine yg.mpr ⟨hk.1.sublist za,zO.mpr ⟨λb hb=>?_,hk.1.sublist za⟩,λa ha b hb=>?_⟩
   ·obtain⟨hb1,hb2⟩:=qA.mp hb
    simp at hb2;exact⟨hb2,zg b hb1 hb2⟩
   ·obtain⟨ha1,ha2⟩:=qA.mp ha
    simp at ha2;rcases qB.mp hb with rfl | hb
    ·exact⟨ha2,zl a ha1 ha2⟩
    ·obtain⟨hb1,hb2⟩:=qA.mp hb
     simp at hb2;exact JF hr hk.1 ha1 hb1 (by omega)
  ·rcases (Zck hp o).mp ho with rfl | ho
   ·exact hn
   ·simp_all
theorem jB (h:IsWeb n jO)(a:Nat):tied jO a a=false:=by
 unfold tied;rw[decide_eq_false_iff_not];intro z;have h1:=(TP.IsWeb.mem h z).1;omega
noncomputable def Jx (n:Nat)(jO:Qa)(k:List Nat):Bool:=!(qm n).any λp=>Vc n jO p k
noncomputable def Xm (n:Nat)(jO:Qa):List (List Nat):=(kn jO n).filter (Jx n jO)
theorem Zos (h:k∈Xm n jO):Full (tied jO) (qm n) k:=by
 obtain⟨h1,h2⟩:=qA.mp h;have hk:=Ui.mp h1;refine⟨Zdz h1,λo ho=>qY.mpr (hk.2 o ho),λa ha b hb hab=>?_,λv hv z=>?_⟩
 ·by_cases hlt:a<b
  ·rw[Vh hlt];simpa using(JF (Zdz h1) hk.1 ha hb hlt).2
  ·have hlt:b<a:=by omega
   rw[Bj,Vh hlt];simpa using(JF (Zdz h1) hk.1 hb ha hlt).2
 ·unfold Jx at h2
  rw[Bool.not_eq_true',qa9]at h2;refine h2 v hv ?_;unfold Vc WP;simp_all
theorem ZhC (hw:IsWeb n jO)(hn:n<=10):(Xm n jO).length<=36:=by
 have:=Zi1 (Bj jO) (jB hw) n hn (qm n) (Xm n jO) (by simp) ((Zcj jO n).sublist za) λK hK=>Zos hK;exact qp this (ZjP 10 (qk _) n hn)
theorem Zot (h:2<=(Xm n jO).length):∀k∈Xm n jO,k≠[]:=by
 intro k hk e;subst e;have h2:=(qA.mp hk).2;unfold Jx at h2;rw[Bool.not_eq_true',qa9]at h2
 cases n with
 | zero=>
  have:(Xm 0 jO).length<=(kn jO 0).length:=zD _ _;simp[kn]at this;omega
 | succ n=>exact h2 0 (by simp) (by simp[Vc])
end TP2
namespace TP3
open L2 TF TP TS
open TP2
theorem ZkW {α:Type}(l:List α)(p:α->Bool):dAny [.lst (l.map λx=>D.bl (p x))]=some (.bl (l.any p)):=by
 show(Y5 _).map _=_;rw[show l.map (λx=>D.bl (p x))=(l.map p).map D.bl by rw[qz];rfl,ZcZ];simp
theorem Zi2 (n:Nat)(jO:Qa)(hn:n<=100000)(k:List Nat)(hk:k.length<=1000)(s:Pn):Bk [Wf n jO,Zw k] s=some (.bl (Jx n jO k),s):=by
 refine Yr rfl (ZX (YW ?_));have jV:ZO YZ (Zb (Za 0) Zf) [some (Wf n jO),some (Zw k)] s=some (nD n,s):=Yv (Zg rfl rfl) (by show some (D.int (((qm n).map _).length:Nat))=_;simp);have hc:=XF (src:=[none,some 0,some 1]) (τ:=ZI 0) (ft:=Yi) (fe:=Zx UB (Zb (Za 1) (Zb (Za 0) (Zb (Za 2) Zf)))) (λd=>[some d,some (Wf n jO),some (Zw k)]) (λ_=>true) (λd=>.bl (Vc n jO (YV d) k)) (XB jV hn) (Bw hn) (λd hd=>by
  obtain⟨i,hi,rfl⟩:=Zax hd;exact⟨rfl,rfl,λ_=>Ym (Zg rfl (Zg rfl (Zg rfl rfl))) (Zc5 n jO i hi k hk s)⟩)
 rw[V7,Bv,qz]at hc;exact Zf7 (Yv (Zg hc rfl) (ZkW (qm n) λp=>Vc n jO p k))
noncomputable def Wr (k:List Nat):List Int:=k.map λ(x:Nat)=>(x:Int)
theorem ZmG (k:List Nat):Zw k=X9 (Wr k):=by
 unfold Zw X9 Wr;rw[qz];rfl
theorem ZkX (h:Wr a=Wr b):a=b:=by
 exact(List.map_inj_right (λx y e=>by omega)).mp h
noncomputable def ZhD (n:Nat)(jO:Qa):List D:=(W4 ((Xm n jO).map Wr)).map X9
theorem ZkY (hw:IsWeb n jO)(hn:n<=10):Zdw [.lst ((Xm n jO).map Zw)]=some (.lst (ZhD n jO)):=by
 have e:(Xm n jO).map Zw=((Xm n jO).map Wr).map X9:=by
  rw[qz];exact qT λk _=>ZmG k
 show(match VQ ((Xm n jO).map Zw)with | some jZ=>if UQ jZ then some (D.lst ((W4 jZ).map X9))else none | none=>none)=_;rw[e,Zeg];show(if UQ ((Xm n jO).map Wr)then some (D.lst ((W4 ((Xm n jO).map Wr)).map X9))else none)=_;have hl:=ZhC hw hn;have ok:UQ ((Xm n jO).map Wr):=by
  refine⟨by grind,?_,λh2 ns hns=>?_⟩
  ·refine qbe.mpr (qca.imp (λ{a b} h e=>h (ZkX e)) ((Zcj jO n).sublist (za)))
  ·obtain⟨k,hk,rfl⟩:=qu.mp hns
   rw[qe]at h2;have:=Zot h2 k hk
   cases k with
   | nil=>simp_all
   | cons a k=>exact λz=>by cases z
 rw[if_pos ok];rfl
theorem J5 (k:List Nat):(match Zw k with | .tup ds=>ds.map YV | _=>[])=k:=by
 show(k.map nD).map YV=k;rw[qz];exact qaV k
theorem ZhE (l:List (List Nat))(f:List Nat->Bool):(((l.map Zw).filter λd=>f (match d with | .tup ds=>ds.map YV | _=>[])).map λd=>d)=(l.filter f).map Zw:=by
 rw[yG,qz];have:((λd=>f (match d with | .tup ds=>ds.map YV | _=>[]))∘Zw)=f:=by
  funext k;show f (match Zw k with | .tup ds=>ds.map YV | _=>[])=_;rw[J5]
 rw[this];rfl
theorem ZhF (hn:n<=10):(kn jO n).length<=1024:=by
 have:=Zi0 jO n;have:2 ^ n<=2 ^ 10:=zV (by omega) hn;omega
theorem Ze4 (n:Nat)(jO:Qa)(hw:IsWeb n jO)(hn:n<=10)(s:Pn):F_full_knots [ZG n jO] s=some (.lst (ZhD n jO),s):=by
 refine Yr rfl (Yh (Wd (Ym (Zg rfl rfl) (Zc4 n jO (by omega) s))) (ZX (YW ?_)));have hkn:=ZhF (jO:=jO) hn;have hc:=XF (src:=[none,some 1]) (fi:=Xv (Zx Bf (Zb (Za 1) Zf))) (τ:=ZI 0) (ft:=ZF (Zx Bk (Zb (Za 1) (Zb (Za 0) Zf)))) (fe:=Za 0) (ρ:=[some (ZG n jO),some (Wf n jO)]) (λd=>[some d,some (Wf n jO)]) (λd=>Jx n jO (match d with | .tup ds=>ds.map YV | _=>[])) (λd=>d) (Ua (Ym (Zg rfl rfl) (Zgi n jO (by omega) s))) (by rw[qe,Y1];omega) (λd hd=>by
  obtain⟨k,hk,rfl⟩:=qu.mp hd;have hkm:=Uh hk;refine⟨rfl,?_,λ_=>rfl⟩;rw[J5];exact Z6 (Ym (Zg rfl (Zg rfl rfl)) (Zi2 n jO (by omega) k (by omega) s)))
 rw[ZhE]at hc;exact Yv (Zg hc rfl) (ZkY hw hn)
theorem ZjQ:k∈kn jO n↔k.Pairwise (· < ·)/\(∀o∈k,o<n)/\∀a∈k,∀b∈k,a≠b->tied jO a b=true:=by
 rw[Ui];constructor
 ·rintro⟨h1,h2⟩
  have hr:=h1.imp λh=>h.1;refine⟨hr,h2,λa ha b hb hab=>?_⟩;by_cases hlt:a<b
  ·rw[Vh hlt];simpa using(JF hr h1 ha hb hlt).2
  ·have hlt:b<a:=by omega
   rw[Bj,Vh hlt];simpa using(JF hr h1 hb ha hlt).2
 ·rintro⟨hr,h2,h3⟩
  refine⟨?_,h2⟩;refine qca.imp_of_mem (λ{a b} ha hb hab=>?_) hr;refine⟨hab,?_⟩;have:=h3 a ha b hb (by omega);rw[Vh hab]at this;simp_all
section
variable {m n:Nat}{f:Nat->Nat}{tm tn:Qa}
theorem Zou:Vc n jO p k=true↔∀o∈k,o<n/\tied jO p o=true:=by
 unfold Vc WP;simp
end
theorem Zcl (jO:Qa)(a b:Nat)(s:Pn):WL [.dt (Y8 [] jO),.int a,.int b] s=some (.bl (tied jO a b),s):=by
 simp[WL,ZbM,runB,Zh,ZL,Zc,ZO,Zb,Zf,ZB,Za,Zp,ZJ,YO,JM,BJ,two_le,ZbN,ZmE,tied]
theorem ZjR (h:Zr d=true)(hd:ZW d<=60):WF d d=some (.bl false):=by
 unfold WF U0;rw[if_pos (by simp[h,hd]),ZdX d h];rfl
theorem ZhG:∀{ds:List D},(∀d∈ds,Zr d=true)->YT ds=true
 | [],_=>by rfl
 | d::ds,h=>by
  simp only[YT,zc];exact⟨h d (by simp),ZhG λd hd=>h d (by simp[hd])⟩
theorem ZhH (o:Nat)(l:List Nat):UP (nD o) (.lst (l.map nD))=some (.bl (!decide (o∈l))):=by
 have h:=ZhA o l;unfold Xq at h;unfold UP;simp_all
section
variable (ap:Nat->Nat->Bool)
end
section
variable {ap:Nat->Nat->Bool}
end
section
variable {n:Nat}{A:Nat->List Nat}{ap:Nat->Nat->Bool}
theorem Zqh (a b:Nat):WF (nD a) (nD b)=some (.bl (!decide (a=b))):=by
 rw[nei];congr 3
 grind
theorem Jy (h:ds.length+es.length<=100000):ZY (.lst ds) (.lst es)=some (.lst (ds++es)):=by
 show(if ds.length+es.length<=xg then some (D.lst (ds++es))else none)=_;rw[if_pos (by rw[Y1];omega)]
end
noncomputable def Wt (n:Nat)(jO:Qa):Qa:=(Wv n).filter λp=>!decide (p∈jO)
theorem Zbw (n:Nat)(jO:Qa):IsWeb n (Wt n jO):=IsWeb.filter _
noncomputable def VO:D->List Nat
 | .tup ds=>ds.map YV
 | .lst ds=>ds.map YV
 | _=>[]
theorem Zcm (k:List Nat):VO (Zw k)=k:=by
 show(k.map nD).map YV=k;rw[qz];exact qaV k
noncomputable def J6 (ns:List Int):List Nat:=ns.map Int.toNat
theorem ZhI (k:List Nat):J6 (Wr k)=k:=by
 unfold J6 Wr;rw[qz];exact List.map_id' k
noncomputable def BS (n:Nat)(jO:Qa):List (List Nat):=(W4 ((Xm n jO).map Wr)).map J6
theorem Zer (n:Nat)(jO:Qa):(BS n jO).Perm (Xm n jO):=by
 have h:=(ZbO ((Xm n jO).map Wr)).map J6;rw[qz]at h;have e:(Xm n jO).map (J6∘Wr)=Xm n jO:=by
  have:J6∘Wr=id:=funext ZhI;simp_all
 rw[e]at h;exact h
theorem ZjS (n:Nat)(jO:Qa):ZhD n jO=(BS n jO).map Zw:=by
 unfold ZhD BS;rw[qz];refine qT λns hns=>?_;obtain⟨K,hK,rfl⟩:=qu.mp ((ZbO _).mem_iff.mp hns);show _=Zw (J6 (Wr K));rw[ZhI,ZmG]
theorem ZfG:k∈BS n jO↔k∈Xm n jO:=(Zer n jO).mem_iff
theorem ZkZ (hw:IsWeb n jO)(hn:n<=10):(BS n jO).length<=36:=by
 rw[(Zer n jO).length_eq];exact ZhC hw hn
theorem Zov (h:k∈Xm n jO):k∈kn jO n:=(qA.mp h).1
theorem Zgj (hw:IsWeb n jO):∀(j:Nat) (k:List Nat),n-k.length=j->k∈kn jO n->∃F∈Xm n jO,∀x∈k,x∈F:=by
 intro j
 induction j using qbN with
 | _ j ih=>
  intro k hj hk;by_cases hf:Jx n jO k=true
  ·exact⟨k,qA.mpr ⟨hk,hf⟩,λx hx=>hx⟩
  ·have hf:=by simpa using hf
   unfold Jx at hf;rw[Bool.not_eq_false',List.any_eq_true]at hf;obtain⟨p,hp,ok⟩:=hf;have hpn:=qY.mp hp;have hpk:p∉k:=λz=>by
    have:=(Zou.mp ok p z).2;rw[jB hw]at this;cases this
   have h2:=(Zor hk hpk hpn).mpr ok;have hl:(Uv p k).length=k.length+1:=by rw[(ZkV hpk).length_eq];simp
   have hle:=(Uh h2).2;obtain⟨F,hF,hs⟩:=ih (n-(Uv p k).length) (by omega) (Uv p k) rfl h2;exact⟨F,hF,λx hx=>hs x ((Zck hpk x).mpr (.inr hx))⟩
theorem Zqi (p:Nat×Nat)(jO:Qa):Xq (ZU p) (.du (Y8 [] jO))=some (.bl (decide (p∈jO))):=ZmE p jO
theorem ZjT:∀{i n:Nat},i<=n->(kn jO i).length<=(kn jO n).length:=λ{i n} h=>by
 induction n with
 | zero=>simp_all
 | succ n ih=>
  by_cases e:i=n+1
  ·rw[e];simp
  ·rw[kn,qQ];omega
theorem Zow (h1:fv ρ s=some (v,s))(h2:fx ρ s=some (x,s))(h3:(ρ[i]?).bind id=some (.du kvs))(h4:keyT x=some key)(h5:Ul v=some w)(hl:kvs.length<xg) :
  Zho i fx fv ρ s=some (.nx (ρ.set i (some (.du (Y3 kvs key w)))),s):=by
 unfold Zho Zp;rw[h1];simp;rw[h2];simp;rw[h3];rw[h4,h5];simp;rw[if_pos hl];rfl
theorem Zox (jO:Qa):∀kg:List (List Ye×V),(Y8 kg jO).length<=kg.length+jO.length:=by
 induction jO with
 | nil=>intro kg;exact qk _
 | cons t r ih=>
  intro kg;have h2:=Bd kg (W9 t) (.bl true);show(Y8 (Y3 kg (W9 t) (.bl true)) r).length<=_
  grind
theorem ZmH (jO:Qa)(t:Nat×Nat):Y8 [] (jO ++ [t])=Y3 (Y8 [] jO) (W9 t) (.bl true):=by
 unfold Y8;simp
theorem Zgk (l:List Bool):UP (.bl false) (.lst (l.map D.bl))=some (.bl (l.all id)):=by
 have hp:YT (l.map D.bl)=true:=ZhG λd hd=>by obtain⟨a,_,rfl⟩:=qu.mp hd;rfl
 have hd:Y6 (l.map D.bl)<=0:=Zdu _ λd hd=>by obtain⟨a,_,rfl⟩:=qu.mp hd;simp[ZW]
 have ok:Xy (.bl false) (l.map D.bl)=true:=by
  unfold Xy;simp[Zr,hp,ZW];omega
 have hi:XX (.bl false) (l.map D.bl)=!l.all id:=by
  clear hp hd ok;unfold XX
  induction l with
  | nil=>rfl
  | cons b r ih=>
   rw[qS,yR,ih]
   cases b <;> simp[ZR]
 show((if Xy (.bl false) (l.map D.bl)=true then some (XX (.bl false) (l.map D.bl))else none).map λb=>D.bl (!b))=_;simp_all
theorem Zgl (n:Nat)(jO:Qa)(hn:n<=1000)(hk:(kn jO n).length<=1000000)(hl:jO.length<=100000)(s:Pn):Zad [ZG n jO] s=some (.lst ((kn jO n).map Zw),s):=by
 apply jA;refine Ok.runB rfl ?_;refine Ok.seq (.sown (.eq (a:=.du []) rfl ⟨rfl,?_⟩));refine Ok.seq (.sfor (λi ρ s'=>s=s'/\∃o2,ρ=[some (ZG n jO),some (.du (Y8 [] (jO.take i))),o2,none,none,none,none]) (.eq (a:=jO.map ZU) (s':=s) (VA (Zm (d:=ZG n jO) (e:=.int 1) rfl rfl web1)) ⟨⟨rfl,none,rfl⟩,λi d ρ s' hd hI=>?_,fun ρ' s' hI=>?_⟩))
 ·obtain⟨rfl,o2,rfl⟩:=hI
  rw[qI]at hd;obtain⟨t,ht,rfl⟩:=qbS.mp hd;refine⟨_,rfl,?_⟩;have jV:=Zox (jO.take i) [];have htl:(jO.take i).length<=jO.length:=(qaq _ _).length_le;refine Ok.seq (.eq (Zow (x:=ZU t) (v:=.bl true) (kvs:=Y8 [] (jO.take i)) (key:=W9 t) (w:=.bl true) rfl rfl rfl rfl rfl (by rw[Y1];simp at jV;omega)) (.next ⟨_,rfl,rfl,some (ZU t),?_⟩));have et:jO.take (i+1)=jO.take i ++ [t]:=by rw[qbY,ht];rfl
  rw[et,ZmH];rfl
 obtain⟨rfl,o2,rfl⟩:=hI;rw[qe,List.take_length];refine Ok.seq (.sset (.eq (a:=.lst [.tup []]) (ZjE (Xe rfl (by decide))) ?_));refine Ok.seq (.sfor (λi ρ s'=>s=s'/\∃o4 o5 o6,ρ=[some (ZG n jO),some (.du (Y8 [] jO)),o2,some (.lst ((kn jO i).map Zw)),o4,o5,o6]) (.eq (XB (Zm (d:=ZG n jO) (e:=.int 0) rfl rfl Ww) (by omega)) ⟨⟨rfl,none,none,none,rfl⟩,λi d ρ s' hd hI=>?_,fun ρ' s' hI=>?_⟩))
 ·obtain⟨rfl,o4,o5,o6,rfl⟩:=hI
  obtain⟨hi,rfl⟩:=Be hd;refine⟨_,rfl,?_⟩;have hkl:(kn jO i).length<=1000000:=qp (ZjT (by omega)) hk;refine Ok.seq (.sown (.eq (a:=.lst []) (WM rfl (zr _)) ⟨rfl,?_⟩));refine Ok.seq (.sfor (λj ρ s'=>s=s'/\∃o6,ρ=[some (ZG n jO),some (.du (Y8 [] jO)),o2,some (.lst ((kn jO i).map Zw)),some (nD i),some (.lst (((((kn jO i).take j).filter (Xj jO i)).map (· ++ [i])).map Zw)),o6]) (.eq (a:=(kn jO i).map Zw) (s':=s) (Ua rfl) ⟨⟨rfl,o6,by simp⟩,λj d ρ s' hd hJ=>?_,fun ρ' s' hJ=>?_⟩))
  ·obtain⟨rfl,o6,rfl⟩:=hJ
   rw[qI]at hd;obtain⟨k,hk2,rfl⟩:=qbS.mp hd;have hkm:=Uh (zp hk2);refine⟨_,rfl,?_⟩;generalize hC:D.lst (((((kn jO i).take j).filter (Xj jO i)).map (· ++ [i])).map Zw)=C;have hc:=XF (src:=[none,some 4,some 1]) (fi:=Xl (Za 6)) (τ:=ZI 0) (ft:=Yi) (fe:=Zc Xq (ZB (Zb (Za 0) (Zb (Za 1) Zf))) (Za 2)) (ρ:=[some (ZG n jO),some (.du (Y8 [] jO)),o2,some (.lst ((kn jO i).map Zw)),some (nD i),some C,some (Zw k)]) (s:=s) (ds:=k.map nD) (λd=>[some d,some (nD i),some (.du (Y8 [] jO))]) (λ_=>true) (λd=>.bl (decide ((YV d,i)∈jO))) (VA rfl) (by rw[qe,Y1];omega) (λd hd=>by
    obtain⟨o,ho,rfl⟩:=qu.mp hd;exact⟨rfl,rfl,λ_=>Zm (d:=ZU (o,i)) (Zoa rfl rfl) rfl (Zqi (o,i) jO)⟩)
   rw[V7]at hc;have e0:(k.map nD).map (λd=>D.bl (decide ((YV d,i)∈jO)))=(k.map λo=>decide ((o,i)∈jO)).map D.bl:=by rw[qz,qz];rfl
   rw[e0]at hc;have ha:UP (.bl false) (.lst ((k.map λo=>decide ((o,i)∈jO)).map D.bl))=some (.bl (Xj jO i k)):=by
    rw[Zgk,qbq];rfl
   have et:(kn jO i).take (j+1)=(kn jO i).take j ++ [k]:=by rw[qbY,hk2];rfl
   refine Ok.seq (.sif (.eq (Z6 (Zm (d:=.bl false) rfl hc ha)) ?_));subst hC
   cases ok:Xj jO i k with
   | true=>
    have hf:(((kn jO i).take j).filter (Xj jO i)).length<=(kn jO i).length:=qp (zD _ _) (qaq _ _).length_le;refine .seq (.sapp (ds:=((((kn jO i).take j).filter (Xj jO i)).map (· ++ [i])).map Zw) rfl (by rw[qe,qe,Y1];omega) (.eq (Zm (d:=Zw k) (e:=.tup [nD i]) rfl (ZjD rfl) (ZjN k i (by omega))) ?_));refine .next (.next ⟨_,rfl,rfl,some (Zw k),?_⟩);have e:((((kn jO i).take (j+1)).filter (Xj jO i)).map (· ++ [i])).map Zw=((((kn jO i).take j).filter (Xj jO i)).map (· ++ [i])).map Zw ++ [Zw (k ++ [i])]:=by
     rw[et,qaj,List.filter_cons_of_pos ok,List.filter_nil];simp only[qP,qS,qbz]
    rw[e];rfl
   | false=>
    refine .next (.next ⟨_,rfl,rfl,some (Zw k),?_⟩);rw[et,qaj,List.filter_cons_of_neg (by simp[ok]),List.filter_nil,zu];rfl
  ·obtain⟨rfl,o6',rfl⟩:=hJ
   rw[qe,List.take_length];have hl2:(kn jO (i+1)).length<=1000000:=qp (ZjT (by omega)) hk;rw[kn,qQ,qe]at hl2;refine Ok.seq (.sset (.eq (Zm (d:=.lst ((kn jO i).map Zw)) (e:=.lst ((((kn jO i).filter (Xj jO i)).map (· ++ [i])).map Zw)) (c:=.lst ((kn jO (i+1)).map Zw)) rfl rfl ?_) (.next ⟨_,rfl,rfl,_,_,_,rfl⟩)));show(if ((kn jO i).map Zw).length+((((kn jO i).filter (Xj jO i)).map (· ++ [i])).map Zw).length<=xg then some (D.lst (_++_))else none)=_;rw[if_pos (by rw[qe,qe,qe,Y1];omega),kn,qP]
 ·obtain⟨rfl,o4,o5,o6,rfl⟩:=hI
  rw[XY];exact Ok.seq (.sret (.eq rfl ⟨rfl,rfl⟩))
section
variable (jO:Qa)
end
section
variable {jO:Qa}{many:Nat}
end
theorem Zes (I:Ze->Prop)(b:D->Bool):∀(ds:List D) (ρ:Ze),I ρ->
  (∀d∈ds,∀ρ,I ρ->∃ρ1,τ d ρ=some ρ1/\(b d=true->∃ρ2,body ρ1 s=some (.nx ρ2,s)/\I ρ2)/\(b d=false->body ρ1 s=some (.rt (.bl false),s)))->
  (ds.all b=true->∃ρ',Wu τ body ds ρ s=some (.nx ρ',s)/\I ρ')/\(ds.all b=false->Wu τ body ds ρ s=some (.rt (.bl false),s))
 | [],ρ,h0,_=>⟨λ_=>⟨ρ,rfl,h0⟩,λh=>by simp at h⟩
 | d::ds,ρ,h0,h=>by
  obtain⟨ρ1,e1,ht,hf⟩:=h d (by simp) ρ h0;rw[qa5]
  cases hb:b d with
  | false=>
   refine⟨λz=>?_,λ_=>ZaV e1 (hf hb)⟩
   grind
  | true=>
   obtain⟨ρ2,e2,h2⟩:=ht hb;obtain⟨r1,r2⟩:=Zes I b ds ρ2 h2 λx hx=>h x (by simp[hx]);refine⟨λz=>?_,λz=>Bb e1 e2 (r2 z)⟩;obtain⟨ρ',e3,h3⟩:=r1 z;exact⟨ρ',Bb e1 e2 e3,h3⟩
theorem Zgm (h:JO d=true)(n:Nat)(s:Pn):Vv [d,nD n] s=some (.bl (match d with | .tup ds=>decide (ds.length=n) | _=>false),s):=by
 refine Yr rfl (ZX (YW ?_));have hw:ZO X7 (Zb (Za 0) (Zb (dC (.ty "tuple")) Zf)) [some d,some (nD n)] s=_:=Yv (Zg rfl (Zg rfl rfl)) (Zbs h)
 cases d with
 | tup ds=>
  refine ZiJ hw (Zm (Yv (Zg rfl rfl) rfl) rfl ?_);rw[V2];congr 2
  grind
 | pen=>cases h
 | ty _=>cases h
 | clo _ _=>cases h
 | dk _=>cases h
 | dt _=>cases h
 | du _=>cases h
 | df _=>cases h
 | _=>rfl
end TP3
namespace TQ
open L2 TF TS
open TP
open TP2
open TP3
theorem Zqj (h1:(ρ[i]?).bind id=some (.clo t cds))(h2:fs ρ s=some (ds,s1))(h3:T t (ds++cds) s1=r):dApp T i fs ρ s=r:=by
 unfold dApp Zp Za YO;simp_all
theorem Zqk (h1:f ρ s=some (d,s1))(h2:BL ρ cix=some cds)(n1:Z2 d=true)(n2:Yl cds=true)(h3:F [d,.clo t cds] s1=some (c,s2))(n3:Z2 c=true):dFnC F t cix f ρ s=some (c,s2):=by
 unfold dFnC Zp YO;rw[h1,h2];simp only;rw[if_pos (by simp_all),h3];simp;rw[if_pos n3];rfl
theorem ZcR:∀{ds:List D},(∀d∈ds,Z2 d=true)->Yl ds=true
 | [],_=>rfl
 | d::ds,h=>by
  show(Z2 d&&Yl ds)=true;rw[h d List.mem_cons_self,ZcR λx (hx:x∈ds)=>h x (qW _ hx)];rfl
theorem Zoy (hl:ds.length=n)(h:f (ds.map some) s=r):Ut n f ds s=r:=by
 unfold Ut;simp_all
theorem Zk0 (n:Nat)(jO:Qa):Z2 (ZG n jO)=true:=by
 have:Yl (jO.map ZU)=true:=ZcR λd hd=>by obtain⟨p,_,rfl⟩:=qu.mp hd;rfl
 simp only[ZG,Z2,Yl,this];rfl
theorem Zgn (lo:Int)(n:Nat):Yl (Yw lo n)=true:=ZcR λd hd=>by
 obtain⟨i,_,rfl⟩:=qu.mp hd;rfl
theorem Zgo (h:BZ row ds)(hn:ds.length<=1000)(b:Nat×Nat->Bool)(s:Pn)(hb:∀p∈Wv ds.length,Tl t ([ds.getD p.1 .non,ds.getD p.2 .non]++cds) s=some (.bl (b p),s)):Zai [row,.clo t cds] s=some (ZG ds.length ((Wv ds.length).filter b),s):=by
 have hln:∀r,ZO YZ (Zb (Za 0) Zf) (some row::r) s=some (nD ds.length,s):=λr=>Yv (Zg rfl rfl) h.len;refine Yr rfl (Yh (Wd (Ym (Zg (Zb6 (hln _) hn) rfl) (Zhe s hn))) (ZX (YW ?_)));have hap:=Zl0 ds.length hn;have hc:=XF (src:=[none,some 1,some 0]) (fi:=Xv (Za 2)) (τ:=ZI 0) (ft:=ZF (dApp Tl 1 (Zb (Zc Zn (Za 2) (Zc Zn (Za 0) (dC (.int 0)))) (Zb (Zc Zn (Za 2) (Zc Zn (Za 0) (dC (.int 1)))) Zf)))) (fe:=Za 0) (ρ:=[some row,some (.clo t cds),some (.lst ((Wv ds.length).map ZU))]) (λd=>[some d,some (.clo t cds),some row]) (λd=>b (nat2 d)) (λd=>d) (Ua rfl) (by rw[qe,Y1];omega) λd hd=>by
  obtain⟨p,hpm,rfl⟩:=qu.mp hd;have hpp:=Zb7.mp hpm;refine⟨rfl,Z6 (Zqj rfl (Zg (Zm rfl (Zm rfl rfl (VF _ _)) (h.ix (by omega))) (Zg (Zm rfl (Zm rfl rfl (Uo _ _ _)) (h.ix (by omega))) rfl)) (hb p hpm)),λ_=>rfl⟩
 rw[Zf4 (Wv ds.length) _ b λp=>by rfl]at hc;exact Xe (Zg (hln _) (Zg (Yv (Zg hc rfl) rfl) rfl)) two_le
theorem range_getD (h:i<n):(Yw 0 n).getD i .non=nD i:=by
 rw[Bv];simp[h]
theorem Zet (n:Nat)(jO:Qa)(s:Pn)(hn:n<=1000)(hl:jO.length<=100000):V8 [ZG n jO] s=some (ZG n ((Wv n).filter λp=>!decide (p∈jO)),s):=by
 refine Yr rfl (Yh (Wd (Ym (Zg rfl rfl) (Zfw n jO s hl))) (ZX (YW ?_)));refine Zqk (Zb6 (Zm rfl rfl Ww) hn) rfl ((Zgn _ _)) rfl ?_ (Zk0 _ _);have:=Zgo (row:=.lst (Yw 0 n)) (t:=0) (.inl rfl) (by rw[XY];exact hn) (λp=>!decide (p∈jO)) s (λp hp=>by
  rw[XY]at hp;have hpp:=Zb7.mp hp;rw[range_getD (by omega),range_getD (by omega)];show Zcd [nD p.1,nD p.2,.dt (Y8 [] jO)] s=_;refine Zoy rfl ?_;refine Zf7 (Ym (Zg rfl (Zg rfl (Zg rfl rfl))) ?_);rw[Zcl,Vh hpp.1])
 rw[XY]at this;exact this
end TQ
namespace TQ
open L2 TF TS
open TP
open TP2 hiding g_all_near F_all_near
open TP3 hiding g_full_knots F_full_knots
noncomputable abbrev B5 (n:Nat)(jO:Qa):D:=.tup [nD n,.dt (Y8 [] jO)]
theorem mk0:Zn (B5 n jO) (.int 0)=some (nD n):=VF _ _
theorem mk1:Zn (B5 n jO) (.int 1)=some (.dt (Y8 [] jO)):=Uo _ _ _
theorem ZmI (n:Nat)(jO:Qa)(p:Nat)(s:Pn)(hn:n<=100000):Uf [B5 n jO,.int p] s=some (.lst ((WP n jO p).map nD),s):=by
 refine Yr rfl (ZX (YW ?_));unfold WP;rw[<-Zc3];refine XF (λd=>[some d,some (B5 n jO),some (.int p)]) (λd=>tied jO p (YV d)) (λd=>d) (XB (Zm rfl rfl mk0) hn) (Bw hn) ?_;intro d hd;obtain⟨i,hi,rfl⟩:=Zax hd;exact⟨rfl,Z6 (Ym (Zg (Zm rfl rfl mk1) (Zg rfl (Zg rfl rfl))) (Zcl jO p i s)),λ_=>rfl⟩
noncomputable def gN:Ze->M Out:=(Zh (ZT 1 (ZB (Zb (Zc Zn (Za 0) (dC (.int 0))) (Zb (Zx Jh (Zb (Za 0) Zf)) Zf))))
 (Zh (ZL (Yb [none,some 1] (Yt (Zc Zn (Za 0) (dC (.int 0)))) (ZI 0) Yi (Zx Uf (Zb (Za 1) (Zb (Za 0) Zf)))))
 Zq))
theorem Zgp (n:Nat)(jO:Qa)(hn:n<=1000)(hl:jO.length<=100000)(s:Pn):runB 2 1 gN [ZG n jO] s=some (Wf n jO,s):=by
 refine Yr rfl (Yh (Wd (Xe (Zg (Zm rfl rfl Ww) (Zg (Ym (Zg rfl rfl) (Zfw n jO s hl)) rfl)) two_le)) (ZX (YW ?_)));have hc:=XF (src:=[none,some 1]) (fi:=Yt (Zc Zn (Za 0) (dC (.int 0)))) (τ:=ZI 0) (ft:=Yi) (fe:=Zx Uf (Zb (Za 1) (Zb (Za 0) Zf))) (ρ:=[some (ZG n jO),some (B5 n jO)]) (λd=>[some d,some (B5 n jO)]) (λ_=>true) (λd=>.lst ((WP n jO (YV d)).map nD)) (XB (Zm rfl rfl Ww) (by omega)) (Bw (by omega)) λd hd=>by
  obtain⟨i,hi,rfl⟩:=Zax hd;exact⟨rfl,rfl,λ_=>Ym (Zg rfl (Zg rfl rfl)) (ZmI n jO i s (by omega))⟩
 rw[V7,Bv,qz]at hc;exact hc
theorem Zi3 {g:Ze->M Out}(h:g (ds.map some++qf (n-k) none) s=g' (ds.map some++qf (n-k) none) s):runB n k g ds s=runB n k g' ds s:=by
 unfold runB;split
 ·unfold Zp;rw[h]
 ·rfl
end TQ
namespace TQ
open L2 TF TS
open TP
open TP2
open TP3
section
variable (ap:Nat->Nat->Bool)
end
section
variable {ap:Nat->Nat->Bool}
end
section
variable {n:Nat}{A:Nat->List Nat}{ap:Nat->Nat->Bool}
end
end TQ
namespace TP3
open L2 TF TP TS
open TP2
section
variable {n:Nat}{jO:Qa}
end
end TP3
namespace TQ
open L2 TF TS
open TP
open TP2 hiding g_all_near F_all_near
open TP3 hiding g_full_knots F_full_knots
theorem Zq1 (n:Nat)(jO:Qa)(hn:n<=1000)(hl:jO.length<=100000)(s:Pn):F_all_near [ZG n jO] s=some (Wf n jO,s):=Zgp n jO hn hl s
theorem ZhJ (n:Nat)(jO:Qa)(hw:IsWeb n jO)(hn:n<=10)(s:Pn):F_full_knots [ZG n jO] s=some (.lst (ZhD n jO),s):=by
 have hl:=hw.len (show n<=24 by omega);rw[<-Ze4 n jO hw hn s];refine Zi3 ?_;exact(Yh (Wd (Ym (Zg rfl rfl) (Zq1 n jO (by omega) (by omega) s))) rfl).trans (Yh (Wd (Ym (Zg rfl rfl) (Zc4 n jO (by omega) s))) rfl).symm
section
variable {jO:Qa}{ws:List Wb}
end
section
variable {n m:Nat}{t1 t2 T:Qa}
end
section
variable {jO:Qa}
variable {n:Nat}{ps:List Nat}
end
end TQ
namespace TF
open L2
section
variable {X:Cx}{G:Gh}{f:Ze->M D}
noncomputable def ZmJ (f:Ze->M D):Ze->M (List D):=fun ρ=>Zp (f ρ) λd=>match d with | .lst ds=>ZJ ds | .tup ds=>ZJ ds | _=>ZS
theorem ZmK (hl:PD X G r1 l f):XA X G tg l (ZmJ f):=by
 obtain⟨t1,p1,q1⟩:=Vd hl;obtain⟨t2,p2,q2⟩:=VP hl;refine⟨fun σ H R=>t1 σ H R∨t2 σ H R,λjN s σ H R I h=>h.elim (p1 jN s σ H R I) (p2 jN s σ H R I),fun σ Hf H ρ s ds s' R e1 e2 e3 e4 k=>?_⟩;obtain⟨d,s1,a1,a2⟩:=Zy e4
 cases d with
 | lst es=>exact .inl (q1 σ Hf H ρ s ds s' R e1 e2 e3 (by show Zp (f ρ) _ s=_;unfold Zp;rw[a1];exact a2) k)
 | tup es=>exact .inr (q2 σ Hf H ρ s ds s' R e1 e2 e3 (by show Zp (f ρ) _ s=_;unfold Zp;rw[a1];exact a2) k)
 | _=>cases a2
end
end TF
namespace TQ
open L2 TF TS
open TP
open TP2 hiding g_all_near F_all_near
open TP3 hiding g_full_knots F_full_knots
section
variable (ap:Nat->Nat->Bool)(W:List Nat)
end
section
variable {ap:Nat->Nat->Bool}{W:List Nat}
end
section
variable {n:Nat}{A:Nat->List Nat}{ap:Nat->Nat->Bool}
end
end TQ
namespace TF
open L2
section
variable {X:Cx}{G:Gh}
end
end TF
namespace TQ
open L2 TF TQ
open TP
open TP2 hiding g_all_near F_all_near
open TP3 hiding g_full_knots F_full_knots
noncomputable def ZbT:Ze->M Out:=(Zh (Yx (Wa (Xx (ZF (ZO X7 (Zb (Za 0) (Zb (dC (.ty "tuple")) Zf))))) (ZF (Zc WF (ZO YZ (Zb (Za 0) Zf)) (dC (.int 2)))))
 (Zh (ZL (dC (.bl false)))
 Zq)
 Zq)
 (Zh (Xc (Xl (Za 0)) (ZI 1)
 (Zh (Yx (Wa (Xx (ZF (ZO X7 (Zb (Za 1) (Zb (dC (.ty "int")) Zf))))) (ZF (ZO X7 (Zb (Za 1) (Zb (dC (.ty "bool")) Zf)))))
 (Zh (ZL (dC (.bl false)))
 Zq)
 Zq)
 Zq))
 (Zh (VH 2 3 (Zb (ZO dAbs (Zb (Zc Zn (Za 0) (dC (.int 0))) Zf)) (Zb (Zc Zn (Za 0) (dC (.int 1))) Zf)))
 (Zh (V3 (ZF (Zc WF (Za 3) (dC (.int 0))))
 (Zh (VH 2 3 (Zb (Za 3) (Zb (Zc ZmC (Za 2) (Za 3)) Zf)))
 Zq))
 (Zh (ZL (Wl (Zc VM (Zc Zn (Za 0) (dC (.int 1))) (dC (.int 0))) (Zc YF (Za 2) (dC (.int 1)))))
 Zq)))))
noncomputable def J8:List D->M D:=runB 4 1 ZbT
noncomputable def Zgq:Ze->M Out:=(Zh (U3 (US 1 2) (ZB (Zb (dC (.int 0)) (Zb (dC (.int 1)) Zf))))
 (Zh (Xc (ZmJ (Za 0)) (US 3 4)
 (Zh (VH 1 2 (Zb (Zc ZY (Zc YX (Za 1) (Za 4)) (Zc YX (Za 3) (Za 2))) (Zb (Zc YX (Za 2) (Za 4)) Zf)))
 Zq))
 (Zh (ZL (ZB (Zb (Za 1) (Zb (Za 2) Zf))))
 Zq)))
noncomputable def Bc:List D->M D:=runB 5 1 Zgq
noncomputable def Ze5:Ze->M Out:=(Zh (Yx (Wa (Xx (ZF (Zx Vv (Zb (Za 0) (Zb (dC (.int 2)) Zf))))) (Wa (Xx (ZF (Zx Jl (Zb (Zc Zn (Za 0) (dC (.int 0))) Zf)))) (Xx (ZF (Zx Jl (Zb (Zc Zn (Za 0) (dC (.int 1))) Zf))))))
 (Zh (ZL (dC (.bl false)))
 Zq)
 Zq)
 (Zh (ZL (Wl (Zc Uz (Zc Zn (Za 0) (dC (.int 1))) (dC (.int 1))) (Zc YF (Zx J7 (Zb (Zc Zn (Za 0) (dC (.int 0))) (Zb (Zc Zn (Za 0) (dC (.int 1))) Zf))) (dC (.int 1)))))
 Zq))
noncomputable def Ji:List D->M D:=runB 1 1 Ze5
noncomputable def Zoz:Ze->M Out:=(Zh (ZT 1 (dC (.int 0)))
 (Zh (ZT 2 (dC (.int 1)))
 (Zh (Xc (Xv (Za 0)) (ZI 3)
 (Zh (ZT 1 (Zc ZY (Zc YX (Za 1) (Zc Zn (Za 3) (dC (.int 1)))) (Zc YX (Zc Zn (Za 3) (dC (.int 0))) (Za 2))))
 (Zh (ZT 2 (Zc YX (Za 2) (Zc Zn (Za 3) (dC (.int 1)))))
 Zq)))
 (Zh (ZL (ZB (Zb (Za 1) (Zb (Za 2) Zf))))
 Zq))))
noncomputable def ZdA:List D->M D:=runB 4 1 Zoz
noncomputable def Ze6:Ze->M Out:=(Zh (Yx (Wa (Xx (ZF (ZO X7 (Zb (Za 1) (Zb (dC (.ty "tuple")) Zf))))) (ZF (Zc WF (ZO YZ (Zb (Za 1) Zf)) (Zc Zn (Za 0) (dC (.int 0))))))
 (Zh (ZL (dC (.bl false)))
 Zq)
 Zq)
 (Zh (Xc (Xl (Za 1)) (ZI 2)
 (Zh (Yx (Wa (Xx (ZF (Zx J8 (Zb (Za 2) Zf)))) (ZF (Zc Vb (Zc Zn (Za 2) (dC (.int 0))) (dC (.int 0)))))
 (Zh (ZL (dC (.bl false)))
 Zq)
 Zq)
 Zq))
 (Zh (Vo 3 (Yz Zf))
 (Zh (Xc (Yt (Zc Zn (Za 0) (dC (.int 0)))) (ZI 4)
 (Zh (Xc (Br (Zc ZY (Za 4) (dC (.int 1))) (Zc Zn (Za 0) (dC (.int 0)))) (ZI 5)
 (Zh (Yx (Xx (ZF (Zx Zah (Zb (Za 0) (Zb (Za 4) (Zb (Za 5) Zf))))))
 (Zh (Vp 3 (fun ρ=>(ZB (Zb (Za 4) (Zb (Za 5) Zf))) (Yg [3] ρ)))
 Zq)
 Zq)
 Zq))
 Zq))
 (Zh (Xc (Xv (Zx Zad (Zb (ZB (Zb (Zc Zn (Za 0) (dC (.int 0))) (Zb (ZO Ue (Zb (Za 3) Zf)) Zf))) Zf))) (ZI 6)
 (Zh (U3 (US 7 8) (Zx Bc (Zb (Yb [none,some 1] (Xl (Za 6)) (ZI 0) Yi (Zc Zn (Za 1) (Za 0))) Zf)))
 (Zh (Yx (ZF (Zc VM (Za 7) (Za 8)))
 (Zh (ZL (dC (.bl false)))
 Zq)
 Zq)
 Zq)))
 (Zh (ZL (dC (.bl true)))
 Zq))))))
noncomputable def B8:List D->M D:=runB 9 2 Ze6
noncomputable def Zi4:Ze->M Out:=(Zh (ZT 2 (Zx ZdA (Zb (Yb [none,some 0] (Xl (Za 1)) (ZI 0) Yi (Zc Zn (Za 1) (Za 0))) Zf)))
 (Zh (ZL (Zc dLe (Zc Zn (Za 2) (dC (.int 0))) (Zc Zn (Za 2) (dC (.int 1)))))
 Zq))
noncomputable def Zaz:List D->M D:=runB 3 2 Zi4
noncomputable def Ze7:Ze->M Out:=(Zh (Yx (Xx (ZF (Zx Vv (Zb (Za 1) (Zb (Zc Zn (Za 0) (dC (.int 0))) Zf)))))
 (Zh (ZL (dC (.bl false)))
 Zq)
 Zq)
 (Zh (Yx (Xx (ZF (ZO JV (Zb (Yb [none] (Xl (Za 1)) (ZI 0) Yi (Wl (Zx Ji (Zb (Za 0) Zf)) (Zc Uz (Zc Zn (Za 0) (dC (.int 0))) (dC (.int 0))))) Zf))))
 (Zh (ZL (dC (.bl false)))
 Zq)
 Zq)
 (Zh (ZL (ZO JV (Zb (Yb [none,some 1] (Xv (Zx F_full_knots (Zb (Zx V8 (Zb (Za 0) Zf)) Zf))) (ZI 0) Yi (Zx Zaz (Zb (Za 1) (Zb (Za 0) Zf)))) Zf)))
 Zq)))
noncomputable def J9:List D->M D:=runB 2 2 Ze7
end TQ
namespace HT
open SetTable (leap runEnd Probe bits)
section
variable {m:Nat}{occ:Nat->Prop}
end
section
variable {prog:xD}{w:World}{A:xE}{E:xF}{s:Shared}
end
section
variable {prog:xD}{w:World}{A:xE}{E:xF}{s:Shared}
end
end HT
namespace HT
section
variable {prog:xD}{w:World}{A:xE}{E:xF}{s:Shared}
end
open L2 TS
section
variable {prog:xD}{w:World}{A:xE}{E:xF}{s:Shared}
variable {a:Addr}{o:Obj}{es:Array (Int×Value)}{ep:Nat}{t:SetTable}
end
end HT
namespace TF
open L2 TS
section
variable {X:Cx}{G:Gh}
end
section
variable {X:Cx}{G:Gh}
end
end TF
namespace TF
open L2
section
variable {X:Cx}{G:Gh}
end
end TF
namespace TU
noncomputable def sm:Nat->(Nat->Int)->Int
 | 0,_=>0
 | n+1,f=>sm n f+f n
theorem Xs:∀{n:Nat},(∀i,i<n->f i=g i)->sm n f=sm n g
 | 0,_=>rfl
 | n+1,h=>by
  show sm n f+f n=sm n g+g n;rw[Xs λi hi=>h i (by omega),h n (by omega)]
theorem JG (f g:Nat->Int):∀n:Nat,sm n (λi=>f i+g i)=sm n f+sm n g
 | 0=>rfl
 | n+1=>by
  show sm n (λi=>f i+g i)+(f n+g n)=(sm n f+f n)+(sm n g+g n);rw[JG f g n];omega
theorem JH (a:Int)(f:Nat->Int):∀n:Nat,sm n (λi=>a*f i)=a*sm n f
 | 0=>by simp[sm]
 | n+1=>by
  show sm n (λi=>a*f i)+a*f n=a*(sm n f+f n);rw[JH a f n,qbT]
theorem ZoA (a:Int)(f:Nat->Int)(n:Nat):sm n (λi=>f i*a)=sm n f*a:=by
 rw[yq,<-JH];exact Xs λi _=>yq ..
theorem VB (h:∀i,i<n->f i=0):sm n f=0:=by
 induction n with
 | zero=>rfl
 | succ n ih=>
  show sm n f+f n=0;rw[ih λi hi=>h i (by omega),h n (by omega)];rfl
theorem VC (hk:k<n)(h:∀i,i<n->i≠k->f i=0):sm n f=f k:=by
 induction n with
 | zero=>omega
 | succ n ih=>
  show sm n f+f n=f k;by_cases e:k=n
  ·subst e
   rw[VB λi hi=>h i (by omega) (by omega)];omega
  ·grind
theorem ZmL (hk:k<n)(hl:l<n)(hkl:k≠l)(h:∀i,i<n->i≠k->i≠l->f i=0):sm n f=f k+f l:=by
 have e:sm n f=sm n (λi=>(if i=k then f k else 0)+(if i=l then f l else 0)):=Xs λi hi=>by
  by_cases a:i=k
  ·simp_all
  ·by_cases b:i=l
   ·simp_all
   ·simp[a,b,h i hi a b]
 rw[e,JG,VC hk λi _ hne=>by simp[hne],VC hl λi _ hne=>by simp[hne]];simp
theorem ZjU (h:∀i,i<n->f i<=g i):sm n f<=sm n g:=by
 induction n with
 | zero=>exact qct _
 | succ n ih=>exact Int.add_le_add (ih λi hi=>h i (by omega)) (h n (by omega))
theorem Zpa (h:∀i,i<n->0<=f i):0<=sm n f:=by
 have:=ZjU h
 rwa[VB λ_ _=>rfl]at this
theorem ZjV (f:Nat->Nat->Int)(m:Nat):∀n:Nat,sm n (λi=>sm m λj=>f i j)=sm m λj=>sm n λi=>f i j
 | 0=>(VB λ_ _=>rfl).symm
 | n+1=>by
  show sm n (λi=>sm m λj=>f i j)+sm m (λj=>f n j)=sm m λj=>sm n (λi=>f i j)+f n j;rw[ZjV f m n,<-JG]
noncomputable abbrev Jc:=Nat->Int
noncomputable abbrev YL:=Nat->Jc
noncomputable def up (c:YL)(i:Nat)(v:Jc):YL:=λj=>if j=i then v else c j
theorem WV (c:YL)(i:Nat)(v:Jc):up c i v i=v:=by simp[up]
theorem Wi (h:j≠i):up c i v j=c j:=by simp[up,h]
theorem UK (c:YL)(i:Nat):up c i (c i)=c:=by
 funext j;unfold up;simp_all
theorem Zq2 (c:YL)(i:Nat)(v w:Jc):up (up c i v) i w=up c i w:=by
 unfold up;simp_all
theorem Vj (h:i≠j):up (up c i v) j w=up (up c j w) i v:=by
 funext k;unfold up
 grind
noncomputable def Xn (i:Nat)(c:YL):YL:=λj=>if j<i then c j else c (j+1)
theorem Zcn (c:YL)(i:Nat)(v:Jc):Xn i (up c i v)=Xn i c:=by
 funext j;unfold Xn up;by_cases h:j<i
 ·simp[h];omega
 ·simp[h];omega
theorem ZaA (h:i<k):Xn k (up c i v)=up (Xn k c) i v:=by
 funext j;unfold Xn up
 grind
theorem ZaB (h:k<i):Xn k (up c i v)=up (Xn k c) (i-1) v:=by
 funext j;unfold Xn up
 grind
noncomputable def sg (i:Nat):Int:=if i % 2=0 then 1 else -1
theorem ZoB (i:Nat):sg (i+1) = - sg i:=by
 unfold sg;by_cases h:i % 2=0
 ·have:(i+1) % 2≠0:=by omega
  simp[*]
 ·grind
noncomputable def Yp:Nat->Nat->YL->Int
 | 0,_,_=>1
 | n+1,r,c=>sm (n+1) λi=>sg i*c i r*Yp n (r+1) (Xn i c)
theorem Jz (c:YL)(v w:Jc)(hi:i<n):Yp n r (up c i λx=>v x+w x)=Yp n r (up c i v)+Yp n r (up c i w):=by
 induction n generalizing r i c with
 | zero=>omega
 | succ n ih=>
  unfold Yp;rw[<-JG];refine Xs λk hk=>?_;by_cases e:k=i
  ·subst e
   simp only[WV,Zcn,qbT,Int.add_mul]
  ·rw[Wi e,Wi e,Wi e]
   by_cases l:i<k
   ·rw[ZaA l,ZaA l,ZaA l,ih _ (by omega),qbT]
   ·have g:k<i:=by omega
    rw[ZaB g,ZaB g,ZaB g,ih _ (by omega),qbT]
theorem ZdB (c:YL)(a:Int)(v:Jc)(hi:i<n):Yp n r (up c i λx=>a*v x)=a*Yp n r (up c i v):=by
 induction n generalizing r i c with
 | zero=>omega
 | succ n ih=>
  unfold Yp;rw[<-JH];refine Xs λk hk=>?_;by_cases e:k=i
  ·subst e
   simp only[WV,Zcn]
   grind
  ·rw[Wi e,Wi e]
   by_cases l:i<k
   ·rw[ZaA l,ZaA l,ih _ (by omega),<-yD,<-yD,yq _ a]
   ·have g:k<i:=by omega
    rw[ZaB g,ZaB g,ih _ (by omega),<-yD,<-yD,yq _ a]
theorem Zgr (hi:i+1<n)(h:c i=c (i+1)):Yp n r c=0:=by
 induction n generalizing r i c with
 | zero=>omega
 | succ n ih=>
  unfold Yp;rw[ZmL (k:=i) (by omega) hi (by omega)]
  ·have e:Xn i c=Xn (i+1) c:=by
    funext j;unfold Xn
    grind
   rw[e,ZoB,h,qbU,qbU];omega
  ·intro k hk h1 h2
   have z:Yp n (r+1) (Xn k c)=0:=by
    by_cases l:k<i
    ·refine ih (i:=i-1) (by omega) ?_
     unfold Xn
     grind
    ·refine ih (i:=i) (by omega) ?_
     unfold Xn
     grind
   simp_all
theorem Zgs (hi:i+1<n):Yp n r (up (up c i v) (i+1) w) = - Yp n r (up (up c i w) (i+1) v):=by
 have z:Yp n r (up (up c i λx=>v x+w x) (i+1) λx=>v x+w x)=0:=Zgr hi (by rw[Wi (by omega),WV,WV]);have z1:∀u,Yp n r (up (up c i u) (i+1) u)=0:=λu=>Zgr hi (by rw[Wi (by omega),WV,WV]);rw[Jz _ _ _ hi,Vj (by omega),Jz _ _ _ (by omega),Vj (i:=i) (by omega),Jz _ _ _ (by omega)]at z;have e1:up (up c (i+1) v) i v=up (up c i v) (i+1) v:=Vj (by omega);have e2:up (up c (i+1) v) i w=up (up c i w) (i+1) v:=Vj (by omega);have e3:up (up c (i+1) w) i v=up (up c i v) (i+1) w:=Vj (by omega);have e4:up (up c (i+1) w) i w=up (up c i w) (i+1) w:=Vj (by omega)
 grind
theorem Zi5:∀(d i:Nat) {c:YL},i+d+1<n->c i=c (i+d+1)->Yp n r c=0
 | 0,i,c,hn,h=>Zgr hn h
 | d+1,i,c,hn,h=>by
  have e:c=up (up c (i+d+1) (c (i+d+1))) (i+d+1+1) (c (i+d+1+1)):=by rw[UK,UK]
  rw[e,Zgs (by omega)];have:=Zi5 (n:=n) (r:=r) d i (c:=up (up c (i+d+1) (c (i+d+1+1))) (i+d+1+1) (c (i+d+1))) (by omega) (by
   rw[Wi (by omega),Wi (by omega),Wi (by omega),WV,h];rfl)
  rw[this];rfl
theorem Zbc (hi:i<n)(hj:j<n)(hij:i≠j)(h:c i=c j):Yp n r c=0:=by
 rcases Nat.lt_or_gt_of_ne hij with l | g
 ·obtain⟨d,rfl⟩:∃d,j=i+d+1:=⟨j-i-1,by omega⟩
  exact Zi5 d i hj h
 ·obtain⟨d,rfl⟩:∃d,i=j+d+1:=⟨i-j-1,by omega⟩
  exact Zi5 d j hi h.symm
theorem ZmM (hi:i<n)(hj:j<n)(hij:i≠j):Yp n r (up (up c i v) j w) = - Yp n r (up (up c i w) j v):=by
 have z1:∀u,Yp n r (up (up c i u) j u)=0:=λu=>Zbc hi hj hij (by rw[Wi hij,WV,WV]);have z:=z1 λx=>v x+w x;rw[Jz _ _ _ hj,Vj hij,Jz _ _ _ hi,Vj hij,Jz _ _ _ hi]at z;rw[Vj (qJ hij),Vj (qJ hij),Vj (qJ hij),Vj (qJ hij),z1,z1]at z;omega
theorem Zco (c:YL)(f:Nat->Int)(b:YL)(hi:i<n):∀m:Nat,Yp n r (up c i λx=>sm m λk=>f k*b k x)=sm m λk=>f k*Yp n r (up c i (b k))
 | 0=>by
  show Yp n r (up c i λx=>0)=0;have:=ZdB (r:=r) c 0 (λ_=>0) hi;simpa using this
 | m+1=>by
  show Yp n r (up c i λx=>sm m (λk=>f k*b k x)+f m*b m x)=sm m (λk=>f k*Yp n r (up c i (b k)))+f m*Yp n r (up c i (b m));rw[Jz _ _ _ hi,ZdB _ _ _ hi,Zco c f b hi m]
theorem Zeu:∀(n r:Nat) {c:YL},(∀i x,i<n->c i (r+x)=if x=i then 1 else 0)->Yp n r c=1
 | 0,_,_,_=>rfl
 | n+1,r,c,h=>by
  unfold Yp;rw[VC (k:=0) (by omega)]
  ·have h0:=h 0 0 (by omega)
   rw[Nat.add_zero,if_pos rfl]at h0;rw[h0,Zeu n (r+1) λi x hi=>?_]
   ·rfl
   ·show(if i<0 then c i else c (i+1)) (r+1+x)=_
    rw[if_neg (by omega),show r+1+x=r+(x+1) by omega,h (i+1) (x+1) (by omega)];simp
  ·intro i hi hne
   have:=h i 0 hi;rw[if_neg (qJ hne)]at this;simp_all
noncomputable def un (i:Nat):Jc:=λx=>if x=i then 1 else 0
noncomputable def Bs (a:YL)(m:Nat)(h:Nat->Nat):YL:=λk=>if k=m then un m else a (h k)
noncomputable def dl (a:YL)(m:Nat)(h:Nat->Nat):Int:=Yp (m+1) 0 (Bs a m h)
noncomputable def Rw (a:YL)(m:Nat)(h:Nat->Nat)(k j:Nat):Int:=Yp (m+1) 0 (up (Bs a m h) k (a j))
noncomputable def hp (h:Nat->Nat)(r c:Nat):Nat->Nat:=λk=>if k=r then c else h k
structure Good (a:YL)(m:Nat)(h:Nat->Nat):Prop where
 nz:dl a m h≠0
 co:∀j x,dl a m h*a j x=sm (m+1) λk=>Rw a m h k j*Bs a m h k x
section
variable {a:YL}{m:Nat}{h:Nat->Nat}{r c:Nat}
theorem UW (hk:k<m):Bs a m h k=a (h k):=by unfold Bs;grind
theorem JZ:Bs a m h m=un m:=by unfold Bs;simp
theorem ZjW (hr:r<m):Bs a m (hp h r c)=up (Bs a m h) r (a c):=by
 funext k;unfold Bs up hp
 grind
theorem ZhK (hr:r<m):dl a m (hp h r c)=Rw a m h r c:=by unfold dl Rw;rw[ZjW hr]
theorem ZdC (hr:r<m)(j:Nat):Rw a m (hp h r c) r j=Rw a m h r j:=by unfold Rw;rw[ZjW hr,Zq2]
theorem ZhL (g:Good a m h)(hr:r<m)(hk:k<=m)(hkr:k≠r)(j:Nat):dl a m h*Rw a m (hp h r c) k j=Rw a m h k j*Rw a m h r c-Rw a m h k c*Rw a m h r j:=by
 have e0:dl a m h*Rw a m (hp h r c) k j=Yp (m+1) 0 (up (up (Bs a m h) r (a c)) k λx=>sm (m+1) λi=>Rw a m h i j*Bs a m h i x):=by
  unfold Rw;rw[ZjW hr,<-ZdB _ _ _ (by omega)];congr 2;funext x;exact g.co j x
 rw[e0,Zco _ _ _ (by omega),ZmL (by omega) (by omega) hkr]
 ·have e1:=by
   have:=UK (up (Bs a m h) r (a c)) k
   rwa[Wi hkr]at this
  have e2:Yp (m+1) 0 (up (up (Bs a m h) r (a c)) k (Bs a m h r)) = - Rw a m h k c:=by
   rw[ZmM (by omega) (by omega) (qJ hkr),UK];rfl
  rw[e1,e2];show Rw a m h k j*Rw a m h r c+Rw a m h r j * - Rw a m h k c=_
  grind
 ·intro i hi h1 h2
  rw[Zbc hi (by omega) h1,yt];rw[Wi h1,Wi h2,WV]
theorem Good.pivot (g:Good a m h)(hr:r<m)(hc:Rw a m h r c≠0):Good a m (hp h r c):=by
 refine⟨by rw[ZhK hr];exact hc,λj x=>?_⟩;rw[ZhK hr];refine Int.eq_of_mul_eq_mul_left g.nz ?_;have sc:=g.co c x;have sj:=g.co j x;have e:∀k,k<m+1->dl a m h*(Rw a m (hp h r c) k j*Bs a m (hp h r c) k x)=(Rw a m h r c*(Rw a m h k j*Bs a m h k x)+(- Rw a m h r j)*(Rw a m h k c*Bs a m h k x))+(if k=r then Rw a m h r j*(dl a m h*a c x)else 0):=λk hk=>by
  rw[ZjW hr];by_cases e:k=r
  ·subst e
   rw[WV,ZdC hr]
   grind
  ·rw[Wi e,if_neg e,<-yD,ZhL g hr (by omega) e]
   grind
 rw[<-JH,Xs e,JG,JG,JH,JH,<-sc,<-sj,VC (k:=r) (by omega) λi _ hne=>by simp[hne]];rw[if_pos rfl,qbU,Int.neg_add_cancel_right];exact Int.mul_left_comm ..
theorem ZhM (g:Good a m h)(hk:k<=m)(hl:l<m):Rw a m h k (h l)=if k=l then dl a m h else 0:=by
 unfold Rw dl;rw[<-UW (a:=a) hl];by_cases e:k=l
 ·subst e;rw[UK,if_pos rfl]
 ·rw[if_neg e]
  exact Zbc (by omega) (by omega) e (by rw[WV,Wi (qJ e)])
theorem Good.inj (g:Good a m h)(hk:k<m)(hl:l<m)(e:h k=h l):k=l:=by
 refine qR λne=>g.nz ?_;exact Zbc (by omega) (by omega) ne (by rw[UW hk,UW hl,e])
theorem Good.func (g:Good a m h)(h2:Nat->Nat)(s:Nat):dl a m h*Rw a m h2 m s=sm m (λk=>Rw a m h k s*Rw a m h2 m (h k))+Rw a m h m s*dl a m h2:=by
 have e0:dl a m h*Rw a m h2 m s=Yp (m+1) 0 (up (Bs a m h2) m λx=>sm (m+1) λi=>Rw a m h i s*Bs a m h i x):=by
  unfold Rw;rw[<-ZdB _ _ _ (by omega)];congr 2;funext x;exact g.co s x
 rw[e0,Zco _ _ _ (by omega)];show sm m _+_=_;congr 1
 ·exact Xs λk hk=>by rw[UW hk];rfl
 ·show Rw a m h m s*Yp (m+1) 0 (up (Bs a m h2) m (Bs a m h m))=_
  rw[JZ];have:=by
   have:=UK (Bs a m h2) m
   rwa[JZ]at this
  rw[this];rfl
end
theorem Zql (hk:k<=m)(hv:∀x,m<x->v x=0):Yp (m+1) 0 (up un k v)=v k:=by
 have e:v=λx=>sm (m+1) λi=>v i*un i x:=by
  funext x;by_cases hx:x<=m
  ·rw[VC (k:=x) (by omega) λi _ hne=>by unfold un;rw[if_neg (qJ hne),yt]]
   unfold un;simp
  ·rw[hv x (by omega),VB]
   unfold un;grind
 have u:Yp (m+1) 0 un=1:=Zeu (m+1) 0 λi x _=>by unfold un;simp
 rw[e,Zco _ _ _ (by omega),VC (k:=k) (by omega)]
 ·rw[UK,u]
  grind
 ·intro i hi hne
  rw[Zbc hi (by omega) hne (by rw[Wi hne,WV]),yt]
theorem Zi6 (hz:∀j x,m<x->a j x=0)(hu:∀k,k<m->a (h k)=un k):Good a m h/\dl a m h=1/\∀k j,k<=m->Rw a m h k j=a j k:=by
 have eB:∀k,k<m+1->Bs a m h k=un k:=λk hk=>by
  by_cases e:k=m
  ·subst e;exact JZ
  ·rw[UW (by omega),hu k (by omega)]
 -- beyond m the columns do not count
 have cg:∀(n r:Nat) (c d:YL),(∀i,i<n->c i=d i)->Yp n r c=Yp n r d:=by
  intro n
  induction n with
  | zero=>intros;rfl
  | succ n ih=>
   intro r c d hcd;unfold Yp;refine Xs λi hi=>?_;rw[hcd i hi,ih (r+1) (Xn i c) (Xn i d) λj hj=>?_];unfold Xn;split
   ·exact hcd j (by omega)
   ·exact hcd (j+1) (by omega)
 have e1:dl a m h=1:=by
  unfold dl;rw[cg _ _ _ un eB];exact Zeu (m+1) 0 λi x _=>by unfold un;simp
 have e2:∀k j,k<=m->Rw a m h k j=a j k:=λk j hk=>by
  unfold Rw;rw[cg _ _ _ (up un k (a j)) λi hi=>?_]
  ·exact Zql hk (hz j)
  ·unfold up
   simp_all
 refine⟨⟨by simp_all,λj x=>?_⟩,e1,e2⟩;rw[e1,Int.one_mul];by_cases hx:x<=m
 ·rw[VC (k:=x) (by omega)]
  ·rw[e2 x j hx,eB x (by omega)];unfold un;simp
  ·intro i hi hne
   rw[eB i hi];unfold un;rw[if_neg (qJ hne),yt]
 ·rw[hz j x (by omega),VB]
  intro i hi;rw[eB i hi];unfold un;grind
structure Feas (a:YL)(m N:Nat)(h:Nat->Nat):Prop where
 good:Good a m h
 pos:0<dl a m h
 nn:∀k,k<m->0<=Rw a m h k N
 lt:∀k,k<m->h k<N
structure Gain (a:YL)(m N:Nat)(h:Nat->Nat)(c:Nat):Prop where
 lt:c<N
 neg:Rw a m h m c<0
 fst:∀j,j<c->0<=Rw a m h m j
structure Tight (a:YL)(m N:Nat)(h:Nat->Nat)(c r:Nat):Prop where
 lt:r<m
 pos:0<Rw a m h r c
 le:∀k,k<m->0<Rw a m h k c->Rw a m h r N*Rw a m h k c<Rw a m h k N*Rw a m h r c∨(Rw a m h r N*Rw a m h k c=Rw a m h k N*Rw a m h r c/\h r<=h k)
section
variable {a:YL}{m N:Nat}{h:Nat->Nat}{c r:Nat}
theorem Ze8 {x:Int}(hx:0<x)(h:0<=x*y):0<=y:=by
 refine qR λz=>?_;have:=qbi hx (show y<0 by omega);omega
theorem Feas.step (f:Feas a m N h)(g:Gain a m N h c)(t:Tight a m N h c r):Feas a m N (hp h r c):=by
 have e:=ZhK (a:=a) (h:=h) (c:=c) t.lt;refine⟨f.good.pivot t.lt (by have:=t.pos;omega),by rw[e];exact t.pos,λk hk=>?_,λk hk=>?_⟩
 ·by_cases ek:k=r
  ·subst ek;rw[ZdC hk];exact f.nn k hk
  ·refine Ze8 f.pos ?_
   rw[ZhL f.good t.lt (by omega) ek];have h1:=f.nn k hk;have h2:=f.nn r t.lt;have h3:=t.pos;by_cases q:0<Rw a m h k c
   ·have:=t.le k hk q
    grind
   ·have z1:=z0 h1 (zK h3)
    have z2:=z0 (show 0<=- Rw a m h k c by omega) h2
    grind
 ·unfold hp
  split
  ·exact g.lt
  ·exact f.lt k hk
theorem Gain.out (f:Feas a m N h)(g:Gain a m N h c)(hk:k<m):h k≠c:=λe=>by
 have:=ZhM f.good (qk m) hk;rw[e,if_neg (by omega)]at this;have:=g.neg;omega
theorem Gain.uniq (g:Gain a m N h c)(g':Gain a m N h c'):c=c':=by
 rcases qau c c' with l | e | l
 ·have:=g'.fst c l;have:=g.neg;omega
 ·exact e
 ·have:=g.fst c' l;have:=g'.neg;omega
theorem Tight.uniq (f:Feas a m N h)(t:Tight a m N h c r)(t':Tight a m N h c r'):r=r':=by
 have h1:=t.le r' t'.lt t'.pos;have h2:=t'.le r t.lt t.pos;refine f.good.inj t.lt t'.lt ?_;rcases h1 with a1 | ⟨a1,b1⟩
 ·grind
 ·grind
theorem Zev (f:Feas a m N h)(g:Gain a m N h c)(t:Tight a m N h c r) :
  dl a m h*Rw a m (hp h r c) m N=Rw a m h m N*dl a m (hp h r c)-Rw a m h m c*Rw a m h r N:=by
 rw[ZhL f.good t.lt (qk m) (by have:=t.lt;omega),ZhK t.lt]
end
theorem ZmN:∀(B:Nat) (g:Nat->Nat),(∀t,t<=B->g t<B)->∃i j,i<j/\j<=B/\g i=g j
 | 0,g,h=>absurd (h 0 (qk 0)) (by omega)
 | B+1,g,h=>by
  by_cases q:∃t,t<=B/\g t=g (B+1)
  ·obtain⟨t,ht,e⟩:=q
   exact⟨t,B+1,by omega,qk _,e⟩
  ·obtain⟨i,j,hij,hj,e⟩:=ZmN B (λt=>if g t=B then g (B+1)else g t) λt ht=>by
    grind
   refine⟨i,j,hij,by omega,?_⟩
   grind
noncomputable def Vm (N:Nat):Nat->(Nat->Nat)->Nat
 | 0,_=>0
 | m+1,u=>u m+N*Vm N m u
theorem ZjX:∀{m:Nat} {u:Nat->Nat},(∀k,k<m->u k<N)->Vm N m u<N ^ m
 | 0,_,_=>by show 0<N ^ 0;simp
 | m+1,u,h=>by
  have:=ZjX (m:=m) λk hk=>h k (by omega);have h2:=h m (by omega);rw[Nat.pow_succ,qbn (N ^ m) N]
  calc u m+N*Vm N m u<N+N*Vm N m u:=by omega
   _=N*(Vm N m u+1):=by grind
   _<=N*N ^ m:=yz N this
theorem ZhN:∀{m:Nat} {u v:Nat->Nat},(∀k,k<m->u k<N)->(∀k,k<m->v k<N)->Vm N m u=Vm N m v->∀k,k<m->u k=v k
 | 0,_,_,_,_,_=>λk hk=>by omega
 | m+1,u,v,hu,hv,e=>by
  have e:u m+N*Vm N m u=v m+N*Vm N m v:=e;have h1:=hu m (by omega);have h2:=hv m (by omega);have e1:=by
   have:=congrArg (· % N) e;simpa[Nat.mod_eq_of_lt h1,Nat.mod_eq_of_lt h2]using this
  have e2:Vm N m u=Vm N m v:=by
   rw[e1]at e;exact Nat.eq_of_mul_eq_mul_left (show 0<N by omega) (by omega)
  intro k hk;by_cases q:k=m
  ·grind
  ·exact ZhN (λk hk=>hu k (by omega)) (λk hk=>hv k (by omega)) e2 k (by omega)
theorem ZmO (c:Nat->Nat):∀N:Nat,(∀t,c t<N)->∃T,∀t,c t<=c T
 | 0,h=>absurd (h 0) (by omega)
 | N+1,h=>by
  by_cases q:∃T,c T=N
  ·obtain⟨T,e⟩:=q
   exact⟨T,λt=>by grind⟩
  ·refine ZmO c N λt=>?_
   grind
structure Run (a:YL)(m N:Nat)(H:Nat->Nat->Nat)(c r:Nat->Nat):Prop where
 feas:∀t,Feas a m N (H t)
 gain:∀t,Gain a m N (H t) (c t)
 tight:∀t,Tight a m N (H t) (c t) (r t)
 next:∀t,H (t+1)=hp (H t) (r t) (c t)
section
variable {a:YL}{m N:Nat}{H:Nat->Nat->Nat}{c r:Nat->Nat}
theorem Run.shift (R:Run a m N H c r)(i:Nat):Run a m N (λt=>H (i+t)) (λt=>c (i+t)) (λt=>r (i+t)):=
 ⟨λt=>R.feas _,λt=>R.gain _,λt=>R.tight _,λt=>R.next (i+t)⟩
theorem Run.same (R:Run a m N H c r)(e:H i=H j):H (i+1)=H (j+1):=by
 have g:=R.gain i;have t:=R.tight i;rw[e]at g t;have ec:=g.uniq (R.gain j);rw[ec]at t;have er:=t.uniq (R.feas j) (R.tight j);rw[R.next,R.next,e,ec,er]
theorem Run.chain (R:Run a m N H c r)(s:Nat):∀d,Rw a m (H s) m N*dl a m (H (s+d))<=Rw a m (H (s+d)) m N*dl a m (H s)
 | 0=>qct _
 | d+1=>by
  have ih:=R.chain s d;have w:=Zev (R.feas (s+d)) (R.gain (s+d)) (R.tight (s+d));rw[<-R.next]at w;have p0:=(R.feas s).pos;have p1:=(R.feas (s+d)).pos;have p2:=(R.feas (s+d+1)).pos;have n1:=(R.gain (s+d)).neg;have n2:=(R.feas (s+d)).nn _ (R.tight (s+d)).lt;have z:=z0 (show 0<=- Rw a m (H (s+d)) m (c (s+d)) by omega) n2;rw[qbU]at z;refine yU ?_ p1;generalize dl a m (H s)=A at *;generalize dl a m (H (s+d))=B at *;generalize dl a m (H (s+d+1))=C at *;generalize Rw a m (H s) m N=x at *;generalize Rw a m (H (s+d)) m N=y at *;generalize Rw a m (H (s+d+1)) m N=u at *;have h1:=by
   have:=qZ ih (zK p2)
   calc x*C*B=x*B*C:=by grind
    _<=y*A*C:=this
    _=y*C*A:=by grind
  have h2:y*C*A<=B*u*A:=by
   refine qZ ?_ (zK p0);omega
  calc x*C*B<=y*C*A:=h1
   _<=B*u*A:=h2
   _=u*A*B:=by rw[yD,yq B]
theorem Run.flat (R:Run a m N H c r)(hp0:0<p)(per:∀t,H (t+p)=H t)(u:Nat):Rw a m (H u) (r u) N=0:=by
 have n2:=(R.feas u).nn _ (R.tight u).lt;refine qR λne=>?_;have n3:0<Rw a m (H u) (r u) N:=by omega
 have w:=Zev (R.feas u) (R.gain u) (R.tight u);rw[<-R.next]at w;have z:=qbj (R.gain u).neg n3;obtain⟨d,rfl⟩:∃d,p=d+1:=⟨p-1,by omega⟩;have ch:=R.chain (u+1) d;rw[show u+1+d=u+(d+1) by omega,per u]at ch;rw[yq]at w;omega
theorem Run.zero (R:Run a m N H c r)(hp0:0<p)(per:∀t,H (t+p)=H t)(h0:∀k,k<m->H T k≠j):∀d k,k<m->H (T+d) k=j->Rw a m (H (T+d)) k N=0
 | 0,k,hk,e=>absurd e (h0 k hk)
 | d+1,k,hk,e=>by
  have ih:=R.zero hp0 per h0 d;have fl:=R.flat hp0 per (T+d);have e:H (T+d+1) k=j:=e;show Rw a m (H (T+d+1)) k N=0;rw[R.next]at e⊢;by_cases ek:k=r (T+d)
  ·subst ek
   rw[ZdC (R.tight _).lt,fl]
  ·have e2:H (T+d) k=j:=by
    unfold hp at e
    rwa[if_neg ek]at e
   have i0:=ih k hk e2;have:=ZhL (c:=c (T+d)) (R.feas (T+d)).good (R.tight (T+d)).lt (y8 hk) ek N;rw[i0,fl,Int.zero_mul,yt]at this;rcases Int.mul_eq_zero.mp this with z | z
   ·exact absurd z (R.feas _).good.nz
   ·exact z
theorem Run.enters (R:Run a m N H c r)(h0:∀k,k<m->H T k≠j):∀d k,k<m->H (T+d) k=j->∃t,c t=j
 | 0,k,hk,e=>absurd e (h0 k hk)
 | d+1,k,hk,e=>by
  have e:H (T+d+1) k=j:=e;rw[R.next]at e;unfold hp at e;split at e
  ·exact⟨_,e⟩
  ·exact R.enters h0 d k hk e
theorem Run.leaves (R:Run a m N H c r):∀d,(∃k,k<m/\H T k=j)->(∀k,k<m->H (T+d) k≠j)->∃D,T<=D/\H D (r D)=j
 | 0,⟨k,hk,e⟩,h=>absurd e (h k hk)
 | d+1,⟨k,hk,e⟩,h=>by
  by_cases q:H T (r T)=j
  ·exact⟨T,qk _,q⟩
  ·have:H (T+1) k=j:=by
    rw[R.next];unfold hp;split
    ·simp_all
    ·exact e
   obtain⟨D,h1,h2⟩:=R.leaves d ⟨k,hk,this⟩ (by grind)
   grind
theorem Run.no_round (R:Run a m N H c r)(hp0:0<p)(per:∀t,H (t+p)=H t):False:=by
 obtain⟨T,hT⟩:=ZmO c N λt=>(R.gain t).lt;have outT:∀k,k<m->H T k≠c T:=λk hk=>(R.gain T).out (R.feas T) hk;have XJ:H (T+1) (r T)=c T:=by rw[R.next];unfold hp;rw[if_pos rfl]
 obtain⟨D,hD,eD⟩:=R.leaves (T:=T+1) (p-1) ⟨r T,(R.tight T).lt,XJ⟩ (by rw[show T+1+(p-1)=T+p by omega,per];exact outT);have hs:c D<c T:=by
  have h1:=hT D;have h2:=(R.gain D).out (R.feas D) (R.tight D).lt;rw[eD]at h2;omega
 have fn:=(R.feas D).good.func (H T) (c D);have l1:=z0 (zK (R.feas D).pos) ((R.gain T).fst (c D) hs);have l2:=qbj (R.gain D).neg (R.feas T).pos;have l3:sm m (λk=>Rw a m (H D) k (c D)*Rw a m (H T) m (H D k))<=0:=by
  have z:=ZjU (n:=m) (f:=λk=>Rw a m (H D) k (c D)*Rw a m (H T) m (H D k)) (g:=λ_=>0) λk hk=>?_
  ·rwa[VB (f:=λ_=>0) λ_ _=>rfl]at z
  ·by_cases q:∃l,l<m/\H T l=H D k
   ·obtain⟨l,hl,e⟩:=q
    have:=ZhM (R.feas T).good (k:=m) (qk m) hl;rw[e,if_neg (by omega)]at this;simp[this]
   ·have h0:=λl hl e=>q ⟨l,hl,e⟩
    obtain⟨d,rfl⟩:∃d,D=T+d:=⟨D-T,by omega⟩;obtain⟨t,et⟩:=R.enters h0 d k hk rfl;have hle:=hT t;rw[et]at hle;by_cases e:H (T+d) k=c T
    ·have ek:=(R.feas _).good.inj hk (R.tight _).lt (by rw[e,eD])
     rw[e,ek];have:=qbi (R.tight (T+d)).pos (R.gain T).neg;omega
    ·have hlt:H (T+d) k<c T:=by omega
     have p1:=(R.gain T).fst _ hlt;have p2:Rw a m (H (T+d)) k (c (T+d))<=0:=by
      refine qR λne=>?_;have b0:=R.zero hp0 per h0 d k hk rfl;have b1:=R.flat hp0 per (T+d);rcases (R.tight (T+d)).le k hk (by omega)with z | ⟨_,z⟩
      ·simp_all
      ·omega
     have:=z0 (show 0<=- Rw a m (H (T+d)) k (c (T+d)) by omega) p1
     grind
 omega
theorem Run.beyond (R:Run a m N H c r)(hk:m<=k):∀t,H t k=H 0 k
 | 0=>rfl
 | t+1=>by
  rw[R.next];unfold hp;rw[if_neg (by have:=(R.tight t).lt;omega)];exact R.beyond hk t
theorem Run.none (R:Run a m N H c r):False:=by
 obtain⟨i,j,hij,_,e⟩:=ZmN (N ^ m) (λt=>Vm N m (H t)) λt _=>ZjX (R.feas t).lt;have e0:=by
  funext k;by_cases hk:k<m
  ·exact ZhN (R.feas i).lt (R.feas j).lt e k hk
  ·rw[R.beyond (by omega) i,R.beyond (by omega) j]
 have sm:∀t,H (i+t)=H (j+t):=λt=>by
  induction t with
  | zero=>exact e0
  | succ t ih=>exact R.same ih
 exact(R.shift i).no_round (p:=j-i) (by omega) λt=>by
  grind
end
noncomputable def cl (A:Nat->Nat->Bool)(n m:Nat):YL:=λj x=>
 if j<n then (if x<m then (if A x j then 1 else 0)else if x=m then -1 else 0)
 else if j<n+m then un (j-n) x
 else if j=n+m then (if x<m then 1 else 0)else 0
noncomputable def wt (A:Nat->Nat->Bool)(n m:Nat)(h:Nat->Nat)(j:Nat):Int:=sm m λk=>if h k=j then Rw (cl A n m) m h k (n+m)else 0
section
variable {A:Nat->Nat->Bool}{n m:Nat}
theorem Zew (hj:j<n)(hx:x<m):cl A n m j x=if A x j then 1 else 0:=by unfold cl;simp_all
theorem Zex (hj:j<n):cl A n m j m = -1:=by unfold cl;simp[hj]
theorem ZdD (hi:i<m):cl A n m (n+i)=un i:=by
 funext x;unfold cl
 grind
theorem ZdE (x:Nat):cl A n m (n+m) x=if x<m then 1 else 0:=by
 unfold cl
 grind
theorem ZjY (hx:x<m):0<=cl A n m j x:=by
 unfold cl un
 repeat' split
 all_goals omega
theorem ZmP (j x:Nat)(hx:m<x):cl A n m j x=0:=by
 unfold cl un
 grind
theorem ZhO:Good (cl A n m) m (n + ·)/\dl (cl A n m) m (n + ·)=1/\∀k j,k<=m->Rw (cl A n m) m (n + ·) k j=cl A n m j k:=Zi6 ZmP λk hk=>ZdD hk
theorem Zi7:Feas (cl A n m) m (n+m) (n + ·):=by
 obtain⟨g,e1,e2⟩:=ZhO;refine⟨g,by simp_all,λk hk=>?_,λk hk=>by omega⟩;rw[e2 k _ (by omega)];exact ZjY hk
theorem Zpb (hx:x<m):un m x=0:=by unfold un;grind
theorem ZoC (cov:∀j,j<n->∃x,x<m/\A x j=true)(f:Feas (cl A n m) m (n+m) h)(hc:c<n+m):∃k,k<m/\0<Rw (cl A n m) m h k c:=by
 refine qR λno=>?_;have le:∀k,k<m->Rw (cl A n m) m h k c<=0:=λk hk=>by
  simp_all
 have key:∀x,x<m->cl A n m c x=0:=λx hx=>by
  have co:=f.good.co c x;have e:=by
   have z:=ZjU (n:=m+1) (f:=λk=>Rw (cl A n m) m h k c*Bs (cl A n m) m h k x) (g:=λ_=>0) λk hk=>?_
   ·rwa[VB λ_ _=>rfl]at z
   ·by_cases e:k=m
    ·subst e;rw[JZ,Zpb hx];simp
    ·rw[UW (by omega)]
     have:=z0 (show 0<=- Rw (cl A n m) m h k c by have:=le k (by omega);omega) (ZjY (A:=A) (n:=n) (j:=h k) hx)
     grind
  have h1:=ZjY (A:=A) (n:=n) (j:=c) hx;have h2:=f.pos;refine qR λne=>?_;have:=qaW h2 (show 0<cl A n m c x by omega);omega
 by_cases hn:c<n
 ·obtain⟨x,hx,ha⟩:=cov c hn
  have:=key x hx;rw[Zew hn hx,ha]at this;simp at this
 ·obtain⟨i,rfl⟩:∃i,c=n+i:=⟨c-n,by omega⟩
  have:=key i (by omega);rw[ZdD (by omega)]at this;unfold un at this;simp at this
theorem ZhP (h:Nat->Nat)(j:Nat):Rw (cl A n m) m h m j=sm m (λi=>cl A n m j i*Rw (cl A n m) m h m (n+i))+cl A n m j m*dl (cl A n m) m h:=by
 have e:cl A n m j=λx=>sm (m+1) λi=>cl A n m j i*un i x:=by
  funext x;by_cases hx:x<=m
  ·rw[VC (k:=x) (by omega) λi _ hne=>by unfold un;rw[if_neg (qJ hne),yt]]
   unfold un;simp
  ·rw[ZmP j x (by omega),VB]
   unfold un;grind
 have e1:Rw (cl A n m) m h m j=Yp (m+1) 0 (up (Bs (cl A n m) m h) m λx=>sm (m+1) λi=>cl A n m j i*un i x):=by
  unfold Rw;rw[<-e]
 rw[e1,Zco _ _ _ (by omega)];show sm m _+cl A n m j m*Yp (m+1) 0 (up (Bs (cl A n m) m h) m (un m))=_;congr 1
 ·refine Xs λi hi=>?_
  unfold Rw;rw[ZdD hi]
 ·have:=UK (Bs (cl A n m) m h) m
  rw[JZ]at this;rw[this];rfl
section
variable {h:Nat->Nat}(f:Feas (cl A n m) m (n+m) h)
include f
theorem Zpc (j:Nat):0<=wt A n m h j:=Zpa λk hk=>by
 split
 ·exact f.nn k hk
 ·simp
theorem Zpd (hk:k<m):wt A n m h (h k)=Rw (cl A n m) m h k (n+m):=by
 unfold wt;rw[VC hk]
 ·simp
 ·intro i hi hne
  rw[if_neg λe=>hne (f.good.inj hi hk e)]
theorem ZmQ (hj:∀k,k<m->h k≠j):wt A n m h j=0:=have _:=f;VB λk hk=>by simp_all
theorem ZmR (x:Nat):sm m (λk=>Rw (cl A n m) m h k (n+m)*cl A n m (h k) x)=sm (n+m) λj=>wt A n m h j*cl A n m j x:=by
 unfold wt;have e:∀j,j<n+m->(sm m λk=>if h k=j then Rw (cl A n m) m h k (n+m)else 0)*cl A n m j x=sm m λk=>(if h k=j then Rw (cl A n m) m h k (n+m)*cl A n m (h k) x else 0):=λj hj=>by
  rw[<-ZoA];refine Xs λk hk=>?_;by_cases e:h k=j
  ·simp_all
  ·simp_all
 rw[Xs e,ZjV];refine Xs λk hk=>?_;rw[VC (f.lt k hk) λi _ hne=>by rw[if_neg (qJ hne)]];simp
theorem ZoD (hx:x<m):sm n (λj=>wt A n m h j*(if A x j then 1 else 0))<=dl (cl A n m) m h:=by
 have co:=f.good.co (n+m) x;rw[ZdE,if_pos hx,qcu]at co;have e:sm (m+1) (λk=>Rw (cl A n m) m h k (n+m)*Bs (cl A n m) m h k x)=sm m (λk=>Rw (cl A n m) m h k (n+m)*cl A n m (h k) x):=by
  show sm m _+Rw (cl A n m) m h m (n+m)*Bs (cl A n m) m h m x=_;rw[JZ,Zpb hx,yt,qcn];exact Xs λk hk=>by rw[UW hk]
 rw[e,ZmR f x]at co;rw[co];have spl:∀(g:Nat->Int) (d:Nat),sm (n+d) g=sm n g+sm d λi=>g (n+i):=λg d=>by
  induction d with
  | zero=>show sm n g=sm n g+0;omega
  | succ d ih=>
   show sm (n+d) g+g (n+d)=sm n g+(sm d (λi=>g (n+i))+g (n+d))
   grind
 rw[spl];have z:0<=sm m λi=>wt A n m h (n+i)*cl A n m (n+i) x:=Zpa λi hi=>z0 (Zpc f _) (ZjY hx);have e2:sm n (λj=>wt A n m h j*(if A x j then 1 else 0))=sm n λj=>wt A n m h j*cl A n m j x:=Xs λj hj=>by rw[Zew hj hx]
 grind
theorem ZmS:sm n (wt A n m h)=Rw (cl A n m) m h m (n+m):=by
 have co:=f.good.co (n+m) m;rw[ZdE,if_neg (by omega),yt]at co;have e:sm (m+1) (λk=>Rw (cl A n m) m h k (n+m)*Bs (cl A n m) m h k m)=sm m (λk=>Rw (cl A n m) m h k (n+m)*cl A n m (h k) m)+Rw (cl A n m) m h m (n+m):=by
  show sm m _+Rw (cl A n m) m h m (n+m)*Bs (cl A n m) m h m m=_;have:un m m=1:=by unfold un;simp
  rw[JZ,this,qcu];congr 1;exact Xs λk hk=>by rw[UW hk]
 rw[e,ZmR f m]at co;have spl:∀(g:Nat->Int) (d:Nat),sm (n+d) g=sm n g+sm d λi=>g (n+i):=λg d=>by
  induction d with
  | zero=>show sm n g=sm n g+0;omega
  | succ d ih=>
   show sm (n+d) g+g (n+d)=sm n g+(sm d (λi=>g (n+i))+g (n+d))
   grind
 rw[spl,VB (f:=λi=>wt A n m h (n+i)*cl A n m (n+i) m) λi hi=>by rw[ZdD hi];unfold un;grind,qcn]at co;have e3:sm n (λj=>wt A n m h j*cl A n m j m) = - sm n (wt A n m h):=by
  have e4:sm n (λj=>wt A n m h j*cl A n m j m)=sm n λj=>-1*wt A n m h j:=Xs λj hj=>by rw[Zex hj,yq]
  rw[e4,JH];omega
 rw[e3]at co;omega
theorem ZmT:sm m (λi=>Rw (cl A n m) m h m (n+i))=Rw (cl A n m) m h m (n+m):=by
 have _:=f;rw[ZhP h (n+m),ZdE,if_neg (by omega),Int.zero_mul,qcn];exact Xs λi hi=>by rw[ZdE,if_pos hi,Int.one_mul]
theorem ZmU (hj:j<n)(opt:0<=Rw (cl A n m) m h m j):dl (cl A n m) m h<=sm m λi=>(if A i j then 1 else 0)*Rw (cl A n m) m h m (n+i):=by
 have _:=f;rw[ZhP h j,Zex hj]at opt;have e:sm m (λi=>cl A n m j i*Rw (cl A n m) m h m (n+i))=sm m λi=>(if A i j then 1 else 0)*Rw (cl A n m) m h m (n+i):=Xs λi hi=>by rw[Zew hj hi]
 omega
end
end
noncomputable def fac:Nat->Nat
 | 0=>1
 | n+1=>(n+1)*fac n
theorem ZmV:∀{n:Nat},(∀i,i<n->(f i).natAbs<=B)->(sm n f).natAbs<=n*B
 | 0,_=>zr _
 | n+1,h=>by
  show(sm n f+f n).natAbs<=(n+1)*B;have h1:=ZmV (n:=n) λi hi=>h i (by omega);have h3:=qbf (sm n f) (f n)
  grind
theorem Zgt:∀(n r:Nat) {c:YL},(∀i x,(c i x).natAbs<=1)->(Yp n r c).natAbs<=fac n
 | 0,_,_,_=>qk _
 | n+1,r,c,h=>by
  refine ZmV λi hi=>?_;have ih:=Zgt n (r+1) (c:=Xn i c) λj x=>by unfold Xn;split <;> exact h _ _
  rw[qal,qal];have h1:(sg i).natAbs=1:=by unfold sg;split <;> rfl
  rw[h1,Nat.one_mul]
  calc (c i r).natAbs*(Yp n (r+1) (Xn i c)).natAbs<=1*fac n:=yj (h i r) ih
   _=fac n:=Nat.one_mul _
theorem Zey (h:a<=b):fac a<=fac b:=by
 induction h with
 | refl=>simp
 | step h ih=>
  rename_i b;show fac a<=(b+1)*fac b
  grind
theorem ZmW (i x:Nat):(un i x).natAbs<=1:=by unfold un;split <;> simp
section
variable {A:Nat->Nat->Bool}{n m:Nat}
theorem ZmX (j x:Nat):(cl A n m j x).natAbs<=1:=by
 unfold cl
 repeat' split
 all_goals first | exact ZmW _ _ | simp
theorem ZmY (h:Nat->Nat)(k x:Nat):(Bs (cl A n m) m h k x).natAbs<=1:=by
 unfold Bs;split
 ·exact ZmW _ _
 ·exact ZmX _ _
theorem Zgu (h:Nat->Nat)(k j:Nat):(Rw (cl A n m) m h k j).natAbs<=fac (m+1):=Zgt _ _ λi x=>by
 unfold up;split
 ·exact ZmX _ _
 ·exact ZmY _ _ _
theorem ZmZ (h:Nat->Nat):(dl (cl A n m) m h).natAbs<=fac (m+1):=Zgt _ _ λi x=>ZmY _ _ _
theorem ZfH:fac 129<2 ^ 8000:=by decide +kernel
end
section
variable {a:YL}{m N:Nat}{h:Nat->Nat}{c:Nat}
noncomputable def Jd (a:YL)(m N:Nat)(h:Nat->Nat)(c i j:Nat):Bool:=decide (Rw a m h i N*Rw a m h j c<Rw a m h j N*Rw a m h i c)||(decide (Rw a m h i N*Rw a m h j c=Rw a m h j N*Rw a m h i c)&&decide (h i<h j))
noncomputable def Wc (a:YL)(m N:Nat)(h:Nat->Nat)(c:Nat):Nat->Option Nat
 | 0=>none
 | i+1=>if 0<Rw a m h i c/\(∀j,Wc a m N h c i=some j->Jd a m N h c i j=true)then some i else Wc a m N h c i
theorem Zpe {p:Int}(hp:0<p)(hq:0<q)(hr:0<r)(h1:b1*q<=b2*p)(h2:b2*r<=b3*q):b1*r<=b3*p:=by
 refine yU ?_ hq
 calc b1*r*q=b1*q*r:=by grind
  _<=b2*p*r:=qZ h1 (zK hr)
  _=b2*r*p:=by grind
  _<=b3*q*p:=qZ h2 (zK hp)
  _=b3*p*q:=by grind
theorem Zm0 {p:Int}(hp:0<p)(hq:0<q)(hr:0<r)(h1:b1*q<b2*p)(h2:b2*r<=b3*q):b1*r<b3*p:=by
 refine qa7 ?_ (zK hq)
 calc b1*r*q=b1*q*r:=by grind
  _<b2*p*r:=qa1 h1 hr
  _=b2*r*p:=by grind
  _<=b3*q*p:=qZ h2 (zK hp)
  _=b3*p*q:=by grind
theorem Zqm {p:Int}(hp:0<p)(hq:0<q)(hr:0<r)(h1:b1*q<=b2*p)(h2:b2*r<b3*q):b1*r<b3*p:=by
 refine qa7 ?_ (zK hq)
 calc b1*r*q=b1*q*r:=by grind
  _<=b2*p*r:=qZ h1 (zK hr)
  _=b2*r*p:=by grind
  _<b3*q*p:=qa1 h2 hp
  _=b3*p*q:=by grind
noncomputable def le2 (a:YL)(m N:Nat)(h:Nat->Nat)(c i j:Nat):Prop:=Rw a m h i N*Rw a m h j c<Rw a m h j N*Rw a m h i c∨(Rw a m h i N*Rw a m h j c=Rw a m h j N*Rw a m h i c/\h i<=h j)
theorem Zk1 (pi:0<Rw a m h i c)(pj:0<Rw a m h j c)(pk:0<Rw a m h k c)(h1:le2 a m N h c i j)(h2:le2 a m N h c j k):le2 a m N h c i k:=by
 rcases h1 with h1 | ⟨h1,l1⟩
 ·rcases h2 with h2 | ⟨h2,l2⟩
  ·exact .inl (Zm0 pi pj pk h1 (zK h2))
  ·exact .inl (Zm0 pi pj pk h1 (yu h2))
 ·rcases h2 with h2 | ⟨h2,l2⟩
  ·exact .inl (Zqm pi pj pk (yu h1) h2)
  ·refine .inr ⟨?_,by omega⟩
   have a1:=Zpe pi pj pk (yu h1) (yu h2);have a2:=Zpe pk pj pi (yu h2.symm) (yu h1.symm);omega
theorem Zi8:∀{i:Nat},(∀r,Wc a m N h c i=some r->r<i/\0<Rw a m h r c/\∀k,k<i->0<Rw a m h k c->le2 a m N h c r k)/\(Wc a m N h c i=none->∀k,k<i->¬0<Rw a m h k c)
 | 0=>⟨λr e=>(by cases e),λ_ k hk=>(by omega)⟩
 | i+1=>by
  obtain⟨ih1,ih2⟩:=Zi8 (i:=i);unfold Wc;by_cases q:0<Rw a m h i c/\(∀j,Wc a m N h c i=some j->Jd a m N h c i j=true)
  ·rw[if_pos q]
   refine⟨λr e=>?_,λe=>by cases e⟩
   cases e
   refine⟨by omega,q.1,λk hk pk=>?_⟩;by_cases ek:k=i
   ·subst ek;exact .inr ⟨rfl,qk _⟩
   ·cases hj:Wc a m N h c i with
    | none=>exact absurd pk (ih2 hj k (by omega))
    | some j=>
     obtain⟨j1,j2,j3⟩:=ih1 j hj;have ht:=q.2 j hj;unfold Jd at ht;have hl:le2 a m N h c i j:=by
      simp only[qbL,zc,decide_eq_true_eq]at ht;rcases ht with z | ⟨z,y⟩
      ·exact .inl z
      ·exact .inr ⟨z,by omega⟩
     exact Zk1 q.1 j2 pk hl (j3 k (by omega) pk)
  ·rw[if_neg q]
   refine⟨λr e=>?_,λe k hk pk=>?_⟩
   ·obtain⟨r1,r2,r3⟩:=ih1 r e
    refine⟨by omega,r2,λk hk pk=>?_⟩;by_cases ek:k=i
    ·subst ek
     have:¬(Jd a m N h c k r=true):=λz=>q ⟨pk,λj hj=>by grind⟩;unfold Jd at this;simp only[qbL,decide_eq_true_eq,not_or]at this;obtain⟨t1,t2⟩:=this;rcases Int.lt_or_le (Rw a m h r N*Rw a m h k c) (Rw a m h k N*Rw a m h r c)with z | z
     ·exact .inl z
     ·have e3:Rw a m h k N*Rw a m h r c=Rw a m h r N*Rw a m h k c:=by omega
      exact .inr ⟨e3.symm,by grind⟩
    ·grind
   ·by_cases ek:k=i
    ·subst ek
     simp_all
    ·exact ih2 e k (by omega) pk
theorem Zk2 (ex:∃k,k<m/\0<Rw a m h k c):∃r,Wc a m N h c m=some r/\Tight a m N h c r:=by
 obtain⟨h1,h2⟩:=Zi8 (a:=a) (m:=m) (N:=N) (h:=h) (c:=c) (i:=m)
 cases e:Wc a m N h c m with
 | none=>obtain⟨k,hk,pk⟩:=ex;exact absurd pk (h2 e k hk)
 | some r=>
  obtain⟨r1,r2,r3⟩:=h1 r e;exact⟨r,rfl,r1,r2,r3⟩
end
end TU
namespace TQ
open L2 TF TQ TS
open TP
open TP2 hiding g_all_near F_all_near
open TP3 hiding g_full_knots F_full_knots
variable {s0:Pn}{q:KS}
theorem YM {m:M α}{k:α->M β}{a:α}(h:m s=some (a,s1)):Zp m k s=k a s1:=by unfold Zp;rw[h]
theorem VD (hi:(ρ[i]?).bind id=some d):Za i ρ s=some (d,s):=by unfold Za YO;rw[hi]
end TQ
set_option exponentiation.threshold 9000
namespace TQ
open L2 TF TQ TU
open TP
open TP2 hiding g_all_near F_all_near
open TP3 hiding g_full_knots F_full_knots
noncomputable abbrev Z9 (N:Nat)(f:Nat->D):List D:=(qm N).map f
noncomputable abbrev YB (N:Nat)(f:Nat->Int):D:=.lst (Z9 N λj=>.int (f j))
noncomputable abbrev tD (n m:Nat)(R:Nat->Nat->Int)(c:Int)(h:Nat->Nat):D:=.clo 0 (.int n :: .lst (Z9 (m+1) λk=>YB (n+m+1) (R k)) :: .int c::Z9 m λk=>.int (h k:Nat))
theorem Wj (hk:k<N):Zn (.lst (Z9 N f)) (.int (k:Int))=some (f k):=by
 refine(show Xz (Z9 N f) (k:Int)=some (f k)from Vf ?_);simp_all
theorem Jn:Zn (.lst (Z9 (m+1) f)) (.int (-1))=some (f m):=by
 show Xz (Z9 (m+1) f) (-1)=_;unfold Xz Xp;simp;rw[if_pos (by omega),qbo,show(-1+((m:Int)+1)).toNat=m by omega,yW (by omega)];rfl
theorem XQ (s:Pn)(hi:(ρ[i]?).bind id=some (.clo 0 ds))(hg:g ds=some d):YN i g ρ s=some (d,s):=by
 unfold YN;rw[YM (VD hi)];show YO (g ds) s=_;rw[hg];rfl
theorem Zgv (N:Nat)(f:Nat->Int):Yc (Z9 N λk=>.int (f k))=some ((qm N).map f):=by
 have:(Z9 N λk=>.int (f k))=((qm N).map f).map D.int:=by simp
 rw[this,Zar]
theorem ZdF:JR g (a::b::c::Z9 N λk=>.int (f k))=g ((qm N).map f):=by
 show(Yc _).bind g=_;rw[Zgv];rfl
theorem UI (hi:(ρ[i]?).bind id=some (.clo 0 hs))(h1:fs ρ s=some (ds,s1))(h2:F (.clo 0 hs::ds) s1=r):XG F i fs ρ s=r:=by
 unfold XG;rw[YM (VD hi)];show Zp (fs ρ) (λds=>F (.clo 0 hs::ds)) s=r;rw[YM h1];exact h2
theorem Zcp (h1:Xr i=true)(h2:Xr j=true):YX (.int i) (.int j)=some (.int (i*j)):=by
 show(if (Xr i&&Xr j)=true then _ else none)=_;simp_all
theorem Zez (h1:0<j)(h2:Xr j=true):Zem (.int i) (.int j)=some (.int (i / j)):=by
 show(if (decide (0<j)&&Xr j)=true then _ else none)=_;simp_all
theorem vor2 (h:f ρ s=some (.bl a,s))(h2:g ρ s=some (.bl b,s)):V1 f g ρ s=some (.bl (a||b),s):=by
 unfold V1;rw[YM h]
 cases a with
 | true=>rfl
 | false=>exact h2
theorem _root_.TF.Ok.toEq2 {m:M α}{a:α}(h:Ok m s λx t=>x=a/\t=s'):m s=some (a,s'):=by
 obtain⟨x,t,e,rfl,rfl⟩:=h;exact e
theorem Zi9 (a b:Int)(hb:0<=b)(s:Pn):J7 [.int a,.int b] s=some (.int (zj a b:Nat),s):=by
 refine Ok.toEq2 (Ok.runB rfl ?_);refine Ok.seq (jE (λm ρ s'=>s'=s/\∃x y o,ρ=[some (.int x),some (.int y),o]/\0<=y/\m=y.toNat/\zj x y=zj a b) b.toNat ⟨rfl,a,b,none,rfl,hb,rfl,rfl⟩ λm ρ s' hI=>?_);obtain⟨rfl,x,y,o,rfl,hy,rfl,hg⟩:=hI;refine .eq (Z6 (Zm rfl rfl (nei y 0))) ?_;by_cases h0:y=0
 ·subst h0
  refine Ok.seq (.sret (.eq (Yv (Zg rfl rfl) (show dAbs [.int x]=some _ from rfl)) ⟨?_,rfl⟩));rw[<-hg,Int.gcd_zero_right]
  grind
 ·rw[if_pos (by simp[h0])]
  have py:0<y:=by omega
  have em:VZ (.int x) (.int y)=some (.int (x % y)):=by
   show(if decide (0<y)=true then _ else none)=_;simp_all
  refine .seq (.sset (.eq (Zm rfl rfl em) ?_));refine .seq (.sset (.eq rfl (.next ⟨(x % y).toNat,?_,rfl,y,x % y,_,rfl,y6 x h0,rfl,?_⟩)))
  ·have:=yF x py
   omega
  ·rw[<-hg,qbA y (x % y)]
   have e:=(Int.emod_add_mul_ediv x y).symm
   conv=>rhs;rw[e]
   simp
noncomputable def Xi (t b:Int):D:=.tup [.int (t / (zj t b:Nat)),.int (b / (zj t b:Nat))]
theorem Zja (hb:0<b)(wb:Xr b=true)(s:Pn):UA [.int t,.int b] s=some (Xi t b,s):=by
 have g0:0<zj t b:=qa2 λz=>by simp_all
 have gw:Xr (zj t b:Nat)=true:=by
  have h1:=of_decide_eq_true wb;have h2:zj t b<=b.natAbs:=Nat.le_of_dvd (by omega) (Nat.gcd_dvd_right _ _);refine decide_eq_true ?_;exact zE h2 h1
 refine Yr rfl (Yh (Wd (Ym (Zg rfl (Zg rfl rfl)) (Zi9 t b (by omega) s))) (ZX (YW (Xe (Zg (Zm rfl rfl (Zez (by omega) gw)) (Zg (Zm rfl rfl (Zez (by omega) gw)) rfl)) (by show 2<=xg;decide)))))
section
variable {A:Nat->Nat->Bool}{n m:Nat}{h:Nat->Nat}
noncomputable abbrev RR (A:Nat->Nat->Bool)(n m:Nat)(h:Nat->Nat):Nat->Nat->Int:=Rw (cl A n m) m h
noncomputable abbrev tT (A:Nat->Nat->Bool)(n m:Nat)(h:Nat->Nat):D:=tD n m (RR A n m h) (dl (cl A n m) m h) h
theorem wR (hm:m<=128)(k j:Nat):Xr (RR A n m h k j)=true:=decide_eq_true (zE (qp (Zgu h k j) (Zey (by omega))) ZfH)
theorem wdl (hm:m<=128):Xr (dl (cl A n m) m h)=true:=decide_eq_true (zE (qp (ZmZ h) (Zey (by omega))) ZfH)
variable {R:Nat->Nat->Int}{c0:Int}
theorem ZfI (hn:n+m<=1000)(s:Pn):WS [tD n m R c0 h] s=(match (qm (n+m)).filter (λj=>decide (R m j<0))with | []=>some (.non,s) | c::r=>some (.int (minI c (r.map λ(x:Nat)=>(x:Int))),s)):=by
 have hc:Yb [none,some 0] (Yt (Zc Xg (ZO YZ (Zb (Zc Zn (YN 0 λds=>ds[1]?) (dC (.int (-1)))) Zf)) (dC (.int 1)))) (ZI 0) (ZF (Zc Vb (Zc Zn (Zc Zn (YN 1 λds=>ds[1]?) (dC (.int (-1)))) (Za 0)) (dC (.int 0)))) (Za 0) [some (tD n m R c0 h),none] s=some (.lst (((qm (n+m)).filter λj=>decide (R m j<0)).map nD),s):=by
  refine(XF (λd=>[some d,some (tD n m R c0 h)]) (λd=>match d with | .int z=>decide (R m z.toNat<0) | _=>false) id (XB (n:=n+m) (Zm (d:=.int ((n+m+1:Nat):Int)) (e:=.int 1) (Yv (Zg (Zm (XQ s rfl rfl) rfl Jn) rfl) ?_) rfl ?_) (by omega)) (by unfold Yw;rw[qe,qL];exact qp hn (by decide)) λd md=>?_).trans ?_
  ·show some (D.int _)=_
   rw[qe,qL]
  ·show some (D.int _)=some (D.int _)
   congr 2;omega
  ·obtain⟨j,hj,rfl⟩:=qu.mp md
   have hj:=qY.mp hj;refine⟨rfl,Z6 (Zm (d:=.int (R m j)) (e:=.int 0) (Zm (Zm (XQ s rfl rfl) rfl Jn) rfl ?_) rfl ?_),λ_=>rfl⟩
   ·show Zn (YB (n+m+1) (R m)) (.int (0+(j:Int)))=_
    rw[qak];exact Wj (by omega)
   ·show some (D.bl _)=some (D.bl _)
    simp
  ·unfold Yw
   rw[qaV,yG];have e1:(λi:Nat=>D.int (0+(i:Int)))=nD:=by simp
   have e2:((λd=>match d with | D.int z=>decide (R m z.toNat<0) | _=>false)∘λi:Nat=>D.int (0+(i:Int)))=λj=>decide (R m j<0):=by funext j;simp
   rw[e2,e1]
 have hi:∀l:List Nat,Yc (l.map nD)=some (l.map λ(x:Nat)=>(x:Int)):=λl=>by
  rw[show l.map nD=(l.map λ(x:Nat)=>(x:Int)).map D.int by simp,Zar]
 refine(Yr (d:=match (qm (n+m)).filter (λj=>decide (R m j<0))with | []=>.non | c::r=>.int (minI c (r.map λ(x:Nat)=>(x:Int)))) (s1:=s) rfl (Yh (Wd hc) (ZX (YW ?_)))).trans ?_
 ·unfold ZiY
  rw[YM rfl];simp only[hi]
  cases (qm (n+m)).filter λj=>decide (R m j<0) <;> rfl
 ·cases (qm (n+m)).filter λj=>decide (R m j<0) <;> rfl
theorem Zk3 (hn:n+m<=1000)(hg:∀j,j<n+m->0<=R m j)(s:Pn):WS [tD n m R c0 h] s=some (.non,s):=by
 rw[ZfI hn s,List.filter_eq_nil_iff.mpr λj hj=>by simp_all]
theorem Zk4 (hn:n+m<=1000)(hc:c<n+m)(h1:R m c<0)(h2:∀j,j<c->0<=R m j)(s:Pn):WS [tD n m R c0 h] s=some (nD c,s):=by
 rw[ZfI hn s];have e:qm (n+m)=qm c++(c::(List.range' (c+1) (n+m-c-1))):=by
  rw[qb8,qb8];rw[show n+m=c+(1+(n+m-c-1)) by omega,<-List.range'_append_1,qcm];rw[show c+(1+(n+m-c-1))-c-1=n+m-c-1 by omega,Nat.add_comm 1,List.range'_succ]
 have f2:(qm (n+m)).filter (λj=>decide (R m j<0))=c::(List.range' (c+1) (n+m-c-1)).filter (λj=>decide (R m j<0)):=by
  simp_all
 rw[f2];show some (D.int _,s)=_;congr 2;congr 1;refine(min_uniq (by simp) λa ha=>?_).symm;rcases qB.mp ha with rfl | ha
 ·simp
 ·obtain⟨x,hx,rfl⟩:=qu.mp ha
  grind
theorem Zqn (hm:m<=128)(hi:i<m)(hj:j<m)(hc:c<n+m)(s:Pn):B7 [tT A n m h,nD i,nD j,nD c] s=some (.bl (Jd (cl A n m) m (n+m) h c i j),s):=by
 have w:=wR (A:=A) (n:=n) (h:=h) hm;have last:∀k,Zn (YB (n+m+1) (RR A n m h k)) (.int (-1))=some (.int (RR A n m h k (n+m))):=λk=>Jn;have at_:∀(ρ:Ze) k,(ρ[0]?).bind id=some (tT A n m h)->∀l,(ρ[l]?).bind id=some (nD k)->k<m->Zc Zn (YN 0 λds=>ds[1]?) (Za l) ρ s=some (YB (n+m+1) (RR A n m h k),s):=fun ρ k h0 l hl hk=>Zm (XQ s h0 rfl) (VD hl) (Wj (by omega));have hx:∀(ρ:Ze) k,(ρ[0]?).bind id=some (tT A n m h)->∀l,(ρ[l]?).bind id=some (nD k)->k<m->Zcf 0 (Za l) ρ s=some (nD (h k),s):=fun ρ k h0 l hl hk=>by
  unfold Zcf;rw[YM (VD hl)];refine XQ s h0 ?_;rw[ZdF];have:=Wj (f:=λk=>.int (h k:Nat)) hk;rw[qz];exact this
 refine Yr rfl (Yh (Wd (Zm (Zm (at_ _ i rfl 1 rfl hi) rfl (last i)) (Zm (at_ _ j rfl 2 rfl hj) rfl (Wj (by omega))) (Zcp (w _ _) (w _ _)))) (Yh (Wd (Zm (Zm (at_ _ j rfl 2 rfl hj) rfl (last j)) (Zm (at_ _ i rfl 1 rfl hi) rfl (Wj (by omega))) (Zcp (w _ _) (w _ _)))) (ZX (YW ?_))));refine vor2 (Zm rfl rfl rfl) (Jv (Zm rfl rfl ?_) λ_=>Zm (hx _ i rfl 1 rfl hi) (hx _ j rfl 2 rfl hj) ?_)
 ·rfl
 ·show some (D.bl _)=some (D.bl _)
  simp
theorem Zm1 (hm:m<=128)(hc:c<n+m)(s:Pn):Jg [tT A n m h,nD c] s=some (match Wc (cl A n m) m (n+m) h c m with | some r=>nD r | none=>.non,s):=by
 refine Ok.toEq2 (Ok.runB (g:=ZaP) rfl ?_);refine Ok.seq (.sset (.eq (a:=.non) rfl ?_));refine Ok.seq (.sfor (λi ρ s'=>s'=s/\∃o,ρ=[some (tT A n m h),some (nD c),some (match Wc (cl A n m) m (n+m) h c i with | some r=>nD r | none=>.non),o]) (.eq (XB (n:=m) (XQ s rfl ?_) (by omega)) ⟨⟨rfl,none,rfl⟩,λi d ρ s' hd hI=>?_,fun ρ s' hI=>?_⟩))
 ·rw[ZdF]
  simp
 ·obtain⟨rfl,o,rfl⟩:=hI
  have hi:i<m:=by
   have:=(qC.mp hd).1;unfold Yw at this;simpa using this
  have ed:d=nD i:=by
   unfold Yw at hd;rw[qI,yW (by omega)]at hd;simp at hd;exact hd.symm
  subst ed;refine⟨_,rfl,?_⟩;have e1:∀o2,Zc VM (Zc Zn (Zc Zn (YN 0 λds=>ds[1]?) (Za 3)) (Za 1)) (dC (.int 0)) [some (tT A n m h),some (nD c),some o2,some (nD i)] s'=some (.bl (decide (0<RR A n m h i c)),s'):=λo2=>
   Zm (Zm (Zm (XQ s' rfl rfl) rfl (Wj (by omega))) rfl (Wj (by omega))) rfl rfl
  have fin:∀(b:Bool) (o2 o3:D),(if b=true then nD i else o2)=o3->Ok (Zh (Yx (λ_ s=>some (b,s)) (Zh (ZT 2 (Za 3)) Zq) Zq) Zq [some (tT A n m h),some (nD c),some o2,some (nD i)]) s' λo s''=>∃ρ',o=.nx ρ'/\s''=s'/\∃o,ρ'=[some (tT A n m h),some (nD c),some o3,o]:=λb o2 o3 e=>by
   cases b with
   | true=>
    cases e
    exact Ok.seq (.sif (.eq (a:=true) rfl (.seq (.sset (.eq (a:=nD i) rfl (.next (.next ⟨_,rfl,rfl,_,rfl⟩)))))))
   | false=>
    cases e
    exact Ok.seq (.sif (.eq (a:=false) rfl (.next (.next ⟨_,rfl,rfl,_,rfl⟩))))
  have conv:∀(cnd:Ze->M Bool) (b:Bool) (o2 o3:D),cnd [some (tT A n m h),some (nD c),some o2,some (nD i)] s'=some (b,s')->(if b=true then nD i else o2)=o3->Ok (Zh (Yx cnd (Zh (ZT 2 (Za 3)) Zq) Zq) Zq [some (tT A n m h),some (nD c),some o2,some (nD i)]) s' λo s''=>∃ρ',o=.nx ρ'/\s''=s'/\∃o,ρ'=[some (tT A n m h),some (nD c),some o3,o]:=λcnd b o2 o3 hc e=>by
   cases b with
   | true=>
    cases e
    exact Ok.seq (.sif (.eq hc (.seq (.sset (.eq (a:=nD i) rfl (.next (.next ⟨_,rfl,rfl,_,rfl⟩)))))))
   | false=>
    cases e
    exact Ok.seq (.sif (.eq hc (.next (.next ⟨_,rfl,rfl,_,rfl⟩))))
  cases ht:Wc (cl A n m) m (n+m) h c i with
  | none=>
   refine conv _ (decide (0<RR A n m h i c)&&true) .non _ (ZjB (Z6 (e1 _)) λ_=>BM (Z6 (Zm rfl rfl rfl))) ?_;show _=(match Wc (cl A n m) m (n+m) h c (i+1)with | some r=>nD r | none=>.non);unfold Wc;rw[ht];by_cases z:0<RR A n m h i c
   ·rw[if_pos (by simpa using z),if_pos ⟨z,λj hj=>by cases hj⟩]
   ·rw[if_neg (by simpa using z),if_neg λq=>z q.1]
  | some j=>
   have hj:j<m:=by have:=((Zi8 (a:=cl A n m) (m:=m) (N:=n+m) (h:=h) (c:=c) (i:=i)).1 j ht).1;omega
   refine conv _ (decide (0<RR A n m h i c)&&(false||Jd (cl A n m) m (n+m) h c i j)) (nD j) _ (ZjB (Z6 (e1 _)) λ_=>JN (Z6 (Zm rfl rfl rfl)) (Z6 (UI rfl (Zg rfl (Zg rfl (Zg rfl rfl))) (Zqn hm hi hj hc s')))) ?_;show _=(match Wc (cl A n m) m (n+m) h c (i+1)with | some r=>nD r | none=>.non);unfold Wc;rw[ht];by_cases z:0<RR A n m h i c/\Jd (cl A n m) m (n+m) h c i j=true
   ·simp_all
   ·rw[if_neg (by simpa using z),if_neg λq=>z ⟨q.1,q.2 j rfl⟩]
 ·obtain⟨rfl,o,rfl⟩:=hI
  unfold Yw;rw[qe,qL];exact Ok.seq (.sret (.eq rfl ⟨rfl,rfl⟩))
theorem Zm2 (hN:N<=1000)(hc:c<N)(hd:0<dl0)(wd:Xr dl0=true)(wf:∀j,Xr (f j)=true)(wg:∀j,Xr (g j)=true)(hds:ds[2]?=some (.int dl0))(s:Pn) :
  Bg [.clo 0 ds,YB N f,YB N g,nD c] s=some (YB N λj=>(f j*g c-f c*g j) / dl0,s):=by
 refine Yr rfl (ZX (YW ?_));refine(XF (λd=>[some d,some (YB N f),some (YB N g),some (nD c),some (.clo 0 ds)]) (λ_=>true) (λd=>match d with | .int z=>.int ((f z.toNat*g c-f c*g z.toNat) / dl0) | _=>.non) (XB (n:=N) (Yv (Zg rfl rfl) ?_) (by omega)) (by unfold Yw;rw[qe,qL];exact qp hN (by decide)) λd md=>?_).trans ?_
 ·show some (D.int _)=_
  simp
 ·obtain⟨j,hj,rfl⟩:=qu.mp md
  have hj:=qY.mp hj;rw[qak];refine⟨rfl,rfl,λ_=>?_⟩;exact Zm (Zm (Zm (Zm rfl rfl (Wj hj)) (Zm rfl rfl (Wj hc)) (Zcp (wf _) (wg _))) (Zm (Zm rfl rfl (Wj hc)) (Zm rfl rfl (Wj hj)) (Zcp (wf _) (wg _))) rfl) (XQ s rfl hds) (Zez hd wd)
 ·unfold Yw
  rw[yy.mpr λ_ _=>rfl];simp
theorem Zcq (s:Pn)(hi:(ρ[i]?).bind id=some (.clo 0 ds))(hg:g ds=some ds')(n1:UR (ρ.set i none)=true)(n2:Yl ds'=true):JY i g ρ s=some (.nx (ρ.set i (some (.clo 0 ds'))),s):=by
 unfold JY;rw[YM (VD hi)];simp only[hg];rw[if_pos ⟨n1,n2⟩];rfl
theorem ZaQ (hf:∀k,Z2 (f k)=true):Yl (Z9 N f)=true:=by
 have:∀l:List Nat,Yl (l.map f)=true:=λl=>by
  induction l with
  | nil=>rfl
  | cons a l ih=>simp only[qS,Yl,hf,ih];rfl
 exact this _
theorem Bm:Z2 (YB N f)=true:=by
 exact ZaQ λ_=>rfl
theorem ZaC:Yl (.int (n:Int) :: .lst (Z9 (m+1) λk=>YB (n+m+1) (R k)) :: .int c::Z9 m λk=>.int (h k:Nat))=true:=by
 simp only[Yl,Z2];rw[ZaQ λ_=>Bm,ZaQ λ_=>rfl];rfl
theorem Zqo {f:Nat->Int}:((qm N).map f).set r z=(qm N).map λk=>if k=r then z else f k:=by
 apply qbc;intro i;rw[List.getElem?_set];by_cases hi:i<N
 ·rw[qI,qI,yW hi]
  by_cases e:r=i
  ·simp_all
  ·simp[e,qJ e]
 ·simp_all
theorem Zm3 (hm:m<=128)(hn:n<=100)(fe:Feas (cl A n m) m (n+m) h)(hr:r<m)(hc:c<n+m)(hp0:0<RR A n m h r c)(s:Pn):Jj [tT A n m h,nD r,nD c] s=some (tT A n m (hp h r c),s):=by
 have w:=wR (A:=A) (n:=n) (h:=h) hm;have nz:=fe.good.nz;have rowE:∀k,k<=m->(if k=r then YB (n+m+1) (RR A n m h r)else YB (n+m+1) λj=>(RR A n m h k j*RR A n m h r c-RR A n m h k c*RR A n m h r j) / dl (cl A n m) m h)=YB (n+m+1) (RR A n m (hp h r c) k):=λk hk=>by
  by_cases e:k=r
  ·subst e
   rw[if_pos rfl,show RR A n m (hp h k c) k=RR A n m h k from funext λj=>ZdC hr j]
  ·rw[if_neg e,show(λj=>(RR A n m h k j*RR A n m h r c-RR A n m h k c*RR A n m h r j) / dl (cl A n m) m h)=RR A n m (hp h r c) k from funext λj=>by
    rw[show RR A n m h k j*RR A n m h r c-RR A n m h k c*RR A n m h r j=dl (cl A n m) m h*RR A n m (hp h r c) k j from(ZhL fe.good hr hk e j).symm,qbB _ nz]]
 have hcomp:Yb [none,some 1,some 3,some 0,some 2] (Yt (ZO YZ (Zb (YN 0 λds=>ds[1]?) Zf))) (ZI 0) Yi (Vr (ZF (Zc YF (Za 0) (Za 1))) (Za 2) (XG Bg 3 (Zb (Zc Zn (YN 3 λds=>ds[1]?) (Za 0)) (Zb (Za 2) (Zb (Za 4) Zf))))) [some (tT A n m h),some (nD r),some (nD c),some (YB (n+m+1) (RR A n m h r))] s=some (.lst (Z9 (m+1) λk=>YB (n+m+1) (RR A n m (hp h r c) k)),s):=by
  refine(XF (λd=>[some d,some (nD r),some (YB (n+m+1) (RR A n m h r)),some (tT A n m h),some (nD c)]) (λ_=>true) (λd=>match d with | .int z=>YB (n+m+1) (RR A n m (hp h r c) z.toNat) | _=>.non) (XB (n:=m+1) (Yv (Zg (XQ s rfl rfl) rfl) ?_) (by omega)) (by unfold Yw;rw[qe,qL];exact qp (show m+1<=1000 by omega) (by decide)) λd md=>?_).trans ?_
  ·show some (D.int _)=_
   rw[qe,qL]
  ·obtain⟨k,hk,rfl⟩:=qu.mp md
   have hk:=qY.mp hk;rw[qak];refine⟨rfl,rfl,λ_=>?_⟩;show Vr _ _ _ _ s=some (YB (n+m+1) (RR A n m (hp h r c) k),s);rw[<-rowE k (by omega)];unfold Vr;rw[YM (Z6 (Zm rfl rfl (V2 (k:Int) r)))];by_cases e:k=r
   ·subst e
    rw[if_pos (by simp),if_pos rfl];rfl
   ·rw[if_neg (by simp;omega),if_neg e]
    exact UI rfl (Zg (Zm (XQ s rfl rfl) rfl (Wj hk)) (Zg rfl (Zg rfl rfl))) (Zm2 (by omega) (by omega) fe.pos (wdl hm) (λj=>w k j) (λj=>w r j) rfl s)
  ·unfold Yw
   rw[yy.mpr λ_ _=>rfl,qz];congr 3;refine qT λj _=>?_;show YB (n+m+1) (RR A n m (hp h r c) (0+(j:Int)).toNat)=_;rw[qak];rfl
 have e1:ZaW [some (tT A n m h),some (nD r),some (nD c),none] s=some (.nx [some (tT A n m (hp h r c)),some (nD r),some (nD c),some (YB (n+m+1) (RR A n m h r))],s):=by
  refine Yh (Wd (Zm (XQ s rfl rfl) rfl (Wj (by omega)))) ?_;refine Yh (?_:ZjH 0 _ _ s=some (.nx [some (.clo 0 (.int (n:Int) :: .lst (Z9 (m+1) λk=>YB (n+m+1) (RR A n m (hp h r c) k)) :: .int (dl (cl A n m) m h)::Z9 m λk=>.int (h k:Nat))),some (nD r),some (nD c),some (YB (n+m+1) (RR A n m h r))],s)) ?_
  ·unfold ZjH
   refine(YM hcomp).trans ?_;exact Zcq s rfl rfl (by show(true&&(true&&(true&&(Z2 (YB (n+m+1) (RR A n m h r))&&true))))=true;rw[Bm];rfl) ZaC
  refine Yh (?_:ZjI 0 _ _ _ s=some (.nx [some (.clo 0 (.int (n:Int) :: .lst (Z9 (m+1) λk=>YB (n+m+1) (RR A n m (hp h r c) k)) :: .int (dl (cl A n m) m h)::Z9 m λk=>.int (hp h r c k:Nat))),some (nD r),some (nD c),some (YB (n+m+1) (RR A n m h r))],s)) ?_
  ·unfold ZjI
   refine(YM (VD (d:=nD c) rfl)).trans ?_;refine(YM (VD (d:=nD r) rfl)).trans ?_;refine Zcq s rfl ?_ (by show(true&&(true&&(true&&(Z2 (YB (n+m+1) (RR A n m h r))&&true))))=true;rw[Bm];rfl) ZaC;show((Yc _).bind λns=>_)=_;rw[Zgv];have e5:(((qm m).map λk=>((h k:Nat):Int)).set r (c:Int)).map D.int=Z9 m λk=>.int (hp h r c k:Nat):=by
    rw[Zqo,qz];refine qT λk _=>?_;show D.int (if k=r then (c:Int)else (h k:Int))=D.int ((hp h r c k:Nat):Int);unfold hp;split <;> rfl
   have e6:Xp ((qm m).map λk=>((h k:Nat):Int)).length (r:Int)=some r:=by
    rw[qe,qL];unfold Xp;rw[if_pos (by omega),if_pos (by omega)];simp
   rw[qbo,e6,qaL,e5]
  refine Yh (?_:Zgg 0 _ _ s=some (.nx [some (tT A n m (hp h r c)),some (nD r),some (nD c),some (YB (n+m+1) (RR A n m h r))],s)) rfl;unfold Zgg;refine(YM (Zm (d:=YB (n+m+1) (RR A n m h r)) rfl rfl (Wj (by omega)))).trans ?_;have:=Zcq (ρ:=[some (.clo 0 (.int (n:Int) :: .lst (Z9 (m+1) λk=>YB (n+m+1) (RR A n m (hp h r c) k)) :: .int (dl (cl A n m) m h)::Z9 m λk=>.int (hp h r c k:Nat))),some (nD r),some (nD c),some (YB (n+m+1) (RR A n m h r))]) (i:=0) (g:=λds=>match ds with | n'::r0::_::hs=>some (n'::r0 :: .int (RR A n m h r c)::hs) | _=>none) s rfl rfl (by show(true&&(true&&(true&&(Z2 (YB (n+m+1) (RR A n m h r))&&true))))=true;rw[Bm];rfl) ZaC;refine this.trans ?_;show some (Out.nx [some (.clo 0 _),_,_,_],s)=_;rw[show RR A n m h r c=dl (cl A n m) m (hp h r c)from(ZhK hr).symm]
 unfold Jj runT;rw[if_pos (show [tT A n m h,nD r,nD c].length=3 from rfl)];show Zp (ZaW [some (tT A n m h),some (nD r),some (nD c),none]) _ s=_;rw[YM e1];rfl
end
set_option exponentiation.threshold 9000
section
variable {A:Nat->Nat->Bool}{n m:Nat}
noncomputable def Je (A:Nat->Nat->Bool)(n m:Nat)(h:Nat->Nat)(c r:Nat):Prop:=Gain (cl A n m) m (n+m) h c/\Tight (cl A n m) m (n+m) h c r
open Classical in
noncomputable def B6 (A:Nat->Nat->Bool)(n m:Nat)(h:Nat->Nat):Nat->Nat:=if q:∃c r,Je A n m h c r then hp h (choose (choose_spec q)) (choose q)else h
theorem Zjb (f:Feas (cl A n m) m (n+m) h)(q:Je A n m h c r):B6 A n m h=hp h r c:=by
 have hq:∃c r,Je A n m h c r:=⟨c,r,q⟩;unfold B6;rw[dif_pos hq];have key:∀c' r',Je A n m h c' r'->hp h r' c'=hp h r c:=λc' r' ⟨g,t⟩=>by
  have e1:=g.uniq q.1;subst e1;rw[t.uniq f q.2]
 exact key _ _ (zC (zC hq))
noncomputable def sq (A:Nat->Nat->Bool)(n m:Nat):Nat->Nat->Nat
 | 0=>(n + ·)
 | t+1=>B6 A n m (sq A n m t)
theorem JA:∀t,Feas (cl A n m) m (n+m) (sq A n m t)
 | 0=>Zi7
 | t+1=>by
  have f:=JA t;by_cases q:∃c r,Je A n m (sq A n m t) c r
  ·obtain⟨c,r,q⟩:=q
   show Feas _ _ _ (B6 A n m (sq A n m t));rw[Zjb f q];exact f.step q.1 q.2
  ·show Feas _ _ _ (B6 A n m (sq A n m t))
   unfold B6;rw[dif_neg q];exact f
variable (cov:∀j,j<n->∃x,x<m/\A x j=true)
include cov
theorem Zm4 (f:Feas (cl A n m) m (n+m) h)(hj:j<n+m)(hn:RR A n m h m j<0):∃c r,Je A n m h c r/\Wc (cl A n m) m (n+m) h c m=some r:=by
 have hmin:∀j,j<n+m->RR A n m h m j<0->∃c,Gain (cl A n m) m (n+m) h c:=λj=>by
  induction j using qbN with
  | ind j ih=>
   intro hj hn;by_cases q:∃i,i<j/\RR A n m h m i<0
   ·grind
   ·exact⟨j,hj,hn,λi hi=>by
     grind⟩
 obtain⟨c,g⟩:=hmin j hj hn;obtain⟨r,e,t⟩:=Zk2 (ZoC cov f g.lt);exact⟨c,r,⟨g,t⟩,e⟩
theorem ZoE:∃K,∀j,j<n+m->0<=RR A n m (sq A n m K) m j:=by
 refine qR λno=>?_;have all:∀t,∃c r,Je A n m (sq A n m t) c r:=λt=>by
  refine qR λq=>no ⟨t,λj hj=>?_⟩;refine qR λz=>?_;obtain⟨c,r,s,_⟩:=Zm4 cov (JA t) hj (by omega);exact q ⟨c,r,s⟩
 have R:Run (cl A n m) m (n+m) (sq A n m) (λt=>qby (all t)) (λt=>qby (zC (all t))):=by
  have sp:=λt=>zC (zC (all t));exact⟨JA,λt=>(sp t).1,λt=>(sp t).2,λt=>Zjb (JA t) (sp t)⟩
 exact R.none
theorem Zk5 (hm:m<=128)(hn:n<=100)(s:Pn):∃h,Feas (cl A n m) m (n+m) h/\(∀j,j<n+m->0<=RR A n m h m j)/\V6 [tT A n m (n + ·)] s=some (tT A n m h,s):=by
 obtain⟨K,hK⟩:=ZoE cov;have gcN:∀h,(∀j,j<n+m->0<=RR A n m h m j)->∀s,WS [tT A n m h] s=some (.non,s):=λh hg s=>Zk3 (by omega) hg s;have loop:∃h,Feas (cl A n m) m (n+m) h/\(∀j,j<n+m->0<=RR A n m h m j)/\ZaX [some (tT A n m (n + ·)),none] s=some (.nx [some (tT A n m h),some .non],s):=by
  have first:∀t,t<=K->(∃c r,Je A n m (sq A n m t) c r/\Wc (cl A n m) m (n+m) (sq A n m t) c m=some r/\WS [tT A n m (sq A n m t)] s=some (nD c,s)/\t<K)∨((∀j,j<n+m->0<=RR A n m (sq A n m t) m j)/\WS [tT A n m (sq A n m t)] s=some (.non,s)):=λt ht=>by
   by_cases q:∀j,j<n+m->0<=RR A n m (sq A n m t) m j
   ·exact .inr ⟨q,gcN _ q s⟩
   ·have:∃j,j<n+m/\RR A n m (sq A n m t) m j<0:=qR λz=>q λj hj=>by
     have:¬RR A n m (sq A n m t) m j<0:=λy=>z ⟨j,hj,y⟩;omega
    obtain⟨j,hj,hneg⟩:=this;obtain⟨c,r,st,e⟩:=Zm4 cov (JA t) hj hneg;refine .inl ⟨c,r,st,e,Zk4 (by omega) st.1.lt st.1.neg st.1.fst s,?_⟩;rcases Nat.lt_or_ge t K with l | g
    ·exact l
    ·have:t=K:=by omega
     subst this;exact absurd hK q
  suffices hh:Ok (ZaX [some (tT A n m (n + ·)),none]) s λo s'=>s'=s/\∃h,Feas (cl A n m) m (n+m) h/\(∀j,j<n+m->0<=RR A n m h m j)/\o=.nx [some (tT A n m h),some .non] by
   obtain⟨o,s',e,rfl,h,h1,h2,rfl⟩:=hh;exact⟨h,h1,h2,e⟩
  have I0:∀t,t<=K->∃d,WS [tT A n m (sq A n m t)] s=some (d,s):=λt ht=>by
   rcases first t ht with⟨c,r,_,_,e,_⟩ | ⟨_,e⟩
   ·exact⟨_,e⟩
   ·exact⟨_,e⟩
  obtain⟨d0,ed0⟩:=I0 0 (zr _);refine Ok.seq (.sset (.eq (UI rfl rfl ed0) ?_));refine Ok.seq (jE (λk ρ s'=>s'=s/\∃t d,t<=K/\k=K-t/\WS [tT A n m (sq A n m t)] s=some (d,s)/\ρ=[some (tT A n m (sq A n m t)),some d]) K ⟨rfl,0,d0,zr _,rfl,ed0,rfl⟩ λk ρ s' hI=>?_);obtain⟨rfl,t,d,ht,rfl,ed,rfl⟩:=hI;rcases first t ht with⟨c,r,st,e1,e2,hlt⟩ | ⟨hopt,e2⟩
  ·rw[ed]at e2
   cases e2
   refine .eq (a:=true) (Z6 (Zm rfl rfl rfl)) ?_;rw[if_pos rfl];have f:=JA (A:=A) (n:=n) (m:=m) t;have et:Jg [tT A n m (sq A n m t),nD c] s'=some (nD r,s'):=by rw[Zm1 hm st.1.lt s',e1]
   have ex:=Zm3 hm hn f st.2.lt st.1.lt st.2.pos s';rw[<-Zjb f st]at ex;have e9:VN Jj 0 (Zb (XG Jg 0 (Zb (Za 1) Zf)) (Zb (Za 1) Zf)) [some (tT A n m (sq A n m t)),some (nD c)] s'=some (.nx [some (tT A n m (sq A n m (t+1))),some (nD c)],s'):=by
    unfold VN;refine(YM (VD (d:=tT A n m (sq A n m t)) rfl)).trans ?_;refine(YM (Zg (UI rfl (Zg rfl rfl) et) (Zg rfl rfl))).trans ?_;refine(YM ex).trans ?_;exact Zcq s' rfl rfl rfl ZaC
   obtain⟨d1,ed1⟩:=I0 (t+1) (by omega);refine .seq (.eq e9 (.seq (.sset (.eq (UI rfl rfl ed1) (.next ⟨K-(t+1),by omega,rfl,t+1,d1,by omega,rfl,ed1,rfl⟩)))))
  ·rw[ed]at e2
   cases e2
   refine .eq (Z6 (Zm rfl rfl rfl)) ?_;exact .next ⟨rfl,sq A n m t,JA t,hopt,rfl⟩
 obtain⟨h,h1,h2,e⟩:=loop;refine⟨h,h1,h2,?_⟩;unfold V6 runT;rw[if_pos (show [tT A n m (n + ·)].length=1 from rfl)];show Zp (ZaX [some (tT A n m (n + ·)),none]) _ s=_;rw[YM e];rfl
end
set_option exponentiation.threshold 9000
theorem ZoF (o:Nat)(l:List Nat):Xq (nD o) (Zw l)=some (.bl (decide (o∈l))):=by
 have h:Xy (nD o) (l.map nD)=true:=by simp[Xy,Zr,Zeq,ZW,ZjO]
 show(if Xy (nD o) (l.map nD)=true then some (XX (nD o) (l.map nD))else none).map D.bl=_;rw[if_pos h,Zhz];rfl
noncomputable abbrev AA (K:List (List Nat)):Nat->Nat->Bool:=λx j=>decide (j∈K.getD x [])
theorem Zm5 {c:Ze->M Bool}(h:c ρ s=some (b,s))(h1:f ρ s=some (d,s))(h2:g ρ s=some (e,s)):Vr c f g ρ s=some (if b then d else e,s):=by
 unfold Vr;rw[YM h]
 cases b with
 | true=>exact h1
 | false=>exact h2
theorem ZcS {M:Nat}:Z9 N f++Z9 M g=Z9 (N+M) λj=>if j<N then f j else g (j-N):=by
 unfold Z9;rw[show qm (N+M)=qm N++(qm M).map (N + ·)from List.range_add,qP,qz];congr 1
 ·simp_all
 ·refine qT λj hj=>?_
  show g j=if N+j<N then f (N+j)else g (N+j-N);rw[if_neg (by omega),Nat.add_sub_cancel_left]
theorem Zqp:(qf k [d]).flatten=Z9 k λ_=>d:=by
 unfold Z9
 induction k with
 | zero=>rfl
 | succ k ih=>rw[qaQ,List.flatten_cons,ih,z5,qS,qz];rfl
theorem Zm6 (h1:-(2 ^ 63)<=k)(h2:k<2 ^ 63)(h3:ds.length*k.toNat<=xg):W2 (.lst ds) (.int k)=some (.lst (qf k.toNat ds).flatten):=by
 show(if _ then _ else _)=_;simp_all
theorem Zjc (d:D)(k:Nat)(hk:k<=1000):W2 (.lst [d]) (.int (k:Int))=some (.lst (Z9 k λ_=>d)):=by
 refine(Zm6 (by omega) (by omega) ?_).trans ?_
 ·exact qp (show 1*k<=1000 by omega) (by decide)
 ·rw[yK,Zqp]
section
variable {K:List (List Nat)}{n:Nat}
theorem Zcr (s:Pn)(hN:N<=1000)(r:D->Ze)(h1:f ρ s=some (nD N,s))(hr:∀d,ZI 0 d (Wp src ρ)=some (r d))(h:∀j,j<N->fe (r (nD j)) s=some (c j,s)):Yb src (Yt f) (ZI 0) Yi fe ρ s=some (.lst (Z9 N c),s):=by
 refine(XF r (λ_=>true) (λd=>match d with | .int z=>c z.toNat | _=>.non) (XB h1 (by omega)) (by unfold Yw;rw[qe,qL];exact qp hN (by decide)) λd md=>?_).trans ?_
 ·obtain⟨j,hj,rfl⟩:=qu.mp md
  have hj:=qY.mp hj;rw[qak];exact⟨hr _,rfl,λ_=>h j hj⟩
 ·unfold Yw
  rw[yy.mpr λ_ _=>rfl,qz];congr 3;refine qT λj _=>?_;show c (0+(j:Int)).toNat=c j;simp
theorem ZjZ {W:Nat->D}(s:Pn)(hw:∀k,k<m->∀o5,fw [none,some a,some b,some c,some (nD k),o5] s=some (W k,s))(hr:∀k,k<m->fr [none,some a,some b,some c,some (nD k),some (W k)] s=some (R k,s)):∀(l:List Nat),(∀k∈l,k<m)->∀o4 o5,∃o4' o5',mIni fw fr (l.map nD) [none,some a,some b,some c,o4,o5] s=some ((l.map R,[none,some a,some b,some c,o4',o5']),s)
 | [],_,o4,o5=>⟨o4,o5,rfl⟩
 | k::l,hl,o4,o5=>by
  obtain⟨p4,p5,e⟩:=ZjZ s hw hr l (λk hk=>hl k (by simp[hk])) (some (nD k)) (some (W k));refine⟨p4,p5,?_⟩;have hk:=hl k (by simp);refine(YM (hw k hk o5)).trans ?_;refine(YM (hr k hk)).trans ?_;refine(YM e).trans ?_;rfl
theorem Zm7 (hm:K.length<=128)(hn:n<=100)(s:Pn):Zbb (nD n) (.lst (K.map Zw)) s=some (.int (n:Int) :: .lst (Z9 (K.length+1) λk=>YB (n+K.length+1) (RR (AA K) n K.length (n + ·) k)) :: .int (dl (cl (AA K) n K.length) K.length (n + ·))::Z9 K.length λk=>.int ((n+k:Nat):Int),s):=by
 obtain⟨_,e1,e2⟩:=ZhO (A:=AA K) (n:=n) (m:=K.length);generalize hM:K.length=m at *
 -- rows
 have rowE:∀k,k<=m->YB (n+m+1) (RR (AA K) n m (n + ·) k)=YB (n+m+1) λj=>cl (AA K) n m j k:=λk hk=>by
  rw[show RR (AA K) n m (n + ·) k=λj=>cl (AA K) n m j k from funext λj=>e2 k j hk]
 have W:∀k,k<m->∀o5,Yb [none,some 2,some 4] (Yt (Za 1)) (ZI 0) Yi (Vr (ZF (Zc Xq (Za 0) (Zc Zn (Za 1) (Za 2)))) (dC (.int 1)) (dC (.int 0))) [none,some (nD n),some (.lst (K.map Zw)),some (nD m),some (nD k),o5] s=some (.lst (Z9 n λj=>if AA K k j then .int 1 else .int 0),s):=λk hk o5=>by
  refine Zcr s (by omega) (λd=>[some d,some (.lst (K.map Zw)),some (nD k)]) rfl (λ_=>rfl) λj hj=>?_;refine Zm5 (Z6 (Zm rfl (Zm (d:=.lst (K.map Zw)) (e:=nD k) (c:=Zw (K.getD k [])) rfl rfl ?_) (ZoF j _))) rfl rfl;refine(show Xz (K.map Zw) (k:Int)=_ from Vf ?_);rw[qI,qX (by omega)];simp[qco,qX (show k<K.length by omega)]
 have sz:∀a b:Nat,a+b<=1000->a+b<=xg:=λa b h=>qp h (by decide);have R:∀k,k<m->Zc ZY (Zc ZY (Za 5) (Yb [none,some 4] (Yt (Za 3)) (ZI 0) Yi (Vr (ZF (Zc YF (Za 0) (Za 1))) (dC (.int 1)) (dC (.int 0))))) (Yz (Zb (dC (.int 1)) Zf)) [none,some (nD n),some (.lst (K.map Zw)),some (nD m),some (nD k),some (.lst (Z9 n λj=>if AA K k j then .int 1 else .int 0))] s=some (YB (n+m+1) λj=>cl (AA K) n m j k,s):=λk hk=>by
  have hc:=Zcr (src:=[none,some 4]) (f:=Za 3) (fe:=Vr (ZF (Zc YF (Za 0) (Za 1))) (dC (.int 1)) (dC (.int 0))) (ρ:=[none,some (nD n),some (.lst (K.map Zw)),some (nD m),some (nD k),some (.lst (Z9 n λj=>if AA K k j then .int 1 else .int 0))]) (N:=m) (c:=λj=>if ((j:Int)==(k:Int))then .int 1 else .int 0) s (by omega) (λd=>[some d,some (nD k)]) rfl (λ_=>rfl) λj hj=>Zm5 (Z6 (Zm rfl rfl (V2 (j:Int) k))) rfl rfl;have a1:∀(x y:List D),x.length+y.length<=1000->ZY (.lst x) (.lst y)=some (.lst (x++y)):=λx y h=>by
   show(if x.length+y.length<=xg then _ else none)=_;rw[if_pos (qp h (by decide))]
  refine Zm (Zm rfl hc (a1 _ _ (by simp;omega))) (WM (ds:=[.int 1]) (Zg rfl rfl) (by show 1<=xg;decide)) ((a1 _ _ (by simp;omega)).trans ?_);refine congrArg (λx=>some (D.lst x)) ?_;rw[show([D.int 1]:List D)=Z9 1 λ_=>.int 1 from rfl,ZcS,ZcS];refine qT λj hj=>?_;have hj:=qY.mp hj;show(if j<n+m then (if j<n then (if AA K k j=true then D.int 1 else .int 0)else if (((j-n:Nat):Int)==(k:Int))=true then .int 1 else .int 0)else .int 1)=D.int (cl (AA K) n m j k);unfold cl un;by_cases h1:j<n
  ·rw[if_pos (by omega),if_pos h1,if_pos h1,if_pos hk]
   split <;> rfl
  ·by_cases h2:j<n+m
   ·rw[if_pos h2,if_neg h1,if_neg h1,if_pos h2]
    by_cases h3:k=j-n
    ·subst h3;simp
    ·rw[if_neg (by simp;omega),if_neg h3]
   ·rw[if_neg h2,if_neg h1,if_neg h2,if_pos (by omega),if_pos hk]
 have L:∀o4 o5,Zc ZY (Zc W2 (Yz (Zb (dC (.int (-1))) Zf)) (Za 1)) (Zc W2 (Yz (Zb (dC (.int 0)) Zf)) (Zc ZY (Za 3) (dC (.int 1)))) [none,some (nD n),some (.lst (K.map Zw)),some (nD m),o4,o5] s=some (YB (n+m+1) λj=>cl (AA K) n m j m,s):=λo4 o5=>by
  have h1:=Zjc (.int (-1)) n (by omega);have h2:=Zjc (.int 0) (m+1) (by omega);refine Zm (Zm (WM (ds:=[.int (-1)]) (Zg rfl rfl) (by show 1<=xg;decide)) rfl h1) (Zm (WM (ds:=[.int 0]) (Zg rfl rfl) (by show 1<=xg;decide)) (Zm (c:=.int ((m+1:Nat):Int)) rfl rfl rfl) h2) ?_;show(if _ then _ else none)=_;rw[if_pos (qp (show _<=1000 by simp;omega) (by decide)),ZcS];refine congrArg (λx=>some (D.lst x)) ?_;refine qT λj hj=>?_;have hj:=qY.mp hj;show(if j<n then D.int (-1)else .int 0)=D.int (cl (AA K) n m j m);unfold cl un;by_cases h1:j<n
  ·rw[if_pos h1,if_pos h1,if_neg (by omega),if_pos rfl]
  ·by_cases h2:j<n+m
   ·rw[if_neg h1,if_neg h1,if_pos h2,if_neg (by omega)]
   ·rw[if_neg h1,if_neg h1,if_neg h2,if_pos (by omega),if_neg (by omega)]
 have Hh:∀o4 o5,Yb [none,some 1] (Yt (Za 3)) (ZI 0) Yi (Zc ZY (Za 1) (Za 0)) [none,some (nD n),some (.lst (K.map Zw)),some (nD m),o4,o5] s=some (.lst (Z9 m λk=>.int ((n+k:Nat):Int)),s):=λo4 o5=>
  Zcr s (by omega) (λd=>[some d,some (nD n)]) rfl (λ_=>rfl) λj hj=>Zm rfl rfl rfl
 obtain⟨o4,o5,hI⟩:=ZjZ (m:=m) s W R (qm m) (λk hk=>qY.mp hk) none none;have hr:Yw 0 m=(qm m).map nD:=by
  unfold Yw;exact qT λk _=>by rw[qak]
 unfold Zbb iniF;refine(YM (Yv (Zg rfl rfl) (show YZ [.lst (K.map Zw)]=some (nD m) by show some (D.int _)=_;rw[qe,hM]))).trans ?_;refine(YM (XB (n:=m) rfl (by omega))).trans ?_;rw[hr];refine(YM hI).trans ?_;refine(YM (L o4 o5)).trans ?_;refine(YM (Hh o4 o5)).trans ?_;show(match Yc (Z9 m λk=>.int ((n+k:Nat):Int))with | some ns=>_ | none=>ZS) s=_;rw[Zgv];simp only;rw[if_pos ?_]
 ·show some (_,s)=some (_,s)
  congr 2;rw[e1];congr 2
  ·congr 1
   unfold Z9;rw[zU,qP];congr 1
   ·refine qT λk hk=>?_
    rw[rowE k (by have:=qY.mp hk;omega)]
   ·show [_]=[YB (n+m+1) (RR (AA K) n m (n + ·) m)]
    rw[rowE m (qk m)]
  ·rw[qz];rfl
 ·refine⟨?_,?_⟩
  ·have:∀(l:List D),(∀d∈l,Z2 d=true)->Yl l=true:=λl=>by
    induction l with
    | nil=>intro _;rfl
    | cons a l ih=>
     intro h;simp only[Yl];rw[h a (by simp),ih λd hd=>h d (by simp[hd])];rfl
   refine this _ λd hd=>?_;rcases qV.mp hd with z | z
   ·obtain⟨k,_,rfl⟩:=qu.mp z
    exact Bm
   ·rw[zP.mp z];exact Bm
  ·rw[qe,qL]
   exact qp (show m+1<=1000 by omega) (by decide)
end
set_option exponentiation.threshold 9000
section
variable {A:Nat->Nat->Bool}{n m:Nat}{h:Nat->Nat}(hm:m<=128)(f:Feas (cl A n m) m (n+m) h)
include hm f
theorem Zm8 (s:Pn):Bl [tT A n m h] s=some (Xi (RR A n m h m (n+m)) (dl (cl A n m) m h),s):=
 Yr rfl (ZX (YW (Ym (Zg (Zm (Zm (XQ s rfl rfl) rfl Jn) rfl Jn) (Zg (XQ s rfl rfl) rfl)) (Zja f.pos (wdl hm) s))))
theorem Zm9 (hi:i<m)(s:Pn):Jp [tT A n m h,nD i] s=some (Xi (RR A n m h m (n+i)) (dl (cl A n m) m h),s):=by
 refine Yr rfl (ZX (YW (Ym (Zg (Zm (Zm (XQ s rfl rfl) rfl Jn) (Zm (XQ s rfl rfl) rfl ?_) (Wj (by omega))) (Zg (XQ s rfl rfl) rfl)) (Zja f.pos (wdl hm) s))));rfl
theorem Zk6 (s:Pn):Jm [tT A n m h,nD j] s=some (Xi (wt A n m h j) (dl (cl A n m) m h),s):=by
 have hno:ZF (Zcg 0 (Za 1)) [some (tT A n m h),some (nD j)] s=some (!decide ((j:Int)∈(qm m).map λk=>((h k:Nat):Int)),s):=by
  refine Z6 ?_;unfold Zcg;refine(YM (VD (d:=nD j) rfl)).trans ?_;refine XQ s rfl ?_;rw[ZdF];have e:((qm m).map λk=>((h k:Nat):Int)).map D.int=((qm m).map h).map nD:=by rw[qz,qz];rfl
  rw[e];refine(ZhH j _).trans ?_;congr 3;rw[decide_eq_decide,qu,qu];constructor
  ·rintro⟨k,h1,h2⟩;exact⟨k,h1,by omega⟩
  ·rintro⟨k,h1,h2⟩;exact⟨k,h1,by omega⟩
 by_cases q:∃k,k<m/\h k=j
 ·obtain⟨k,hk,rfl⟩:=q
  have hin:((h k:Nat):Int)∈(qm m).map λk=>((h k:Nat):Int):=qu.mpr ⟨k,qY.mpr hk,rfl⟩;rw[decide_eq_true hin]at hno;have hat:Zdx 0 (Za 1) [some (tT A n m h),some (nD (h k))] s=some (nD k,s):=by
   unfold Zdx;refine(YM (VD rfl)).trans ?_;refine XQ s rfl ?_;rw[ZdF];show((Yc _).bind λns=>_)=_;rw[Zar];have hlt:=qbw.mpr hin;have hg:=List.getElem_idxOf hlt;rw[qbv,List.getElem_range]at hg;rw[qe,qL]at hlt;have:=f.good.inj hlt hk (by omega);simp_all
  rw[Zpd f hk];exact Yr rfl (Yh (W3 hno rfl) (ZX (YW (Ym (Zg (Zm (Zm (XQ s rfl rfl) hat (Wj (by omega))) rfl Jn) (Zg (XQ s rfl rfl) rfl)) (Zja f.pos (wdl hm) s)))))
 ·have hout:=λk hk e=>q ⟨k,hk,e⟩
  have hnin:¬(j:Int)∈(qm m).map λk=>((h k:Nat):Int):=λz=>by
   obtain⟨k,h1,h2⟩:=qu.mp z;exact hout k (qY.mp h1) (by omega)
  rw[decide_eq_false hnin]at hno;rw[ZmQ f hout];refine(Yr rfl (ZX (WE hno (ZX (YW (Xe (Zg rfl (Zg rfl rfl)) (by decide))))))).trans ?_;have p:=f.pos;have e:Xi 0 (dl (cl A n m) m h)=.tup [.int 0,.int 1]:=by
   unfold Xi;rw[Int.gcd_zero_left,show((dl (cl A n m) m h).natAbs:Int)=dl (cl A n m) m h by omega,Int.zero_ediv,Int.ediv_self (by omega)]
  rw[e]
end
section
variable {K:List (List Nat)}{n:Nat}{jO:Qa}
theorem ZeA (l:List Nat):Z2 (Zw l)=true:=by
 have:∀l:List Nat,Yl (l.map nD)=true:=λl=>by
  induction l with
  | nil=>rfl
  | cons a l ih=>simp only[qS,Yl,ih];rfl
 exact this l
noncomputable abbrev covD (K:List (List Nat))(n:Nat)(h:Nat->Nat):List D:=Z9 K.length λi=>.tup [Zw (K.getD i []),Xi (RR (AA K) n K.length h K.length (n+i)) (dl (cl (AA K) n K.length) K.length h)]
theorem Zk7 (hm:K.length<=128)(hn:n<=100)(hK:∀s,Zx F_full_knots (Zb (Zx V8 (Zb (Za 0) Zf)) Zf) [some (ZG n jO),none,none,none,none] s=some (.lst (K.map Zw),s))(cov:∀j,j<n->∃x,x<K.length/\AA K x j=true)(hnt:Z2 (ZG n jO)=true)(s:Pn) :
  ∃h,Feas (cl (AA K) n K.length) K.length (n+K.length) h/\(∀j,j<n+K.length->0<=RR (AA K) n K.length h K.length j)/\
   Bo [ZG n jO] s=some (.tup [Xi (RR (AA K) n K.length h K.length (n+K.length)) (dl (cl (AA K) n K.length) K.length h),.lst ((covD K n h).filter λd=>match d with | .tup [_,.tup [.int t,_]]=>decide (0<t) | _=>false),.tup (Z9 n λj=>Xi (wt (AA K) n K.length h j) (dl (cl (AA K) n K.length) K.length h))],s):=by
 obtain⟨h,hf,hopt,he⟩:=Zk5 cov hm hn s;refine⟨h,hf,hopt,?_⟩;have hi:=Zm7 (K:=K) hm hn s;generalize hM:K.length=m at *;have lK:(.lst (K.map Zw):D)=.lst (Z9 m λi=>Zw (K.getD i [])):=by
  refine congrArg D.lst ?_;apply qbc;intro i;rw[qI,qI];by_cases hi:i<m
  ·rw[yW hi,qX (by omega)]
   simp[qco,qX (show i<K.length by omega)]
  ·rw[qbZ (by omega),qbZ (by simp;omega)];rfl
 have ncK:Z2 (.lst (K.map Zw))=true:=by
  rw[lK];simp only[Z2];exact ZaQ λ_=>ZeA _
 refine Yr rfl (Yh (Wd (hK s)) ?_);unfold ZiW;refine(YM (Zg (Zm (d:=ZG n jO) (e:=.int 0) rfl rfl Ww) (Zg rfl rfl))).trans ?_;refine(YM hi).trans ?_;rw[if_pos ⟨by show 2<5;decide,by show(Z2 (ZG n jO)&&(Z2 (.lst (K.map Zw))&&(true&&(true&&(true&&true)))))=true;rw[hnt,ncK];rfl⟩];have hg:(Zh (VN V6 2 Zf)
 (Zh (ZT 3 (Yb [none,some 1,some 2] (Yt (ZO YZ (Zb (Za 1) Zf))) (ZI 0) Yi (ZB (Zb (Zc Zn (Za 1) (Za 0)) (Zb (XG Jp 2 (Zb (Za 0) Zf)) Zf)))))
 (Zh (ZT 4 (ZO Ue (Zb (Yb [none,some 2] (Yt (Zc Zn (Za 0) (dC (.int 0)))) (ZI 0) Yi (XG Jm 1 (Zb (Za 0) Zf))) Zf)))
 (Zh (ZL (ZB (Zb (XG Bl 2 Zf) (Zb (Yb [none] (Xv (Za 3)) (ZI 0) (ZF (Zc VM (Zc Zn (Zc Zn (Za 0) (dC (.int 1))) (dC (.int 0))) (dC (.int 0)))) (Za 0)) (Zb (Za 4) Zf)))))
 Zq)))) [some (ZG n jO),some (.lst (K.map Zw)),some (tT (AA K) n m (n + ·)),none,none] s=some (.rt (.tup [Xi (RR (AA K) n m h m (n+m)) (dl (cl (AA K) n m) m h),.lst ((Z9 m λi=>.tup [Zw (K.getD i []),Xi (RR (AA K) n m h m (n+i)) (dl (cl (AA K) n m) m h)]).filter λd=>match d with | .tup [_,.tup [.int t,_]]=>decide (0<t) | _=>false),.tup (Z9 n λj=>Xi (wt (AA K) n m h j) (dl (cl (AA K) n m) m h))]),s):=by
  refine Yh (?_:VN V6 2 Zf _ s=some (.nx [some (ZG n jO),some (.lst (K.map Zw)),some (tT (AA K) n m h),none,none],s)) ?_
  ·unfold VN
   refine(YM (VD (d:=tT (AA K) n m (n + ·)) rfl)).trans ?_;refine(YM rfl).trans ?_;refine(YM he).trans ?_;exact Zcq s rfl rfl (by show(Z2 (ZG n jO)&&(Z2 (.lst (K.map Zw))&&(true&&(true&&(true&&true)))))=true;rw[hnt,ncK];rfl) ZaC
  have c1:=Zcr (src:=[none,some 1,some 2]) (f:=ZO YZ (Zb (Za 1) Zf)) (fe:=ZB (Zb (Zc Zn (Za 1) (Za 0)) (Zb (XG Jp 2 (Zb (Za 0) Zf)) Zf))) (ρ:=[some (ZG n jO),some (.lst (K.map Zw)),some (tT (AA K) n m h),none,none]) (N:=m) (c:=λi=>.tup [Zw (K.getD i []),Xi (RR (AA K) n m h m (n+i)) (dl (cl (AA K) n m) m h)]) s (by omega) (λd=>[some d,some (.lst (K.map Zw)),some (tT (AA K) n m h)]) (Yv (Zg rfl rfl) (show YZ [.lst (K.map Zw)]=some (nD m) by show some (D.int _)=_;rw[qe,hM])) (λ_=>rfl) λj hj=>by
   refine Xe (Zg (Zm (d:=.lst (K.map Zw)) (e:=nD j) rfl rfl ?_) (Zg (UI rfl (Zg rfl rfl) (Zm9 hm hf hj s)) rfl)) (by show 2<=xg;decide);rw[lK];exact Wj hj
  refine Yh (Wd c1) ?_;have c2:∀o3:Option D,Yb [none,some 2] (Yt (Zc Zn (Za 0) (dC (.int 0)))) (ZI 0) Yi (XG Jm 1 (Zb (Za 0) Zf)) [some (ZG n jO),some (.lst (K.map Zw)),some (tT (AA K) n m h),o3,none] s=some (.lst (Z9 n λj=>Xi (wt (AA K) n m h j) (dl (cl (AA K) n m) m h)),s):=λo3=>
   Zcr s (by omega) (λd=>[some d,some (tT (AA K) n m h)]) (Zm (d:=ZG n jO) (e:=.int 0) rfl rfl Ww) (λ_=>rfl) λj hj=>UI rfl (Zg rfl rfl) (Zk6 hm hf s)
  refine Yh (Wd (Yv (Zg (c2 _) rfl) rfl)) ?_;refine ZX (YW (Xe (Zg (UI rfl rfl (Zm8 hm hf s)) (Zg ((XF (λd=>[some d]) (λd=>match d with | .tup [_,.tup [.int t,_]]=>decide (0<t) | _=>false) id (Ua rfl) (by unfold Z9;rw[qe,qL];exact qp hm (by decide)) λd md=>?_).trans (by rw[qaV])) (Zg rfl rfl))) (by show 3<=xg;decide)));obtain⟨i,_,rfl⟩:=qu.mp md;refine⟨rfl,Z6 (Zm (Zm (Zm rfl rfl (Uo _ _ _)) rfl (VF _ _)) rfl rfl),λ_=>rfl⟩
 unfold ZjK;have hg2:=hg;show(match (Zh (VN V6 2 Zf) _ [some (ZG n jO),some (.lst (K.map Zw)),some (tT (AA K) n m (n + ·)),none,none] s)with | some (.nx ρ,s')=>_ | some (.rt d,s')=>_ | _=>none)=_;rw[hg2];have cl0:∀(l:List D),(∀d∈l,Z2 d=true)->Yl l=true:=λl=>by
  induction l with
  | nil=>intro _;rfl
  | cons a l ih=>
   intro h;simp only[Yl];rw[h a (by simp),ih λd hd=>h d (by simp[hd])];rfl
 have cA:Yl ((Z9 m λi=>.tup [Zw (K.getD i []),Xi (RR (AA K) n m h m (n+i)) (dl (cl (AA K) n m) m h)]).filter λd=>match d with | .tup [_,.tup [.int t,_]]=>decide (0<t) | _=>false)=true:=by
  refine cl0 _ λd hd=>?_;obtain⟨i,_,rfl⟩:=qu.mp (qA.mp hd).1;show(Z2 (Zw (K.getD i []))&&(Z2 (Xi _ _)&&true))=true;rw[ZeA];rfl
 have cB:Yl (Z9 n λj=>Xi (wt (AA K) n m h j) (dl (cl (AA K) n m) m h))=true:=ZaQ λ_=>rfl;have cC:Z2 (.tup [Xi (RR (AA K) n m h m (n+m)) (dl (cl (AA K) n m) m h),.lst ((Z9 m λi=>.tup [Zw (K.getD i []),Xi (RR (AA K) n m h m (n+i)) (dl (cl (AA K) n m) m h)]).filter λd=>match d with | .tup [_,.tup [.int t,_]]=>decide (0<t) | _=>false),.tup (Z9 n λj=>Xi (wt (AA K) n m h j) (dl (cl (AA K) n m) m h))])=true:=by
  simp only[Z2,Yl];rw[cA,cB];rfl
 have cD:=And.intro cC (show JC (.tup [Xi (RR (AA K) n m h m (n+m)) (dl (cl (AA K) n m) m h),.lst ((Z9 m λi=>.tup [Zw (K.getD i []),Xi (RR (AA K) n m h m (n+i)) (dl (cl (AA K) n m) m h)]).filter λd=>match d with | .tup [_,.tup [.int t,_]]=>decide (0<t) | _=>false),.tup (Z9 n λj=>Xi (wt (AA K) n m h j) (dl (cl (AA K) n m) m h))])=false from rfl);show(if _ then _ else _)=_;rw[if_pos cD]
 first | done | rfl | (subst hM;rfl)
end
end TQ
namespace TF
open L2
noncomputable def cdV (v:Bool)(x q:Str)(t:Nat)(ln ac:Int)(a:Addr)(tx k:Nat):Obj:=
 ⟨.type "code",none,.fields (#[.str x t,.str q (t+1),.str "/claim/cut.py" (t+2),.int ln 0,.int ac 0,.int 0 0,.int 0 0,.int 3 0,.ref a,.bool true,.int tx 0,.ref (a+1),.none]++(if v then #[.ref (a+2),.ref (a+3),.ref (a+4)]else #[.none,.none,.ref (a+2)]) ++ #[.int k 0,.int ln 0,.str "/claim/cut.py" (k+1)]),#[]⟩
structure MRV where
 x:Str
 q:Str
 i:Nat
 t:Nat
 ln:Int
 ac:Int
 a:Addr
 k:Nat
 v:Bool
noncomputable def MRV.c (r:MRV):Addr:=if r.v then r.a+5 else r.a+3
noncomputable def Zq3 (cls:Stmt)(tx:Nat)(pm:Value)(rs:List MRV):qd:=rs.flatMap λr=>[(r.c,cdV r.v r.x r.q r.t r.ln r.ac r.a tx r.k),(r.c+1,fnM r.x r.q (Va cls r.i) pm r.c)]
noncomputable def Zpf (K:qd)(cls:Stmt)(C:Addr)(pm:Value)(r:MRV):Prop:=Meth K C r.x (r.c+1)/\K.lookup (r.c+1)=some (fnM r.x r.q (Va cls r.i) pm r.c)/\yL K (.ref r.c) r.q=true
noncomputable def Zgw (K:qd)(cls:Stmt)(C:Addr)(pm:Value):List MRV->Prop
 | []=>True
 | r::l=>Zpf K cls C pm r/\Zgw K cls C pm l
theorem Zj0 {K:qd}{cls:Stmt}{C:Addr}{pm:Value}:∀{l:List MRV} {j:Nat} {r:MRV},Zgw K cls C pm l->l[j]?=some r->Zpf K cls C pm r
 | _::_,0,_,h,e=>by cases e;exact h.1
 | _::l,j+1,_,h,e=>Zj0 h.2 e
theorem VR {K:qd}{cls:Stmt}{C:Addr}{pm:Value}{l:List MRV}{r:MRV}(ok:Zgw K cls C pm l)(j:Nat)(e:l[j]?=some r:=by rfl):∃(f:Addr) (fd:xC),Fun K r.x r.q (Va cls r.i) f fd/\Meth K C r.x f:=by
 obtain⟨a,b,c⟩:=Zj0 ok e;exact⟨_,_,ZlD b c a.kp,a⟩
end TF
namespace K28
open L2 TF TQ
open TP
open TP2 hiding g_all_near F_all_near
open TP3 hiding g_full_knots F_full_knots
noncomputable def top (i:Nat):Stmt:=PySem.Challenge.pw_tiefold_k28_weights_looked_at.main.body.getD i (.Pass ⟨0,0,0,0⟩)
noncomputable abbrev ZeB:Stmt:=top 1
noncomputable abbrev ZbC:Stmt:=top 2
noncomputable abbrev ZeC:Stmt:=top 3
noncomputable abbrev Zjd:Stmt:=top 5
noncomputable abbrev ZbU:Stmt:=top 6
noncomputable abbrev ZeD:Stmt:=top 7
noncomputable abbrev ZaJ:Stmt:=top 8
noncomputable abbrev Zcs:Stmt:=top 9
noncomputable abbrev Zbd:Stmt:=top 10
noncomputable abbrev ZaY:Stmt:=top 12
noncomputable abbrev Zbe:Stmt:=top 13
noncomputable abbrev ZaK:Stmt:=top 14
noncomputable abbrev ZcT:Stmt:=top 15
noncomputable abbrev Zag:Stmt:=top 17
noncomputable abbrev ZbV:Stmt:=top 18
noncomputable abbrev ZbD:Stmt:=top 19
noncomputable abbrev ZaD:Stmt:=top 20
noncomputable abbrev Zbf:Stmt:=top 21
noncomputable abbrev Zj1:Stmt:=top 22
noncomputable abbrev Zbg:Stmt:=top 23
noncomputable abbrev Zc6:Stmt:=top 26
noncomputable abbrev Zc7:Stmt:=top 27
noncomputable abbrev ZbW:Stmt:=top 28
noncomputable abbrev Zc8:Stmt:=top 29
noncomputable abbrev ZaZ:Stmt:=top 31
noncomputable abbrev ZaE:Stmt:=top 33
noncomputable abbrev Zct:Stmt:=top 34
noncomputable abbrev ZaL:Stmt:=top 37
noncomputable abbrev Zc9:Stmt:=top 38
noncomputable abbrev Zda:Stmt:=top 39
noncomputable abbrev s_law:Stmt:=top 40
noncomputable abbrev Zae:Stmt:=Va (top 24) 0
noncomputable abbrev ZeE:Stmt:=Va (top 24) 1
noncomputable abbrev Zac:Stmt:=Va (top 24) 2
noncomputable abbrev ZaR:Stmt:=Va (top 24) 3
noncomputable abbrev Zbh:Stmt:=Va (top 24) 4
noncomputable abbrev Za0:Stmt:=Va (top 24) 5
noncomputable abbrev Zbi:Stmt:=Va (top 24) 6
noncomputable abbrev ZfJ:Stmt:=Va (top 24) 7
noncomputable abbrev ZfK:Stmt:=Va (top 24) 8
noncomputable abbrev ZeF:Stmt:=Va (top 24) 9
structure Txt (mg:Str->Option Value):Prop where
 b_abs:mg "abs" = none
 b_all:mg "all" = none
 b_any:mg "any" = none
 b_bool:mg "bool" = none
 b_dict:mg "dict" = none
 b_int:mg "int" = none
 b_isinstance:mg "isinstance" = none
 b_len:mg "len" = none
 b_list:mg "list" = none
 b_max:mg "max" = none
 b_min:mg "min" = none
 b_range:mg "range" = none
 b_repr:mg "repr" = none
 b_sorted:mg "sorted" = none
 b_tuple:mg "tuple" = none
set_option maxHeartbeats 4000000
variable {P:xD}{w:World}{K:qd}{mg:Str->Option Value}{base:Heap}{j7:Addr}{jS:xC}
theorem Zam:FnScope ["a","b","rest"] ["a","b"] (Zz ZaD):=Yy
theorem Zbz (F:Fun K "greatest_divisor" "greatest_divisor" ZaD j7 jS)(T:Txt mg) :
  FnOk P w K mg base ZP 1 j7 jS ["a","b"] (Yf 2 false Z4 J7):=
 have jP:=Zam.nd
 YG (own:=[]) F Zam λcdv A outer s H E hr G hG=>
 (Zu (ZmA (own:=[]) qG (Y2 (BC hr.units) (va 1) Zk)
 (Zu (Yk (Z5 jP rfl (qt rfl) (ZA Zb3 (va 0) (va 1))))
 (Zu (Yk (Z5 jP rfl (qt rfl) (va 1)))
 (Zu (Yk (Z5 jP rfl (qt rfl) (va 2)))
 ZZ))))
 (Zu (Ya (PD.weak (Xk ZfE rfl T.b_abs TF.boot_abs (Zd (va 0) Zi))))
 ZZ))
theorem Za2:FnScope ["top","bottom","divisor"] ["top","bottom"] (Zz Zbf):=Yy
theorem Zdk (F:Fun K "lowest_terms" "lowest_terms" Zbf j7 jS)(T:Txt mg)(jW:Z3 P w K mg base 1 "greatest_divisor" 2 false Z4 J7) :
  FnOk P w K mg base ZP 2 j7 jS ["top","bottom"] (Yf 2 true Z4 UA):=
 have jP:=Za2.nd
 YG (own:=[]) F Za2 λcdv A outer s H E hr G hG=>
 (Zu (Yk (Z5 jP rfl (qt rfl) (Z7 (jW.mono) trivial hr (Zd (va 0) (Zd (va 1) Zi)))))
 (Zu (Ya (ZN (Zd (ZA ZcP (va 0) (va 2)) (Zd (ZA ZcP (va 1) (va 2)) Zi))))
 ZZ))
theorem Zbj:FnScope ["web"] ["web"] (Zz ZaJ):=Yy
theorem ZeG (F:Fun K "marked_ties" "marked_ties" ZaJ j7 jS)(T:Txt mg) :
  FnOk P w K mg base ZP 1 j7 jS ["web"] (Yf 1 true Z4 Jh):=
 have jP:=Zbj.nd
 YG (own:=[]) F Zbj λcdv A outer s H E hr G hG=>
 (Zu (Ya (UE (Zix rfl hr.units) rfl T.b_dict TF.boot_dict (Zd (Xw (bk ["web"] (Zz ZaJ).names ["tie"] [none]) (VP (ZD ZE (va 0) Zk)) Y9 XS (ZN (Zd (va 0) (Zd Xu Zi)))) Zi)))
 ZZ)
theorem Zdb:FnScope ["ties","a","b"] ["ties","a","b"] (Zz ZeD):=Yy
theorem ZhQ (F:Fun K "are_tied" "are_tied" ZeD j7 jS)(T:Txt mg) :
  FnOk P w K mg base ZP 1 j7 jS ["ties","a","b"] (Yf 3 false Z4 WL):=
 have jP:=Zdb.nd
 YG (own:=[]) F Zdb λcdv A outer s H E hr G hG=>
 (Zu (Ya (PD.weak (We (Zd1 hr.units) (ZN (Zd (Xk (ZdU rfl) rfl T.b_min TF.boot_min (Zd (va 1) (Zd (va 2) Zi))) (Zd (Xk (ZdT rfl) rfl T.b_max TF.boot_max (Zd (va 1) (Zd (va 2) Zi))) Zi))) (va 0))))
 ZZ)
theorem Zj2:FnScope ["web","place"] ["web","place"] (Zz Zjd):=Yy
theorem ZoG (F:Fun K "near" "near" Zjd j7 jS)(T:Txt mg)(kP:Z3 P w K mg base 1 "are_tied" 3 false Z4 WL) :
  FnOk P w K mg base ZP 2 j7 jS ["web","place"] (Yf 2 true Z4 Uf):=
 have jP:=Zj2.nd
 YG (own:=[]) F Zj2 λcdv A outer s H E hr G hG=>
 (Zu (Ya (Xw (bk ["web","place"] (Zz Zjd).names ["other","web","place"] [none,some 0,some 1]) (WK rfl T.b_range (ZD ZE (va 0) Zk)) Y9 (BH (X1 (Z7 (kP.mono) trivial hr (Zd (ZD ZE (va 1) Zk) (Zd (va 2) (Zd (va 0) Zi)))))) (va 0)))
 ZZ)
theorem Zdc:FnScope ["web","marked"] ["web"] (Zz ZbU):=Yy
theorem ZhR (F:Fun K "all_near" "all_near" ZbU j7 jS)(T:Txt mg)(kd:Z3 P w K mg base 1 "marked_ties" 1 true Z4 Jh)(k9:Z3 P w K mg base 2 "near" 2 true Z4 Uf) :
  FnOk P w K mg base ZP 3 j7 jS ["web"] (Yf 1 true Z4 F_all_near):=
 have jP:=Zdc.nd
 YG (own:=[]) F Zdc λcdv A outer s H E hr G hG=>
 (Zu (Yk (Z5 jP rfl (z7 rfl) (ZN (Zd (ZD ZE (va 0) Zk) (Zd (Z7 (kd.mono) trivial hr (Zd (va 0) Zi)) Zi)))))
 (Zu (Ya (Xw (bk ["web","marked"] (Zz ZbU).names ["place","marked"] [none,some 1]) (WK rfl T.b_range (ZD ZE (va 0) Zk)) Y9 XS (Z7 (k9.mono) trivial hr (Zd (va 1) (Zd (va 0) Zi)))))
 ZZ))
theorem Zbk:FnScope ["nears","place","knot"] ["nears","place","knot"] (Zz ZaK):=Yy
theorem ZeH (F:Fun K "is_near_all" "is_near_all" ZaK j7 jS)(T:Txt mg) :
  FnOk P w K mg base ZP 1 j7 jS ["nears","place","knot"] (Yf 3 false Z4 UB):=
 have jP:=Zbk.nd
 YG (own:=[]) F Zbk λcdv A outer s H E hr G hG=>
 (Zu (Ya (PD.weak (Xk (ZcG rfl) rfl T.b_all TF.boot_all (Zd (Xw (bk ["nears","place","knot"] (Zz ZaK).names ["other","nears","place"] [none,some 0,some 1]) (VP (va 2)) Y9 XS (We (Zd1 hr.units) (va 0) (ZD ZE (va 1) (va 2)))) Zi))))
 ZZ)
theorem Zcu:FnScope ["nears","knots","place"] ["nears"] (Zz Zbe):=Yy
theorem Zgx (F:Fun K "all_knots" "all_knots" Zbe j7 jS)(T:Txt mg)(ke:Z3 P w K mg base 1 "is_near_all" 3 false Z4 UB) :
  FnOk P w K mg base ZP 2 j7 jS ["nears"] (Yf 1 false Z4 Bf):=
 have jP:=Zcu.nd
 YG (own:=[]) F Zcu λcdv A outer s H E hr G hG=>
 (Zu (Yk (Z5 jP rfl (qt rfl) (Y0 (Zd (ZN Zi) Zi))))
 (Zu (XE (own:=[]) qG rfl (UC rfl T.b_range (WJ T.b_len (Zd (va 0) Zi))) (XD jP rfl (z7 rfl) (by decide))
 (Zu (Yk (Z5 jP rfl (qt rfl) (ZA Yu (va 1) (Xw (bk ["nears","knots","place"] (Zz Zbe).names ["knot","place","nears"] [none,some 2,some 0]) (Vd (va 1)) Y9 (BH (X1 (Z7 (ke.mono) trivial hr (Zd (va 2) (Zd (va 1) (Zd (va 0) Zi)))))) (ZA Yu (va 0) (ZN (Zd (va 1) Zi)))))))
 ZZ))
 (Zu (Ya (va 1))
 ZZ)))
theorem ZeI:FnScope ["nears","knot"] ["nears","knot"] (Zz ZcT):=Yy
theorem Zje (F:Fun K "is_full" "is_full" ZcT j7 jS)(T:Txt mg)(ke:Z3 P w K mg base 1 "is_near_all" 3 false Z4 UB) :
  FnOk P w K mg base ZP 2 j7 jS ["nears","knot"] (Yf 2 false Z4 Bk):=
 have jP:=ZeI.nd
 YG (own:=[]) F ZeI λcdv A outer s H E hr G hG=>
 (Zu (Ya (PD.weak (Zin (Xk (Zko rfl) rfl T.b_any TF.boot_any (Zd (Xw (bk ["nears","knot"] (Zz ZcT).names ["place","nears","knot"] [none,some 0,some 1]) (WK rfl T.b_range (WJ T.b_len (Zd (va 0) Zi))) Y9 XS (Z7 (ke.mono) trivial hr (Zd (va 1) (Zd (va 0) (Zd (va 2) Zi))))) Zi)))))
 ZZ)
theorem ZbE:FnScope ["web","nears"] ["web"] (Zz ZaY):=Yy
theorem Ze9 (F:Fun K "full_knots" "full_knots" ZaY j7 jS)(T:Txt mg)(kJ:Z3 P w K mg base 2 "all_knots" 1 false Z4 Bf)(kQ:Z3 P w K mg base 3 "all_near" 1 true Z4 F_all_near)(kU:Z3 P w K mg base 2 "is_full" 2 false Z4 Bk) :
  FnOk P w K mg base ZP 4 j7 jS ["web"] (Yf 1 true Z4 F_full_knots):=
 have jP:=ZbE.nd
 YG (own:=[]) F ZbE λcdv A outer s H E hr G hG=>
 (Zu (Yk (Z5 jP rfl (z7 rfl) (Z7 (kQ.mono) trivial hr (Zd (va 0) Zi))))
 (Zu (Ya (Xk Ze1 rfl T.b_sorted TF.boot_sorted (Zd (Xw (bk ["web","nears"] (Zz ZaY).names ["knot","nears"] [none,some 1]) (Vd (Z7 (kJ.mono) trivial hr (Zd (va 1) Zi))) Y9 (BH (X1 (Z7 (kU.mono) trivial hr (Zd (va 1) (Zd (va 0) Zi))))) (va 0)) Zi)))
 ZZ))
theorem Zdd:FnScope ["row","pairs","i","j"] ["row"] (Zz ZeC):=Yy
theorem ZhS (F:Fun K "pairs_of" "pairs_of" ZeC j7 jS)(T:Txt mg) :
  FnOk P w K mg base ZP 1 j7 jS ["row"] (Yf 1 true Z4 Zau):=
 have jP:=Zdd.nd
 YG (own:=[]) F Zdd λcdv A outer s H E hr G hG=>
 (Yq (own2:=[1]) (Jr (Z5 jP rfl (qt rfl) (Y0 Zi)))
 (Yq (own2:=[1]) (XE (own:=[1]) qG rfl (UC rfl T.b_range (WJ T.b_len (Zd (va 0) Zi))) (XD jP rfl (qt rfl) (by decide))
 (Yq (own2:=[1]) (XE (own:=[1]) qG rfl (Za7 rfl T.b_range (ZA Yu (va 2) Zk) (WJ T.b_len (Zd (va 0) Zi))) (XD jP rfl (qt rfl) (by decide))
 (Yq (own2:=[1]) (Bn (own:=[1]) (i:=1) (by decide) (ZN (Zd (ZD ZE (va 0) (va 2)) (Zd (ZD ZE (va 0) (va 3)) Zi))) (λ_ h=>Bi (pv 1) h))
 (Ys (own:=[1]))))
 (Ys (own:=[1]))))
 (Yq (own2:=[1]) (ZdR (i:=1) (by decide) (pv 1))
 (Ys (own:=[1])))))
theorem Zcv:FnScope ["row","tied","pairs"] ["row","tied"] (Zz Zbd):=Yy
theorem Zgy (F:Fun K "web_where" "web_where" Zbd j7 jS)(T:Txt mg)(kZ:Z3 P w K mg base 1 "pairs_of" 1 true Z4 Zau) :
  FnOk P w K mg base ZP 5 j7 jS ["row","tied"] (Yf 2 false (BX P w K mg 4 2 Tl base) Zai):=
 have jP:=Zcv.nd
 YG (own:=[]) F Zcv λcdv A outer s H E hr G hG=>
 (Zu (Yk (Z5 jP rfl (qt rfl) (Z7 (kZ.mono) trivial hr (Zd (Zb4 rfl rfl T.b_range rfl T.b_list TF.boot_list (WJ T.b_len (Zd (va 0) Zi))) Zi))))
 (Zu (Ya (PD.weak (ZN (Zd (WJ T.b_len (Zd (va 0) Zi)) (Zd (UE (Ba) rfl T.b_tuple TF.boot_tuple (Zd (Xw (bk ["row","tied","pairs"] (Zz Zbd).names ["pair","tied","row"] [none,some 1,some 0]) (Vd (va 2)) Y9 (BH (X1 (ZlV hG (hr.mono (by decide)) (pv 1) (Zd (ZD ZE (va 2) (ZD ZE (va 0) Zk)) (Zd (ZD ZE (va 2) (ZD ZE (va 0) Zk)) Zi)) (YI (YI WB))))) (va 0)) Zi)) Zi)))))
 ZZ))
theorem ZfL:FnScope ["web","ties"] ["web"] (Zz Zcs):=Yy
theorem Zk8 (F:Fun K "turned" "turned" Zcs j7 jS)(T:Txt mg){L:List (Addr×Str)}(lo:Vs L)(kd:Z3 P w K mg base 1 "marked_ties" 1 true Z4 Jh)(kK:BY P w K mg 5 "web_where" 2 false (BX P w K mg 4 2 Tl) Zai)(kC:∀base,Z3 P w K mg base 1 "are_tied" 3 false Z4 WL){tc tP:Addr}(hcode:jS.code=.ref tc)(hCd:zZ base tc tP)(hBm:B3 mg base)(hL:(tP,(qN "turned.<locals>.<lambda>"))∈L) :
  FnOk P w K mg base ZP 6 j7 jS ["web"] (Yf 1 false (Wh L) V8):=
 have jP:=ZfL.nd
 fnDC (own:=[]) F ZfL λA outer s H E hr G hG=>
 have hT:Wh L G:=hG;have TG9:=hT _ _ hL;have M9:Mk0 (Vn ZP P w K mg base ["web","ties"] "turned" (Zz Zcs) j7 jS.code A outer s H E).nox tc tP:=⟨hcode,hCd,hBm⟩
 (Zu (Yk (Z5 jP rfl (z7 rfl) (Z7 (kd.mono) trivial hr (Zd (va 0) Zi))))
 (Zu (Ya (Ziz (kl:=3) (frb:=true) (N:=["a","b","ties"]) (ps:=["a","b"]) (cix:=[1]) (T:=Tl) (t:=0) (q:="turned.<locals>.<lambda>") M9 TG9 (kK.mono) (λ_=>rfl) hr rfl (Zb4 rfl rfl T.b_range rfl T.b_list TF.boot_list (ZD ZE (va 0) Zk)) rfl (⟨rfl,rfl,rfl,by decide +kernel,rfl,by decide +kernel,by decide +kernel⟩:CloScope ["a","b","ties"] ["a","b"] _) (⟨rfl,rfl,rfl,by decide +kernel,by decide +kernel⟩:CapS _ ["web","ties"] (Zz Zcs).names ["a","b","ties"] ["a","b"] [1] _) rfl (λ_ _ _ _ us hl=>match us,hl with | [_,_],_=>rfl) (λbase f c cl G A outer s H E hr=>(Zin (Z7 ((kC base).mono) trivial hr (Zd (va 2) (Zd (va 0) (Zd (va 1) Zi))))))))
 ZZ))
theorem Zan:FnScope ["self","columns"] ["self"] (Zz Zac):=Yy
theorem ZbA (F:Fun K "gaining_column" "Table.gaining_column" Zac j7 jS)(T:Txt mg){C:Addr}(kc:TCl K C) :
  FnOk P w K mg base ZP 1 j7 jS ["self"] (Yf 1 false (GT C) WS):=by
 have jP:=Zan.nd;refine YG (own:=[]) F Zan λcdv A outer s H E hr G hG=>?_;obtain⟨G0,k,q,rfl,hrd,rfl⟩:=hG;have hK:GT k.C (Zt G0 k q):=⟨G0,k,q,rfl,hrd,rfl⟩;exact(Zu (Yk (ZaT jP rfl (qt rfl) rfl (bk ["self","columns"] (Zz Zac).names ["column","self"] [none,some 0]) (WK rfl T.b_range (ZA Vg (WJ T.b_len (Zd (ZD ZE (X3 (i:=0) (j:=1) (pv 0) kc.cl kc.rows) Ug) Zi)) Zk)) (λ_ _ _ _ _ _=>Y9) (λ_ _ _ _ _ _=>(BH (Y2 (JD hr.units0) (ZD ZE (ZD ZE (X3 (i:=1) (j:=1) (pv 1) kc.cl kc.rows) Ug) (va 0)) Zk))) (λ_ _ _ _ _ _=>(va 0))))
 (Zu (Ya (Zmz rfl rfl T.b_min TF.boot_min (va 1) UN))
 ZZ))
theorem Za3:FnScope ["self","i","j","column","bound","other"] ["self","i","j","column"] (Zz Zbh):=Yy
theorem Zdl (F:Fun K "is_tighter" "Table.is_tighter" Zbh j7 jS)(T:Txt mg){C:Addr}(kc:TCl K C) :
  FnOk P w K mg base ZP 1 j7 jS ["self","i","j","column"] (Yf 4 false (GT C) B7):=by
 have jP:=Za3.nd;refine YG (own:=[]) F Za3 λcdv A outer s H E hr G hG=>?_;obtain⟨G0,k,q,rfl,hrd,rfl⟩:=hG;have hK:GT k.C (Zt G0 k q):=⟨G0,k,q,rfl,hrd,rfl⟩;exact(Zu (Yk (Z5 jP rfl (qt rfl) (ZA X0 (ZD ZE (ZD ZE (X3 (i:=0) (j:=1) (pv 0) kc.cl kc.rows) (va 1)) Ug) (ZD ZE (ZD ZE (X3 (i:=0) (j:=1) (pv 0) kc.cl kc.rows) (va 2)) (va 3)))))
 (Zu (Yk (Z5 jP rfl (qt rfl) (ZA X0 (ZD ZE (ZD ZE (X3 (i:=0) (j:=1) (pv 0) kc.cl kc.rows) (va 2)) Ug) (ZD ZE (ZD ZE (X3 (i:=0) (j:=1) (pv 0) kc.cl kc.rows) (va 1)) (va 3)))))
 (Zu (Ya (Zo1 (We (JD hr.units0) (va 4) (va 5)) (UO (Bz (We (WW hr.units) (va 4) (va 5)) (UO (We (JD hr.units0) (ZfC (i:=0) (pv 0) kc.cl kc.holders (va 1)) (ZfC (i:=0) (pv 0) kc.cl kc.holders (va 2))))))))
 ZZ)))
theorem ZaI:FnScope ["self","column","tightest","i"] ["self","column"] (Zz ZaR):=Yy
theorem Zcw (F:Fun K "tightest_row" "Table.tightest_row" ZaR j7 jS)(T:Txt mg){C:Addr}(kc:TCl K C)(kA:Wm P w K mg base C 1 "is_tighter" 4 (GT C) B7) :
  FnOk P w K mg base ZP 2 j7 jS ["self","column"] (Yf 2 false (GT C) Jg):=by
 have jP:=ZaI.nd;refine YG (own:=[]) F ZaI λcdv A outer s H E hr G hG=>?_;obtain⟨G0,k,q,rfl,hrd,rfl⟩:=hG;have hK:GT k.C (Zt G0 k q):=⟨G0,k,q,rfl,hrd,rfl⟩;exact(Zu (Yk (Z5 jP rfl (qt rfl) UN))
 (Zu (XE (own:=[]) qG rfl (UC rfl T.b_range (ZiR (i:=0) T.b_len (pv 0) kc.cl kc.holders)) (XD jP rfl (qt rfl) (by decide))
 (Zu (WA (Wn.pt (ZfX (Y2 (ZdS) (ZD ZE (ZD ZE (X3 (i:=0) (j:=1) (pv 0) kc.cl kc.rows) (va 3)) (va 1)) Zk) (ZgU (Wn.pt (Uc (Y2 (Zoe) (va 2) UN) (Ju (X1 (pdT (i:=0) kA hK hr kc (pv 0) (Zd (va 3) (Zd (va 2) (Zd (va 1) Zi)))))))))))
 (Zu (Yk (Z5 jP rfl (qt rfl) (va 3)))
 ZZ)
 Ys)
 ZZ))
 (Zu (Ya (va 2))
 ZZ)))
theorem Zcx:FnScope ["self","row","kept","column"] ["self","row","kept","column"] (Zz Zbi):=Yy
theorem Zgz (F:Fun K "cleared" "Table.cleared" Zbi j7 jS)(T:Txt mg){C:Addr}(kc:TCl K C) :
  FnOk P w K mg base ZP 1 j7 jS ["self","row","kept","column"] (Yf 4 false (GT C) Bg):=by
 have jP:=Zcx.nd;refine YG (own:=[]) F Zcx λcdv A outer s H E hr G hG=>?_;obtain⟨G0,k,q,rfl,hrd,rfl⟩:=hG;have hK:GT k.C (Zt G0 k q):=⟨G0,k,q,rfl,hrd,rfl⟩;exact(Zu (Ya (PD.weak (Xw (bk ["self","row","kept","column"] (Zz Zbi).names ["j","row","kept","column","self"] [none,some 1,some 2,some 3,some 0]) (WK rfl T.b_range (WJ T.b_len (Zd (va 1) Zi))) Y9 XS (ZA ZcP (ZA Vg (ZA X0 (ZD ZE (va 1) (va 0)) (ZD ZE (va 2) (va 3))) (ZA X0 (ZD ZE (va 1) (va 3)) (ZD ZE (va 2) (va 0)))) (X3 (i:=4) (j:=2) (pv 4) kc.cl kc.scale)))))
 ZZ)
theorem ZeJ:FnScope ["self"] ["self"] (Zz ZfJ):=Yy
theorem Zjf (F:Fun K "worth" "Table.worth" ZfJ j7 jS)(T:Txt mg){C:Addr}(kc:TCl K C)(jU:Z3 P w K mg base 2 "lowest_terms" 2 true Z4 UA) :
  FnOk P w K mg base ZP 3 j7 jS ["self"] (Yf 1 false (GT C) Bl):=by
 have jP:=ZeJ.nd;refine YG (own:=[]) F ZeJ λcdv A outer s H E hr G hG=>?_;obtain⟨G0,k,q,rfl,hrd,rfl⟩:=hG;have hK:GT k.C (Zt G0 k q):=⟨G0,k,q,rfl,hrd,rfl⟩;exact(Zu (Ya (PD.weak (Z7 (jU.mono) trivial hr (Zd (ZD ZE (ZD ZE (X3 (i:=0) (j:=1) (pv 0) kc.cl kc.rows) Ug) Ug) (Zd (X3 (i:=0) (j:=2) (pv 0) kc.cl kc.scale) Zi)))))
 ZZ)
theorem ZeK:FnScope ["self","i"] ["self","i"] (Zz ZfK):=Yy
theorem Zjg (F:Fun K "share" "Table.share" ZfK j7 jS)(T:Txt mg){C:Addr}(kc:TCl K C)(jU:Z3 P w K mg base 2 "lowest_terms" 2 true Z4 UA) :
  FnOk P w K mg base ZP 3 j7 jS ["self","i"] (Yf 2 false (GT C) Jp):=by
 have jP:=ZeK.nd;refine YG (own:=[]) F ZeK λcdv A outer s H E hr G hG=>?_;obtain⟨G0,k,q,rfl,hrd,rfl⟩:=hG;have hK:GT k.C (Zt G0 k q):=⟨G0,k,q,rfl,hrd,rfl⟩;exact(Zu (Ya (PD.weak (Z7 (jU.mono) trivial hr (Zd (ZD ZE (ZD ZE (X3 (i:=0) (j:=1) (pv 0) kc.cl kc.rows) Ug) (ZA Yu (X3 (i:=0) (j:=0) (pv 0) kc.cl kc.n) (va 1))) (Zd (X3 (i:=0) (j:=2) (pv 0) kc.cl kc.scale) Zi)))))
 ZZ)
theorem Zde:FnScope ["self","place"] ["self","place"] (Zz ZeF):=Yy
theorem ZhT (F:Fun K "weight" "Table.weight" ZeF j7 jS)(T:Txt mg){C:Addr}(kc:TCl K C)(jU:Z3 P w K mg base 2 "lowest_terms" 2 true Z4 UA) :
  FnOk P w K mg base ZP 3 j7 jS ["self","place"] (Yf 2 false (GT C) Jm):=by
 have jP:=Zde.nd;refine YG (own:=[]) F Zde λcdv A outer s H E hr G hG=>?_;obtain⟨G0,k,q,rfl,hrd,rfl⟩:=hG;have hK:GT k.C (Zt G0 k q):=⟨G0,k,q,rfl,hrd,rfl⟩;exact(Zu (WA (ZiT (i:=0) hr.units (va 1) (pv 0) kc.cl kc.holders)
 (Zu (Ya (PD.weak (ZN (Zd Zk (Zd Zk Zi)))))
 ZZ)
 Ys)
 (Zu (Ya (PD.weak (Z7 (jU.mono) trivial hr (Zd (ZD ZE (ZD ZE (X3 (i:=0) (j:=1) (pv 0) kc.cl kc.rows) (ZkO (i:=0) (pv 0) kc.cl kc.holders (va 1))) Ug) (Zd (X3 (i:=0) (j:=2) (pv 0) kc.cl kc.scale) Zi)))))
 ZZ))
theorem ZbF:FnScope ["self","i","column","kept"] ["self","i","column"] (Zz Za0):=Yy
theorem Zfa (F:Fun K "exchange" "Table.exchange" Za0 j7 jS)(T:Txt mg){C:Addr}(kc:TCl K C)(kL:Wm P w K mg base C 1 "cleared" 4 (GT C) Bg) :
  FnOk P w K mg base ZP 2 j7 jS ["self","i","column"] (spTm 3 C Jj):=by
 have jP:=ZbF.nd;refine fnT F ZbF (h:=λcdv A outer s H E hr G0 k hk hrd hal=>?_);subst hk;exact(Vi (BP (λq=>have hK:GT k.C (Zt G0 k q):=⟨G0,k,q,rfl,hrd,rfl⟩;(Yk (Z5 jP rfl (z7 rfl) (ZD ZE (X3 (i:=0) (j:=1) (pv 0) kc.cl kc.rows) (va 1))))))
 (Vi (Zok (i:=0) hrd hal (λq=>have hK:GT k.C (Zt G0 k q):=⟨G0,k,q,rfl,hrd,rfl⟩;(Xw (bk ["self","i","column","kept"] (Zz Za0).names ["k","i","kept","self","column"] [none,some 1,some 3,some 0,some 2]) (WK rfl T.b_range (WJ T.b_len (Zd (X3 (i:=0) (j:=1) (pv 0) kc.cl kc.rows) Zi))) Y9 XS (ZlH (Y2 (WW hr.units) (va 0) (va 1)) (va 2) (pdT (i:=3) kL hK hr kc (pv 3) (Zd (ZD ZE (X3 (i:=3) (j:=1) (pv 3) kc.cl kc.rows) (va 0)) (Zd (va 2) (Zd (va 4) Zi))))))) (pv 0) kc.cl kc.rows)
 (Vi (Zol (i:=0) hrd hal (λq=>have hK:GT k.C (Zt G0 k q):=⟨G0,k,q,rfl,hrd,rfl⟩;(va 1)) (λq=>have hK:GT k.C (Zt G0 k q):=⟨G0,k,q,rfl,hrd,rfl⟩;(va 2)) (pv 0) kc.cl kc.holders)
 (Vi (Zms (i:=0) hrd hal (λq=>have hK:GT k.C (Zt G0 k q):=⟨G0,k,q,rfl,hrd,rfl⟩;(ZD ZE (va 3) (va 2))) (pv 0) kc.cl kc.scale)
 Zge))))
theorem Zdf:FnScope ["self","column"] ["self"] (Zz ZeE):=Yy
theorem ZhU (F:Fun K "settle" "Table.settle" ZeE j7 jS)(T:Txt mg){C:Addr}(kc:TCl K C)(kF:BQ P w K mg base C 2 "exchange" 3 Jj)(ka:Wm P w K mg base C 1 "gaining_column" 1 (GT C) WS)(kr:Wm P w K mg base C 2 "tightest_row" 2 (GT C) Jg) :
  FnOk P w K mg base ZP 3 j7 jS ["self"] (spTm 1 C V6):=by
 have jP:=Zdf.nd;refine fnT F Zdf (h:=λcdv A outer s H E hr G0 k hk hrd hal=>?_);subst hk;exact(Vi (BP (λq=>have hK:GT k.C (Zt G0 k q):=⟨G0,k,q,rfl,hrd,rfl⟩;(Yk (Z5 jP rfl (qt rfl) (pdT0 (i:=0) ka hK hr kc (pv 0))))))
 (Vi (Zmr qG (λq=>have hK:GT k.C (Zt G0 k q):=⟨G0,k,q,rfl,hrd,rfl⟩;(Y2 (Zmh) (va 1) UN))
 (Vi (Zom (i:=0) kF hrd hal hr kc (pv 0) (λq=>have hK:GT k.C (Zt G0 k q):=⟨G0,k,q,rfl,hrd,rfl⟩;(Zd (pdT (i:=0) kr hK hr kc (pv 0) (Zd (va 1) Zi)) (Zd (va 1) Zi))))
 (Vi (BP (λq=>have hK:GT k.C (Zt G0 k q):=⟨G0,k,q,rfl,hrd,rfl⟩;(Yk (Z5 jP rfl (qt rfl) (pdT0 (i:=0) ka hK hr kc (pv 0))))))
 Zge)))
 Zge))
theorem ZbG:FnScope ["self","n","aparts","many","i","weights"] ["self","n","aparts"] (Zz Zae):=Yy
theorem Zk9 (F:Fun K "__init__" "Table.__init__" Zae j7 jS)(T:Txt mg){C:Addr}(kc:TCl K C):FnOk P w K mg base ZP 1 j7 jS ["self","n","aparts"] (Zdy Z4 C Zbb):=by
 have jP:=ZbG.nd;refine Zmx (lv:=0) F ZbG λcdv A outer s H E hr G hG=>?_;exact Zmw kc jP rfl rfl (qt rfl) (z7 rfl) (by first | exact .inl rfl | exact .inr rfl) (by first | exact .inl rfl | exact .inr rfl) (λ_=>pv 0) (pv 1) qG rfl (WJ T.b_len (Zd (va 2) Zi)) (WK rfl T.b_range (va 3)) (ZaT jP rfl (qt rfl) rfl (bk ["self","n","aparts","many","i","weights"] (Zz Zae).names ["place","aparts","i"] [none,some 2,some 4]) (WK rfl T.b_range (va 1)) (λ_ _ _ _ _ _=>Y9) (λ_ _ _ _ _ _=>XS) (λ_ _ _ _ _ _=>(ZlH (Y2 (Zd1 hr.units) (va 0) (ZD ZE (va 1) (va 2))) Zk Zk))) (ZA Yu (ZA Yu (va 5) (Xw (bk ["self","n","aparts","many","i","weights"] (Zz Zae).names ["j","i"] [none,some 4]) (WK rfl T.b_range (va 3)) Y9 XS (ZlH (Y2 (WW hr.units) (va 0) (va 1)) Zk Zk))) (Y0 (Zd Zk Zi))) (ZA Yu (ZA Zb8 (Y0 (Zd Ug Zi)) (va 1)) (ZA Zb8 (Y0 (Zd Zk Zi)) (ZA Yu (va 3) Zk))) (Xw (bk ["self","n","aparts","many","i","weights"] (Zz Zae).names ["i","n"] [none,some 1]) (WK rfl T.b_range (va 3)) Y9 XS (ZA Yu (va 1) (va 0))) rfl rfl rfl (λ_=>rfl) rfl rfl (λte pe=>ZbY (Zjt yA qae qaf Zbp (UL (pv 0) rfl) (Xt pe X4)) rfl) (λte pe=>ZbY (Zjt yA qae qaf Zbp (UL (pv 0) rfl) (Xt pe X4)) rfl)
theorem ZfM:FnScope ["web","aparts","table","cover","weights"] ["web"] (Zz Zbg):=Yy
theorem Zla (F:Fun K "shares" "shares" Zbg j7 jS)(T:Txt mg){L:List (Addr×Str)}(lo:Vs L){C fi:Addr}{fdi:xC}(kc:TCl K C)(M_Table:Mk K C fi)(F_init:FnOk P w K mg base ZP 1 fi fdi ["self","n","aparts"] (Zdy Z4 C Zbb))(m_Table:mg "Table" = some (.ref C))(b_init:Xb K fdi ["self","n","aparts"] [])(kh:Z3 P w K mg base 4 "full_knots" 1 true Z4 F_full_knots)(kR:BQ P w K mg base C 3 "settle" 1 V6)(kW:Wm P w K mg base C 3 "share" 2 (GT C) Jp)(kS:Wm P w K mg base C 3 "weight" 2 (GT C) Jm)(kX:Wm P w K mg base C 3 "worth" 1 (GT C) Bl)(kE:Z3 P w K mg base 6 "turned" 1 false (Wh L) V8) :
  FnOk P w K mg base ZP 7 j7 jS ["web"] (Yf 1 true (Wh L) Bo):=
 have jP:=ZfM.nd
 YG (own:=[]) F ZfM λcdv A outer s H E hr G hG=>
 have hT:Wh L G:=hG
 (Zu (Yk (Z5 jP rfl (z7 rfl) (Z7 (kh.mono) trivial hr (Zd (Z7 (kE.mono) hT hr (Zd (va 0) Zi)) Zi))))
 (ZiX (i:=2) (GG:=Z4) trivial M_Table F_init (hr.mono (by decide)) rfl m_Table b_init (Zd (ZD ZE (va 0) Zk) (Zd (va 1) Zi)) jP rfl (z7 rfl) (λk hk hrd hal=>by
 subst hk;have G0:=G;exact(Vi (Zmu (i:=2) kR hrd hal hr kc (pv 2))
 (Vi (BP (λq=>have hK:GT k.C (Zt G k q):=⟨G,k,q,rfl,hrd,rfl⟩;(Yk (ZaT jP rfl (qt rfl) rfl (bk ["web","aparts","table","cover","weights"] (Zz Zbg).names ["i","aparts","table"] [none,some 1,some 2]) (WK rfl T.b_range (WJ T.b_len (Zd (va 1) Zi))) (λ_ _ _ _ _ _=>Y9) (λ_ _ _ _ _ _=>XS) (λ_ _ _ _ _ _=>(ZN (Zd (ZD ZE (va 1) (va 0)) (Zd (pdT (i:=2) kW hK hr kc (pv 2) (Zd (va 0) Zi)) Zi))))))))
 (Vi (BP (λq=>have hK:GT k.C (Zt G k q):=⟨G,k,q,rfl,hrd,rfl⟩;(Yk (Z5 jP rfl (qt rfl) (UE (Ba) rfl T.b_tuple TF.boot_tuple (Zd (Xw (bk ["web","aparts","table","cover","weights"] (Zz Zbg).names ["place","table"] [none,some 2]) (WK rfl T.b_range (ZD ZE (va 0) Zk)) Y9 XS (pdT (i:=1) kS hK hr kc (pv 1) (Zd (va 0) Zi))) Zi))))))
 (Vi (BP (λq=>have hK:GT k.C (Zt G k q):=⟨G,k,q,rfl,hrd,rfl⟩;(Ya (PD.weak (ZN (Zd (pdT0 (i:=2) kX hK hr kc (pv 2)) (Zd (Xw (bk ["web","aparts","table","cover","weights"] (Zz Zbg).names ["item"] [none]) (Vd (va 3)) Y9 (BH (Y2 (ZdS) (ZD ZE (ZD ZE (va 0) Zk) Zk) Zk)) (va 0)) (Zd (va 4) Zi))))))))
 Zge)))))))
theorem Zbl:FnScope ["thing","length"] ["thing","length"] (Zz ZbC):=Yy
theorem ZeL (F:Fun K "is_tuple_of" "is_tuple_of" ZbC j7 jS)(T:Txt mg) :
  FnOk P w K mg base ZP 1 j7 jS ["thing","length"] (Yf 2 false Z4 Vv):=
 have jP:=Zbl.nd
 YG (own:=[]) F Zbl λcdv A outer s H E hr G hG=>
 (Zu (Ya (Bz (Xk (UG) rfl T.b_isinstance TF.boot_isinstance (Zd (va 0) (Zd (UU rfl T.b_tuple TF.boot_tuple) Zi))) (UO (We (WW hr.units) (WJ T.b_len (Zd (va 0) Zi)) (va 1)))))
 ZZ)
theorem Zdg:FnScope ["thing"] ["thing"] (Zz ZeB):=Yy
theorem ZhV (F:Fun K "is_whole" "is_whole" ZeB j7 jS)(T:Txt mg) :
  FnOk P w K mg base ZP 1 j7 jS ["thing"] (Yf 1 false Z4 Jl):=
 have jP:=Zdg.nd
 YG (own:=[]) F Zdg λcdv A outer s H E hr G hG=>
 (Zu (Ya (Bz (Xk (UG) rfl T.b_isinstance TF.boot_isinstance (Zd (va 0) (Zd (UU rfl T.b_int TF.boot_int) Zi))) (UO (Zin (Xk (UG) rfl T.b_isinstance TF.boot_isinstance (Zd (va 0) (Zd (UU rfl T.b_bool TF.boot_bool) Zi)))))))
 ZZ)
theorem Zbm:FnScope ["thing"] ["thing"] (Zz ZbD):=Yy
theorem ZeM (F:Fun K "is_fraction" "is_fraction" ZbD j7 jS)(T:Txt mg)(jW:Z3 P w K mg base 1 "greatest_divisor" 2 false Z4 J7)(kf:Z3 P w K mg base 1 "is_tuple_of" 2 false Z4 Vv)(kG:Z3 P w K mg base 1 "is_whole" 1 false Z4 Jl) :
  FnOk P w K mg base ZP 2 j7 jS ["thing"] (Yf 1 false Z4 Ji):=
 have jP:=Zbm.nd
 YG (own:=[]) F Zbm λcdv A outer s H E hr G hG=>
 (Zu (WA (Wn.pt (Uc (Vz (X1 (Z7 (kf.mono) trivial hr (Zd (va 0) (Zd Zk Zi))))) (Uc (Vz (X1 (Z7 (kG.mono) trivial hr (Zd (ZD ZE (va 0) Zk) Zi)))) (Ju (Vz (X1 (Z7 (kG.mono) trivial hr (Zd (ZD ZE (va 0) Zk) Zi))))))))
 (Zu (Ya (PD.weak Xu))
 ZZ)
 Ys)
 (Zu (Ya (Bz (We (Zir) (ZD ZE (va 0) Zk) Zk) (UO (We (WW hr.units) (Z7 (jW.mono) trivial hr (Zd (ZD ZE (va 0) Zk) (Zd (ZD ZE (va 0) Zk) Zi))) Zk))))
 ZZ))
theorem ZhW:FnScope ["fractions","top","bottom","fraction"] ["fractions"] (Zz Zj1):=Yy
theorem Zna (F:Fun K "added" "added" Zj1 j7 jS)(T:Txt mg) :
  FnOk P w K mg base ZP 1 j7 jS ["fractions"] (Yf 1 true Z4 ZdA):=
 have jP:=ZhW.nd
 YG (own:=[]) F ZhW λcdv A outer s H E hr G hG=>
 (Zu (Yk (Z5 jP rfl (qt rfl) Zk))
 (Zu (Yk (Z5 jP rfl (qt rfl) Zk))
 (Zu (XE (own:=[]) qG rfl (XA.n (Vd (va 0))) (XD jP rfl (qt rfl) (by decide))
 (Zu (Yk (Z5 jP rfl (qt rfl) (ZA Yu (ZA X0 (va 1) (ZD ZE (va 3) Zk)) (ZA X0 (ZD ZE (va 3) Zk) (va 2)))))
 (Zu (Yk (Z5 jP rfl (qt rfl) (ZA X0 (va 2) (ZD ZE (va 3) Zk))))
 ZZ)))
 (Zu (Ya (ZN (Zd (va 1) (Zd (va 2) Zi))))
 ZZ))))
theorem Zdh:FnScope ["weights","apart","together"] ["weights","apart"] (Zz ZbV):=Yy
theorem ZhX (F:Fun K "is_light" "is_light" ZbV j7 jS)(T:Txt mg)(k6:Z3 P w K mg base 1 "added" 1 true Z4 ZdA) :
  FnOk P w K mg base ZP 2 j7 jS ["weights","apart"] (Yf 2 false Z4 Zaz):=
 have jP:=Zdh.nd
 YG (own:=[]) F Zdh λcdv A outer s H E hr G hG=>
 (Zu (Yk (Z5 jP rfl (qt rfl) (Z7 (k6.mono) trivial hr (Zd (Xw (bk ["weights","apart","together"] (Zz ZbV).names ["place","weights"] [none,some 0]) (VP (va 1)) Y9 XS (ZD ZE (va 1) (va 0))) Zi))))
 (Zu (Ya (PD.weak (We (ZpP) (ZD ZE (va 2) Zk) (ZD ZE (va 2) Zk))))
 ZZ))
theorem Zbn:FnScope ["web","thing"] ["web","thing"] (Zz Zag):=Yy
theorem ZeN (F:Fun K "are_weights" "are_weights" Zag j7 jS)(T:Txt mg){L:List (Addr×Str)}(lo:Vs L)(kh:Z3 P w K mg base 4 "full_knots" 1 true Z4 F_full_knots)(kD:Z3 P w K mg base 2 "is_fraction" 1 false Z4 Ji)(kT:Z3 P w K mg base 2 "is_light" 2 false Z4 Zaz)(kf:Z3 P w K mg base 1 "is_tuple_of" 2 false Z4 Vv)(kE:Z3 P w K mg base 6 "turned" 1 false (Wh L) V8) :
  FnOk P w K mg base ZP 7 j7 jS ["web","thing"] (Yf 2 false (Wh L) J9):=
 have jP:=Zbn.nd
 YG (own:=[]) F Zbn λcdv A outer s H E hr G hG=>
 have hT:Wh L G:=hG
 (Zu (WA (Vz (X1 (Z7 (kf.mono) trivial hr (Zd (va 1) (Zd (ZD ZE (va 0) Zk) Zi)))))
 (Zu (Ya (PD.weak Xu))
 ZZ)
 Ys)
 (Zu (WA (Vz (X1 (Xk (ZcG rfl) rfl T.b_all TF.boot_all (Zd (Xw (bk ["web","thing"] (Zz Zag).names ["weight"] [none]) (VP (va 1)) Y9 XS (Bz (Z7 (kD.mono) trivial hr (Zd (va 0) Zi)) (UO (We (Zir) (ZD ZE (va 0) Zk) Zk)))) Zi))))
 (Zu (Ya (PD.weak Xu))
 ZZ)
 Ys)
 (Zu (Ya (PD.weak (Xk (ZcG rfl) rfl T.b_all TF.boot_all (Zd (Xw (bk ["web","thing"] (Zz Zag).names ["apart","thing"] [none,some 1]) (Vd (Z7 (kh.mono) trivial hr (Zd (Z7 (kE.mono) hT hr (Zd (va 0) Zi)) Zi))) Y9 XS (Z7 (kT.mono) trivial hr (Zd (va 1) (Zd (va 0) Zi)))) Zi))))
 ZZ)))
theorem Zcy:FnScope ["_law_cell","_law_at","_law_x"] ["_law_cell","_law_at"] (Zz Zc6):=Yy
theorem ZgA (F:Fun K "_law_fill" "_law_fill" Zc6 j7 jS)(T:Txt mg) :
  FnOk P w K mg base ZP 1 j7 jS ["_law_cell","_law_at"] (Yf 2 false Z4 Jk):=
 have jP:=Zcy.nd
 YG (own:=[]) F Zcy λcdv A outer s H E hr G hG=>
 (Zu (WA (Y2 (Zir) (va 0) (ZA Bt Zk Zk))
 (Zu (Ya (va 0))
 ZZ)
 Ys)
 (Zu (Yk (Z5 jP rfl (qt rfl) (ZA Zb3 (ZA Yu (ZA Yu (ZA UJ (ZA Zb3 (va 0) Zk) Zk) (ZA UJ (va 1) Zk)) Zk) Zk)))
 (Zu (Yk (Z5 jP rfl (qt rfl) (ZA Zb3 (ZA Yu (ZA Yu (ZA UJ (va 2) (va 2)) (ZA UJ Zk (va 2))) (va 1)) Zk)))
 (Zu (Ya (PD.weak (ZA Yu (ZA UJ (va 2) Zk) (ZA Zb3 (ZA Yu (ZA UJ (va 2) (va 2)) (ZA UJ Zk (va 1))) Zk))))
 ZZ))))
theorem Zdi:FnScope ["_law_pen","_law_most","_law_n","_law_way","_law_rate","_law_some","_law_ties","_law_a","_law_b","_law_tied"] ["_law_pen","_law_most"] (Zz ZbW):=Yy
theorem ZhY (F:Fun K "_law_web" "_law_web" ZbW j7 jS)(T:Txt mg){L:List (Addr×Str)}(lo:Vs L)(jQ:Z3 P w K mg base 2 "_law_next" 2 true (Xo (XI K) L) YK) :
  FnOk P w K mg base ZP 3 j7 jS ["_law_pen","_law_most"] (Yf 2 true (Xo (XI K) L) Zav):=
 have jP:=Zdi.nd
 YG (own:=[]) F Zdi λcdv A outer s H E hr G hG=>
 have hT:Wh L G:=jw lo hG
 (Zu (Yk (Z5 jP rfl (qt rfl) (Z7 (jQ.mono) hG hr (Zd (va 0) (Zd (ZA Yu (va 1) Zk) Zi)))))
 (Zu (Bq (own:=[]) rfl jP rfl rfl (by decide) (by decide) (by decide) rfl rfl (Zd (Z7 (jQ.mono) hG hr (Zd (va 0) (Zd Zk Zi))) (Zd (ZA Yu Zk (Z7 (jQ.mono) hG hr (Zd (va 0) (Zd Zk Zi)))) Zi)) (by with_unfolding_all rfl))
 (Zu (Yk (ZaT jP rfl (qt rfl) rfl (bk ["_law_pen","_law_most","_law_n","_law_way","_law_rate","_law_some","_law_ties","_law_a","_law_b","_law_tied"] (Zz ZbW).names ["_law_place","_law_pen"] [none,some 0]) (WK rfl T.b_range (va 2)) (λ_ _ _ _ _ _=>Y9) (λ_ _ _ _ _ _=>XS) (λ_ _ _ _ _ _=>(Z7 (jQ.mono) hG hr (Zd (va 1) (Zd Zk Zi))))))
 (Yq (own2:=[6]) (Jr (Z5 jP rfl (qt rfl) (Y0 Zi)))
 (Yq (own2:=[6]) (XE (own:=[6]) qG rfl (UC rfl T.b_range (va 2)) (XD jP rfl (qt rfl) (by decide))
 (Yq (own2:=[6]) (XE (own:=[6]) qG rfl (Za7 rfl T.b_range (ZA Yu (va 7) Zk) (va 2)) (XD jP rfl (qt rfl) (by decide))
 (Yq (own2:=[6]) (Za6 (own:=[6]) (Z5 jP rfl (qt rfl) (We (JD hr.units0) (Z7 (jQ.mono) hG hr (Zd (va 0) (Zd Zk Zi))) (va 4))))
 (Yq (own2:=[6]) (BB (own':=[6]) (Wn.pt (ZfX (Y2 (WW hr.units) (va 3) Zk) (ZfX (Y2 (WW hr.units) (ZD ZE (va 5) (va 7)) Zk) (ZgU (Y2 (WW hr.units) (ZD ZE (va 5) (va 8)) Zk)))))
 (Yq (own2:=[6]) (Za6 (own:=[6]) (Z5 jP rfl (qt rfl) Xu))
 (Ys (own:=[6])))
 Ys)
 (Yq (own2:=[6]) (BB (own':=[6]) (Y2 (WW hr.units) (va 3) Zk)
 (Yq (own2:=[6]) (Za6 (own:=[6]) (Z5 jP rfl (qt rfl) (Zo1 (We (WW hr.units) (ZA Vg (va 8) (va 7)) Zk) (UO (We (WW hr.units) (ZA Vg (va 8) (va 7)) (ZA Vg (va 2) Zk))))))
 (Ys (own:=[6])))
 Ys)
 (Yq (own2:=[6]) (BB (own':=[6]) (X1 (va 9))
 (Yq (own2:=[6]) (Bn (own:=[6]) (i:=6) (by decide) (ZN (Zd (va 7) (Zd (va 8) Zi))) (λ_ h=>Bi (pv 6) h))
 (Ys (own:=[6])))
 Ys)
 (Ys (own:=[6])))))))
 (Ys (own:=[6]))))
 (Yq (own2:=[6]) (Ya (ZN (Zd (va 2) (Zd (UE (Ba) rfl T.b_tuple TF.boot_tuple (Zd (va 6) Zi)) Zi))))
 (Ys (own:=[6]))))))))
theorem Zcz:FnScope ["_law_web_here","_law_a","_law_b"] ["_law_web_here","_law_a","_law_b"] (Zz Zc8):=Yy
theorem ZgB (F:Fun K "_law_tied" "_law_tied" Zc8 j7 jS)(T:Txt mg) :
  FnOk P w K mg base ZP 1 j7 jS ["_law_web_here","_law_a","_law_b"] (Yf 3 false Z4 Zah):=
 have jP:=Zcz.nd
 YG (own:=[]) F Zcz λcdv A outer s H E hr G hG=>
 (Zu (Ya (PD.weak (We (Zd1 hr.units) (ZN (Zd (Xk (ZdU rfl) rfl T.b_min TF.boot_min (Zd (va 1) (Zd (va 2) Zi))) (Zd (Xk (ZdT rfl) rfl T.b_max TF.boot_max (Zd (va 1) (Zd (va 2) Zi))) Zi))) (ZD ZE (va 0) Zk))))
 ZZ)
theorem ZbH:FnScope ["_law_web_here","_law_pairs","_law_pair","_law_found","_law_place","_law_more","_law_knot"] ["_law_web_here"] (Zz ZaZ):=Yy
theorem Zfb (F:Fun K "_law_knots" "_law_knots" ZaZ j7 jS)(T:Txt mg) :
  FnOk P w K mg base ZP 1 j7 jS ["_law_web_here"] (Yf 1 false Z4 Zad):=
 have jP:=ZbH.nd
 YG (own:=[]) F ZbH λcdv A outer s H E hr G hG=>
 (Yq (own2:=[1]) (Jr (Z5 jP rfl (z7 rfl) Zmi))
 (Yq (own2:=[1]) (XE (own:=[1]) qG rfl (XA.a (own:=[1]) (VP (ZD ZE (va 0) Zk))) (XD jP rfl (qt rfl) (by decide))
 (Yq (own2:=[1]) (ZiN (own:=[1]) (i:=1) (L2.hu_of hr) (by decide) (pv 1) (va 2) Xu)
 (Ys (own:=[1]))))
 (Yq (own2:=[1]) (Za6 (own:=[1]) (Z5 jP rfl (qt rfl) (Y0 (Zd (ZN Zi) Zi))))
 (Zu (YS.frz (own:=[1]) (own2:=[]) (XE (own:=[]) qG rfl (UC rfl T.b_range (ZD ZE (va 0) Zk)) (XD jP rfl (z7 rfl) (by decide))
 (Yq (own2:=[5]) (Jr (Z5 jP rfl (qt rfl) (Y0 Zi)))
 (Yq (own2:=[5]) (XE (own:=[5]) qG rfl (XA.a (own:=[5]) (Vd (va 3))) (XD jP rfl (qt rfl) (by decide))
 (Yq (own2:=[5]) (BB (own':=[5]) (Y2 (Zkv hr.units) Xu (Xw (bk ["_law_web_here","_law_pairs","_law_pair","_law_found","_law_place","_law_more","_law_knot"] (Zz ZaZ).names ["_law_other","_law_place","_law_pairs"] [none,some 4,some 1]) (VP (va 6)) Y9 XS (We (Zd1 hr.units) (ZN (Zd (va 0) (Zd (va 1) Zi))) (va 2))))
 (Yq (own2:=[5]) (Bn (own:=[5]) (i:=5) (by decide) (ZA Yu (va 6) (ZN (Zd (va 4) Zi))) (λ_ h=>Bi (pv 5) h))
 (Ys (own:=[5])))
 Ys)
 (Ys (own:=[5]))))
 (Zu (YS.frz (own:=[5]) (own2:=[]) (Yk (Z5 jP rfl (qt rfl) (ZA Yu (va 3) (va 5)))))
 ZZ)))))
 (Zu (Ya (va 3))
 ZZ)))))
theorem Zao:FnScope ["_law_one","_law_part_of","_law_a","_law_b"] ["_law_one"] (Zz ZaE):=Yy
theorem ZbB (F:Fun K "_law_fraction_is" "_law_fraction_is" ZaE j7 jS)(T:Txt mg) :
  FnOk P w K mg base ZP 1 j7 jS ["_law_one"] (Yf 1 false Z4 J8):=
 have jP:=Zao.nd
 YG (own:=[]) F Zao λcdv A outer s H E hr G hG=>
 (Zu (WA (Wn.pt (Uc (Vz (X1 (Xk (UG) rfl T.b_isinstance TF.boot_isinstance (Zd (va 0) (Zd (UU rfl T.b_tuple TF.boot_tuple) Zi))))) (Ju (Y2 (BC hr.units) (WJ T.b_len (Zd (va 0) Zi)) Zk))))
 (Zu (Ya (PD.weak Xu))
 ZZ)
 Ys)
 (Zu (XE (own:=[]) qG rfl (XA.n (VP (va 0))) (XD jP rfl (qt rfl) (by decide))
 (Zu (WA (Wn.pt (Uc (Vz (X1 (Xk (UG) rfl T.b_isinstance TF.boot_isinstance (Zd (va 1) (Zd (UU rfl T.b_int TF.boot_int) Zi))))) (Ju (X1 (Xk (UG) rfl T.b_isinstance TF.boot_isinstance (Zd (va 1) (Zd (UU rfl T.b_bool TF.boot_bool) Zi)))))))
 (Zu (Ya (PD.weak Xu))
 ZZ)
 Ys)
 ZZ))
 (Zu (Bq (own:=[]) rfl jP rfl rfl (by decide) (by decide) (by decide) rfl rfl (Zd (Xk ZfE rfl T.b_abs TF.boot_abs (Zd (ZD ZE (va 0) Zk) Zi)) (Zd (ZD ZE (va 0) Zk) Zi)) (by with_unfolding_all rfl))
 (Zu (ZmA (own:=[]) qG (Y2 (BC hr.units) (va 3) Zk)
 (Zu (Bq (own:=[]) rfl jP rfl rfl (by decide) (by decide) (by decide) rfl rfl (Zd (va 3) (Zd (ZA ZmD (va 2) (va 3)) Zi)) (by with_unfolding_all rfl))
 ZZ))
 (Zu (Ya (Bz (We (ZdS) (ZD ZE (va 0) Zk) Zk) (UO (We (WW hr.units) (va 2) Zk))))
 ZZ)))))
theorem ZbI:FnScope ["_law_some","_law_top","_law_bottom","_law_a","_law_b"] ["_law_some"] (Zz Zct):=Yy
theorem Zfc (F:Fun K "_law_total" "_law_total" Zct j7 jS)(T:Txt mg) :
  FnOk P w K mg base ZP 1 j7 jS ["_law_some"] (Yf 1 true Z4 Bc):=
 have jP:=ZbI.nd
 YG (own:=[]) F ZbI λcdv A outer s H E hr G hG=>
 (Zu (Zea (ZN (Zd Zk (Zd Zk Zi))) (Zb2 rfl jP rfl rfl (qt rfl) (qt rfl) (by decide) (by decide) (hp:=UH (Vy jP rfl (qt rfl)) (UH (Vy jP rfl (qt rfl)) Zdo))))
 (Zu (XE (own:=[]) qG rfl (XA.n (ZmK (va 0))) (Zb2 rfl jP rfl rfl (qt rfl) (qt rfl) (by decide) (by decide) (hp:=UH (Vy jP rfl (qt rfl)) (UH (Vy jP rfl (qt rfl)) Zdo)))
 (Zu (Bq (own:=[]) rfl jP rfl rfl (by decide) (by decide) (by decide) rfl rfl (Zd (ZA Yu (ZA X0 (va 1) (va 4)) (ZA X0 (va 3) (va 2))) (Zd (ZA X0 (va 2) (va 4)) Zi)) (by with_unfolding_all rfl))
 ZZ))
 (Zu (Ya (ZN (Zd (va 1) (Zd (va 2) Zi))))
 ZZ)))
theorem Zbo:FnScope ["_law_told","_law_thing","_law_one","_law_ties","_law_a","_law_b","_law_places","_law_top","_law_bottom"] ["_law_told","_law_thing"] (Zz ZaL):=Yy
theorem ZeO (F:Fun K "_law_weighs" "_law_weighs" ZaL j7 jS)(T:Txt mg)(kq:Z3 P w K mg base 1 "_law_fraction_is" 1 false Z4 J8)(kH:Z3 P w K mg base 1 "_law_knots" 1 false Z4 Zad)(kM:Z3 P w K mg base 1 "_law_tied" 3 false Z4 Zah)(kI:Z3 P w K mg base 1 "_law_total" 1 true Z4 Bc) :
  FnOk P w K mg base ZP 2 j7 jS ["_law_told","_law_thing"] (Yf 2 true Z4 B8):=
 have jP:=Zbo.nd
 YG (own:=[]) F Zbo λcdv A outer s H E hr G hG=>
 (Zu (WA (Wn.pt (Uc (Vz (X1 (Xk (UG) rfl T.b_isinstance TF.boot_isinstance (Zd (va 1) (Zd (UU rfl T.b_tuple TF.boot_tuple) Zi))))) (Ju (Y2 (BC hr.units) (WJ T.b_len (Zd (va 1) Zi)) (ZD ZE (va 0) Zk)))))
 (Zu (Ya Xu)
 ZZ)
 Ys)
 (Zu (XE (own:=[]) qG rfl (XA.n (VP (va 1))) (XD jP rfl (qt rfl) (by decide))
 (Zu (WA (Wn.pt (Uc (Vz (X1 (Z7 (kq.mono) trivial hr (Zd (va 2) Zi)))) (Ju (Y2 (JD hr.units0) (ZD ZE (va 2) Zk) Zk))))
 (Zu (Ya Xu)
 ZZ)
 Ys)
 ZZ))
 (Yq (own2:=[3]) (Jr (Z5 jP rfl (qt rfl) (Y0 Zi)))
 (Yq (own2:=[3]) (XE (own:=[3]) qG rfl (UC rfl T.b_range (ZD ZE (va 0) Zk)) (XD jP rfl (qt rfl) (by decide))
 (Yq (own2:=[3]) (XE (own:=[3]) qG rfl (Za7 rfl T.b_range (ZA Yu (va 4) Zk) (ZD ZE (va 0) Zk)) (XD jP rfl (qt rfl) (by decide))
 (Yq (own2:=[3]) (BB (own':=[3]) (Vz (X1 (Z7 (kM.mono) trivial hr (Zd (va 0) (Zd (va 4) (Zd (va 5) Zi))))))
 (Yq (own2:=[3]) (Bn (own:=[3]) (i:=3) (by decide) (ZN (Zd (va 4) (Zd (va 5) Zi))) (λ_ h=>Bi (pv 3) h))
 (Ys (own:=[3])))
 Ys)
 (Ys (own:=[3]))))
 (Ys (own:=[3]))))
 (Zu (YS.frz (own:=[3]) (own2:=[]) (XE (own:=[]) qG rfl (XA.n (Vd (Z7 (kH.mono) trivial hr (Zd (ZN (Zd (ZD ZE (va 0) Zk) (Zd (UE (Ba) rfl T.b_tuple TF.boot_tuple (Zd (va 3) Zi)) Zi))) Zi)))) (XD jP rfl (qt rfl) (by decide))
 (Zu (Zea (Z7 (kI.mono) trivial hr (Zd (Xw (bk ["_law_told","_law_thing","_law_one","_law_ties","_law_a","_law_b","_law_places","_law_top","_law_bottom"] (Zz ZaL).names ["_law_place","_law_thing"] [none,some 1]) (VP (va 6)) Y9 XS (ZD ZE (va 1) (va 0))) Zi)) (Zb2 rfl jP rfl rfl (qt rfl) (qt rfl) (by decide) (by decide) (hp:=UH (Vy jP rfl (qt rfl)) (UH (Vy jP rfl (qt rfl)) Zdo))))
 (Zu (WA (Y2 (ZdS) (va 7) (va 8))
 (Zu (Ya Xu)
 ZZ)
 Ys)
 ZZ))))
 (Zu (Ya Xu)
 ZZ))))))
noncomputable def ZhZ:Ze->M Out:=(Zh (Yx (ZF (Zc Vb (Zc Zn (Za 1) (dC (.int 0))) (dC (.int 2))))
 (Zh (ZL (Yz Zf))
 Zq)
 Zq)
 (Zh (VH 2 3 (Zb (Zx YK (Zb (Za 0) (Zb (Zc Zn (Za 1) (dC (.int 0))) Zf))) (Zb (Zx YK (Zb (Za 0) (Zb (Zc Zn (Za 1) (dC (.int 0))) Zf))) Zf)))
 (Zh (ZT 4 (Zc YX (Zc ZY (dC (.int 3)) (Zx YK (Zb (Za 0) (Zb (Zc Zn (Yz (Zb (dC (.int 100)) (Zb (Zc W7 (dC (.int 10)) (dC (.int 9))) Zf))) (Zx YK (Zb (Za 0) (Zb (dC (.int 2)) Zf)))) Zf)))) (Zc Zn (Yz (Zb (dC (.int 1)) (Zb (Zc W7 (dC (.int 10)) (dC (.int 40))) Zf))) (Zx YK (Zb (Za 0) (Zb (dC (.int 2)) Zf))))))
 (Zh (Vo 5 (Yz Zf))
 (Zh (Xc (fun ρ=>(Xv (Yz (Zb (ZB (Zb (Zc Xg (Za 4) (dC (.int 1))) (Zb (Za 4) Zf))) (Zb (ZB (Zb (Zc Xg (Za 4) (dC (.int 2))) (Zb (Zc Xg (Za 4) (dC (.int 1))) Zf))) (Zb (ZB (Zb (Za 4) (Zb (Zc ZY (Za 4) (dC (.int 1))) Zf))) Zf))))) (Yg [5] ρ)) (ZI 6)
 (Zh (Vo 7 (fun ρ=>(Zc W2 (Yz (Zb (ZB (Zb (dC (.int 0)) (Zb (dC (.int 1)) Zf))) Zf)) (Zc Zn (Za 1) (dC (.int 0)))) (Yg [5] ρ)))
 (Zh (ZjF 7 (fun ρ=>(Za 2) (Yg [7,5] ρ)) (fun ρ=>(ZB (Zb (dC (.int 1)) (Zb (Za 4) Zf))) (Yg [7,5] ρ)))
 (Zh (ZjF 7 (fun ρ=>(Za 3) (Yg [7,5] ρ)) (fun ρ=>(Za 6) (Yg [7,5] ρ)))
 (Zh (Vp 5 (fun ρ=>(ZO Ue (Zb (Za 7) Zf)) (Yg [5] ρ)))
 Zq)))))
 (Zh (ZL (Za 5))
 Zq))))))
noncomputable def Zaj:List D->M D:=runB 8 2 ZhZ
theorem ZcA:FnScope ["_law_pen","_law_told","_law_one","_law_other","_law_b","_law_found","_law_more","_law_some"] ["_law_pen","_law_told"] (Zz Zda):=Yy
theorem ZgC (F:Fun K "_law_fine" "_law_fine" Zda j7 jS)(T:Txt mg){L:List (Addr×Str)}(lo:Vs L)(jQ:Z3 P w K mg base 2 "_law_next" 2 true (Xo (XI K) L) YK) :
  FnOk P w K mg base ZP 3 j7 jS ["_law_pen","_law_told"] (Yf 2 true (Xo (XI K) L) Zaj):=
 have jP:=ZcA.nd
 YG (own:=[]) F ZcA λcdv A outer s H E hr G hG=>
 have hT:Wh L G:=jw lo hG
 (Zu (WA (Y2 (JD hr.units0) (ZD ZE (va 1) Zk) Zk)
 (Zu (Ya (Y0 Zi))
 ZZ)
 Ys)
 (Zu (Bq (own:=[]) rfl jP rfl rfl (by decide) (by decide) (by decide) rfl rfl (Zd (Z7 (jQ.mono) hG hr (Zd (va 0) (Zd (ZD ZE (va 1) Zk) Zi))) (Zd (Z7 (jQ.mono) hG hr (Zd (va 0) (Zd (ZD ZE (va 1) Zk) Zi))) Zi)) (by with_unfolding_all rfl))
 (Zu (Yk (Z5 jP rfl (qt rfl) (ZA X0 (ZA Yu Zk (Z7 (jQ.mono) hG hr (Zd (va 0) (Zd (ZD ZE (Y0 (Zd Zk (Zd (ZA Bt Zk Zk) Zi))) (Z7 (jQ.mono) hG hr (Zd (va 0) (Zd Zk Zi)))) Zi)))) (ZD ZE (Y0 (Zd Zk (Zd (ZA Bt Zk Zk) Zi))) (Z7 (jQ.mono) hG hr (Zd (va 0) (Zd Zk Zi)))))))
 (Yq (own2:=[5]) (Jr (Z5 jP rfl (qt rfl) (Y0 Zi)))
 (Yq (own2:=[5]) (XE (own:=[5]) qG rfl (XA.a (own:=[5]) (Vd (Y0 (Zd (ZN (Zd (ZA Vg (va 4) Zk) (Zd (va 4) Zi))) (Zd (ZN (Zd (ZA Vg (va 4) Zk) (Zd (ZA Vg (va 4) Zk) Zi))) (Zd (ZN (Zd (va 4) (Zd (ZA Yu (va 4) Zk) Zi))) Zi)))))) (XD jP rfl (qt rfl) (by decide))
 (Yq (own2:=[7,5]) (ZlJ (own:=[5]) (own':=[7,5]) (Z5 jP rfl (qt rfl) (ZA Zb8 (Y0 (Zd (ZN (Zd Zk (Zd Zk Zi))) Zi)) (ZD ZE (va 1) Zk))))
 (Yq (own2:=[7,5]) (Zhj (own:=[7,5]) (i:=7) (by decide) (pv 7) (va 2) (ZN (Zd Zk (Zd (va 4) Zi))))
 (Yq (own2:=[7,5]) (Zhj (own:=[7,5]) (i:=7) (by decide) (pv 7) (va 3) (va 6))
 (Yq (own2:=[5]) (YS.frz (own:=[7,5]) (own2:=[5]) (Zhk (own:=[5]) (i:=5) (by decide) (pv 5) (UE (Ba) rfl T.b_tuple TF.boot_tuple (Zd (va 7) Zi))))
 (Ys (own:=[5])))))))
 (Yq (own2:=[5]) (ZdR (i:=5) (by decide) (pv 5))
 (Ys (own:=[5]))))))))
noncomputable def Zh0:Ze->M Out:=(Zh (Yx (ZF (Zc YF (Za 1) (ZB Zf)))
 (Zh (ZL (Zc Zn (Yz (Zb (dC .non) (Zb (Yz Zf) (Zb (ZB (Zb (ZB (Zb (dC (.int 0)) (Zb (dC (.int 1)) Zf))) Zf)) (Zb (ZB Zf) (Zb (dC (.str (qN ""))) (Zb (dC (.int 0)) (Zb (dC (.bl true)) (Zb (dC (.str (qN "ab"))) Zf))))))))) (Zx YK (Zb (Za 0) (Zb (dC (.int 8)) Zf)))))
 Zq)
 Zq)
 (Zh (ZT 2 (Zx YK (Zb (Za 0) (Zb (ZO YZ (Zb (Za 1) Zf)) Zf))))
 (Zh (U3 (US 3 4) (Zc Zn (Za 1) (Za 2)))
 (Zh (ZT 5 (Yz (Zb (ZB (Zb (Zc ZY (Za 3) (Za 4)) (Zb (Za 4) Zf))) (Zb (ZB (Zb (Zc Xg (Za 3) (Za 4)) (Zb (Za 4) Zf))) (Zb (ZB (Zb (Za 4) (Zb (Za 3) Zf))) (Zb (Za 3) Zf))))))
 (Zh (ZT 5 (Zc ZY (Za 5) (Yz (Zb (ZB (Zb (Zc YX (dC (.int 2)) (Za 3)) (Zb (Zc YX (dC (.int 2)) (Za 4)) Zf))) (Zb (dC .non) (Zb (ZB (Zb (dC (.bl true)) (Zb (dC (.int 1)) Zf))) (Zb (ZB (Zb (dC (.int 1)) (Zb (dC (.int 1)) Zf))) (Zb (ZB (Zb (dC (.int 0)) (Zb (dC (.int 1)) Zf))) (Zb (ZB (Zb (dC (.int 1)) (Zb (dC (.int 0)) Zf))) Zf)))))))))
 (Zh (ZT 5 (Zc ZY (Za 5) (Yz (Zb (ZB (Zb (Za 3) (Zb (Zc Xg (dC (.int 0)) (Za 4)) Zf))) (Zb (ZB (Zb (dC (.int 1)) (Zb (dC (.int 2)) (Zb (dC (.int 3)) Zf)))) (Zb (ZB (Zb (dC (.int 1)) (Zb (dC (.int 97)) Zf))) (Zb (Yz (Zb (Za 3) (Zb (Za 4) Zf))) (Zb (ZB (Zb (Za 3) Zf)) (Zb (ZB Zf) Zf)))))))))
 (Zh (ZT 5 (Zc ZY (Za 5) (Yz (Zb (ZB (Zb (dC (.int 0)) (Zb (dC (.int 0)) Zf))) (Zb (dC (.str (qN "a"))) Zf)))))
 (Zh (ZT 5 (Zc ZY (Za 5) (Yz (Zb (ZB (Zb (Zc YX (dC (.int 37)) (Za 3)) (Zb (Zc YX (dC (.int 37)) (Za 4)) Zf))) (Zb (ZB (Zb (dC (.int 1)) (Zb (dC (.bl true)) Zf))) (Zb (ZB (Zb (dC (.str (qN ""))) (Zb (dC (.int 1)) Zf))) (Zb (ZB (Zb (dC (.int 1)) (Zb (dC .non) Zf))) (Zb (dC (.bl true)) (Zb (Zc W7 (dC (.int 10)) (dC (.int 59))) Zf)))))))))
 (Zh (ZT 6 (Zc ZY (dC (.int 2)) (Zx YK (Zb (Za 0) (Zb (Zc W7 (dC (.int 10)) (dC (.int 9))) Zf)))))
 (Zh (ZT 5 (Zc ZY (Za 5) (Yz (Zb (ZB (Zb (Zc YX (Za 6) (Za 3)) (Zb (Zc YX (Za 6) (Za 4)) Zf))) (Zb (ZB (Zb (Za 6) (Zb (Zc ZY (Zc YX (dC (.int 2)) (Za 6)) (dC (.int 1))) Zf))) (Zb (ZB (Zb (dC (.bl false)) (Zb (dC (.int 1)) Zf))) Zf))))))
 (Zh (ZT 7 (Zx YK (Zb (Za 0) (Zb (dC (.int 36)) Zf))))
 (Zh (Yx (ZF (Zc VM (Za 7) (dC (.int 30))))
 (Zh (ZL (Zc Zn (Yz (Zb (dC .non) (Zb (dC (.int 0)) (Zb (dC (.bl true)) (Zb (dC (.str (qN "ab"))) (Zb (Zc W7 (dC (.int 10)) (dC (.int 59))) Zf)))))) (Zc Xg (Za 7) (dC (.int 31)))))
 Zq)
 Zq)
 (Zh (Yx (ZF (Zc Vb (Za 7) (dC (.int 27))))
 (Zh (ZL (Zc ZY (Zc ZY (BD (Za 1) Zjy (Zjz (Za 2))) (ZB (Zb (Zc Zn (Za 5) (Za 7)) Zf))) (BD (Za 1) (Zjz (Zc ZY (Za 2) (dC (.int 1)))) Zjy)))
 Zq)
 Zq)
 (Zh (ZL (Zc Zn (Yz (Zb (ZO Zo2 (Zb (Za 1) Zf)) (Zb (BD (Za 1) (Zjz (dC (.int 1))) Zjy) (Zb (Zc ZY (Za 1) (ZB (Zb (ZB (Zb (dC (.int 0)) (Zb (dC (.int 1)) Zf))) Zf))) (Zb (dRev (Za 1)) Zf))))) (Zc Xg (Za 7) (dC (.int 27)))))
 Zq))))))))))))))
noncomputable def Zak:List D->M D:=runB 8 2 Zh0
theorem ZcB:FnScope ["_law_pen","_law_some","_law_at","_law_a","_law_b","_law_others","_law_m","_law_way"] ["_law_pen","_law_some"] (Zz Zc9):=Yy
theorem ZgD (F:Fun K "_law_bent" "_law_bent" Zc9 j7 jS)(T:Txt mg){L:List (Addr×Str)}(lo:Vs L)(jQ:Z3 P w K mg base 2 "_law_next" 2 true (Xo (XI K) L) YK) :
  FnOk P w K mg base ZP 3 j7 jS ["_law_pen","_law_some"] (Yf 2 false (Xo (XI K) L) Zak):=
 have jP:=ZcB.nd
 YG (own:=[]) F ZcB λcdv A outer s H E hr G hG=>
 have hT:Wh L G:=jw lo hG
 (Zu (WA (Y2 (WW hr.units) (va 1) (ZN Zi))
 (Zu (Ya (ZD ZE (Y0 (Zd UN (Zd (Y0 Zi) (Zd (ZN (Zd (ZN (Zd Zk (Zd Zk Zi))) Zi)) (Zd (ZN Zi) (Zd ZdP (Zd Zk (Zd Xu (Zd ZdP Zi))))))))) (Z7 (jQ.mono) hG hr (Zd (va 0) (Zd Zk Zi)))))
 ZZ)
 Ys)
 (Zu (Yk (Z5 jP rfl (qt rfl) (Z7 (jQ.mono) hG hr (Zd (va 0) (Zd (WJ T.b_len (Zd (va 1) Zi)) Zi)))))
 (Zu (Zea (ZD ZE (va 1) (va 2)) (Zb2 rfl jP rfl rfl (qt rfl) (qt rfl) (by decide) (by decide) (hp:=UH (Vy jP rfl (qt rfl)) (UH (Vy jP rfl (qt rfl)) Zdo))))
 (Zu (Yk (Z5 jP rfl (qt rfl) (Y0 (Zd (ZN (Zd (ZA Yu (va 3) (va 4)) (Zd (va 4) Zi))) (Zd (ZN (Zd (ZA Vg (va 3) (va 4)) (Zd (va 4) Zi))) (Zd (ZN (Zd (va 4) (Zd (va 3) Zi))) (Zd (va 3) Zi)))))))
 (Zu (Yk (Z5 jP rfl (qt rfl) (ZA Yu (va 5) (Y0 (Zd (ZN (Zd (ZA X0 Zk (va 3)) (Zd (ZA X0 Zk (va 4)) Zi))) (Zd UN (Zd (ZN (Zd Xu (Zd Zk Zi))) (Zd (ZN (Zd Zk (Zd Zk Zi))) (Zd (ZN (Zd Zk (Zd Zk Zi))) (Zd (ZN (Zd Zk (Zd Zk Zi))) Zi))))))))))
 (Zu (Yk (Z5 jP rfl (qt rfl) (ZA Yu (va 5) (Y0 (Zd (ZN (Zd (va 3) (Zd (ZA Vg Zk (va 4)) Zi))) (Zd (ZN (Zd Zk (Zd Zk (Zd Zk Zi)))) (Zd (ZN (Zd Zk (Zd Zk Zi))) (Zd (Y0 (Zd (va 3) (Zd (va 4) Zi))) (Zd (ZN (Zd (va 3) Zi)) (Zd (ZN Zi) Zi))))))))))
 (Zu (Yk (Z5 jP rfl (qt rfl) (ZA Yu (va 5) (Y0 (Zd (ZN (Zd Zk (Zd Zk Zi))) (Zd ZdP Zi))))))
 (Zu (Yk (Z5 jP rfl (qt rfl) (ZA Yu (va 5) (Y0 (Zd (ZN (Zd (ZA X0 Zk (va 3)) (Zd (ZA X0 Zk (va 4)) Zi))) (Zd (ZN (Zd Zk (Zd Xu Zi))) (Zd (ZN (Zd ZdP (Zd Zk Zi))) (Zd (ZN (Zd Zk (Zd UN Zi))) (Zd Xu (Zd (ZA Bt Zk Zk) Zi))))))))))
 (Zu (Yk (Z5 jP rfl (qt rfl) (ZA Yu Zk (Z7 (jQ.mono) hG hr (Zd (va 0) (Zd (ZA Bt Zk Zk) Zi))))))
 (Zu (Yk (Z5 jP rfl (qt rfl) (ZA Yu (va 5) (Y0 (Zd (ZN (Zd (ZA X0 (va 6) (va 3)) (Zd (ZA X0 (va 6) (va 4)) Zi))) (Zd (ZN (Zd (va 6) (Zd (ZA Yu (ZA X0 Zk (va 6)) Zk) Zi))) (Zd (ZN (Zd Xu (Zd Zk Zi))) Zi)))))))
 (Zu (Yk (Z5 jP rfl (qt rfl) (Z7 (jQ.mono) hG hr (Zd (va 0) (Zd Zk Zi)))))
 (Zu (WA (Y2 (ZdS) (va 7) Zk)
 (Zu (Ya (ZD ZE (Y0 (Zd UN (Zd Zk (Zd Xu (Zd ZdP (Zd (ZA Bt Zk Zk) Zi)))))) (ZA Vg (va 7) Zk)))
 ZZ)
 Ys)
 (Zu (WA (Y2 (JD hr.units0) (va 7) Zk)
 (Zu (Ya (PD.weak (ZA Yu (ZA Yu (Zd9 (va 1) Zd7 (Zd8 (va 2))) (ZN (Zd (ZD ZE (va 5) (va 7)) Zi))) (Zd9 (va 1) (Zd8 (ZA Yu (va 2) Zk)) Zd7))))
 ZZ)
 Ys)
 (Zu (Ya (ZD ZE (Y0 (Zd (UE (ZgY) rfl T.b_list TF.boot_list (Zd (va 1) Zi)) (Zd (Zd9 (va 1) (Zd8 Zk) Zd7) (Zd (ZA Yu (va 1) (ZN (Zd (ZN (Zd Zk (Zd Zk Zi))) Zi))) (Zd (Zp3 (va 1)) Zi))))) (ZA Vg (va 7) Zk)))
 ZZ))))))))))))))
noncomputable def Znb:Ze->M Out:=(Zh (Xc (Yt (dC (.int 3))) (ZI 2)
 (Zh (ZT 3 (Zx Zav (Zb (Za 1) (Zb (dC (.int 7)) Zf))))
 (Zh (Vo 4 (Yz (Zb (Zc Zn (Zx Bo (Zb (Za 3) Zf)) (dC (.int 2))) (Zb (Zc BN (ZB (Zb (ZB (Zb (dC (.int 1)) (Zb (dC (.int 1)) Zf))) Zf)) (Zc Zn (Za 3) (dC (.int 0)))) (Zb (Zc BN (ZB (Zb (ZB (Zb (dC (.int 1)) (Zb (dC (.int 2)) Zf))) Zf)) (Zc Zn (Za 3) (dC (.int 0)))) Zf)))))
 (Zh (Vp 4 (fun ρ=>(Zc BN (ZB (Zb (ZB (Zb (dC (.int 1)) (Zb (Zc ZY (dC (.int 1)) (Zx YK (Zb (Za 1) (Zb (dC (.int 9)) Zf)))) Zf))) Zf)) (Zc Zn (Za 3) (dC (.int 0)))) (Yg [4] ρ)))
 (Zh (ZT 5 (fun ρ=>(Yz (Zb (ZB (Zb (dC (.int 0)) (Zb (dC (.int 1)) Zf))) (Zb (ZB (Zb (dC (.int 1)) (Zb (dC (.int 1)) Zf))) (Zb (ZB (Zb (dC (.int 1)) (Zb (dC (.int 2)) Zf))) (Zb (ZB (Zb (dC (.int 1)) (Zb (dC (.int 3)) Zf))) (Zb (ZB (Zb (dC (.int 2)) (Zb (dC (.int 3)) Zf))) (Zb (ZB (Zb (dC (.int 1)) (Zb (dC (.int 4)) Zf))) (Zb (ZB (Zb (dC (.int 3)) (Zb (dC (.int 4)) Zf))) (Zb (ZB (Zb (dC (.int 0)) (Zb (dC (.int 1)) Zf))) (Zb (ZB (Zb (dC (.int 1)) (Zb (dC (.int 5)) Zf))) (Zb (ZB (Zb (dC (.int 1)) (Zb (dC (.int 6)) Zf))) (Zb (ZB (Zb (dC (.int 1)) (Zb (dC (.int 7)) Zf))) (Zb (ZB (Zb (dC (.int 2)) (Zb (dC (.int 5)) Zf))) Zf))))))))))))) (Yg [4] ρ)))
 (Zh (Xc (Yt (dC (.int 2))) (ZI 6)
 (Zh (Vp 4 (fun ρ=>(ZO Ue (Zb (Yb [none,some 5,some 1] (Yt (Zc Zn (Za 3) (dC (.int 0)))) (ZI 0) Yi (Zc Zn (Za 1) (Zx YK (Zb (Za 2) (Zb (dC (.int 12)) Zf))))) Zf)) (Yg [4] ρ)))
 Zq))
 (Zh (ZT 4 (Zc ZY (Za 4) (Zx Zaj (Zb (Za 1) (Zb (Za 3) Zf)))))
 (Zh (ZT 4 (Zc ZY (Za 4) (Yb [none,some 1] (Xv (Za 4)) (ZI 0) Yi (Zx Zak (Zb (Za 1) (Zb (Za 0) Zf))))))
 (Zh (Xc (Xv (Za 4)) (ZI 7)
 (Zh (VH 8 9 (Zb (Zx B8 (Zb (Za 3) (Zb (Za 7) Zf))) (Zb (ZO Zjv (Zb (Za 7) Zf)) Zf)))
 (Zh (ZT 10 (Zx J9 (Zb (Za 3) (Zb (Za 7) Zf))))
 (Zh (Yx (Wa (Xx (ZF (ZO X7 (Zb (Za 10) (Zb (dC (.ty "bool")) Zf))))) (Wa (ZF (Zc WF (Za 10) (Za 8))) (ZF (Zc WF (ZO Zjv (Zb (Za 7) Zf)) (Za 9)))))
 (Zh (ZL (dC (.bl false)))
 Zq)
 Zq)
 Zq))))
 Zq)))))))))
 (Zh (ZL (dC (.bl true)))
 Zq))
theorem Zjh:FnScope ["script","_law_pen","_law_k","_law_told","_law_things","_law_menu","_law_turn","_law_thing","_law_due","_law_text","_law_said"] ["script"] (Zz s_law):=Yy
theorem ZoH {cdv:Value}{A:xE}{outer:List Env}{s:Shared}{H:Hp}{E:XK}{L:List (Addr×Str)}(lo:Vs L)(T:Txt mg)(hr:Room 7 (A.deeper (envOfC "law" (Zz s_law) s.heap.objs.size j7 cdv)))(kx:Z3 P w K mg base 3 "_law_bent" 2 false (Xo (XI K) L) Zak)(ky:Z3 P w K mg base 3 "_law_fine" 2 true (Xo (XI K) L) Zaj)(jQ:Z3 P w K mg base 2 "_law_next" 2 true (Xo (XI K) L) YK)(kB:Z3 P w K mg base 3 "_law_web" 2 true (Xo (XI K) L) Zav)(kj:Z3 P w K mg base 2 "_law_weighs" 2 true Z4 B8)(ko:Z3 P w K mg base 7 "are_weights" 2 false (Wh L) J9)(kN:Z3 P w K mg base 7 "shares" 1 true (Wh L) Bo)(G:Gh)(hG:(Xo (XI K) L) G) :
  X6 (Vn ZP P w K mg base ["script","_law_pen","_law_k","_law_told","_law_things","_law_menu","_law_turn","_law_thing","_law_due","_law_text","_law_said"] "law" (Zz s_law) j7 cdv A outer s H E).nox G [] [] [] false ((XM s_law).drop 1) Znb:=
 have jP:=Zjh.nd;have hT:Wh L G:=jw lo hG
 (Zu (XE (own:=[]) qG rfl (UC rfl T.b_range Zk) (XD jP rfl (qt rfl) (by decide))
 (Zu (Yk (Z5 jP rfl (qt rfl) (Z7 (kB.mono) hG hr (Zd (va 1) (Zd Zk Zi)))))
 (Yq (own2:=[4]) (Jr (Z5 jP rfl (qt rfl) (Y0 (Zd (ZD ZE (Z7 (kN.mono) hT hr (Zd (va 3) Zi)) Zk) (Zd (ZA Zej (ZN (Zd (ZN (Zd Zk (Zd Zk Zi))) Zi)) (ZD ZE (va 3) Zk)) (Zd (ZA Zej (ZN (Zd (ZN (Zd Zk (Zd Zk Zi))) Zi)) (ZD ZE (va 3) Zk)) Zi))))))
 (Yq (own2:=[4]) (Bn (own:=[4]) (i:=4) (by decide) (ZA Zej (ZN (Zd (ZN (Zd Zk (Zd (ZA Yu Zk (Z7 (jQ.mono) hG hr (Zd (va 1) (Zd Zk Zi)))) Zi))) Zi)) (ZD ZE (va 3) Zk)) (λ_ h=>Bi (pv 4) h))
 (Yq (own2:=[4]) (Za6 (own:=[4]) (Z5 jP rfl (z7 rfl) (Y0 (Zd (ZN (Zd Zk (Zd Zk Zi))) (Zd (ZN (Zd Zk (Zd Zk Zi))) (Zd (ZN (Zd Zk (Zd Zk Zi))) (Zd (ZN (Zd Zk (Zd Zk Zi))) (Zd (ZN (Zd Zk (Zd Zk Zi))) (Zd (ZN (Zd Zk (Zd Zk Zi))) (Zd (ZN (Zd Zk (Zd Zk Zi))) (Zd (ZN (Zd Zk (Zd Zk Zi))) (Zd (ZN (Zd Zk (Zd Zk Zi))) (Zd (ZN (Zd Zk (Zd Zk Zi))) (Zd (ZN (Zd Zk (Zd Zk Zi))) (Zd (ZN (Zd Zk (Zd Zk Zi))) Zi)))))))))))))))
 (Yq (own2:=[4]) (XE (own:=[4]) qG rfl (UC rfl T.b_range Zk) (XD jP rfl (qt rfl) (by decide))
 (Yq (own2:=[4]) (Zhk (own:=[4]) (i:=4) (by decide) (pv 4) (UE (Ba) rfl T.b_tuple TF.boot_tuple (Zd (Xw (bk ["script","_law_pen","_law_k","_law_told","_law_things","_law_menu","_law_turn","_law_thing","_law_due","_law_text","_law_said"] (Zz s_law).names ["_law_place","_law_menu","_law_pen"] [none,some 5,some 1]) (WK rfl T.b_range (ZD ZE (va 3) Zk)) Y9 XS (ZD ZE (va 1) (Z7 (jQ.mono) hG hr (Zd (va 2) (Zd Zk Zi))))) Zi)))
 (Ys (own:=[4]))))
 (Zu (YS.frz (own:=[4]) (own2:=[]) (Yk (Z5 jP rfl (qt rfl) (ZA Yu (va 4) (Z7 (ky.mono) hG hr (Zd (va 1) (Zd (va 3) Zi)))))))
 (Zu (Yk (Z5 jP rfl (qt rfl) (ZA Yu (va 4) (Xw (bk ["script","_law_pen","_law_k","_law_told","_law_things","_law_menu","_law_turn","_law_thing","_law_due","_law_text","_law_said"] (Zz s_law).names ["_law_one","_law_pen"] [none,some 1]) (Vd (va 4)) Y9 XS (Z7 (kx.mono) hG hr (Zd (va 1) (Zd (va 0) Zi)))))))
 (Zu (XE (own:=[]) qG rfl (XA.n (Vd (va 4))) (XD jP rfl (qt rfl) (by decide))
 (Zu (Bq (own:=[]) rfl jP rfl rfl (by decide) (by decide) (by decide) rfl rfl (Zd (Z7 (kj.mono) trivial hr (Zd (va 3) (Zd (va 7) Zi))) (Zd (Xk (Zd0 hr.gd hr.units) rfl T.b_repr TF.boot_repr (Zd (va 7) Zi)) Zi)) (by with_unfolding_all rfl))
 (Zu (Yk (Z5 jP rfl (qt rfl) (Z7 (ko.mono) hT hr (Zd (va 3) (Zd (va 7) Zi)))))
 (Zu (WA (Wn.pt (Uc (Vz (X1 (Xk (UG) rfl T.b_isinstance TF.boot_isinstance (Zd (va 10) (Zd (UU rfl T.b_bool TF.boot_bool) Zi))))) (Uc (Y2 (BC hr.units) (va 10) (va 8)) (Ju (Y2 (BC hr.units) (Xk (Zd0 hr.gd hr.units) rfl T.b_repr TF.boot_repr (Zd (va 7) Zi)) (va 9))))))
 (Zu (Ya (PD.weak Xu))
 ZZ)
 Ys)
 ZZ))))
 ZZ)))))))))
 (Zu (Ya (PD.weak Xu))
 ZZ))
theorem ZcC:FnScope ["_law_pen","_law_many","_law_at","_law_cell","_law_found"] ["_law_pen","_law_many"] (Zz Zc7):=⟨rfl,rfl,rfl,by decide +kernel,rfl,by decide +kernel,by decide +kernel⟩
theorem Zji {ds:List D}{s s':Pn}{d:D}(h:YK ds s=some (d,s')):∃m a hd ns,ds=[.pen,.int m]/\s=([a,hd],ns)/\0<m/\m<1073741824/\0<=a/\d=.int ((X5 m a hd ns).2 % m)/\s'=([(X5 m a hd ns).1,(X5 m a hd ns).2 / m],ns):=by
 unfold YK at h;split at h
 ·split at h
  ·rename_i m a hd ns c
   cases h
   exact⟨m,a,hd,ns,rfl,rfl,c.1,c.2.1,c.2.2,rfl,rfl⟩
  ·cases h
 ·cases h
theorem ZgE {P:xD}{w:World}{K:qd}{mg:Str->Option Value}{base:Heap}{j7:Addr}{jS:xC}(F:Fun K "_law_next" "_law_next" Zc7 j7 jS)(T:Txt mg)
  (kO:Z3 P w K mg base 1 "_law_fill" 2 false Z4 Jk) (Znc:∀c a s,0<=a->Jk [.int c,.int a] s=some (.int (VE c a),s)) :
  FnOk P w K mg base ZP 2 j7 jS ["_law_pen","_law_many"] (Yf 2 true (XI K) YK):=by
 have nd:=ZcC.nd;refine F.ok ZcC (λvs H Q E h=>?_) λcdv A outer s0 H vs Q E hr h=>?_
 ·obtain⟨G,Hf,ds,pn,d,pn',_,e,_⟩:=h
  exact e
 ·obtain⟨G,Hf,ds,pn,d,pn',hG,el,e1,r,st',eF,k'⟩:=h
  obtain⟨p,sa,tr,rfl⟩:=hG;obtain⟨m,a,hd,ns,rfl,rfl,m0,m1,a0,rfl,rfl⟩:=Zji eF;obtain⟨v1,v2,rfl,r1,r2⟩:=jo r
  cases (jq.mp r1)
  cases (ja.mp r2)
  obtain⟨a',h',ea,hp,ne,sq,t1,t2⟩:=st';simp only[qbO,and_true]at ea;obtain⟨rfl,rfl⟩:=ea
  -- behind: the pen's two numbers
  have fin:∀(H1:Hp) (x0 y0 x y:Int),stL K p sa tr ([x0,y0],ns) H1->stL K p sa tr ([x,y],ns) (Zs H1 p (.lst [.ref sa,.int x,.int y])):=λH1 x0 y0 x y ⟨_,_,_,_,_,sq,t1,t2⟩=>by
   refine⟨x,y,rfl,Z1,ne,?_,λht=>?_,t2⟩
   ·rcases sq with(q | ⟨o,q⟩) | q
    ·exact .inl (.inl (by rw[Zv ne];exact q))
    ·exact .inl (.inr ⟨o,by rw[Zv ne];exact q⟩)
    ·exact .inr q
   ·obtain⟨o,q⟩:=t1 ht
    exact⟨o,by rw[Zv ne];exact q⟩
  have st0:stL K p sa tr ([a,hd],ns) H:=⟨a,hd,rfl,hp,ne,sq,t1,t2⟩;have grH:∀(jX H1:Hp) o,ZC (U2 K p sa tr) jX H1->Gr (U2 K p sa tr) jX H1 jX (Zs H1 p o):=λjX H1 o e1=>
   ⟨λb u n q=>by rw[Zv (show b≠p from n)];exact q,.refl _ _,λb u n q=>by rw[Zv (show b≠p from n)];exact e1 b u n q,λb n h1 h2=>h1⟩
  refine⟨_,XZ (Zjn (ZbZ Zlm (W0 WU (pv 0) Xa (λ_ _=>rfl)) (pv 1) (ZdI _))
   (XZ (Ub (i:=2) nd rfl (qt rfl) (W0 WU (pv 0) Xa (λ_ _=>rfl)))
   (XZ (Ub (i:=3) nd rfl (qt rfl) Xa)
   (XZ (Zjn (ZbZ Zlm (pv 2) (Za4 B9 rfl T.b_len TF.boot_len (Xt (W0 WU (pv 0) Xa (λ_ _=>rfl)) X4)) (ZdI _))
    (Js (Ub (i:=3) nd rfl (qt rfl) (W0 WU (W0 WU (pv 0) Xa (λ_ _=>rfl)) (pv 2) (λ_ _=>rfl))))
    (Js (Zjn (ZbZ ZoW (Za4 B9 rfl T.b_len TF.boot_len (Xt (W0 WU (pv 0) Xa (λ_ _=>rfl)) X4)) Xa (ZdI _))
     (Js (Ub (i:=3) nd rfl (qt rfl) (Uj Zic (Uj ZfR (W0 WU (W0 WU (pv 0) Xa (λ_ _=>rfl)) (Uj ZfR (Uj Zid (pv 2) Xa) (Za4 B9 rfl T.b_len TF.boot_len (Xt (W0 WU (pv 0) Xa (λ_ _=>rfl)) X4))) (λ_ _=>rfl)) Xa) (Uj Zid (pv 2) Xa))))
     Zdn)))
   (XZ (Bx (Uj Zic (pv 2) Xa) (ZdG (pv 0) Xa Za5))
   (Js (Bx (PD.canon (ZlS (G:=U2 K p sa tr) kO trivial hr rfl (Zd (Zim 3 (pv 3)) (Zd (Zim 2 (pv 2)) Zi)) (YI (YI WB)))) (ZdG (pv 0) Xa Za5)))))))
   Zdn)
   (XZ (Ub (i:=4) nd rfl (qt rfl) (Uj ZfR (W0 WU (pv 0) Xa (λ_ _=>rfl)) (pv 1)))
   (XZ (Bx (Uj Znx (W0 WU (pv 0) Xa (λ_ _=>rfl)) (pv 1)) (ZdG (pv 0) Xa Za5))
   (Js (Zh9 (pv 4))))),?_⟩
  -- pen[2]<many
  refine⟨_,rfl,p,[.ref sa,.int a,.int hd],2,.int hd,rfl,rfl,ZV.of hp,rfl,_,rfl,hd,m,rfl,rfl,_,rfl,?_⟩
  -- the last three rows,from any state of the pen
  have last:∀(x y:Int) (o2 o3 o4:Option V) (jX H1:Hp),Gr (U2 K p sa tr) Hf H jX H1->stL K p sa tr ([x,y],ns) H1->x=(X5 m a hd ns).1->y=(X5 m a hd ns).2->
    BW (UX (WH (rI (λ_ j=>0<j) λi j=>.int (i % j)) (WH (rIxL K) (Yd 0) (tC (.int 2))) (Yd 1)) (BG 4))
     (BW (UX (WH (rI CDiv λi j=>.int (i / j)) (WH (rIxL K) (Yd 0) (tC (.int 2))) (Yd 1)) (gSub (Yd 0) (tC (.int 2)) ZgP)) (tRet (Yd 4))) { nx:=λ_ H'=>Q .non H',rt:=Q } [some (.ref p),some (.int m),o2,o3,o4] H1:=by
   intro x y o2 o3 o4 jX H1 g1 jY ex ey;obtain⟨x1,y1,exy,hp1,_⟩:=id jY;simp only[qbO,and_true]at exy;obtain⟨rfl,rfl⟩:=exy;refine⟨_,rfl,p,[.ref sa,.int x,.int y],2,.int y,rfl,rfl,ZV.of hp1,rfl,_,rfl,y,m,rfl,rfl,m0,?_⟩;refine⟨_,rfl,p,[.ref sa,.int x,.int y],2,.int y,rfl,rfl,ZV.of hp1,rfl,_,rfl,y,m,rfl,rfl,⟨m0,m1⟩,_,rfl,p,[.ref sa,.int x,.int y],2,2,rfl,rfl,hp1,rfl,?_⟩;refine⟨_,rfl,?_⟩;have j8:=fin H1 x y x (y / m) jY;subst ex ey;exact k' _ jX _ (g1.trans (grH _ _ _ g1.fh)) j8 (ja.mpr rfl) λ_=>.scal λz=>z
  by_cases hlt:hd<m
  ·rw[decide_eq_true hlt]
   refine VW ?_;refine⟨_,rfl,p,[.ref sa,.int a,.int hd],1,.int a,rfl,rfl,ZV.of hp,rfl,?_⟩
   -- the rest behind the cell
   have rest:∀c:Int,c=Zg7 ns a->
     BW (UX (WH (VJ λi j=>.int (i+j)) (Yd 2) (tC (.int 1))) (gSub (Yd 0) (tC (.int 1)) ZgP)) (UX (B2 (U2 K p sa tr) false (Zx Jk (Zb (Za 3) (Zb (Za 2) Zf)))) (gSub (Yd 0) (tC (.int 2)) ZgP)) ({ nx:=(BW (UX (WH (rI (λ_ j=>0<j) λi j=>.int (i % j)) (WH (rIxL K) (Yd 0) (tC (.int 2))) (Yd 1)) (BG 4)) (BW (UX (WH (rI CDiv λi j=>.int (i / j)) (WH (rIxL K) (Yd 0) (tC (.int 2))) (Yd 1)) (gSub (Yd 0) (tC (.int 2)) ZgP)) (tRet (Yd 4))) { nx:=λ_ H'=>Q .non H',rt:=Q }),rt:=Q }:Ends) [some (.ref p),some (.int m),some (.int a),some (.int c),none] H:=by
    intro c ec;refine⟨_,rfl,a,1,rfl,rfl,_,rfl,p,[.ref sa,.int a,.int hd],1,1,rfl,rfl,hp,rfl,?_⟩;have g1:=grH Hf H (.lst [.ref sa,.int (a+1),.int hd]) e1;refine⟨Hf,[none,none,some (.int a),some (.int c)],([a+1,hd],ns),.int (VE c a),([a+1,hd],ns),g1.fh,λi d e=>?_,fin H a hd (a+1) hd st0,?_,λv Hf' H' g st r _=>?_⟩
    ·match i,e with
     | 0,e=>cases e
     | 1,e=>cases e
     | 2,e=>cases e;exact⟨_,rfl,ja.mpr rfl⟩
     | 3,e=>cases e;exact⟨_,rfl,ja.mpr rfl⟩
     | i+4,e=>simp at e
    ·exact Znc c a _ a0
    ·rw[ja.mp r]
     obtain⟨x1,y1,exy,hp1,_⟩:=id st;simp only[qbO,and_true]at exy;obtain⟨rfl,rfl⟩:=exy;refine⟨_,rfl,p,[.ref sa,.int (a+1),.int hd],2,2,rfl,rfl,hp1,rfl,?_⟩;refine last (a+1) (VE c a) _ _ _ Hf' _ ((g1.trans g).trans (grH _ _ _ g.fh)) (fin H' _ _ _ _ st) ?_ ?_
     ·unfold X5;rw[if_pos hlt]
     ·unfold X5;rw[if_pos hlt,ec]
   refine⟨_,rfl,_,rfl,p,[.ref sa,.int a,.int hd],0,.ref sa,rfl,rfl,ZV.of hp,rfl,sa,ns.map V.int,rfl,.inl sq,a,_,rfl,rfl,_,rfl,?_⟩;have lm:((ns.map V.int).length:Int)=(ns.length:Int):=by simp
   by_cases h2:a<ns.length
   ·rw[lm,decide_eq_true h2]
    refine VW ?_;have hi:a.toNat<ns.length:=by omega
    have gi:(ns.map V.int)[a.toNat]?=some (.int (ns.getD a.toNat 0)):=by simp[qco,hi]
    have ai:Xz (ns.map V.int) a=some (.int (ns.getD a.toNat 0)):=by
     have q:=Vf gi
     rwa[qci a0]at q
    refine⟨_,rfl,p,[.ref sa,.int a,.int hd],0,.ref sa,rfl,rfl,ZV.of hp,rfl,_,rfl,sa,ns.map V.int,a,_,rfl,rfl,sq,ai,?_⟩;exact rest _ (by unfold Zg7;rw[if_pos h2])
   ·rw[lm,decide_eq_false h2]
    refine VV ?_;refine⟨_,rfl,p,[.ref sa,.int a,.int hd],0,.ref sa,rfl,rfl,ZV.of hp,rfl,sa,ns.map V.int,rfl,.inl sq,_,0,rfl,rfl,_,rfl,?_⟩;by_cases h3:(0:Int)<ns.length
    ·rw[lm,decide_eq_true h3]
     refine VW ?_;have j0:=y6 (a*7) (show(ns.length:Int)≠0 by omega);have j1:=yF (a*7) h3;have hi:(a*7 % (ns.length:Int)).toNat<ns.length:=by omega
     have gi:(ns.map V.int)[(a*7 % (ns.length:Int)).toNat]?=some (.int (ns.getD (a*7 % (ns.length:Int)).toNat 0)):=by simp[qco,hi]
     have ai:Xz (ns.map V.int) (a*7 % (ns.length:Int))=some (.int (ns.getD (a*7 % (ns.length:Int)).toNat 0)):=by
      have q:=Vf gi
      rwa[qci j0]at q
     refine⟨_,rfl,p,[.ref sa,.int a,.int hd],0,.ref sa,rfl,rfl,ZV.of hp,rfl,_,rfl,a,7,rfl,rfl,.inr ⟨by decide,by decide⟩,_,rfl,p,[.ref sa,.int a,.int hd],0,.ref sa,rfl,rfl,ZV.of hp,rfl,sa,ns.map V.int,rfl,.inl sq,a*7,_,rfl,rfl,(by rw[lm];exact h3),sa,ns.map V.int,_,_,rfl,rfl,sq,(by rw[lm];exact ai),_,1000003,rfl,rfl,(by show(0:Int)<1000003;decide),_,rfl,a,1000003,rfl,rfl,.inr ⟨by decide,by decide⟩,_,_,rfl,rfl,?_⟩;exact rest _ (by unfold Zg7;rw[if_neg h2,if_pos (by omega)])
    ·rw[lm,decide_eq_false h3]
     refine VV ?_;exact rest 0 (by unfold Zg7;rw[if_neg h2,if_neg (by omega)])
  ·rw[decide_eq_false hlt]
   refine VV ?_;exact last a hd none none none Hf H (.refl e1) st0 (by unfold X5;rw[if_neg hlt]) (by unfold X5;rw[if_neg hlt])
end K28
namespace TP
open TF L2
theorem Znc:∀c a s,0<=a->Jk [.int c,.int a] s=some (.int (VE c a),s):=by
 intro c a s ha;have hx0:=y6 (c % 2147483647*48271+a*69621+11) (show(2147483629:Int)≠0 by decide);have hx1:=yF (c % 2147483647*48271+a*69621+11) (show(0:Int)<2147483629 by decide);by_cases hc:10 ^ 18<=c
 ·have e:VE c a=c:=by unfold VE;rw[if_pos hc]
  rw[e];have:(1000000000000000000:Int)<=c:=by simpa using hc
  simp[Jk,runB,Za9,Zh,Yx,ZF,Zc,Uz,dI,Za,dC,Zp,ZJ,YO,W7,ZL,Zq,this]
 ·have e:¬(1000000000000000000:Int)<=c:=λz=>hc (by simpa using z)
  generalize hx:(c % 2147483647*48271+a*69621+11) % 2147483629=x at hx0 hx1;have hy0:=y6 (x*x+48271*x+a) (show(2147483587:Int)≠0 by decide);have hy1:=yF (x*x+48271*x+a) (show(0:Int)<2147483587 by decide);generalize hy:(x*x+48271*x+a) % 2147483587=y at hy0 hy1;have ef:VE c a=y*2147483579+(y*y+69621*a) % 2147483579:=by
   unfold VE;rw[if_neg hc];dsimp only;rw[hx,hy]
  rw[ef];have m1:∀z:Int,0<=z->z<2147483648->∀w,JL z w=true:=λz h1 h2 w=>by
   unfold JL;simp;left;omega
  have m2:∀z w:Int,0<=z->z<2147483648->JL w z=true:=λz w h1 h2=>by
   unfold JL;simp;right;omega
  simp[Jk,runB,Za9,Zh,Yx,ZF,Zc,Uz,dI,Za,dC,Zp,ZJ,YO,W7,ZL,Zq,ZT,VZ,Us,ZY,e,hx,hy,m1 x hx0 (by omega),m1 y hy0 (by omega),m2 48271 _ (by decide) (by decide),m2 69621 _ (by decide) (by decide),m1 48271 (by decide) (by decide),m1 69621 (by decide) (by decide),m2 2147483579 _ (by decide) (by decide)]
end TP
set_option exponentiation.threshold 9000
namespace TQ
open L2 TF TQ TU TS
open TP
open TP2 hiding g_all_near F_all_near
open TP3 hiding g_full_knots F_full_knots
noncomputable def WG (t b:Int):Int×Int:=(t / (zj t b:Nat),b / (zj t b:Nat))
noncomputable abbrev Zl (p:Int×Int):D:=.tup [.int p.1,.int p.2]
structure IsFr (p:Int×Int):Prop where
 pos:0<p.2
 one:zj p.1 p.2=1
theorem Zqq (hb:0<b):IsFr (WG t b):=by
 have g0:0<zj t b:=qa2 λz=>by simp_all
 exact⟨Int.ediv_pos_of_pos_of_dvd hb (by omega) (qbg ..),Int.gcd_ediv_gcd_ediv_gcd g0⟩
theorem ZoI (hb:0<b):(WG t b).1*b=t*(WG t b).2:=by
 have h1:=yX (Int.gcd_dvd_left t b);have h2:=yX (qbg t b);show t / (zj t b:Nat)*b=t*(b / (zj t b:Nat))
 grind
theorem ZoJ (hb:0<b):(WG t b).1.natAbs<=t.natAbs/\(WG t b).2.natAbs<=b.natAbs:=by
 have g0:0<zj t b:=qa2 λz=>by simp_all
 have h1:=yX (Int.gcd_dvd_left t b);have h2:=yX (qbg t b);have k:∀x y:Int,x*(zj t b:Nat)=y->x.natAbs<=y.natAbs:=λx y e=>by
  rw[<-e,qal];exact Nat.le_mul_of_pos_right _ g0
 exact⟨k _ _ h1,k _ _ h2⟩
theorem ZoK (hb:0<b):(0<(WG t b).1↔0<t):=by
 have h:=ZoI (t:=t) hb;have p:=(Zqq (t:=t) hb).pos;constructor
 ·intro z
  have:=h▸qaW z hb;exact qbI this p
 ·intro z
  have:=h▸qaW z p;exact qbI this hb
noncomputable def Uw:Int×Int->List (Int×Int)->Int×Int
 | a,[]=>a
 | a,p::r=>Uw (a.1*p.2+p.1*a.2,a.2*p.2) r
noncomputable abbrev Yj (l:List (Int×Int)):Int×Int:=Uw (0,1) l
theorem Zh1:∀{l:List (Int×Int)} {a:Int×Int},0<a.2->(∀p∈l,0<p.2)->0<(Uw a l).2
 | [],_,h,_=>h
 | p::r,a,h,hp=>Zh1 (a:=(a.1*p.2+p.1*a.2,a.2*p.2)) (qaW h (hp p (by simp))) λq hq=>hp q (by simp[hq])
theorem Zh2 {α:Type}{p:α->Int×Int}{t:α->Int}:∀{l:List α} {a:Int×Int} {S:Int},(∀x∈l,(p x).1*d=t x*(p x).2)->a.1*d=a.2*S->(Uw a (l.map p)).1*d=(Uw a (l.map p)).2*(S+(l.map t).sum)
 | [],a,S,_,h=>by simpa[Uw]using h
 | x::r,a,S,hp,h=>by
  have h1:=hp x (by simp);have e:(a.1*(p x).2+(p x).1*a.2)*d=(a.2*(p x).2)*(S+t x):=by
   grind
  have:=Zh2 (l:=r) (a:=(a.1*(p x).2+(p x).1*a.2,a.2*(p x).2)) (λy hy=>hp y (by simp[hy])) e;rw[qS,qS,List.sum_cons];show(Uw _ (r.map p)).1*d=(Uw _ (r.map p)).2*_;rw[this,Int.add_assoc]
theorem ZoL {α:Type}{p:α->Int×Int}{t:α->Int}{l:List α}(hp:∀x∈l,(p x).1*d=t x*(p x).2):(Yj (l.map p)).1*d=(Yj (l.map p)).2*(l.map t).sum:=by
 have:=Zh2 (a:=(0,1)) (S:=0) hp (by simp);simpa using this
noncomputable abbrev Few (e:Nat)(l:List (Int×Int)):Prop:=∀p∈l,p.1.natAbs<=2 ^ e/\p.2.natAbs<=2 ^ e
theorem Za1 {a:Int}(h1:a.natAbs<=2 ^ x)(h2:b.natAbs<=2 ^ y):(a*b).natAbs<=2 ^ (x+y):=by
 rw[qal,Nat.pow_add];exact yj h1 h2
theorem ZoM {a:Int×Int}{p:Int×Int}(h1:a.1.natAbs<=2 ^ x)(h2:a.2.natAbs<=2 ^ x)(h3:p.1.natAbs<=2 ^ e)(h4:p.2.natAbs<=2 ^ e) :
  (a.1*p.2+p.1*a.2).natAbs<=2 ^ (x+(e+1))/\(a.2*p.2).natAbs<=2 ^ (x+(e+1)):=by
 have k1:=Za1 h1 h4;have k2:=Za1 h3 h2;have k3:=Za1 h2 h4;have e1:2 ^ (x+(e+1))=2 ^ (x+e)+2 ^ (x+e):=by grind
 rw[Nat.add_comm e x]at k2;rw[e1];generalize 2 ^ (x+e)=z at *;exact⟨qp (qbf _ _) (by omega),by omega⟩
theorem Znd (h:a.natAbs<=2 ^ x)(hx:x<8000):Xr a=true:=decide_eq_true (zE h (Nat.pow_lt_pow_right (by decide) hx))
theorem WD (h1:i.natAbs<=2 ^ x)(h2:j.natAbs<=2 ^ y)(hx:x<8000)(hy:y<8000):YX (.int i) (.int j)=some (.int (i*j)):=Zcp (Znd h1 hx) (Znd h2 hy)
theorem ZgF {R:Int×Int->Ze->Prop}(hstep:∀(a p:Int×Int) (x:Nat) (ρ:Ze),R a ρ->a.1.natAbs<=2 ^ x->a.2.natAbs<=2 ^ x->x+(e+1)<8000->p.1.natAbs<=2 ^ e->p.2.natAbs<=2 ^ e->∃ρ1 ρ2,τ (Zl p) ρ=some ρ1/\body ρ1 s=some (.nx ρ2,s)/\R (a.1*p.2+p.1*a.2,a.2*p.2) ρ2) :
  ∀(l:List (Int×Int)) (a:Int×Int) (x:Nat) (ρ:Ze),R a ρ->a.1.natAbs<=2 ^ x->a.2.natAbs<=2 ^ x->Few e l->x+(e+1)*l.length<8000->∃ρ',Wu τ body (l.map Zl) ρ s=some (.nx ρ',s)/\R (Uw a l) ρ'
 | [],a,x,ρ,h,_,_,_,_=>⟨ρ,rfl,h⟩
 | p::r,a,x,ρ,h,h1,h2,hf,hx=>by
  obtain⟨h3,h4⟩:=hf p (by simp);obtain⟨k1,k2⟩:=ZoM h1 h2 h3 h4;have hx':x+(e+1)+(e+1)*r.length<8000:=by rw[zb,Nat.mul_succ]at hx;omega
  obtain⟨ρ1,ρ2,e1,e2,e3⟩:=hstep a p x ρ h h1 h2 (by omega) h3 h4;obtain⟨ρ',e4,e5⟩:=ZgF hstep r _ _ ρ2 e3 k1 k2 (λq hq=>hf q (by simp[hq])) hx';exact⟨ρ',Bb e1 e2 e4,e5⟩
theorem Zh3 (h:fs ρ s=some ([a,b],s1))(hm:(XR a&&XR b)=true):VH i j fs ρ s=some (.nx ((ρ.set i (some a)).set j (some b)),s1):=by
 unfold VH Zp;rw[h];show(if (XR a&&XR b)=true then ZJ (Out.nx ((ρ.set i (some a)).set j (some b)))else ZS) s1=_;rw[if_pos hm];rfl
theorem Zne (hd:d=.lst (l.map Zl)∨d=.tup (l.map Zl))(hf:Few e l)(hx:(e+1)*l.length<8000)(s:Pn):Bc [d] s=some (Zl (Yj l),s):=by
 by_cases h0:l=[]
 ·subst h0
  rcases hd with rfl | rfl <;> rfl
 obtain⟨ρ',h1,o3,o4,rfl⟩:=ZgF (τ:=US 3 4) (body:=(Zh (VH 1 2 (Zb (Zc ZY (Zc YX (Za 1) (Za 4)) (Zc YX (Za 3) (Za 2))) (Zb (Zc YX (Za 2) (Za 4)) Zf))) Zq)) (R:=λa ρ=>∃o3 o4,ρ=[some d,some (.int a.1),some (.int a.2),o3,o4]) (s:=s)
  (λa p x ρ ⟨o3,o4,hρ⟩ k1 k2 k3 k4 k5=>by
   subst hρ;refine⟨_,_,rfl,Yh (Zh3 (Zg (Zm (Zm rfl rfl (WD k1 k5 (by omega) (by omega))) (Zm rfl rfl (WD k4 k2 (by omega) (by omega))) rfl) (Zg (Zm rfl rfl (WD k2 k5 (by omega) (by omega))) rfl)) rfl) rfl,_,_,rfl⟩)
  l (0,1) 0 [some d,some (.int 0),some (.int 1),none,none] ⟨none,none,rfl⟩ (by simp) (by simp) hf (by omega)
 have hi:ZmJ (Za 0) [some d,some (.int 0),some (.int 1),none,none] s=some (l.map Zl,s):=by
  rcases hd with rfl | rfl <;> rfl
 exact Yr rfl (Yh rfl (Yh (V9 hi h1) (ZX (YW (Xe (Zg rfl (Zg rfl rfl)) (by show 2<=xg;decide))))))
theorem Znf (hf:Few e l)(hx:(e+1)*l.length<8000)(s:Pn):ZdA [.lst (l.map Zl)] s=some (Zl (Yj l),s):=by
 by_cases h0:l=[]
 ·subst h0;rfl
 have he:e+1<8000:=by
  have:1<=l.length:=qcj.mpr h0;have:=yz (e+1) this;omega
 obtain⟨ρ',h1,o3,rfl⟩:=ZgF (τ:=ZI 3) (body:=(Zh (ZT 1 (Zc ZY (Zc YX (Za 1) (Zc Zn (Za 3) (dC (.int 1)))) (Zc YX (Zc Zn (Za 3) (dC (.int 0))) (Za 2)))) (Zh (ZT 2 (Zc YX (Za 2) (Zc Zn (Za 3) (dC (.int 1))))) Zq))) (R:=λa ρ=>∃o3,ρ=[some (.lst (l.map Zl)),some (.int a.1),some (.int a.2),o3])
  (λa p x ρ ⟨o3,hρ⟩ k1 k2 k3 k4 k5=>by
   subst hρ;have i0:∀ρ,(ρ[3]?).bind id=some (Zl p)->Zc Zn (Za 3) (dC (.int 0)) ρ s=some (.int p.1,s):=fun ρ h=>Zm (d:=Zl p) (by unfold Za YO;rw[h]) rfl (VF _ _);have i1:∀ρ,(ρ[3]?).bind id=some (Zl p)->Zc Zn (Za 3) (dC (.int 1)) ρ s=some (.int p.2,s):=fun ρ h=>Zm (d:=Zl p) (by unfold Za YO;rw[h]) rfl (Uo _ _ _);refine⟨_,_,rfl,Yh (Wd (Zm (Zm rfl (i1 _ rfl) (WD k1 k5 (by omega) (by omega))) (Zm (i0 _ rfl) rfl (WD k4 k2 (by omega) (by omega))) rfl)) (Yh (Wd (Zm rfl (i1 _ rfl) (WD k2 k5 (by omega) (by omega)))) rfl),_,rfl⟩)
  l (0,1) 0 [some (.lst (l.map Zl)),some (.int 0),some (.int 1),none] ⟨none,rfl⟩ (by simp) (by simp) hf (by omega)
 exact Yr rfl (Yh rfl (Yh rfl (Yh (V9 (Ua rfl) h1) (ZX (YW (Xe (Zg rfl (Zg rfl rfl)) (by show 2<=xg;decide)))))))
set_option exponentiation.threshold 9000
noncomputable def Wk:D->Bool
 | .tup [.int a,.int b]=>decide (0<b)&&decide (zj a b=1)
 | _=>false
theorem Zng:Wk (Zl p)=true↔IsFr p:=by
 show(decide (0<p.2)&&decide (zj p.1 p.2=1))=true↔_;rw[zc,decide_eq_true_eq,decide_eq_true_eq];exact⟨λh=>⟨h.1,h.2⟩,λh=>⟨h.1,h.2⟩⟩
theorem ZcU (h:Wk d=true):∃p,d=Zl p/\IsFr p:=by
 unfold Wk at h;split at h
 ·rename_i a b
  exact⟨(a,b),rfl,Zng.mp h⟩
 ·cases h
theorem ZcV (h:XO x=false∨XO y=false):Wk (.tup [x,y])=false:=by
 unfold Wk;split
 ·rename_i e
  cases e
  rcases h with h | h <;> cases h
 ·rfl
theorem Znh (x y:Int):zj y (x.fmod y)=zj x y:=by
 rw[Int.fmod_def,qbA y,qbA x];rw[qbA y x];simp
theorem Zni {x:Int}(h:y≠0):(x.fmod y).natAbs<y.natAbs:=by
 by_cases p:0<y
 ·have h1:=Int.fmod_lt_of_pos x p
  have h2:=qaA x p;omega
 ·have h1:=Int.fmod_lt_of_pos (-x) (show 0 < -y by omega)
  have h2:=qaA (-x) (show 0 < -y by omega);rw[Int.neg_fmod_neg]at h1 h2;omega
theorem U6:∀{ds:List D} {d:D},X8 ds=true->d∈ds->Z8 d=true
 | e::ds,d,n,h=>by
  have n':=by simpa[X8]using n
  rcases qB.mp h with rfl | h
  ·exact n'.1
  ·exact U6 n'.2 h
theorem Zh4 (hv:Z8 v=true)(hρ:(ρ[1]?).bind id=some v)(s:Pn):Wa (Xx (ZF (ZO X7 (Zb (Za 1) (Zb (dC (.ty "int")) Zf))))) (ZF (ZO X7 (Zb (Za 1) (Zb (dC (.ty "bool")) Zf)))) ρ s=some (!XO v,s):=by
 have hd:Za 1 ρ s=some (v,s):=by unfold Za YO;rw[hρ]
 have a:=X2 (Z6 (Yv (Zg hd (Zg (f:=dC (.ty "int")) rfl (fs:=Zf) rfl)) (ZjC (UD hv))));have b:=Z6 (Yv (Zg hd (Zg (f:=dC (.ty "bool")) rfl (fs:=Zf) rfl)) (Zhh (UD hv)));rw[Zeb a λ_=>b]
 cases v <;> rfl
theorem Zh5 (h:Z8 d=true)(s:Pn):J8 [d] s=some (.bl (Wk d),s):=by
 have hk:=UD h;have t1:ZF (ZO X7 (Zb (Za 0) (Zb (dC (.ty "tuple")) Zf))) [some d,none,none,none] s=some (U4 d,s):=Z6 (Yv (Zg rfl (Zg rfl rfl)) (Zbs hk));by_cases ht:U4 d=true
 ·obtain⟨ds,rfl⟩:∃ds,d=.tup ds:=by
   cases d <;> first | exact⟨_,rfl⟩ | cases ht
  have t2:ZF (Zc WF (ZO YZ (Zb (Za 0) Zf)) (dC (.int 2))) [some (.tup ds),none,none,none] s=some (!((ds.length:Int)==2),s):=Z6 (Zm (d:=.int ds.length) (e:=.int 2) (Yv (Zg rfl rfl) rfl) rfl (nei _ _));have t0:=Zeb (X2 t1) λ_=>t2;by_cases hl:ds.length=2
  ·obtain⟨x,y,rfl⟩:∃x y,ds=[x,y]:=by
    match ds,hl with
    | [x,y],_=>exact⟨x,y,rfl⟩
   have hx:Z8 x=true:=U6 (ds:=[x,y]) (by simpa[Z8]using h) (by simp);have hy:Z8 y=true:=U6 (ds:=[x,y]) (by simpa[Z8]using h) (by simp);refine Yr rfl (Yh (W3 t0 rfl) ?_);have px:=Zh4 (ρ:=[some (.tup [x,y]),some x,none,none]) hx rfl s;by_cases wx:XO x=true
   ·have py:=Zh4 (ρ:=[some (.tup [x,y]),some y,none,none]) hy rfl s
    rw[wx]at px;by_cases wy:XO y=true
    ·rw[wy]at py
     obtain⟨a,rfl⟩:∃a,x=.int a:=by
      cases x <;> first | exact⟨_,rfl⟩ | cases wx
     obtain⟨b,rfl⟩:∃a,y=.int a:=by
      cases y <;> first | exact⟨_,rfl⟩ | cases wy
     refine Yh (V9 (VA rfl) (Bb (ρ2:=[some (.tup [.int a,.int b]),some (.int a),none,none]) rfl (Yh (W3 px rfl) rfl) (Bb rfl (Yh (W3 py rfl) rfl) Zl3))) ?_;have e0:Zn (.tup [.int a,.int b]) (.int 0)=some (.int a):=VF _ _;have e1:Zn (.tup [.int a,.int b]) (.int 1)=some (.int b):=Uo _ _ _;refine Yh (Zh3 (Zg (Yv (Zg (Zm rfl rfl e0) rfl) rfl) (Zg (Zm rfl rfl e1) rfl)) rfl) ?_;refine Ok.toEq2 ?_;refine Ok.seq (jE (λm ρ s'=>s'=s/\∃o x y,ρ=[some (.tup [.int a,.int b]),o,some (.int x),some (.int y)]/\m=y.natAbs/\zj x y=zj a b/\(0<b->0<=x/\0<=y)) b.natAbs ⟨rfl,_,_,_,rfl,rfl,?_,λhb=>⟨?_,by omega⟩⟩ λm ρ s' hI=>?_)
     ·split
      ·simp[zj]
      ·rfl
     ·split <;> omega
     obtain⟨rfl,o,x,y,rfl,rfl,hg,hp⟩:=hI;refine .eq (Z6 (Zm rfl rfl (nei y 0))) ?_;by_cases h0:y=0
     ·subst h0
      rw[if_neg (by simp)];have r1:Zc VM (Zc Zn (Za 0) (dC (.int 1))) (dC (.int 0)) [some (.tup [.int a,.int b]),o,some (.int x),some (.int 0)] s'=some (.bl (decide (0<b)),s'):=Zm (Zm rfl rfl e1) rfl rfl;have r2:Zc YF (Za 2) (dC (.int 1)) [some (.tup [.int a,.int b]),o,some (.int x),some (.int 0)] s'=some (.bl (x==1),s'):=Zm (d:=.int x) (e:=.int 1) rfl rfl rfl;refine Ok.seq (.sret (.eq (Jv r1 λ_=>r2) ⟨?_,rfl⟩));show Out.rt (D.bl _)=Out.rt (D.bl _);congr 2;show(decide (0<b)&&(x==1))=(decide (0<b)&&decide (zj a b=1));by_cases hb:0<b
      ·rw[decide_eq_true hb,<-hg,Int.gcd_zero_right]
       have:=(hp hb).1;rw[qa8,qa8,qaO,beq_iff_eq,decide_eq_true_eq];omega
      ·rw[decide_eq_false hb];rfl
     ·rw[if_pos (by simp[h0])]
      have em:ZmC (.int x) (.int y)=some (.int (x.fmod y)):=by
       show(if decide (y≠0)=true then _ else none)=_;rw[decide_eq_true h0];rfl
      refine .seq (.spar (.eq (Zg rfl (Zg (Zm rfl rfl em) rfl)) ⟨_,_,rfl,rfl,rfl,.next ⟨(x.fmod y).natAbs,Zni h0,rfl,_,_,_,rfl,rfl,?_,λhb=>?_⟩⟩))
      ·rw[Znh,hg]
      ·obtain⟨h1,h2⟩:=hp hb
       exact⟨h2,qaA _ (by omega)⟩
    ·have wy:XO y=false:=by simpa using wy
     rw[wy]at py;rw[ZcV (.inr wy)];exact ZX (V9 (VA rfl) (Bb (ρ2:=[some (.tup [x,y]),some x,none,none]) rfl (Yh (W3 px rfl) rfl) (ZaV rfl (ZX (WE py (ZX rfl))))))
   ·have wx:XO x=false:=by simpa using wx
    rw[wx]at px;rw[ZcV (.inl wx)];exact ZX (V9 (VA rfl) (ZaV rfl (ZX (WE px (ZX rfl)))))
  ·have e:Wk (.tup ds)=false:=by
    unfold Wk;split
    ·rename_i q;cases q;exact absurd rfl hl
    ·rfl
   rw[e];have:(!((ds.length:Int)==2))=true:=by simp;omega
   rw[this]at t0;exact Yr rfl (ZX (WE (t0.trans (by rw[Bool.or_true])) (ZX rfl)))
 ·have e:Wk d=false:=by
   unfold Wk;split
   ·exact absurd rfl ht
   ·rfl
  rw[e];rw[show U4 d=false by simpa using ht]at t1;exact Yr rfl (ZX (WE (BM (X2 t1)) (ZX rfl)))
theorem Zjj (h:Z8 d=true)(s:Pn):Ji [d] s=some (.bl (Wk d),s):=by
 have hk:=UD h;have t1:Xx (ZF (Zx Vv (Zb (Za 0) (Zb (dC (.int 2)) Zf)))) [some d] s=some (!Zhg d,s):=X2 (Z6 (Ym (Zg rfl (Zg rfl rfl)) (Zb9 hk s)));by_cases ht:Zhg d=true
 ·obtain⟨x,y,rfl⟩:∃x y,d=.tup [x,y]:=by
   unfold Zhg at ht;split at ht
   ·exact⟨_,_,rfl⟩
   ·cases ht
  have hx:Z8 x=true:=U6 (ds:=[x,y]) (by simpa[Z8]using h) (by simp);have hy:Z8 y=true:=U6 (ds:=[x,y]) (by simpa[Z8]using h) (by simp);have e0:Zn (.tup [x,y]) (.int 0)=some x:=VF _ _;have e1:Zn (.tup [x,y]) (.int 1)=some y:=Uo _ _ _;have w0:Xx (ZF (Zx Jl (Zb (Zc Zn (Za 0) (dC (.int 0))) Zf))) [some (.tup [x,y])] s=some (!XO x,s):=X2 (Z6 (Ym (Zg (Zm rfl rfl e0) rfl) (ZaG (UD hx) s)));have w1:Xx (ZF (Zx Jl (Zb (Zc Zn (Za 0) (dC (.int 1))) Zf))) [some (.tup [x,y])] s=some (!XO y,s):=X2 (Z6 (Ym (Zg (Zm rfl rfl e1) rfl) (ZaG (UD hy) s)));have t0:=Zeb t1 λ_=>Zeb w0 λ_=>w1;by_cases hw:XO x=true/\XO y=true
  ·obtain⟨wx,wy⟩:=hw
   obtain⟨a,rfl⟩:∃a,x=.int a:=by
    cases x <;> first | exact⟨_,rfl⟩ | cases wx
   obtain⟨b,rfl⟩:∃a,y=.int a:=by
    cases y <;> first | exact⟨_,rfl⟩ | cases wy
   have r1:Zc Uz (Zc Zn (Za 0) (dC (.int 1))) (dC (.int 1)) [some (.tup [.int a,.int b])] s=some (.bl (decide (1<=b)),s):=Zm (Zm rfl rfl e1) rfl rfl;refine Yr rfl (Yh (W3 t0 rfl) (ZX (YW ?_)));have e:Wk (.tup [.int a,.int b])=(decide (1<=b)&&((zj a b:Nat):Int)==1):=by
    show(decide (0<b)&&decide (zj a b=1))=_;congr 1;rw[qaO,beq_iff_eq,decide_eq_true_eq];omega
   rw[e];exact Jv r1 λhb=>Zm (d:=.int (zj a b:Nat)) (e:=.int 1) (Ym (Zg (Zm rfl rfl e0) (Zg (Zm rfl rfl e1) rfl)) (Zi9 a b (by have:=of_decide_eq_true hb;omega) s)) rfl rfl
  ·have e:(!XO x || !XO y)=true:=by
    cases q:XO x <;> cases q2:XO y <;> simp_all
   rw[ZcV (by cases q:XO x <;> cases q2:XO y <;> simp_all)];exact Yr rfl (ZX (WE (t0.trans (by rw[e,Bool.or_true])) (ZX rfl)))
 ·have e:Wk d=false:=by
   unfold Wk;split
   ·exact absurd rfl ht
   ·rfl
  rw[e];rw[show Zhg d=false by simp_all]at t1;exact Yr rfl (ZX (WE (BM t1) (ZX rfl)))
set_option exponentiation.threshold 9000
noncomputable abbrev WQ (k:List Nat)(j:Nat):Int:=if j∈k then 1 else 0
noncomputable abbrev ap (n:Nat)(jO:Qa):List (List Nat):=kn (Wt n jO) n
structure Cov (n:Nat)(jO:Qa)(m:Nat)(K:Nat->List Nat)(c:Nat->Int)(D:Int):Prop where
 kn:∀i,i<m->K i∈ap n jO
 nn:∀i,i<m->0<=c i
 ge:∀j,j<n->D<=sm m λi=>WQ (K i) j*c i
structure Wei (n:Nat)(jO:Qa)(x:Nat->Int)(D:Int):Prop where
 nn:∀j,j<n->0<=x j
 le:∀k,k∈ap n jO->sm n (λj=>x j*WQ k j)<=D
theorem Znj:∀{k:List Nat},k.Nodup->(∀o∈k,o<n)->sm n (λj=>x j*WQ k j)=(k.map x).sum
 | [],_,_=>by
  rw[VB λj _=>by simp[WQ]];rfl
 | a::k,nd,h=>by
  have nd':=z9.mp nd;have e:sm n (λj=>x j*WQ (a::k) j)=sm n (λj=>x j*WQ k j+(if j=a then x a else 0)):=Xs λj _=>by
   unfold WQ;by_cases z:j=a
   ·simp_all
   ·simp[z]
  rw[e,JG,Znj nd'.2 λo ho=>h o (by simp[ho]),VC (h a (by simp)) (λi _ hi=>by simp[hi]),qS,List.sum_cons,if_pos rfl,Int.add_comm]
theorem Zq4 (h:k∈kn jO n):k.Nodup/\∀o∈k,o<n:=by
 obtain⟨h1,h2,_⟩:=ZjQ.mp h;exact⟨h1.imp λh=>qK h,h2⟩
theorem Znk {x:Nat->Int}(h:∀j,j<n->0<=x j)(hs:∀o∈k,o∈F):sm n (λj=>x j*WQ k j)<=sm n (λj=>x j*WQ F j):=ZjU λj hj=>yI (by
 unfold WQ;by_cases z:j∈k
 ·simp_all
 ·rw[if_neg z];grind) (h j hj)
noncomputable abbrev KK (n:Nat)(jO:Qa):List (List Nat):=BS n (Wt n jO)
section
variable {n:Nat}{jO:Qa}
theorem Znl (hn:n<=10):(KK n jO).length<=36:=ZkZ (Zbw n jO) hn
theorem Zj3 (h:k∈KK n jO):k∈ap n jO:=Zov (ZfG.mp h)
theorem Znm (h:k∈ap n jO):∃F∈KK n jO,∀x∈k,x∈F:=by
 obtain⟨F,hF,hs⟩:=Zgj (Zbw n jO) _ k rfl h;exact⟨F,ZfG.mpr hF,hs⟩
theorem Zqr (hi:i<(KK n jO).length):(KK n jO).getD i []∈KK n jO:=by
 simp_all
theorem Zpg (h:F∈KK n jO):∃i,i<(KK n jO).length/\(KK n jO).getD i []=F:=by
 obtain⟨i,hi,e⟩:=List.mem_iff_getElem.mp h;exact⟨i,hi,by simp_all⟩
theorem Zqs (hj:j<n):[j]∈ap n jO:=ZjQ.mpr ⟨by simp,by simp_all,λa ha b hb ne=>by
 simp_all⟩
theorem Zqt (hj:j<n):∃x,x<(KK n jO).length/\AA (KK n jO) x j=true:=by
 obtain⟨F,hF,hs⟩:=Znm (Zqs hj);obtain⟨i,hi,e⟩:=Zpg hF;exact⟨i,hi,decide_eq_true (by rw[e];simp_all)⟩
theorem Zqu {D:Int}(nn:∀j,j<n->0<=x j)(h:∀i,i<(KK n jO).length->sm n (λj=>x j*WQ ((KK n jO).getD i []) j)<=D):Wei n jO x D:=⟨nn,λk hk=>by
 obtain⟨F,hF,hs⟩:=Znm hk;obtain⟨i,hi,e⟩:=Zpg hF;have:=h i hi;rw[e]at this;exact qbC (Znk nn hs) this⟩
theorem Zq5 (hw:IsWeb n jO)(hn:n<=10)(s:Pn):Zx F_full_knots (Zb (Zx V8 (Zb (Za 0) Zf)) Zf) [some (ZG n jO),o1,o2,o3,o4] s=some (.lst ((KK n jO).map Zw),s):=by
 have hl:=hw.len (show n<=24 by omega);have ht:=Zet n jO s (by omega) (by omega);have hft:=ZhJ n (Wt n jO) (Zbw n jO) hn s;rw[ZjS]at hft;exact Ym (Zg (Ym (Zg rfl rfl) ht) rfl) hft
theorem Zjk (n:Nat)(jO:Qa):Z2 (ZG n jO)=true:=by
 have:∀l:Qa,Yl (l.map ZU)=true:=λl=>by
  induction l with
  | nil=>rfl
  | cons a l ih=>simp only[qS,Yl,ih];rfl
 show(true&&(Yl (jO.map ZU)&&true))=true;rw[this];rfl
end
theorem Zq6:TU.fac 37<=2 ^ 150:=by decide +kernel
structure Sh (n:Nat)(jO:Qa)(W d:Int)(c x:Nat->Int):Prop where
 pos:0<d
 cov:Cov n jO (KK n jO).length (λi=>(KK n jO).getD i []) c d
 wei:Wei n jO x d
 csum:sm (KK n jO).length c=W
 xsum:sm n x=W
 dle:d.natAbs<=2 ^ 150
 wle:W.natAbs<=2 ^ 150
 cle:∀i,(c i).natAbs<=2 ^ 150
 xle:∀j,(x j).natAbs<=2 ^ 150
noncomputable abbrev shC (n:Nat)(jO:Qa)(d:Int)(c:Nat->Int):List D:=((qm (KK n jO).length).filter λi=>decide (0<c i)).map λi=>.tup [Zw ((KK n jO).getD i []),Zl (WG (c i) d)]
noncomputable abbrev shX (n:Nat)(d:Int)(x:Nat->Int):List D:=(qm n).map λj=>Zl (WG (x j) d)
theorem Zlb (hw:IsWeb n jO)(hn:n<=10)(s:Pn):∃W d c x,Sh n jO W d c x/\Bo [ZG n jO] s=some (.tup [Zl (WG W d),.lst (shC n jO d c),.tup (shX n d x)],s):=by
 have hm:=Znl (jO:=jO) hn;obtain⟨h,hf,hopt,he⟩:=Zk7 (K:=KK n jO) (n:=n) (jO:=jO) (by omega) (by omega) (λs=>Zq5 hw hn s) (λj hj=>Zqt hj) (Zjk n jO) s;generalize hM:(KK n jO).length=m at *;have fl:∀z:Nat,z<=TU.fac (m+1)->z<=2 ^ 150:=λz hz=>qp (qp hz (Zey (by omega))) Zq6;refine⟨RR (AA (KK n jO)) n m h m (n+m),dl (cl (AA (KK n jO)) n m) m h,λi=>RR (AA (KK n jO)) n m h m (n+i),TU.wt (AA (KK n jO)) n m h,⟨hf.pos,?_,?_,?_,?_,fl _ (ZmZ h),fl _ (Zgu h _ _),λi=>fl _ (Zgu h _ _),λj=>?_⟩,he.trans ?_⟩
 ·rw[hM]
  refine⟨λi hi=>Zj3 (Zqr (by omega)),λi hi=>hopt _ (by omega),λj hj=>?_⟩;have:=ZmU hf hj (hopt j (by omega));refine qbC this (yu (Xs λi _=>?_));show(if AA (KK n jO) i j=true then (1:Int)else 0)*_=_;unfold WQ;simp only[decide_eq_true_eq]
 ·refine Zqu (λj _=>Zpc hf j) λi hi=>?_
  have:=ZoD hf (x:=i) (by omega);refine qbC (yu (Xs λj _=>?_)) this;show _=_*(if AA (KK n jO) i j=true then (1:Int)else 0);unfold WQ;simp only[decide_eq_true_eq]
 ·rw[hM];exact ZmT hf
 ·exact ZmS hf
 ·by_cases q:∃k,k<m/\h k=j
  ·obtain⟨k,hk,rfl⟩:=q
   rw[Zpd hf hk];exact fl _ (Zgu h _ _)
  ·rw[ZmQ hf λk hk e=>q ⟨k,hk,e⟩]
   simp
 ·unfold shC
  rw[hM];have e:(covD (KK n jO) n h).filter (λd=>match d with | .tup [_,.tup [.int t,_]]=>decide (0<t) | _=>false)=((qm m).filter λi=>decide (0<RR (AA (KK n jO)) n m h m (n+i))).map λi=>.tup [Zw ((KK n jO).getD i []),Zl (WG (RR (AA (KK n jO)) n m h m (n+i)) (dl (cl (AA (KK n jO)) n m) m h))]:=by
   rw[yG,hM];congr 1;refine qas λi _=>?_;show decide (0<(WG _ _).1)=_;rw[decide_eq_decide];exact ZoK hf.pos
  first | (rw[<-e];done) | (rw[<-e];rfl)
set_option exponentiation.threshold 9000
theorem Zlc (h:Z8 d=true):Zr d=true:=(ZiH d h).1
set_option exponentiation.threshold 9000
set_option exponentiation.threshold 9000
noncomputable def nnB:D->Bool
 | .tup [.int a,_]=>decide (0<=a)
 | _=>false
noncomputable def Vu (f:D):Bool:=Wk f&&nnB f
noncomputable def U7:D->Int×Int
 | .tup [.int a,.int b]=>(a,b)
 | _=>(0,1)
noncomputable abbrev Yn (fs:List (Int×Int))(k:List Nat):List (Int×Int):=k.map λj=>fs.getD j (0,1)
noncomputable def V0 (n:Nat)(jO:Qa):D->Bool
 | .tup ds=>decide (ds.length=n)&&(ds.all Vu&&(ap n jO).all λk=>decide ((Yj (Yn (ds.map U7) k)).1<=(Yj (Yn (ds.map U7) k)).2))
 | _=>false
structure IsW (p:Int×Int):Prop where
 fr:IsFr p
 nn:0<=p.1
theorem ZgG:∀{ds:List D},ds.all Vu=true->∃fs:List (Int×Int),ds=fs.map Zl/\∀p∈fs,IsW p
 | [],_=>⟨[],rfl,by simp⟩
 | d::ds,h=>by
  rw[qa5,zc]at h;have h1:=h.1;unfold Vu at h1;rw[zc]at h1;obtain⟨p,rfl,hp⟩:=ZcU h1.1;obtain⟨l,rfl,hl⟩:=ZgG h.2;exact⟨p::l,rfl,λx hx=>by
   rcases qB.mp hx with rfl | hx
   ·exact⟨hp,of_decide_eq_true h1.2⟩
   ·exact hl x hx⟩
theorem Zh6 (fs:List (Int×Int)):(fs.map Zl).map U7=fs:=by
 have:U7∘Zl=id:=funext λp=>rfl;simp_all
noncomputable def U8 (fs:List (Int×Int)):Prop:=∃e,(e+1)*fs.length<8000/\∀p∈fs,p.1.natAbs<=2 ^ e/\p.2.natAbs<=2 ^ e
theorem Zbx {fs:List (Int×Int)}(h:j<fs.length):fs.getD j (0,1)∈fs:=by simp_all
theorem U8.few (h:U8 fs)(hk:∀o∈k,o<fs.length)(hl:k.length<=fs.length):∃e,Few e (Yn fs k)/\(e+1)*(Yn fs k).length<8000:=by
 obtain⟨e,h1,h2⟩:=h;refine⟨e,λp hp=>?_,?_⟩
 ·obtain⟨j,hj,rfl⟩:=qu.mp hp
  exact h2 _ (Zbx (hk j hj))
 ·rw[qe]
  exact zE (yz _ hl) h1
theorem Zj4 (s:Pn)(h6:(ρ[i6]?).bind id=some (Zw k))(h3:∀d,ZI 0 d (Wp src ρ)=some [some d,some (.tup (fs.map Zl))])(hk:∀o∈k,o<fs.length)(hl:k.length<=1000) :
  Yb src (Xl (Za i6)) (ZI 0) Yi (Zc Zn (Za 1) (Za 0)) ρ s=some (.lst ((Yn fs k).map Zl),s):=by
 have hc:=XF (fi:=Xl (Za i6)) (ft:=Yi) (fe:=Zc Zn (Za 1) (Za 0)) (s:=s) (λd=>[some d,some (.tup (fs.map Zl))]) (λ_=>true) (λd=>Zl (fs.getD (YV d) (0,1))) (VA (by unfold Za YO;rw[h6];rfl)) (by rw[qe,Y1];omega) (λd hd=>by
  obtain⟨o,ho,rfl⟩:=qu.mp hd;refine⟨h3 _,rfl,λ_=>Zm rfl rfl (Vf ?_)⟩;have ex:YV (nD o)=o:=rfl;simp_all)
 rw[hc,V7,qz,qz];rfl
theorem Zld:(Wv n).filter (λp=>!tied jO p.1 p.2)=Wt n jO:=qas λp hp=>by
 rw[Vh (Zb7.mp hp).1]
theorem Zfd (hn : n <= 10)(hk : (ap n jO).length <= 1000000)(h : Z8 d = true)(hb : Xf d <= 100000)(hs : ∀ fs : List (Int × Int), d = .tup (fs.map Zl) -> fs.length = n -> U8 fs)(s : Pn) : B8 [ZG n jO, d] s = some (.bl (V0 n jO d), s) := by
  have hkd := UD h;have t1 : ZF (ZO X7 (Zb (Za 1) (Zb (dC (.ty "tuple")) Zf))) [some (ZG n jO), some d, none, none, none, none, none, none, none] s = some (U4 d, s) := Z6 (Yv (Zg rfl (Zg rfl rfl)) (Zbs hkd));by_cases ht : U4 d = true
  · obtain⟨ds, rfl⟩ : ∃ ds, d = .tup ds := by
      cases d <;> first | exact⟨_, rfl⟩ | cases ht
    have hts : X8 ds = true := by simpa[Z8] using h
    have t2 : ZF (Zc WF (ZO YZ (Zb (Za 1) Zf)) (Zc Zn (Za 0) (dC (.int 0)))) [some (ZG n jO), some (.tup ds), none, none, none, none, none, none, none] s = some (!decide (ds.length = n), s) := Z6 (Zm (d := nD ds.length) (e := nD n) (Yv (Zg rfl rfl) rfl) (Zm (d := ZG n jO) (e := .int 0) rfl rfl Ww) (Zqh _ _));have t0 := Zeb (X2 t1) λ_ => t2;by_cases hl : ds.length = n
    · rw[decide_eq_true hl] at t0
      refine Yr rfl (Yh (W3 t0 rfl) ?_);have ew : V0 n jO (.tup ds) = (ds.all Vu && (ap n jO).all λk => decide ((Yj (Yn (ds.map U7) k)).1 <= (Yj (Yn (ds.map U7) k)).2)) := by
        show(decide (ds.length = n) && _) = _;rw[decide_eq_true hl]; rfl
      rw[ew];obtain⟨a1, a2⟩ := Zes (τ := ZI 2) (body := (Zh (Yx (Wa (Xx (ZF (Zx J8 (Zb (Za 2) Zf)))) (ZF (Zc Vb (Zc Zn (Za 2) (dC (.int 0))) (dC (.int 0)))))
  (Zh (ZL (dC (.bl false))) Zq) Zq) Zq)) (s := s) (fun ρ => ∃ o2, ρ = [some (ZG n jO), some (.tup ds), o2, none, none, none, none, none, none]) Vu ds [some (ZG n jO), some (.tup ds), none, none, none, none, none, none, none] ⟨none, rfl⟩ λv hv ρ hI => by
        obtain⟨o2, rfl⟩ := hI;have tv := U6 hts hv;refine⟨_, rfl, ?_⟩;have t5 := X2 (Z6 (Ym (F := J8) (ρ := [some (ZG n jO), some (.tup ds), some v, none, none, none, none, none, none]) (s := s) (fs := Zb (Za 2) Zf) (Zg rfl rfl) (Zh5 tv s)));unfold Vu
        cases hf : Wk v with
        | false =>
          rw[hf] at t5;exact⟨(λz => by cases z), λ_ => ZX (WE (BM t5) (ZX rfl))⟩
        | true =>
          rw[hf] at t5;obtain⟨p, rfl, hp⟩ := ZcU hf;have e2 : Zn (Zl p) (.int 0) = some (.int p.1) := VF _ _;have t6 : ZF (Zc Vb (Zc Zn (Za 2) (dC (.int 0))) (dC (.int 0))) [some (ZG n jO), some (.tup ds), some (Zl p), none, none, none, none, none, none] s = some (decide (p.1 < 0), s) := Z6 (Zm (d := .int p.1) (e := .int 0) (Zm (d := Zl p) (e := .int 0) rfl rfl e2) rfl rfl);have t7 := JN t5 t6;have ep : nnB (Zl p) = decide (0 <= p.1) := rfl;rw[ep];refine⟨λz => ?_, λz => ?_⟩
          · have z : 0 <= p.1 := by simpa using z
            rw[decide_eq_false (by omega)] at t7;exact⟨_, Yh (W3 t7 rfl) rfl, _, rfl⟩
          · have z : ¬ 0 <= p.1 := by simpa using z
            rw[decide_eq_true (by omega)] at t7;exact ZX (WE t7 (ZX rfl))
      cases hall : ds.all Vu with
      | false => exact ZX (V9 (VA rfl) (a2 hall))
      | true =>
        obtain⟨ρ', e2, o2, rfl⟩ := a1 hall;obtain⟨fs, rfl, hfs⟩ := ZgG hall;rw[qe] at hl;have sm := hs fs rfl hl;rw[Zh6];refine Yh (V9 (VA rfl) e2) ?_;refine Ok.toEq2 ?_;refine Ok.seq (.sown (.eq (a := .lst []) rfl ⟨rfl, ?_⟩));refine Ok.seq (.sfor (λi ρ s' => s' = s /\ ∃ o4 o5, ρ = [some (ZG n jO), some (.tup (fs.map Zl)), o2, some (.lst (((XT n i).filter λp => !tied jO p.1 p.2).map ZU)), o4, o5, none, none, none]) (.eq (XB (n := n) (Zm (d := ZG n jO) (e := .int 0) rfl rfl Ww) (by omega)) ⟨⟨rfl, none, none, rfl⟩, λi d ρ s' hd hI => ?_, fun ρ' s' hI => ?_⟩))
        · obtain⟨rfl, o4, o5, rfl⟩ := hI
          obtain⟨hi, rfl⟩ := Be hd;refine⟨_, rfl, ?_⟩;refine Ok.seq (.sfor (λj ρ s2 => s2 = s' /\ ∃ o5, ρ = [some (ZG n jO), some (.tup (fs.map Zl)), o2, some (.lst (((XT n i ++ (qm j).map λk => (i, i + 1 + k)).filter λp => !tied jO p.1 p.2).map ZU)), some (nD i), o5, none, none, none]) (.eq (ZcJ (a := i + 1) (n := n) (Zm (d := .int (i : Int)) (e := .int 1) (c := .int ((i + 1 : Nat) : Int)) rfl rfl (by simp[ZY])) (Zm (d := ZG n jO) (e := .int 0) rfl rfl Ww) (by omega) (by omega)) ⟨⟨rfl, o5, by rw[List.range_zero, qbz, zu]; rfl⟩, λj d ρ s2 hd hJ => ?_, fun ρ' s2 hJ => ?_⟩))
          · obtain⟨rfl, o5, rfl⟩ := hJ
            obtain⟨hj, rfl⟩ := Zaw hd;refine⟨_, rfl, ?_⟩;have q := Zha n jO i (i + 1 + j : Nat) s2;refine Ok.seq (.sif (.eq (X2 (Z6 (Ym (Zg rfl (Zg rfl (Zg rfl rfl))) q))) ?_))
            cases hq : tied jO i (i + 1 + j) with
            | false =>
              rw[if_pos (show(!false) = true from rfl)];refine .seq (.sapp (ds := ((XT n i ++ (qm j).map λk => (i, i + 1 + k)).filter λp => !tied jO p.1 p.2).map ZU) rfl ?_ (.eq (a := ZU (i, i + 1 + j)) (Xe (Zg rfl (Zg rfl rfl)) two_le) (.next (.next ⟨_, rfl, rfl, some (nD (i + 1 + j)), ?_⟩))))
              · rw[qe]
                refine zE (zD ..) ?_;rw[qQ, qe, qL];exact Zf3 n i j (by omega) hi (by omega)
              · rw[zU, qP, <- yJ, qaj (l₂ := qbp _ [j])]
                have : (qbp (λk => (i, i + 1 + k)) [j]).filter (λp => !tied jO p.1 p.2) = [(i, i + 1 + j)] := by
                  rw[qS, qbz, List.filter_cons];simp[hq]
                rw[this, qP]; rfl
            | true =>
              rw[if_neg (show ¬ (!true) = true by simp)];refine .next (.next ⟨_, rfl, rfl, some (nD (i + 1 + j)), ?_⟩);rw[zU, qP, <- yJ, qaj (l₂ := qbp _ [j])];have : (qbp (λk => (i, i + 1 + k)) [j]).filter (λp => !tied jO p.1 p.2) = [] := by
                rw[qS, qbz, List.filter_cons];simp[hq]
              rw[this, zu];rfl
          · obtain⟨rfl, o5, rfl⟩ := hJ
            refine .next ⟨_, rfl, rfl, some (nD i), o5, ?_⟩;rw[Zbr, XY]
        · obtain⟨rfl, o4, o5, rfl⟩ := hI
          rw[XY];have et : (XT n n).filter (λp => !tied jO p.1 p.2) = Wt n jO := Zld;rw[et];have hkn := Zgl n (Wt n jO) (by omega) hk (by
            refine qp (zD ..) (qp (Zba n n) ?_);exact qp (yj hn hn) (by decide)) s'
          obtain⟨b1, b2⟩ := Zes (τ := ZI 6) (body := (Zh (U3 (US 7 8) (Zx Bc (Zb (Yb [none, some 1] (Xl (Za 6)) (ZI 0) Yi (Zc Zn (Za 1) (Za 0))) Zf)))
  (Zh (Yx (ZF (Zc VM (Za 7) (Za 8)))
  (Zh (ZL (dC (.bl false))) Zq) Zq) Zq))) (s := s') (fun ρ => ∃ o6 o7 o8, ρ = [some (ZG n jO), some (.tup (fs.map Zl)), o2, some (.lst ((Wt n jO).map ZU)), o4, o5, o6, o7, o8]) (λd => decide ((Yj (Yn fs (VO d))).1 <= (Yj (Yn fs (VO d))).2)) ((ap n jO).map Zw) [some (ZG n jO), some (.tup (fs.map Zl)), o2, some (.lst ((Wt n jO).map ZU)), o4, o5, none, none, none] ⟨none, none, none, rfl⟩ λv hv ρ hI => by
            obtain⟨o6, o7, o8, rfl⟩ := hI;obtain⟨k, hkk, rfl⟩ := qu.mp hv;refine⟨_, rfl, ?_⟩;have kl := Uh hkk;have hc := Zj4 (fs := fs) (ρ := [some (ZG n jO), some (.tup (fs.map Zl)), o2, some (.lst ((Wt n jO).map ZU)), o4, o5, some (Zw k), o7, o8]) (k := k) (src := [none, some 1]) (i6 := 6) s' rfl (λ_ => rfl) (λo ho => by rw[hl]; exact kl.1 o ho) (by omega);obtain⟨e, hf, hx⟩ := sm.few (k := k) (λo ho => by rw[hl]; exact kl.1 o ho) (by omega);have ht := Zne (.inl rfl) hf hx s';have eu : U3 (US 7 8) (Zx Bc (Zb (Yb [none, some 1] (Xl (Za 6)) (ZI 0) Yi (Zc Zn (Za 1) (Za 0))) Zf)) [some (ZG n jO), some (.tup (fs.map Zl)), o2, some (.lst ((Wt n jO).map ZU)), o4, o5, some (Zw k), o7, o8] s' = some (.nx [some (ZG n jO), some (.tup (fs.map Zl)), o2, some (.lst ((Wt n jO).map ZU)), o4, o5, some (Zw k), some (.int (Yj (Yn fs k)).1), some (.int (Yj (Yn fs k)).2)], s') := Ok.toEq2 (.sunp (.eq (Ym (Zg hc rfl) ht) ⟨_, rfl, rfl, rfl⟩));have tt : ZF (Zc VM (Za 7) (Za 8)) [some (ZG n jO), some (.tup (fs.map Zl)), o2, some (.lst ((Wt n jO).map ZU)), o4, o5, some (Zw k), some (.int (Yj (Yn fs k)).1), some (.int (Yj (Yn fs k)).2)] s' = some (decide ((Yj (Yn fs k)).2 < (Yj (Yn fs k)).1), s') := Z6 (Zm rfl rfl rfl);rw[Zcm];refine⟨λz => ?_, λz => ?_⟩
            · have z := of_decide_eq_true z
              rw[decide_eq_false (by omega)] at tt;exact⟨_, Yh eu (Yh (W3 tt rfl) rfl), _, _, _, rfl⟩
            · have z := of_decide_eq_false z
              rw[decide_eq_true (by omega)] at tt;exact Yh eu (ZX (WE tt (ZX rfl)))
          have hr : Xv (Zx Zad (Zb (ZB (Zb (Zc Zn (Za 0) (dC (.int 0))) (Zb (ZO Ue (Zb (Za 3) Zf)) Zf))) Zf)) [some (ZG n jO), some (.tup (fs.map Zl)), o2, some (.lst ((Wt n jO).map ZU)), o4, o5, none, none, none] s' = some ((ap n jO).map Zw, s') := Ua (Ym (Zg (Xe (ds := [nD n, .tup ((Wt n jO).map ZU)]) (Zg (Zm (d := ZG n jO) (e := .int 0) rfl rfl Ww) (Zg (Yv (Zg rfl rfl) rfl) rfl)) two_le) rfl) hkn);have ea : ((ap n jO).map Zw).all (λd => decide ((Yj (Yn fs (VO d))).1 <= (Yj (Yn fs (VO d))).2)) = (ap n jO).all λk => decide ((Yj (Yn fs k)).1 <= (Yj (Yn fs k)).2) := by
            rw[qbq];congr 1;funext k;show decide ((Yj (Yn fs (VO (Zw k)))).1 <= _) = _;rw[Zcm]
          rw[ea] at b1 b2;rw[qa8]
          cases hq : (ap n jO).all λk => decide ((Yj (Yn fs k)).1 <= (Yj (Yn fs k)).2) with
          | false => exact Ok.eq (ZX (V9 hr (b2 hq))) ⟨rfl, rfl⟩
          | true =>
            obtain⟨ρ2, q1, o6, o7, o8, rfl⟩ := b1 hq;exact Ok.eq (Yh (V9 hr q1) (ZX rfl)) ⟨rfl, rfl⟩
    · have e : V0 n jO (.tup ds) = false := by
        show(decide (ds.length = n) && _) = _;rw[decide_eq_false hl]; rfl
      rw[e];rw[decide_eq_false hl] at t0;exact Yr rfl (ZX (WE (t0.trans (by simp)) (ZX rfl)))
  · have e : V0 n jO d = false := by
      unfold V0;split
      · exact absurd rfl ht
      · rfl
    rw[e];rw[show U4 d = false by simp_all] at t1;exact Yr rfl (ZX (WE (BM (X2 t1)) (ZX rfl)))
set_option exponentiation.threshold 9000
theorem VS (h:i.natAbs<=2 ^ 200):Tk 0 0 (.int i):=by
 refine⟨?_,by simp[ZW],by simp[Xf]⟩;simp only[Z8,decide_eq_true_eq];exact zE h (by simp)
theorem Zj5 (h1:p.1.natAbs<=2 ^ 200)(h2:p.2.natAbs<=2 ^ 200):Tk 1 2 (Zl p):=jM (VS h1) (VS h2)
noncomputable abbrev shF (n:Nat)(d:Int)(x:Nat->Int):List (Int×Int):=(qm n).map λj=>WG (x j) d
theorem Zq7 (n:Nat)(d:Int)(x:Nat->Int):shX n d x=(shF n d x).map Zl:=by
 rw[qz];rfl
section
variable {n:Nat}{jO:Qa}{W d:Int}{c x:Nat->Int}(S:Sh n jO W d c x)(hw:IsWeb n jO)
include S
theorem Sh.small (h:t.natAbs<=2 ^ 150):(WG t d).1.natAbs<=2 ^ 150/\(WG t d).2.natAbs<=2 ^ 150:=by
 obtain⟨h1,h2⟩:=ZoJ S.pos;exact⟨qp h1 h,qp h2 S.dle⟩
end
set_option exponentiation.threshold 9000
section
variable {n:Nat}{jO:Qa}
theorem Zh7 (h:U8 fs)(hk:∀o∈k,o<fs.length)(hl:k.length<=fs.length)(h24:fs.length<=24)(s:Pn):Zaz [.tup (fs.map Zl),Zw k] s=some (.bl (decide ((Yj (Yn fs k)).1<=(Yj (Yn fs k)).2)),s):=by
 have hc:=Zj4 (ρ:=[some (.tup (fs.map Zl)),some (Zw k),none]) (src:=[none,some 0]) (i6:=1) s rfl (λ_=>rfl) hk (by omega);obtain⟨e,hf,hx⟩:=h.few hk hl;exact Yr rfl (Yh (Wd (Ym (Zg hc rfl) (Znf hf hx s))) (ZX (YW (Zm (Zm rfl rfl (VF _ _)) (Zm rfl rfl (Uo _ _ _)) rfl))))
noncomputable abbrev weiL (n:Nat)(jO:Qa)(fs:List (Int×Int)):Bool:=(KK n jO).all λk=>decide ((Yj (Yn fs k)).1<=(Yj (Yn fs k)).2)
theorem Zle (ds:List D)(n:Nat)(s:Pn):Vv [.tup ds,nD n] s=some (.bl (decide (ds.length=n)),s):=by
 refine Yr rfl (ZX (YW ?_));refine(Jv (a:=true) (b:=decide (ds.length=n)) (Yv (Zg rfl (Zg rfl rfl)) rfl) λ_=>Zm (Yv (Zg rfl rfl) rfl) rfl ?_);show some (D.bl ((ds.length:Int)==(n:Int)))=_;congr 2
 grind
theorem ZeP (hw:IsWeb n jO)(hn:n<=10)(hl:∀p∈fs,IsW p)(hln:fs.length=n)(h:U8 fs)(s:Pn):J9 [ZG n jO,.tup (fs.map Zl)] s=some (.bl (weiL n jO fs),s):=by
 have h1:=XF (src:=[none]) (fi:=Xl (Za 1)) (τ:=ZI 0) (ft:=Yi) (fe:=Wl (Zx Ji (Zb (Za 0) Zf)) (Zc Uz (Zc Zn (Za 0) (dC (.int 0))) (dC (.int 0)))) (ρ:=[some (ZG n jO),some (.tup (fs.map Zl))]) (s:=s) (ds:=fs.map Zl) (λd=>[some d]) (λ_=>true) (λd=>.bl true) (VA rfl) (by rw[qe,Y1];omega) (λd hd=>by
  obtain⟨p,hp,rfl⟩:=qu.mp hd;have hh:=hl p hp;refine⟨rfl,rfl,λ_=>Jv (a:=true) (b:=true) (Ym (Zg rfl rfl) ?_) λ_=>Zm (d:=.int p.1) (e:=.int 0) (Zm (d:=Zl p) (e:=.int 0) rfl rfl (VF _ _)) rfl ?_⟩
  ·have hp:=hh.fr.pos
   have g:=Zi9 p.1 p.2 (by omega) s;have i0:Zc Zn (Za 0) (dC (.int 0)) [some (Zl p)] s=some (.int p.1,s):=Zm rfl rfl (VF _ _);have i1:Zc Zn (Za 0) (dC (.int 1)) [some (Zl p)] s=some (.int p.2,s):=Zm rfl rfl (Uo _ _ _);refine Yr rfl (Yh (W3 (JN (X2 (b:=true) (Z6 (Ym (Zg rfl (Zg rfl rfl)) (Zb9 rfl s)))) (JN (X2 (b:=true) (Z6 (Ym (Zg i0 rfl) (ZaG rfl s)))) (X2 (b:=true) (Z6 (Ym (Zg i1 rfl) (ZaG rfl s)))))) rfl) (ZX (YW ?_)));refine(Jv (a:=true) (b:=true) (Zm i1 rfl ?_) λ_=>Zm (d:=.int (zj p.1 p.2:Nat)) (e:=.int 1) (Ym (Zg i0 (Zg i1 rfl)) g) rfl ?_)
   ·show some (D.bl (decide (1<=p.2)))=_
    rw[decide_eq_true (by omega)]
   ·rw[hh.fr.one];rfl
  ·show some (D.bl (decide (0<=p.1)))=_
   rw[decide_eq_true hh.nn])
 rw[V7,qz]at h1;have h1a:=Zbv fs λ_=>true;have h1b:fs.all (λ_=>true)=true:=by simp
 rw[h1b]at h1a;have hk:Xv (Zx F_full_knots (Zb (Zx V8 (Zb (Za 0) Zf)) Zf)) [some (ZG n jO),some (.tup (fs.map Zl))] s=some ((KK n jO).map Zw,s):=by
  have hl:=hw.len (show n<=24 by omega);have ht:=Zet n jO s (by omega) (by omega);have hft:=ZhJ n (Wt n jO) (Zbw n jO) hn s;rw[ZjS]at hft;exact Ua (Ym (Zg (Ym (Zg rfl rfl) ht) rfl) hft)
 have h2:=XF (src:=[none,some 1]) (τ:=ZI 0) (ft:=Yi) (fe:=Zx Zaz (Zb (Za 1) (Zb (Za 0) Zf))) (λd=>[some d,some (.tup (fs.map Zl))]) (λ_=>true) (λd=>.bl (decide ((Yj (Yn fs (VO d))).1<=(Yj (Yn fs (VO d))).2))) hk (by rw[qe,Y1];have:=Znl (jO:=jO) hn;omega) (λd hd=>by
  obtain⟨k,hk,rfl⟩:=qu.mp hd;have km:=Uh (Zj3 hk);rw[Zcm];exact⟨rfl,rfl,λ_=>Ym (Zg rfl (Zg rfl rfl)) (Zh7 h (λo ho=>by simp_all) (by omega) (by omega) s)⟩)
 rw[V7,qz]at h2;have h2e:(KK n jO).map ((λd=>D.bl (decide ((Yj (Yn fs (VO d))).1<=(Yj (Yn fs (VO d))).2)))∘Zw)=(KK n jO).map λk=>D.bl (decide ((Yj (Yn fs k)).1<=(Yj (Yn fs k)).2)):=qT λk _=>by
  show D.bl (decide ((Yj (Yn fs (VO (Zw k)))).1<=_))=_;rw[Zcm]
 rw[h2e]at h2;have t0:=Zle (fs.map Zl) n s;rw[qe,hln,decide_eq_true rfl]at t0;exact Yr rfl (Yh (W3 (X2 (Z6 (Ym (Zg rfl (Zg (Zm rfl rfl Ww) rfl)) t0))) rfl) (Yh (W3 (X2 (Z6 (Yv (Zg h1 rfl) h1a))) rfl) (ZX (YW (Yv (Zg h2 rfl) (Zbv (KK n jO) λk=>decide ((Yj (Yn fs k)).1<=(Yj (Yn fs k)).2)))))))
end
noncomputable def BT (D:Int)(p:Int×Int):Int:=p.1*(D / p.2)
theorem ZoN {D:Int}(h:p.2 ∣ D):p.1*D=BT D p*p.2:=by
 obtain⟨k,rfl⟩:=h;unfold BT;by_cases z:p.2=0
 ·rw[z];simp
 ·rw[qbB _ z,yq p.2 k,yD]
noncomputable def BU:List (Int×Int)->Int
 | []=>1
 | p::l=>p.2*BU l
theorem ZfN:∀{l:List (Int×Int)},(∀p∈l,0<p.2)->0<BU l
 | [],_=>by decide
 | p::l,h=>qaW (h p (by simp)) (ZfN λq hq=>h q (by simp[hq]))
theorem ZfO:∀{l:List (Int×Int)} {p:Int×Int},p∈l->p.2 ∣ BU l
 | q::l,p,h=>by
  rcases qB.mp h with rfl | h
  ·exact Int.dvd_mul_right ..
  ·exact Int.dvd_trans (ZfO h) (Int.dvd_mul_left ..)
theorem Zqv {D:Int}(hD:0<=D)(h1:0<=p.1)(h2:0<p.2):0<=BT D p:=z0 h1 (Int.ediv_nonneg hD (by omega))
section
variable {n:Nat}{jO:Qa}
end
set_option exponentiation.threshold 9000
section
variable {n:Nat}{jO:Qa}
theorem Znn (hl:∀p∈fs,IsW p)(hln:fs.length=n):((ap n jO).all λk=>decide ((Yj (Yn fs k)).1<=(Yj (Yn fs k)).2))=weiL n jO fs:=by
 have hb:∀p∈fs,0<p.2:=λp hp=>(hl p hp).fr.pos;have hD:=ZfN hb;have hn:∀p∈fs,p.1*BU fs=BT (BU fs) p*p.2:=λp hp=>ZoN (ZfO hp);generalize BU fs=D at *;have hm:∀k∈ap n jO,((Yj (Yn fs k)).1<=(Yj (Yn fs k)).2↔sm n (λj=>BT D (fs.getD j (0,1))*WQ k j)<=D):=λk hk=>by
  obtain⟨nd,hlt⟩:=Zq4 hk;have hv:=ZoL (d:=D) (p:=λj=>fs.getD j (0,1)) (t:=λj=>BT D (fs.getD j (0,1))) (l:=k) λj hj=>hn _ (Zbx (by have:=hlt j hj;omega));have hB:0<(Yj (Yn fs k)).2:=Zh1 (by decide) λp hp=>by
   obtain⟨j,hj,rfl⟩:=qu.mp hp;exact hb _ (Zbx (by have:=hlt j hj;omega))
  rw[Znj nd hlt];constructor
  ·intro z
   have h2:(Yj (Yn fs k)).1*D<=(Yj (Yn fs k)).2*D:=qZ z (by omega);rw[hv]at h2;exact Int.le_of_mul_le_mul_left h2 hB
  ·intro z
   have h2:=yI z (show 0<=(Yj (Yn fs k)).2 by omega);rw[<-hv]at h2;exact yU h2 hD
 rw[qaO,zF,zF];constructor
 ·intro h k hk
  exact h k (Zj3 hk)
 ·intro h k hk
  obtain⟨F,hF,hs⟩:=Znm hk;have h1:=(hm F (Zj3 hF)).mp (of_decide_eq_true (h F hF));refine decide_eq_true ((hm k hk).mpr (qbC (Znk (λj hj=>?_) hs) h1));have:=hl _ (Zbx (fs:=fs) (j:=j) (by omega));exact Zqv (by omega) this.nn this.fr.pos
theorem Zdm (hw:IsWeb n jO)(hn:n<=10)(h:Z8 d=true)(hb:Xf d<=100000)(hs:∀fs:List (Int×Int),d=.tup (fs.map Zl)->fs.length=n->U8 fs)(s:Pn):J9 [ZG n jO,d] s=some (.bl (V0 n jO d),s):=by
 have hkd:=UD h;have t0:=Zgm hkd n s;have t1:∀b,Vv [d,nD n] s=some (.bl b,s)->Xx (ZF (Zx Vv (Zb (Za 1) (Zb (Zc Zn (Za 0) (dC (.int 0))) Zf)))) [some (ZG n jO),some d] s=some (!b,s):=λb e=>X2 (Z6 (Ym (Zg rfl (Zg (Zm (d:=ZG n jO) (e:=.int 0) rfl rfl Ww) rfl)) e));by_cases ht:U4 d=true
 ·obtain⟨ds,rfl⟩:∃ds,d=.tup ds:=by
   cases d <;> first | exact⟨_,rfl⟩ | cases ht
  have t1:=t1 (decide (ds.length=n)) t0;by_cases hl:ds.length=n
  ·have hts:X8 ds=true:=by simpa[Z8]using h
   have hle:ds.length<=10:=by omega
   have h1:=XF (src:=[none]) (fi:=Xl (Za 1)) (τ:=ZI 0) (ft:=Yi) (fe:=Wl (Zx Ji (Zb (Za 0) Zf)) (Zc Uz (Zc Zn (Za 0) (dC (.int 0))) (dC (.int 0)))) (ρ:=[some (ZG n jO),some (.tup ds)]) (s:=s) (ds:=ds) (λd=>[some d]) (λ_=>true) (λd=>.bl (Vu d)) (VA rfl) (by rw[Y1];omega) (λv hv=>by
    refine⟨rfl,rfl,λ_=>?_⟩;have q:=Ym (F:=Ji) (ρ:=[some v]) (fs:=Zb (Za 0) Zf) (s:=s) (Zg rfl rfl) (Zjj (U6 hts hv) s);unfold Vu
    cases hf:Wk v with
    | false=>
     rw[hf]at q;exact ZiK q
    | true=>
     rw[hf]at q;obtain⟨p,rfl,hp⟩:=ZcU hf;exact ZiJ q (Zm (d:=.int p.1) (e:=.int 0) (Zm (d:=Zl p) (e:=.int 0) rfl rfl (VF _ _)) rfl rfl))
   rw[V7]at h1;have h1a:=Zbv ds Vu;have ew:V0 n jO (.tup ds)=(ds.all Vu&&(ap n jO).all λk=>decide ((Yj (Yn (ds.map U7) k)).1<=(Yj (Yn (ds.map U7) k)).2)):=by
    show(decide (ds.length=n)&&_)=_;rw[decide_eq_true hl];rfl
   rw[ew]
   cases hall:ds.all Vu with
   | false=>
    rw[hall]at h1a;exact Yr rfl (Yh (W3 (t1.trans (by rw[decide_eq_true hl];rfl)) rfl) (ZX (WE (X2 (b:=false) (Z6 (Yv (Zg h1 rfl) h1a))) (ZX rfl))))
   | true=>
    obtain⟨fs,rfl,hfs⟩:=ZgG hall;have hl':fs.length=n:=by rw[qe]at hl;exact hl
    rw[Zh6,Znn hfs hl'];exact ZeP hw hn hfs hl' (hs fs rfl hl') s
  ·have e:V0 n jO (.tup ds)=false:=by
    show(decide (ds.length=n)&&_)=_;rw[decide_eq_false hl];rfl
   rw[e];exact Yr rfl (ZX (WE (t1.trans (by rw[decide_eq_false hl];rfl)) (ZX rfl)))
 ·have e:V0 n jO d=false:=by
   unfold V0;split
   ·exact absurd rfl ht
   ·rfl
  rw[e];refine Yr rfl (ZX (WE (t1 false (t0.trans ?_)) (ZX rfl)))
  cases d <;> first | rfl | exact absurd rfl ht
theorem Zno (h:Z8 (.tup (fs.map Zl))=true)(hl:fs.length<=10):U8 fs:=⟨240,by omega,λp hp=>by
 have h1:=U6 (ds:=fs.map Zl) (by simpa[Z8]using h) (qu.mpr ⟨p,hp,rfl⟩);have h2:Z8 (.int p.1)=true/\Z8 (.int p.2)=true:=by simpa[Z8,X8]using h1
 have k:∀i:Int,Z8 (.int i)=true->i.natAbs<=2 ^ 240:=λi hi=>by
  simp only[Z8,decide_eq_true_eq]at hi;exact y8 (qH hi (by decide +kernel))
 exact⟨k _ h2.1,k _ h2.2⟩⟩
end
end TQ
set_option exponentiation.threshold 9000
namespace K28
open L2 TF TQ TU TS
open TP
open TP2 hiding g_all_near F_all_near
open TP3 hiding g_full_knots F_full_knots
noncomputable abbrev wD (fs:List (Int×Int)):D:=.tup (fs.map Zl)
structure Gf (n:Nat)(fs:List (Int×Int)):Prop where
 len:fs.length=n
 le:∀p∈fs,p.1.natAbs<=2 ^ 165/\p.2.natAbs<=2 ^ 165
noncomputable abbrev Th (d:D):Prop:=Tk 4 200 d
theorem BV {i:Int}{k:Nat}(h:i.natAbs<=2 ^ k)(hk:k<=200):i.natAbs<=2 ^ 200:=qp h (zV (by decide) hk)
theorem Zq8 {p:Int×Int}(h:p.1.natAbs<=2 ^ 165/\p.2.natAbs<=2 ^ 165):Tk 1 2 (Zl p):=Zj5 (BV h.1 (by omega)) (BV h.2 (by omega))
theorem Gf.tk {n:Nat}{fs:List (Int×Int)}(hn:n<=7)(h:Gf n fs):∀d∈fs.map Zl,Tk 1 8 d:=λd hd=>by
 obtain⟨p,hp,rfl⟩:=qu.mp hd;exact(Zq8 (h.le p hp)).mono (by omega) (by omega)
theorem ZeQ {ds:List D}(h:∀d∈ds,Tk 1 8 d)(hl:ds.length<=10):Th (.tup ds):=(Tk.tup h).mono (by omega) (by have:=yz 9 hl;omega)
theorem Zqw {ds:List D}(h:∀d∈ds,Tk 1 8 d)(hl:ds.length<=10):Th (.lst ds):=(Tk.lst h).mono (by omega) (by have:=yz 9 hl;omega)
theorem Gf.th {n:Nat}{fs:List (Int×Int)}(hn:n<=7)(h:Gf n fs):Th (wD fs):=ZeQ (h.tk hn) (by rw[qe];have:=h.len;omega)
theorem ZeR (x:D)(n:Nat)(hn:n<=1000):BN (.tup [x]) (nD n)=some (.tup (qf n x)):=by
 match n,hn with
 | 0,_=>rfl
 | 1,_=>rfl
 | n+2,hn=>
  show(if ((n+2:Nat):Int)=1 then some (D.tup [x])else if ((n+2:Nat):Int)=0/\[x]≠[]then some (.tup [])else W2 (.tup [x]) (.int ((n+2:Nat):Int)))=_;rw[if_neg (by omega),if_neg (by omega)];show(if [x]≠[]/\2<=((n+2:Nat):Int)/\((n+2:Nat):Int)<2 ^ 62/\[x].length*((n+2:Nat):Int).toNat<=xg then some (D.tup (qf ((n+2:Nat):Int).toNat [x]).flatten)else none)=_;rw[if_pos ⟨by simp,by omega,by omega,by rw[yK,Y1];simp;omega⟩,yK];congr 2;have:∀k:Nat,(qf k [x]).flatten=qf k x:=λk=>by
   induction k with
   | zero=>rfl
   | succ k ih=>rw[qaQ,List.flatten_cons,ih];rfl
  exact this _
theorem Zjl {n:Nat}{p:Int×Int}(h:p.1.natAbs<=2 ^ 165/\p.2.natAbs<=2 ^ 165):Gf n (qf n p)/\(.tup (qf n (Zl p)):D)=wD (qf n p):=⟨⟨by simp,λq hq=>by rw[qbD hq];exact h⟩,by show _=D.tup _;rw[List.map_replicate]⟩
noncomputable def oth (a b m:Int):List D:=[Zl (a+b,b),Zl (a-b,b),Zl (b,a),.int a] ++ [Zl (2*a,2*b),.non,.tup [.bl true,.int 1],Zl (1,1),Zl (0,1),Zl (1,0)] ++ [Zl (a,0-b),.tup [.int 1,.int 2,.int 3],Zl (1,97),.lst [.int a,.int b],.tup [.int a],.tup []] ++ [Zl (0,0),.str (qN "a")] ++ [Zl (37*a,37*b),.tup [.int 1,.bl true],.tup [.str (qN ""),.int 1],.tup [.int 1,.non],.bl true,.int (10 ^ 59)] ++ [Zl (m*a,m*b),Zl (m,2*m+1),.tup [.bl false,.int 1]]
theorem tkS (x:String)(h:(qN x).cps.toList.all (λc=>decide (c<16 ^ 8))=true)(hl:(qN x).length<=8):Tk 1 8 (.str (qN x)):=⟨by simp only[Z8];exact h,by simp[ZW],by simp only[Xf];exact hl⟩
theorem tk_i {i:Int}(h:i.natAbs<=2 ^ 200):Tk 1 8 (.int i):=(VS h).mono (by omega) (by omega)
theorem B0 {a b:Int}{x y:Nat}(h1:a.natAbs<=2 ^ x)(h2:b.natAbs<=2 ^ y)(h:x+y<=200):(a*b).natAbs<=2 ^ 200:=BV (Za1 h1 h2) h
theorem Zqx {a b m:Int}(ha:a.natAbs<=2 ^ 165)(hb:b.natAbs<=2 ^ 165)(hm:m.natAbs<=2 ^ 31):∀d∈oth a b m,Tk 1 8 d:=by
 have A:=BV ha (by omega);have B:=BV hb (by omega);have M:=BV hm (by omega);have e1:(2:Nat) ^ 165+2 ^ 165<=2 ^ 200:=by decide +kernel
 have e2:(2:Nat) ^ 165<=2 ^ 200:=by decide +kernel
 have e3:2*(2:Nat) ^ 31+1<=2 ^ 200:=by decide +kernel
 have k1:(a+b).natAbs<=2 ^ 200:=by have:=qbf a b;omega
 have k2:(a-b).natAbs<=2 ^ 200:=by have:=Int.natAbs_sub_le a b;omega
 have k3:(0-b).natAbs<=2 ^ 200:=by omega
 have k4:(2*m+1).natAbs<=2 ^ 200:=by omega
 have f:∀{x y:Int},x.natAbs<=2 ^ 200->y.natAbs<=2 ^ 200->Tk 1 8 (Zl (x,y)):=λh1 h2=>(Zj5 h1 h2).mono (by omega) (by omega);have s1:∀{i:Int},i.natAbs<=100->i.natAbs<=2 ^ 200:=λh=>qp h (by decide +kernel);have t2:∀{x y:D},Tk 0 1 x->Tk 0 1 y->Tk 1 8 (.tup [x,y]):=λh1 h2=>(jM h1 h2).mono (by omega) (by omega);have i0:∀{i:Int},i.natAbs<=2 ^ 200->Tk 0 1 (.int i):=λh=>(VS h).mono (by omega) (by omega);have b0:∀c:Bool,Tk 0 1 (.bl c):=λc=>(Tk.bl c).mono (by omega) (by omega);have c2:(2:Int).natAbs<=2 ^ 2:=by decide
 have c37:(37:Int).natAbs<=2 ^ 6:=by decide
 intro d hd;simp only[oth,qV,qB,zN,or_false]at hd;rcases hd with((((h | h) | h) | h) | h) | h
 ·rcases h with rfl | rfl | rfl | rfl
  ·exact f k1 B
  ·exact f k2 B
  ·exact f B A
  ·exact tk_i A
 ·rcases h with rfl | rfl | rfl | rfl | rfl | rfl
  ·exact f (B0 c2 ha (by omega)) (B0 c2 hb (by omega))
  ·exact Tk.non.mono (by omega) (by omega)
  ·exact t2 (b0 _) (i0 (s1 (by decide)))
  ·exact f (s1 (by decide)) (s1 (by decide))
  ·exact f (s1 (by decide)) (s1 (by decide))
  ·exact f (s1 (by decide)) (s1 (by decide))
 ·rcases h with rfl | rfl | rfl | rfl | rfl | rfl
  ·exact f A k3
  ·exact(Tk.t3 (i0 (i:=1) (s1 (by decide))) (i0 (i:=2) (s1 (by decide))) (i0 (i:=3) (s1 (by decide)))).mono (by omega) (by omega)
  ·exact f (s1 (by decide)) (s1 (by decide))
  ·exact(Tk.l2 (VS A) (VS B)).mono (by omega) (by omega)
  ·exact(jL (VS A)).mono (by omega) (by omega)
  ·exact(jK 0 0).mono (by omega) (by omega)
 ·rcases h with rfl | rfl
  ·exact f (s1 (by decide)) (s1 (by decide))
  ·exact tkS "a" (by decide) (by decide)
 ·rcases h with rfl | rfl | rfl | rfl | rfl | rfl
  ·exact f (B0 c37 ha (by omega)) (B0 c37 hb (by omega))
  ·exact t2 (i0 (s1 (by decide))) (b0 _)
  ·exact t2 ⟨by simp only[Z8];decide,by simp[ZW],by simp only[Xf];decide⟩ (i0 (s1 (by decide)))
  ·exact t2 (i0 (s1 (by decide))) (Tk.non.mono (by omega) (by omega))
  ·exact(Tk.bl _).mono (by omega) (by omega)
  ·exact tk_i (by decide +kernel)
 ·rcases h with rfl | rfl | rfl
  ·exact f (B0 hm ha (by omega)) (B0 hm hb (by omega))
  ·exact f M k4
  ·exact t2 (b0 _) (i0 (s1 (by decide)))
theorem Zq9 (ds:List D)(k:Nat):Xh ds none (some (k:Int))=ds.take k:=by
 unfold Xh;rw[HT.sIx_none,HT.sIx_nat];simp
theorem Zra (ds:List D)(k:Nat):Xh ds (some (k:Int)) none=ds.drop k:=by
 unfold Xh;rw[HT.sIx_none,HT.sIx_nat];by_cases h:k<=ds.length
 ·rw[Nat.min_eq_left h,qbQ (by simp)]
 ·rw[Nat.min_eq_right (by omega),qbV (qk _),qbV (by omega)];simp
theorem ZeS {ds:List D}{r:Nat}(hr:r<ds.length):∃x∈ds,Zn (.lst ds) (.int (r:Int))=some x:=⟨ds[r],qbs _,Vf (qX hr)⟩
theorem ZgH (a k:Nat)(h:a<2 ^ 64)(hk:k<=1000):W7 (.int a) (.int k)=some (.int ((a:Int) ^ k)):=by
 show(if (decide (0<=(k:Int))&&decide ((k:Int)<=1000000)&&decide ((a:Int).natAbs<2 ^ 64))=true then some (D.int ((a:Int) ^ (k:Int).toNat))else none)=_;rw[if_pos (by simp only[zc,decide_eq_true_eq];exact⟨⟨by omega,by omega⟩,by rw[Int.natAbs_natCast];exact h⟩),yK]
theorem ZoO (l:List D)(hp:Zr (.tup l)=true)(hd:ZW (.tup l)<=60):YF (.tup l) (.tup [])=some (.bl l.isEmpty):=by
 unfold YF U0;rw[if_pos (by rw[hp];simp only[qa8,zc,decide_eq_true_eq];exact⟨⟨rfl,hd⟩,by decide⟩)]
 cases l <;> rfl
noncomputable abbrev odd0:List D:=[.non,.lst [],.tup [.tup [.int 0,.int 1]],.tup [],.str (qN ""),.int 0,.bl true,.str (qN "ab")]
theorem ZoP:∀d∈odd0,Th d:=λd hd=>by
 simp only[odd0,qB,zN,or_false]at hd;rcases hd with rfl | rfl | rfl | rfl | rfl | rfl | rfl | rfl
 ·exact Tk.non.mono (by omega) (by omega)
 ·exact(Tk.l0 0 0).mono (by omega) (by omega)
 ·exact(jL (Zj5 (p:=(0,1)) (by decide +kernel) (by decide +kernel))).mono (by omega) (by omega)
 ·exact(jK 0 0).mono (by omega) (by omega)
 ·exact(tkS "" (by decide) (by decide)).mono (by omega) (by omega)
 ·exact(VS (i:=0) (by decide +kernel)).mono (by omega) (by omega)
 ·exact(Tk.bl _).mono (by omega) (by omega)
 ·exact(tkS "ab" (by decide) (by decide)).mono (by omega) (by omega)
noncomputable abbrev odd1:List D:=[.non,.int 0,.bl true,.str (qN "ab"),.int (10 ^ 59)]
theorem ZoQ:∀d∈odd1,Th d:=λd hd=>by
 simp only[odd1,qB,zN,or_false]at hd;rcases hd with rfl | rfl | rfl | rfl | rfl
 ·exact Tk.non.mono (by omega) (by omega)
 ·exact(VS (i:=0) (by decide +kernel)).mono (by omega) (by omega)
 ·exact(Tk.bl _).mono (by omega) (by omega)
 ·exact(tkS "ab" (by decide) (by decide)).mono (by omega) (by omega)
 ·exact(VS (by decide +kernel)).mono (by omega) (by omega)
theorem ZoR {n:Nat}{fs:List (Int×Int)}(hn:n<=7)(g:Gf n fs){s:Pn}(ok:Y7 s):Ok (Zak [.pen,wD fs]) s λd s'=>Y7 s'/\Th d:=by
 refine Ok.runB rfl ?_;have th:=g.th hn;have hq:=ZoO (fs.map Zl) (Zlc th.1) (qp th.2.1 (by omega));have hl:=g.len;by_cases h0:fs=[]
 ·subst h0
  refine Ok.seq (.sif (.eq (Z6 (Zm (d:=wD []) (e:=.tup []) rfl rfl hq)) ?_));rw[if_pos (show(qbp Zl []).isEmpty=true from rfl)];refine .seq (.sret (.op (.eq (a:=.lst odd0) (WM rfl (by show 8<=xg;decide)) (.draw (m:=8) ok (Zg rfl (Zg rfl rfl)) (by omega) (by omega) λr s1 hr ok1=>?_))));obtain⟨x,hx,e⟩:=ZeS (ds:=odd0) (r:=r) hr;exact⟨x,e,ok1,ZoP x hx⟩
 have hle:(fs.map Zl).isEmpty=false:=by cases fs <;> first | rfl | exact absurd rfl h0
 rw[hle]at hq;have hpos:0<fs.length:=qcj.mpr h0;refine Ok.seq (.sif (.eq (a:=false) (Z6 (Zm (d:=wD fs) (e:=.tup []) rfl rfl hq)) (.next ?_)));refine Ok.seq (.sset (.draw (m:=fs.length) ok (Zg rfl (Zg (Yv (c:=nD fs.length) (Zg rfl rfl) (by show some (D.int _)=_;rw[qe])) rfl)) hpos (by omega) λk s1 hk ok1=>?_));have hp:=g.le fs[k] (qbs _);have hix:Zn (wD fs) (nD k)=some (Zl fs[k]):=Vf (by rw[qI,qX hk];rfl);generalize fs[k]=p at hp hix;obtain⟨a,b⟩:=p;refine Ok.seq (.sunp (.eq (Zm (d:=wD fs) (e:=nD k) rfl rfl hix) ⟨_,rfl,?_⟩));obtain⟨ha,hb⟩:=hp;have c2:(2:Int).natAbs<=2 ^ 2:=by decide
 have c37:(37:Int).natAbs<=2 ^ 6:=by decide
 have m2a:=WD c2 ha (by omega) (by omega);have m2b:=WD c2 hb (by omega) (by omega);have m3a:=WD c37 ha (by omega) (by omega);have m3b:=WD c37 hb (by omega) (by omega);refine Ok.seq (.sset (.eq (a:=.lst [Zl (a+b,b),Zl (a-b,b),Zl (b,a),.int a]) rfl ?_));refine Ok.seq (.sset (.eq (a:=.lst ([Zl (a+b,b),Zl (a-b,b),Zl (b,a),.int a] ++ [Zl (2*a,2*b),.non,.tup [.bl true,.int 1],Zl (1,1),Zl (0,1),Zl (1,0)])) (Zm (d:=.lst _) (e:=.lst [Zl (2*a,2*b),.non,.tup [.bl true,.int 1],Zl (1,1),Zl (0,1),Zl (1,0)]) rfl (WM (Zg (Xe (Zg (Zm rfl rfl m2a) (Zg (Zm rfl rfl m2b) rfl)) two_le) rfl) (by show 6<=xg;decide)) (Jy (by simp))) ?_));refine Ok.seq (.sset (.eq (a:=.lst ([Zl (a+b,b),Zl (a-b,b),Zl (b,a),.int a] ++ [Zl (2*a,2*b),.non,.tup [.bl true,.int 1],Zl (1,1),Zl (0,1),Zl (1,0)] ++ [Zl (a,0-b),.tup [.int 1,.int 2,.int 3],Zl (1,97),.lst [.int a,.int b],.tup [.int a],.tup []])) (Zm (d:=.lst _) (e:=.lst [Zl (a,0-b),.tup [.int 1,.int 2,.int 3],Zl (1,97),.lst [.int a,.int b],.tup [.int a],.tup []]) rfl rfl (Jy (by simp))) ?_));refine Ok.seq (.sset (.eq (a:=.lst ([Zl (a+b,b),Zl (a-b,b),Zl (b,a),.int a] ++ [Zl (2*a,2*b),.non,.tup [.bl true,.int 1],Zl (1,1),Zl (0,1),Zl (1,0)] ++ [Zl (a,0-b),.tup [.int 1,.int 2,.int 3],Zl (1,97),.lst [.int a,.int b],.tup [.int a],.tup []] ++ [Zl (0,0),.str (qN "a")])) (Zm (d:=.lst _) (e:=.lst [Zl (0,0),.str (qN "a")]) rfl rfl (Jy (by simp))) ?_));have p59:=ZgH 10 59 (by decide) (by omega);refine Ok.seq (.sset (.eq (a:=.lst ([Zl (a+b,b),Zl (a-b,b),Zl (b,a),.int a] ++ [Zl (2*a,2*b),.non,.tup [.bl true,.int 1],Zl (1,1),Zl (0,1),Zl (1,0)] ++ [Zl (a,0-b),.tup [.int 1,.int 2,.int 3],Zl (1,97),.lst [.int a,.int b],.tup [.int a],.tup []] ++ [Zl (0,0),.str (qN "a")] ++ [Zl (37*a,37*b),.tup [.int 1,.bl true],.tup [.str (qN ""),.int 1],.tup [.int 1,.non],.bl true,.int (10 ^ 59)])) (Zm (d:=.lst _) (e:=.lst [Zl (37*a,37*b),.tup [.int 1,.bl true],.tup [.str (qN ""),.int 1],.tup [.int 1,.non],.bl true,.int (10 ^ 59)]) rfl (WM (Zg (Xe (Zg (Zm rfl rfl m3a) (Zg (Zm rfl rfl m3b) rfl)) two_le) (Zg rfl (Zg rfl (Zg rfl (Zg rfl (Zg (Zm rfl rfl p59) rfl)))))) (by show 6<=xg;decide)) (Jy (by simp))) ?_));have p9:=ZgH 10 9 (by decide) (by omega);refine Ok.seq (.sset (.op (.eq (a:=.int 2) rfl (.draw (m:=1000000000) ok1 (Zg rfl (Zg (Zm rfl rfl p9) rfl)) (by omega) (by omega) λm s2 hm ok2=>⟨.int (2+(m:Int)),rfl,?_⟩))));have hm:(2+(m:Int)).natAbs<=2 ^ 31:=by omega
 generalize 2+(m:Int)=m at hm;have m4a:=WD hm ha (by omega) (by omega);have m4b:=WD hm hb (by omega) (by omega);have m4c:=WD c2 hm (by omega) (by omega);refine Ok.seq (.sset (.eq (a:=.lst (oth a b m)) (Zm (d:=.lst _) (e:=.lst [Zl (m*a,m*b),Zl (m,2*m+1),.tup [.bl false,.int 1]]) rfl (WM (Zg (Xe (Zg (Zm rfl rfl m4a) (Zg (Zm rfl rfl m4b) rfl)) two_le) (Zg (Xe (Zg rfl (Zg (Zm (Zm rfl rfl m4c) rfl rfl) rfl)) two_le) (Zg rfl rfl))) (by show 3<=xg;decide)) (Jy (by simp))) ?_));have hO:=Zqx ha hb hm;have hOl:(oth a b m).length=27:=rfl;generalize oth a b m=O at *;refine Ok.seq (.sset (.draw (m:=36) ok2 (Zg rfl (Zg rfl rfl)) (by omega) (by omega) λw s3 hw ok3=>?_));refine Ok.seq (.sif (.eq (Z6 (Zm (d:=nD w) (e:=.int 30) (c:=.bl (decide ((30:Int)<(w:Int)))) rfl rfl rfl)) ?_));by_cases h30:30<w
 ·rw[if_pos (decide_eq_true (by omega))]
  obtain⟨x,hx,e⟩:=ZeS (ds:=odd1) (r:=w-31) (by show w-31<5;omega);refine .seq (.sret (.eq (Zm (d:=.lst odd1) (e:=.int ((w-31:Nat):Int)) (WM (Zg rfl (Zg rfl (Zg rfl (Zg rfl (Zg (Zm rfl rfl p59) rfl))))) (by show 5<=xg;decide)) (Zm (d:=nD w) (e:=.int 31) rfl rfl (by show some (D.int _)=some (D.int _);congr 2;omega)) e) ⟨ok3,ZoQ x hx⟩))
 rw[if_neg (by rw[decide_eq_false (by omega)];decide)];refine .next ?_;have gt:=g.tk hn;refine Ok.seq (.sif (.eq (Z6 (Zm (d:=nD w) (e:=.int 27) (c:=.bl (decide ((w:Int)<27))) rfl rfl rfl)) ?_));by_cases h27:w<27
 ·rw[if_pos (decide_eq_true (by omega))]
  obtain⟨x,hx,e⟩:=ZeS (ds:=O) (r:=w) (by omega);have l1:=Zf9 (fs.map Zl) none (some (k:Int));have l2:=Zf9 (fs.map Zl) (some ((k:Int)+1)) none;rw[qe]at l1 l2;refine .seq (.sret (.eq (Zm (d:=.tup (Xh (fs.map Zl) none (some (k:Int)) ++ [x])) (e:=.tup (Xh (fs.map Zl) (some ((k:Int)+1)) none)) (Zm (d:=.tup (Xh (fs.map Zl) none (some (k:Int)))) (e:=.tup [x]) (Zec rfl rfl rfl) (Xe (Zg (Zm (d:=.lst O) (e:=nD w) rfl rfl e) rfl) (by show 1<=xg;decide)) ?_) (Zec rfl rfl rfl) ?_) ⟨ok3,ZeQ (ds:=Xh (fs.map Zl) none (some (k:Int)) ++ [x]++Xh (fs.map Zl) (some ((k:Int)+1)) none) (λd hd=>?_) ?_⟩))
  ·show(if _<=xg then some (D.tup _)else none)=_
   rw[if_pos (by rw[Y1];show _+1<=_;omega)]
  ·show(if _<=xg then some (D.tup _)else none)=_
   rw[if_pos (by rw[Y1,qQ];show _+1+_<=_;omega)]
  ·rcases qV.mp hd with hd | hd
   ·rcases qV.mp hd with hd | hd
    ·exact gt d (Zf8 hd)
    ·cases zP.mp hd;exact hO _ hx
   ·exact gt d (Zf8 hd)
  ·rw[qQ,qQ]
   show _+1+_<=10;have e1:(Xh (fs.map Zl) none (some (k:Int))).length=k:=by rw[Zq9,yn,qe];omega
   have e2:(Xh (fs.map Zl) (some ((k:Int)+1)) none).length=fs.length-(k+1):=by
    have:=Zra (fs.map Zl) (k+1);rw[show((k+1:Nat):Int)=(k:Int)+1 by omega]at this;rw[this,qaC,qe]
   omega
 rw[if_neg (by rw[decide_eq_false (by omega)];decide)];refine .next ?_;have l3:=Zf9 (fs.map Zl) (some 1) none;rw[qe]at l3;have hcat:ZY (wD fs) (.tup [Zl (0,1)])=some (.tup (fs.map Zl ++ [Zl (0,1)])):=by
  show(if _<=xg then some (D.tup _)else none)=_;rw[if_pos (by rw[Y1,qe];show _+1<=_;omega)]
 obtain⟨x,hx,e⟩:=ZeS (ds:=[.lst (fs.map Zl),.tup (Xh (fs.map Zl) (some 1) none),.tup (fs.map Zl ++ [Zl (0,1)]),.tup (fs.map Zl).reverse]) (r:=w-27) (by show w-27<4;omega);refine Ok.seq (.sret (.eq (Zm (d:=.lst [.lst (fs.map Zl),.tup (Xh (fs.map Zl) (some 1) none),.tup (fs.map Zl ++ [Zl (0,1)]),.tup (fs.map Zl).reverse]) (e:=.int ((w-27:Nat):Int)) (WM (Zg rfl (Zg (Zec rfl rfl rfl) (Zg (Zm (d:=wD fs) (e:=.tup [Zl (0,1)]) rfl rfl hcat) (Zg rfl rfl)))) (by show 4<=xg;decide)) (Zm (d:=nD w) (e:=.int 27) rfl rfl (by show some (D.int _)=some (D.int _);congr 2;omega)) e) ⟨ok3,?_⟩));have tz:Tk 1 8 (Zl (0,1)):=(Zj5 (p:=(0,1)) (by decide +kernel) (by decide +kernel)).mono (by omega) (by omega);simp only[qB,zN,or_false]at hx;rcases hx with rfl | rfl | rfl | rfl
 ·exact Zqw gt (by rw[qe];omega)
 ·exact ZeQ (λd hd=>gt d (Zf8 hd)) (by omega)
 ·refine ZeQ (λd hd=>?_) (by rw[qQ,qe];show _+1<=10;omega)
  rcases qV.mp hd with hd | hd
  ·exact gt d hd
  ·cases zP.mp hd;exact tz
 ·exact ZeQ (λd hd=>gt d (List.mem_reverse.mp hd)) (by rw[qce,qe];omega)
set_option exponentiation.threshold 9000
theorem jJ {fs:Ze->M (List D)}{ρ:Ze}{s:Pn}{Q:D->Pn->Prop}(h1:Ok (fs ρ) s λds s1=>∃m:Nat,ds=[.pen,nD m]/\Y7 s1/\0<m/\m<1073741824/\∀(r:Nat) s',r<m->Y7 s'->Q (nD r) s'):Ok (Zx YK fs ρ) s Q:=by
 refine .fn' (h1.mono λds s1 q=>?_);obtain⟨m,rfl,ok,hm,hm2,h⟩:=q;obtain⟨r,s2,e,r0,r1,ok2⟩:=Zjx ok (show 0<(m:Int) by omega) (show(m:Int)<1073741824 by omega);obtain⟨n,rfl⟩:=qbG r0;exact .eq e (h n s2 (by omega) ok2)
theorem Zh8 {fx fv:Ze->M D}{ρ:Ze}{s:Pn}{i j:Nat}{k:Int}{ds:List D}{Q:Out->Pn->Prop}(h3:(ρ[i]?).bind id=some (.lst ds))(h5:Xp ds.length k=some j)(h:Ok (fv ρ) s λv s1=>fx ρ s1=some (.int k,s1)/\Q (.nx (ρ.set i (some (.lst (ds.set j v))))) s1):Ok (ZjF i fx fv ρ) s Q:=by
 refine .bind (h.mono λv s1 q=>.bind (.eq q.1 ?_));simp only[h3,h5];exact .ret q.2
theorem Znp {fs:List (Int×Int)}{j:Nat}{p:Int×Int}:(fs.map Zl).set j (Zl p)=(fs.set j p).map Zl:=List.map_set.symm
theorem Znq {n:Nat}{fs:List (Int×Int)}{j:Nat}{p:Int×Int}(g:Gf n fs)(h:p.1.natAbs<=2 ^ 165/\p.2.natAbs<=2 ^ 165):Gf n (fs.set j p):=⟨by rw[List.length_set];exact g.len,λq hq=>by
 rcases List.mem_or_eq_of_mem_set hq with hq | rfl
 ·exact g.le q hq
 ·exact h⟩
theorem Zph {l:List (Int×Int)}{n a:Nat}(hl:l.length=n)(ha:a<n):Xp (l.map Zl).length (a:Int)=some a:=by
 unfold Xp;rw[qe,hl,if_pos (by omega),if_pos (by omega),yK]
theorem ZcD {i:Int}(h:i.natAbs<=2 ^ 164):i.natAbs<=2 ^ 165:=qp h (zV (by decide) (by decide))
theorem ZoS {n:Nat}{jO:Qa}(hn:n<=7){s:Pn}(ok:Y7 s):Ok (Zaj [.pen,ZG n jO]) s λd s'=>Y7 s'/\∃Ls:List (List (Int×Int)),d=.lst (Ls.map wD)/\Ls.length<=3/\∀f∈Ls,Gf n f:=by
 refine Ok.runB rfl ?_;refine Ok.seq (.sif (.eq (Z6 (Zm (d:=nD n) (e:=.int 2) (c:=.bl (decide ((n:Int)<2))) (Zm (d:=ZG n jO) (e:=.int 0) rfl rfl Ww) rfl rfl)) ?_));by_cases h2:n<2
 ·rw[if_pos (decide_eq_true (by omega))]
  exact .seq (.sret (.eq rfl ⟨ok,[],rfl,by simp,by simp⟩))
 rw[if_neg (by rw[decide_eq_false (by omega)];decide)];refine .next ?_;have hw0:∀ρ:Ze,(ρ[1]?).bind id=some (ZG n jO)->∀s:Pn,Zc Zn (Za 1) (dC (.int 0)) ρ s=some (nD n,s):=fun ρ h s=>Zm (d:=ZG n jO) (e:=.int 0) (by unfold Za YO;rw[h]) rfl Ww;refine Ok.seq (.spar (.cons (.draw (m:=n) ok (Zg rfl (Zg (hw0 _ rfl s) rfl)) (by omega) (by omega) λi s1 hi ok1=>.cons (.draw (m:=n) ok1 (Zg rfl (Zg (hw0 _ rfl s1) rfl)) (by omega) (by omega) λj s2 hj ok2=>.nil ⟨_,_,rfl,rfl,rfl,?_⟩))));have p9:=ZgH 10 9 (by decide) (by omega);have p40:=ZgH 10 40 (by decide) (by omega);have hb:Ok (Zc YX (Zc ZY (dC (.int 3)) (Zx YK (Zb (Za 0) (Zb (Zc Zn (Yz (Zb (dC (.int 100)) (Zb (Zc W7 (dC (.int 10)) (dC (.int 9))) Zf))) (Zx YK (Zb (Za 0) (Zb (dC (.int 2)) Zf)))) Zf)))) (Zc Zn (Yz (Zb (dC (.int 1)) (Zb (Zc W7 (dC (.int 10)) (dC (.int 40))) Zf))) (Zx YK (Zb (Za 0) (Zb (dC (.int 2)) Zf)))) [some .pen,some (ZG n jO),some (nD i),some (nD j),none,none,none,none]) s2 λd s'=>Y7 s'/\∃b:Int,d=.int b/\3<=b/\b.natAbs<=2 ^ 164-1:=by
  refine .op (.op (.eq (a:=.int 3) rfl (jJ (.cons (.eq (a:=.pen) rfl (.cons (.op (.eq (a:=.lst [.int 100,.int (10 ^ 9)]) (WM (Zg rfl (Zg (Zm rfl rfl p9) rfl)) (by show 2<=xg;decide)) (.draw (m:=2) ok2 (Zg rfl (Zg rfl rfl)) (by omega) (by omega) λr s3 hr ok3=>?_)))))))));have fin:∀m:Nat,0<m->m<=1000000000->Zn (.lst [.int 100,.int (10 ^ 9)]) (.int (r:Int))=some (nD m)->∃c,Zn (.lst [.int 100,.int (10 ^ 9)]) (.int (r:Int))=some c/\Ok (Zf [some .pen,some (ZG n jO),some (nD i),some (nD j),none,none,none,none]) s3 λds s2=>∃m:Nat,D.pen::c::ds=[.pen,nD m]/\Y7 s2/\0<m/\m<1073741824/\∀(r:Nat) s',r<m->Y7 s'->∃c,ZY (.int 3) (nD r)=some c/\Ok (Zc Zn (Yz (Zb (dC (.int 1)) (Zb (Zc W7 (dC (.int 10)) (dC (.int 40))) Zf))) (Zx YK (Zb (Za 0) (Zb (dC (.int 2)) Zf))) [some .pen,some (ZG n jO),some (nD i),some (nD j),none,none,none,none]) s' λe s2=>∃c2,YX c e=some c2/\Y7 s2/\∃b:Int,c2=.int b/\3<=b/\b.natAbs<=2 ^ 164-1:=λm m0 m1 e=>by
   refine⟨_,e,.nil ⟨m,rfl,ok3,m0,by omega,λr s4 hr4 ok4=>⟨.int (3+(r:Int)),rfl,.op (.eq (a:=.lst [.int 1,.int (10 ^ 40)]) (WM (Zg rfl (Zg (Zm rfl rfl p40) rfl)) (by show 2<=xg;decide)) (.draw (m:=2) ok4 (Zg rfl (Zg rfl rfl)) (by omega) (by omega) λq s5 hq ok5=>?_))⟩⟩⟩;have h31:(3+(r:Int)).natAbs<=2 ^ 30:=by omega
   have e1:2 ^ 30*10 ^ 40<=2 ^ 164-1:=by decide +kernel
   match q,hq with
   | 0,_=>
    refine⟨.int 1,rfl,.int ((3+(r:Int))*1),WD h31 (y:=1) (by decide) (by omega) (by omega),ok5,_,rfl,by omega,?_⟩;rw[qcu];exact qp h31 (by decide +kernel)
   | 1,_=>
    refine⟨.int (10 ^ 40),rfl,.int ((3+(r:Int))*10 ^ 40),WD h31 (y:=133) (by decide +kernel) (by omega) (by omega),ok5,_,rfl,?_,?_⟩
    ·have:(3+(r:Int))*1<=(3+(r:Int))*10 ^ 40:=yI (by decide) (by omega)
     omega
    ·rw[qal]
     exact qp (yj h31 (show((10:Int) ^ 40).natAbs<=10 ^ 40 by decide +kernel)) e1
  match r,hr with
  | 0,_=>exact fin 100 (by omega) (by omega) rfl
  | 1,_=>exact fin 1000000000 (by omega) (by omega) rfl
 refine Ok.seq (.sset (hb.mono λd s3 q=>?_));obtain⟨ok3,b,rfl,b3,bb⟩:=q;refine Ok.seq (.sown (.eq (a:=.lst []) rfl ⟨rfl,?_⟩));have hp:(2:Nat) ^ 164-1+1=2 ^ 164:=by decide +kernel
 have q1:(b-1).natAbs<=2 ^ 165/\b.natAbs<=2 ^ 165:=⟨ZcD (by omega),ZcD (by omega)⟩;have q2:(b-2).natAbs<=2 ^ 165/\(b-1).natAbs<=2 ^ 165:=⟨ZcD (by omega),q1.1⟩;have q3:b.natAbs<=2 ^ 165/\(b+1).natAbs<=2 ^ 165:=⟨q1.2,ZcD (by omega)⟩;have hms:∀v∈[Zl (b-1,b),Zl (b-2,b-1),Zl (b,b+1)],∃p:Int×Int,v=Zl p/\p.1.natAbs<=2 ^ 165/\p.2.natAbs<=2 ^ 165:=λv hv=>by
  simp only[qB,zN,or_false]at hv;rcases hv with rfl | rfl | rfl
  ·exact⟨(b-1,b),rfl,q1⟩
  ·exact⟨(b-2,b-1),rfl,q2⟩
  ·exact⟨(b,b+1),rfl,q3⟩
 have h1b:(1:Int).natAbs<=2 ^ 165/\b.natAbs<=2 ^ 165:=⟨by decide,q1.2⟩;clear hb hp q1 q2 q3 p9 p40 bb b3;refine Ok.seq (.sfor (λk ρ s'=>k<=3/\s'=s3/\∃(Ls:List (List (Int×Int))) (o6 o7:Option D),Ls.length<=k/\(∀f∈Ls,Gf n f)/\ρ=[some .pen,some (ZG n jO),some (nD i),some (nD j),some (.int b),some (.lst (Ls.map wD)),o6,o7]) (.eq (a:=[Zl (b-1,b),Zl (b-2,b-1),Zl (b,b+1)]) (s':=s3) rfl ⟨⟨by omega,rfl,[],none,none,by simp,by simp,rfl⟩,λk v ρ s' hd hI=>?_,fun ρ' s' hI=>?_⟩))
 ·obtain⟨_,rfl,Ls,o6,o7,l1,l2,rfl⟩:=hI
  have hk:k<3:=(qC.mp hd).1;obtain⟨p,rfl,hp⟩:=hms v (zp hd);refine⟨_,rfl,?_⟩;have hmul:=Zjc (Zl (0,1)) n (by omega);have hrep:(Z9 n λ_=>Zl (0,1))=(qf n ((0:Int),(1:Int))).map Zl:=by
   rw[List.map_replicate];unfold Z9;rw[List.map_const',qL]
  rw[hrep]at hmul;have g0:Gf n (qf n ((0:Int),(1:Int))):=⟨by simp,λq hq=>by rw[qbD hq];exact⟨by decide,by decide⟩⟩;refine Ok.seq (.sown (.eq (a:=.lst ((qf n ((0:Int),(1:Int))).map Zl)) (s':=s') (Zm (d:=.lst [Zl (0,1)]) (e:=nD n) rfl (hw0 _ rfl s') hmul) ⟨rfl,?_⟩));have g1:=Znq (j:=i) g0 (p:=(1,b)) h1b;have g2:=Znq (j:=j) g1 hp;refine Ok.seq (Zh8 (ds:=(qf n ((0:Int),(1:Int))).map Zl) (k:=(i:Int)) (j:=i) rfl (Zph g0.len hi) (.eq (a:=Zl (1,b)) (s':=s') rfl ⟨rfl,?_⟩));rw[Znp];refine Ok.seq (Zh8 (ds:=((qf n ((0:Int),(1:Int))).set i (1,b)).map Zl) (k:=(j:Int)) (j:=j) rfl (Zph g1.len hj) (.eq (a:=Zl p) (s':=s') rfl ⟨rfl,?_⟩));rw[Znp];refine Ok.seq (.sapp (ds:=Ls.map wD) rfl (by rw[qe,Y1];omega) (.eq (a:=wD (((qf n ((0:Int),(1:Int))).set i (1,b)).set j p)) (s':=s') rfl (.next ⟨_,rfl,by omega,rfl,Ls ++ [((qf n ((0:Int),(1:Int))).set i (1,b)).set j p],some (Zl p),some (.lst ((((qf n ((0:Int),(1:Int))).set i (1,b)).set j p).map Zl)),by rw[qQ];show Ls.length+1<=_;omega,λf hf=>?_,?_⟩)))
  ·rcases qV.mp hf with hf | hf
   ·exact l2 f hf
   ·cases zP.mp hf;exact g2
  ·rw[qP];rfl
 ·obtain⟨_,rfl,Ls,o6,o7,l1,l2,rfl⟩:=hI
  exact Ok.seq (.sret (.eq rfl ⟨ok3,Ls,rfl,l1,l2⟩))
noncomputable abbrev J0:List (Int×Int):=[(0,1),(1,1),(1,2),(1,3),(2,3),(1,4),(3,4),(0,1),(1,5),(1,6),(1,7),(2,5)]
theorem ZoT:∀p∈J0,p.1.natAbs<=2 ^ 165/\p.2.natAbs<=2 ^ 165:=by
 have h:∀p∈J0,p.1.natAbs<=7/\p.2.natAbs<=7:=by decide
 intro p hp;have e:(7:Nat)<=2 ^ 165:=by decide +kernel
 exact⟨qp (h p hp).1 e,qp (h p hp).2 e⟩
theorem ZfP {P:Int×Int->Prop}:∀{ds:List D},(∀d∈ds,∃p,d=Zl p/\P p)->∃fs:List (Int×Int),ds=fs.map Zl/\∀p∈fs,P p
 | [],_=>⟨[],rfl,by simp⟩
 | d::ds,h=>by
  obtain⟨p,rfl,hp⟩:=h d (by simp);obtain⟨fs,rfl,hf⟩:=ZfP (ds:=ds) λe he=>h e (by simp[he]);exact⟨p::fs,rfl,λx hx=>by
   rcases qB.mp hx with rfl | hx
   ·exact hp
   ·exact hf x hx⟩
theorem Znr (ns:List Int)(h:ns.length<=63):∃s',Znb (none::some .pen::qf 9 none) ([0,0],ns)=some (.rt (.bl true),s'):=by
 have ok0:Y7 ([0,0],ns):=⟨0,0,rfl,by omega,by omega⟩;suffices hh:Ok (Znb (none::some .pen::qf 9 none)) ([0,0],ns) λo s'=>o=.rt (.bl true) by
  obtain⟨o,s',e,rfl⟩:=hh;exact⟨s',e⟩
 refine Ok.seq (.sfor (λi ρ s'=>Y7 s'/\∃o2 o3 o4 o5 o6 o7 o8 o9 o10,ρ=[none,some .pen,o2,o3,o4,o5,o6,o7,o8,o9,o10]) (.eq (XB (n:=3) rfl (by omega)) ⟨⟨ok0,none,none,none,none,none,none,none,none,none,rfl⟩,λi0 d ρ s' hd hI=>?_,fun ρ' s' hI=>?_⟩))
 ·obtain⟨ok1,o2,o3,o4,o5,o6,o7,o8,o9,o10,rfl⟩:=hI
  obtain⟨hi,rfl⟩:=Be hd;clear hd hi ok0;refine⟨_,rfl,?_⟩;refine Ok.seq (.sset (.fn (Zg rfl (Zg rfl rfl)) ((ZpY ok1 7 (by omega)).mono λd s1 q=>?_)));obtain⟨ok2,n,jO,rfl,hn7,hw⟩:=q;have hn:n<=10:=by omega
  obtain⟨W,d,c,x,S,he⟩:=Zlb hw hn s1;have e2:Zn (.tup [Zl (WG W d),.lst (shC n jO d c),.tup (shX n d x)]) (.int 2)=some (.tup (shX n d x)):=rfl;have g0:Gf n (shF n d x):=⟨by simp,λp hp=>by
   obtain⟨j,_,rfl⟩:=qu.mp hp;have:=S.small (S.xle j);exact⟨qp this.1 (zV (by decide) (by decide)),qp this.2 (zV (by decide) (by decide))⟩⟩
  rw[Zq7]at e2 he;generalize shF n d x=f0 at *;have c7:(7:Nat)<=2 ^ 165:=by decide +kernel
  obtain⟨g1,r1⟩:=Zjl (n:=n) (p:=(1,1)) ⟨by decide +kernel,by decide +kernel⟩;obtain⟨g2,r2⟩:=Zjl (n:=n) (p:=(1,2)) ⟨by decide +kernel,by decide +kernel⟩;have m1:=ZeR (Zl (1,1)) n (by omega);have m2:=ZeR (Zl (1,2)) n (by omega);rw[r1]at m1;rw[r2]at m2;have hn0:∀ρ:Ze,(ρ[3]?).bind id=some (ZG n jO)->∀s:Pn,Zc Zn (Za 3) (dC (.int 0)) ρ s=some (nD n,s):=fun ρ h s=>Zm (d:=ZG n jO) (e:=.int 0) (by unfold Za YO;rw[h]) rfl Ww;refine Ok.seq (.sown (.eq (a:=.lst ([f0,qf n (1,1),qf n (1,2)].map wD)) (s':=s1) (WM (ds:=[wD f0,wD (qf n (1,1)),wD (qf n (1,2))]) (Zg (Zm (Ym (Zg rfl rfl) he) rfl e2) (Zg (Zm (d:=.tup [Zl (1,1)]) (e:=nD n) rfl (hn0 _ rfl s1) m1) (Zg (Zm (d:=.tup [Zl (1,2)]) (e:=nD n) rfl (hn0 _ rfl s1) m2) rfl))) (by show 3<=xg;decide)) ⟨rfl,?_⟩));clear e2 m1 m2 r1 r2 he S;refine Ok.seq (.sapp (ds:=[f0,qf n (1,1),qf n (1,2)].map wD) rfl (by show 3<xg;decide) (.op (.tup (.cons (.tup (.cons (.eq (a:=.int 1) rfl (.cons (.op (.eq (a:=.int 1) rfl (.draw (m:=9) ok2 (Zg rfl (Zg rfl rfl)) (by omega) (by omega) λr s2 hr ok3=>⟨.int (1+(r:Int)),rfl,.nil ⟨by show 2<=xg;decide,.nil ⟨by show 1<=xg;decide,.eq (hn0 _ rfl s2) ?_⟩⟩⟩)))))))))));obtain⟨g3,r3⟩:=Zjl (n:=n) (p:=(1,1+(r:Int))) ⟨(by decide +kernel:(1:Int).natAbs<=2 ^ 165),by show(1+(r:Int)).natAbs<=_;omega⟩;have m3:=ZeR (Zl (1,1+(r:Int))) n (by omega);rw[r3]at m3;refine⟨_,m3,?_⟩;refine Ok.seq (.sset (.eq (a:=.lst (J0.map Zl)) rfl ?_));have hG0:∀f∈[f0,qf n (1,1),qf n (1,2),qf n (1,1+(r:Int))],Gf n f:=λf hf=>by
   simp only[qB,zN,or_false]at hf;rcases hf with rfl | rfl | rfl | rfl <;> assumption
  refine Ok.seq (.sfor (λi ρ s'=>i<=2/\Y7 s'/\∃(Ws:List (List (Int×Int))) (o6:Option D),(∀f∈Ws,Gf n f)/\Ws.length<=4+i/\ρ=[none,some .pen,some (nD i0),some (ZG n jO),some (.lst (Ws.map wD)),some (.lst (J0.map Zl)),o6,o7,o8,o9,o10]) (.eq (XB (n:=2) rfl (by omega)) ⟨⟨by omega,ok3,[f0,qf n (1,1),qf n (1,2),qf n (1,1+(r:Int))],o6,hG0,by simp,rfl⟩,λi v ρ s' hd hI=>?_,fun ρ' s' hI=>?_⟩))
  ·obtain⟨_,ok4,Ws,o6,h1,h2,rfl⟩:=hI
   obtain⟨hi,rfl⟩:=Be hd;refine⟨_,rfl,?_⟩;refine Ok.seq (.sapp (ds:=Ws.map wD) rfl (by rw[qe,Y1];omega) (.call (.cons (.comp (ds:=Yw 0 n) (λc=>∃p,c=Zl p/\p.1.natAbs<=2 ^ 165/\p.2.natAbs<=2 ^ 165) Y7 (XB (hn0 _ rfl s') (by omega)) (by rw[XY,Y1];omega) ok4 (λd hd s ok=>⟨_,rfl,.op (.eq (a:=.lst (J0.map Zl)) rfl (.draw (m:=12) ok (Zg rfl (Zg rfl rfl)) (by omega) (by omega) λr s' hr ok'=>by
    have hr':r<(J0.map Zl).length:=hr;obtain⟨v,hv,e⟩:=ZeS hr';obtain⟨p,hp,rfl⟩:=qu.mp hv;exact⟨_,e,⟨p,rfl,ZoT p hp⟩,ok'⟩))⟩) λds s4 hl4 hds ok6=>?_))))
   obtain⟨fs,rfl,hf⟩:=ZfP hds;rw[qe,XY]at hl4;refine .nil ⟨wD fs,rfl,.next ⟨_,rfl,by omega,ok6,Ws ++ [fs],_,λf' hf'=>?_,by rw[qQ];show Ws.length+1<=_;omega,by rw[qP];rfl⟩⟩;rcases qV.mp hf' with hf' | hf'
   ·exact h1 f' hf'
   ·cases zP.mp hf';exact⟨hl4,hf⟩
  obtain⟨_,ok4,Ws,o6,h1,h2,rfl⟩:=hI;rw[XY]at h2;refine Ok.seq (.sset (.op (.eq (a:=.lst (Ws.map wD)) rfl (.fn (Zg rfl (Zg rfl rfl)) ((ZoS (n:=n) (jO:=jO) hn7 ok4).mono λd s5 q=>?_)))));obtain⟨ok5,Ls,rfl,l1,l2⟩:=q;refine⟨.lst ((Ws++Ls).map wD),by rw[qP];exact Jy (by simp;omega),?_⟩;have hAll:∀f∈Ws++Ls,Gf n f:=λf hf=>by
   rcases qV.mp hf with hf | hf
   ·exact h1 f hf
   ·exact l2 f hf
  have hAl:(Ws++Ls).length<=9:=by rw[qQ];omega
  generalize Ws++Ls=As at *;refine Ok.seq (.sset (.op (.eq (a:=.lst (As.map wD)) rfl (.comp (ds:=As.map wD) Th Y7 (Ua rfl) (by rw[qe,Y1];omega) ok5 (λd hd s ok=>by
   obtain⟨f,hf,rfl⟩:=qu.mp hd;exact⟨_,rfl,.fn (Zg rfl (Zg rfl rfl)) ((ZoR hn7 (hAll f hf) ok).mono λd s q=>⟨q.2,q.1⟩)⟩) λds s6 hl6 hds ok6=>?_))))
  rw[qe]at hl6;refine⟨.lst (As.map wD++ds),Jy (by rw[qe];omega),?_⟩;have hT:∀v∈As.map wD++ds,Th v:=λv hv=>by
   rcases qV.mp hv with hv | hv
   ·obtain⟨f,hf,rfl⟩:=qu.mp hv
    exact(hAll f hf).th hn7
   ·exact hds v hv
  generalize As.map wD++ds=Ts at *;refine Ok.seq (.sfor (λi ρ s'=>s'=s6/\∃o7 o8 o9 o10,ρ=[none,some .pen,some (nD i0),some (ZG n jO),some (.lst Ts),some (.lst (J0.map Zl)),o6,o7,o8,o9,o10]) (.eq (a:=Ts) (s':=s6) rfl ⟨⟨rfl,_,_,_,_,rfl⟩,λi v ρ s' hd hI=>?_,fun ρ' s' hI=>?_⟩))
  ·obtain⟨rfl,o7,o8,o9,o10,rfl⟩:=hI
   have tv:=hT v (zp hd);refine⟨_,rfl,?_⟩;have hs:∀fs:List (Int×Int),v=.tup (fs.map Zl)->fs.length=n->U8 fs:=λfs e hl=>by
    subst e;exact Zno tv.1 (by omega)
   have q1:=Zfd (n:=n) (jO:=jO) hn (qp (ZhF hn) (by decide)) tv.1 (qp tv.2.2 (by omega)) hs s';have q2:=Zdm (jO:=jO) hw hn tv.1 (qp tv.2.2 (by omega)) hs s';have hr:=Zl2 tv.1 (qp tv.2.1 (by omega)) (qp tv.2.2 (by omega));refine Ok.seq (.spar (.eq (Zg (Ym (Zg rfl (Zg rfl rfl)) q1) (Zg (Yv (Zg rfl rfl) hr) rfl)) ⟨_,_,rfl,rfl,rfl,?_⟩));refine Ok.seq (.sset (.eq (Ym (Zg rfl (Zg rfl rfl)) q2) ?_));refine Ok.seq (.sif (.eq (a:=false) (JN (X2 (b:=true) (Z6 (Yv (Zg rfl (Zg rfl rfl)) rfl))) (JN (Z6 (Zm rfl rfl (ZjR rfl (by simp[ZW])))) (Z6 (Zm (Yv (Zg rfl rfl) hr) rfl (ZjR rfl (by simp[ZW])))))) (.next ?_)));exact .next ⟨_,rfl,rfl,_,_,_,_,rfl⟩
  ·obtain⟨rfl,o7,o8,o9,o10,rfl⟩:=hI
   exact .next ⟨_,rfl,ok6,_,_,_,_,_,_,_,_,_,rfl⟩
 ·obtain⟨ok1,o2,o3,o4,o5,o6,o7,o8,o9,o10,rfl⟩:=hI
  exact Ok.seq (.sret (.eq (a:=.bl true) rfl rfl))
end K28
namespace K28
open L2 TF TQ
open TP
open TP2 hiding g_all_near F_all_near
open TP3 hiding g_full_knots F_full_knots
theorem Ux {K:qd}{x q:Str}{st:Stmt}{f:Addr}{fd:xC}(ps:List Str)(F:Fun K x q st f fd)
  (h:∀(kV doc pm:Value) (an:Option Addr) (cdv ct:Value) (us:List Value),us.length=ps.length->bindArgs (zv x q (WC st) (XM st) (Zz st) .none kV doc pm an cdv ct) ⟨us,[]⟩=pure (ps.zip us):=by
   intro _ _ _ _ _ _ us hl
   first
    | (obtain⟨_,rfl⟩:=TF.ux1 us hl;rfl)
    | (obtain⟨_,_,rfl⟩:=TF.ux2 us hl;rfl)
    | (obtain⟨_,_,_,rfl⟩:=TF.ux3 us hl;rfl)
    | (match us,hl with | [_,_,_,_],_=>rfl)):Xb K fd ps []:=F.binds h
theorem Zqy {P:xD}{w:World}{K:qd}{mg:Str->Option Value}{base:Heap}{j7:Addr}{jS:xC}{L:List (Addr×Str)}(lo:Vs L)(F:Fun K "law" "law" s_law j7 jS)(T:Txt mg)(kx:Z3 P w K mg base 3 "_law_bent" 2 false (Xo (XI K) L) Zak)(ky:Z3 P w K mg base 3 "_law_fine" 2 true (Xo (XI K) L) Zaj)(jQ:Z3 P w K mg base 2 "_law_next" 2 true (Xo (XI K) L) YK)(kB:Z3 P w K mg base 3 "_law_web" 2 true (Xo (XI K) L) Zav)(kj:Z3 P w K mg base 2 "_law_weighs" 2 true Z4 B8)(ko:Z3 P w K mg base 7 "are_weights" 2 false (Wh L) J9)(kN:Z3 P w K mg base 7 "shares" 1 true (Wh L) Bo) :
  FnOk P w K mg base ZP 8 j7 jS ["script"] (ZiP K L):=by
 have nd:=Zjh.nd;refine F.ok Zjh (λvs H Q E h=>?_) λcdv A outer s0 H vs Q E hr h=>?_
 ·obtain⟨a,ns,rfl,_⟩:=h
  rfl
 ·obtain⟨a,ns,rfl,sq,hl,hTb,hQ⟩:=h
  obtain⟨s',hs'⟩:=Znr ns hl;refine⟨_,XZ (Ub (i:=1) nd rfl (z7 rfl) (Zn4 (Xt (pv 0) (Xt Xa (Xt Xa X4))))) (Zl4 (GG:=Xo (XI K) L) λG hG=>ZoH lo T hr kx ky jQ kB kj ko kN G hG),?_⟩;refine⟨_,rfl,(by show 3<=xg;decide),λp hp hk=>?_⟩;exact Zml (n:=9) (N:=["script","_law_pen","_law_k","_law_told","_law_things","_law_menu","_law_turn","_law_thing","_law_due","_law_text","_law_said"]) sq hTb hp hk hQ hs'
noncomputable def Zpi:List DRow:=[dR "is_whole" 1 189 2 1 15 193 true "tiefold.things" 187,
 dR "is_tuple_of" 2 196 4 2 22 201 true "tiefold.things" 187,
 dR "pairs_of" 3 204 6 1 29 211 true "tiefold.things" 187,
 dR "near" 5 216 13 2 36 219 false "tiefold.webs" 214,
 dR "all_near" 6 222 15 1 41 225 false "tiefold.webs" 214,
 dR "are_tied" 7 228 18 3 46 234 true "tiefold.webs" 214,
 dR "marked_ties" 8 237 20 1 53 240 false "tiefold.webs" 214,
 dR "turned" 9 243 22 1 58 248 true "tiefold.webs" 214,
 dR "web_where" 10 251 25 2 65 254 false "tiefold.webs" 214,
 dR "full_knots" 12 259 29 1 70 262 false "tiefold.knots" 257,
 dR "all_knots" 13 265 32 1 75 268 false "tiefold.knots" 257,
 dR "is_near_all" 14 271 37 3 80 274 false "tiefold.knots" 257,
 dR "is_full" 15 277 39 2 85 280 false "tiefold.knots" 257,
 dR "are_weights" 17 285 42 2 90 288 false "tiefold.shares" 283,
 dR "is_light" 18 291 48 2 95 294 false "tiefold.shares" 283,
 dR "is_fraction" 19 297 51 1 100 301 true "tiefold.shares" 283,
 dR "greatest_divisor" 20 304 55 2 107 310 true "tiefold.shares" 283,
 dR "lowest_terms" 21 313 61 2 114 319 true "tiefold.shares" 283,
 dR "added" 22 322 64 1 121 329 true "tiefold.shares" 283,
 dR "shares" 23 332 71 1 128 335 false "tiefold.shares" 283,
 dR "_law_fill" 26 441 133 2 209 447 true "law_tiefold_k28_weights_looked_at" 439,
 dR "_law_next" 27 450 139 2 216 458 true "law_tiefold_k28_weights_looked_at" 439,
 dR "_law_web" 28 461 152 2 223 464 false "law_tiefold_k28_weights_looked_at" 439,
 dR "_law_tied" 29 467 167 3 228 473 true "law_tiefold_k28_weights_looked_at" 439,
 dR "_law_knots" 31 486 175 1 242 489 false "law_tiefold_k28_weights_looked_at" 439,
 dR "_law_most" 32 492 187 1 247 495 false "law_tiefold_k28_weights_looked_at" 439,
 dR "_law_fraction_is" 33 498 189 1 252 505 true "law_tiefold_k28_weights_looked_at" 439,
 dR "_law_total" 34 508 199 1 259 516 true "law_tiefold_k28_weights_looked_at" 439,
 dR "_law_weighs" 37 536 230 2 278 539 false "law_tiefold_k28_weights_looked_at" 439,
 dR "_law_bent" 38 542 246 2 283 553 true "law_tiefold_k28_weights_looked_at" 439,
 dR "_law_fine" 39 556 264 2 290 567 true "law_tiefold_k28_weights_looked_at" 439,
 dR "law" 40 570 276 1 297 573 false "law_tiefold_k28_weights_looked_at" 439]
noncomputable def Zrb:List (Str×Nat×Value):=[("__module__",345,.str "tiefold.shares" 283),("__firstlineno__",349,.int 78 348),("__init__",355,.ref 144),("settle",363,.ref 151),("gaining_column",369,.ref 156),("tightest_row",379,.ref 163),("is_tighter",391,.ref 170),("exchange",397,.ref 175),("cleared",403,.ref 180),("worth",410,.ref 187),("share",418,.ref 194),("weight",426,.ref 201),("__static_attributes__",431,.ref 202),("__dict__",433,.ref 205),("__weakref__",435,.ref 206),("__doc__",436,.none)]
noncomputable def Zns:List MRV:=[⟨"__init__","Table.__init__",0,350,80,3,140,353,false⟩,
 ⟨"gaining_column","Table.gaining_column",2,364,97,1,152,367,false⟩,
 ⟨"is_tighter","Table.is_tighter",4,380,108,4,164,389,true⟩,
 ⟨"tightest_row","Table.tightest_row",3,370,101,2,157,377,true⟩,
 ⟨"cleared","Table.cleared",6,398,119,4,176,401,false⟩,
 ⟨"worth","Table.worth",7,404,122,1,181,408,true⟩,
 ⟨"share","Table.share",8,411,125,2,188,416,true⟩,
 ⟨"weight","Table.weight",9,419,128,2,195,424,true⟩,
 ⟨"exchange","Table.exchange",5,392,113,3,171,395,false⟩,
 ⟨"settle","Table.settle",1,356,91,1,145,361,true⟩]
noncomputable def KF (P:Params):qd:=ZqZ top 181 ([dE P "__name__" 165 (.str "law_tiefold_k28_weights_looked_at" 439)] ++ [dE P "__doc__" 166 (.none)] ++ [dE P "__package__" 167 (.none)] ++ [dE P "__loader__" 168 (.builtin "__main__.__loader__#opaque")] ++ [dE P "__spec__" 169 (.none)]++dRs P [nE "__annotations__" 170 6,nE "__builtins__" 171 4] ++ [dE P "__file__" 173 (.str "/claim/cut.py" 172)] ++ [dE P "__cached__" 174 (.none)]++dRs P [nE "is_whole" 195 21,nE "is_tuple_of" 203 28,nE "pairs_of" 213 35,nE "near" 221 40,nE "all_near" 227 45,nE "are_tied" 236 52,nE "marked_ties" 242 57,nE "turned" 250 64,nE "web_where" 256 69,nE "full_knots" 264 74,nE "all_knots" 270 79,nE "is_near_all" 276 84,nE "is_full" 282 89,nE "are_weights" 290 94,nE "is_light" 296 99,nE "is_fraction" 303 106,nE "greatest_divisor" 312 113,nE "lowest_terms" 321 120,nE "added" 331 127,nE "shares" 337 132,nE "Table" 438 204,nE "_law_fill" 449 215,nE "_law_next" 460 222,nE "_law_web" 466 227,nE "_law_tied" 475 234,nE "_law_is_knot" 485 241,nE "_law_knots" 491 246,nE "_law_most" 497 251,nE "_law_fraction_is" 507 258,nE "_law_total" 518 265,nE "_law_is_apart" 529 272,nE "_law_covers" 535 277,nE "_law_weighs" 541 282,nE "_law_bent" 555 289,nE "_law_fine" 569 296,nE "law" 575 301]) 45 Zpi ++ []++Zq3 (top 24) 181 (.str "tiefold.shares" 283) Zns ++ [(203,nsO P Zrb 4),(204,clsM "Table" 204 203 338 346)]
noncomputable def asF:List Addr:=[3,20,21,27,28,34,35,39,40,44,45,51,52,56,57,63,64,68,69,73,74,78,79,83,84,88,89,93,94,98,99,105,106,112,113,119,120,126,127,131,132,214,215,221,222,226,227,233,234,245,246,250,251,257,258,264,265,281,282,288,289,295,296,300,301,143,144,155,156,169,170,162,163,179,180,186,187,193,194,200,201,174,175,150,151,203,204]
theorem V4 (P:Params):Zgw (KF P) (top 24) 204 (.str "tiefold.shares" 283) Zns:=by
 repeat refine⟨⟨⟨by kernel_rfl,by kernel_rfl,by kernel_rfl⟩,by kernel_rfl,by kernel_rfl⟩,?_⟩
 exact trivial
theorem eF:∀P,asF=(KF P).map (·.1):=λ_=>by kernel_rfl
theorem okF (P:Params):Zgd (KF P) top Zpi:=by
 repeat refine⟨⟨by kernel_rfl,by kernel_rfl,by kernel_rfl⟩,?_⟩
 exact trivial
noncomputable abbrev LF:List (Addr×Str):=[(59,(qN "turned.<locals>.<lambda>"))]
theorem Zqz {P:xD}{w:World}{h:Heap}{mg:Str->Option Value}{fa:Addr}(X:(KF w.params).In h)(G:h.Ns mainGlobals mg)(hfa:mg "law" = some (.ref fa)) :
  ∃fd:xC,(∀(s:Shared) (v:Value),BindsTo s fd ⟨[v],[]⟩ [("script",v)])/\∀base:Heap,(KF w.params).In base->base.Ns mainGlobals mg->zZ base 63 59->B3 mg base->FnOk P w (KF w.params) mg base ZP 8 fa fd ["script"] (ZiP (KF w.params) LF):=by
 have lo:Vs LF:=TF.lok_nd (by decide);have zn:∀x,qbx (KF w.params) mainGlobals x=some none->mg x=none:=λ_ z=>PySem.W.mg_none_of X G z;have T:Txt mg:=⟨zn _ (by kernel_rfl),zn _ (by kernel_rfl),zn _ (by kernel_rfl),zn _ (by kernel_rfl),zn _ (by kernel_rfl),zn _ (by kernel_rfl),zn _ (by kernel_rfl),zn _ (by kernel_rfl),zn _ (by kernel_rfl),zn _ (by kernel_rfl),zn _ (by kernel_rfl),zn _ (by kernel_rfl),zn _ (by kernel_rfl),zn _ (by kernel_rfl),zn _ (by kernel_rfl)⟩;have mk:=@mkc P w (KF w.params) mg;have at_:=λj {r} e=>@Zqc _ h mg _ _ (okF w.params) X G j r e;obtain⟨f1,_,F1,m1,_⟩:=at_ 20 rfl;obtain⟨f2,_,F2,m2,_⟩:=at_ 21 rfl;obtain⟨f3,_,F3,m3,_⟩:=at_ 29 rfl;obtain⟨f4,_,F4,m4,_⟩:=at_ 30 rfl;obtain⟨f5,_,F5,m5,_⟩:=at_ 22 rfl;obtain⟨f6,_,F6,m6,_⟩:=at_ 26 rfl;obtain⟨f7,_,F7,m7,_⟩:=at_ 24 rfl;obtain⟨f8,_,F8,m8,_⟩:=at_ 23 rfl;obtain⟨f9,_,F9,m9,_⟩:=at_ 27 rfl;obtain⟨f10,_,F10,m10,_⟩:=at_ 28 rfl;obtain⟨f11,_,F11,m11,_⟩:=at_ 11 rfl;obtain⟨f12,_,F12,m12,_⟩:=at_ 10 rfl;obtain⟨f13,_,F13,m13,_⟩:=at_ 6 rfl;obtain⟨f14,_,F14,m14,_⟩:=at_ 5 rfl;obtain⟨f15,_,F15,m15,_⟩:=at_ 3 rfl;obtain⟨f16,_,F16,m16,_⟩:=at_ 4 rfl;obtain⟨f17,_,F17,m17,_⟩:=at_ 12 rfl;obtain⟨f18,_,F18,m18,_⟩:=at_ 9 rfl;obtain⟨f19,_,F19,m19,_⟩:=at_ 16 rfl;obtain⟨f20,_,F20,m20,_⟩:=at_ 1 rfl;obtain⟨f21,_,F21,m21,_⟩:=at_ 0 rfl;obtain⟨f22,_,F22,m22,_⟩:=at_ 15 rfl;obtain⟨f23,_,F23,m23,_⟩:=at_ 18 rfl;obtain⟨f24,_,F24,m24,_⟩:=at_ 14 rfl;obtain⟨f25,_,F25,m25,_⟩:=at_ 2 rfl;obtain⟨f26,_,F26,m26,_⟩:=at_ 8 rfl;obtain⟨f27,_,F27,m27,e27⟩:=at_ 7 rfl;obtain⟨f28,_,F28,m28,_⟩:=at_ 13 rfl;obtain⟨f29,_,F29,m29,_⟩:=at_ 17 rfl;obtain⟨f30,_,F30,m30,_⟩:=at_ 19 rfl;obtain⟨f31,_,F31,m31,_⟩:=at_ 31 rfl
 cases hfa.symm.trans m31
 have kC:=λb=>mk b F14 m14 (ZhQ F14 T );have kY:=λb=>mk b F25 m25 (ZhS F25 T );have k7:BY P w (KF w.params) mg 5 "web_where" 2 false (BX P w (KF w.params) mg 4 2 Tl) Zai:=⟨f26,_,_,λb=>Zgy F26 T (kY b),m26,F26.kp,bdc ["row","tied"] F26⟩;obtain⟨oc,od,kV,doc,pm,an,cdv,ct,osl,rfl,lk,hcd⟩:=F31.ex;refine⟨zv "law" "law" (WC s_law) (XM s_law) (Zz s_law) .none kV doc pm an cdv ct,λs v=>.of_eq rfl,λbase _ _ hC27 hBm=>?_⟩;have kO:=mk base F1 m1 (ZgA F1 T );have k8:=mk base F2 m2 (ZgE F2 T kO Znc);have jQ:Z3 P w (KF w.params) mg base 2 "_law_next" 2 true (Xo (XI (KF w.params)) LF) YK:=Zl5 k8 Zmm;have kx:=mk base F3 m3 (ZgD F3 T lo jQ);have ky:=mk base F4 m4 (ZgC F4 T lo jQ);have kB:=mk base F5 m5 (ZhY F5 T lo jQ);have kq:=mk base F6 m6 (ZbB F6 T );have kH:=mk base F7 m7 (Zfb F7 T );have kM:=mk base F8 m8 (ZgB F8 T );have kI:=mk base F9 m9 (Zfc F9 T );have kj:=mk base F10 m10 (ZeO F10 T kq kH kM kI);have ke:=mk base F11 m11 (ZeH F11 T );have kJ:=mk base F12 m12 (Zgx F12 T ke);have kd:=mk base F13 m13 (ZeG F13 T );have kP:=kC base;have k9:=mk base F15 m15 (ZoG F15 T kP);have kQ:=mk base F16 m16 (ZhR F16 T kd k9);have kU:=mk base F17 m17 (Zje F17 T ke);have kh:=mk base F18 m18 (Ze9 F18 T kJ kQ kU);have jW:=mk base F19 m19 (Zbz F19 T );have kf:=mk base F20 m20 (ZeL F20 T );have kG:=mk base F21 m21 (ZhV F21 T );have kD:=mk base F22 m22 (ZeM F22 T jW kf kG);have k6:=mk base F23 m23 (Zna F23 T );have kT:=mk base F24 m24 (ZhX F24 T k6);have kZ:=kY base;have kK:=k7;have kE:=mk base F27 m27 (Zk8 F27 T lo kd kK kC (tP:=59) e27 hC27 hBm (by simp));have ko:=mk base F28 m28 (ZeN F28 T lo kh kD kT kf kE);have jU:=mk base F29 m29 (Zdk F29 T jW);have kc:TCl (KF w.params) 204:=⟨⟨by kernel_rfl,by kernel_rfl,by kernel_rfl,by kernel_rfl⟩,by unfold Xd;kernel_rfl,by unfold Xd;kernel_rfl,by unfold Xd;kernel_rfl,by unfold Xd;kernel_rfl⟩;obtain⟨fm0,_,Fm0,Mm0⟩:=VR (V4 w.params) 0 rfl;obtain⟨fm1,_,Fm1,Mm1⟩:=VR (V4 w.params) 1 rfl;obtain⟨fm2,_,Fm2,Mm2⟩:=VR (V4 w.params) 2 rfl;obtain⟨fm3,_,Fm3,Mm3⟩:=VR (V4 w.params) 3 rfl;obtain⟨fm4,_,Fm4,Mm4⟩:=VR (V4 w.params) 4 rfl;obtain⟨fm5,_,Fm5,Mm5⟩:=VR (V4 w.params) 5 rfl;obtain⟨fm6,_,Fm6,Mm6⟩:=VR (V4 w.params) 6 rfl;obtain⟨fm7,_,Fm7,Mm7⟩:=VR (V4 w.params) 7 rfl;obtain⟨fm8,_,Fm8,Mm8⟩:=VR (V4 w.params) 8 rfl;obtain⟨fm9,_,Fm9,Mm9⟩:=VR (V4 w.params) 9 rfl;have M_Table:Mk (KF w.params) 204 fm0:=⟨by kernel_rfl,Mm0.at_,Mm0.fn,by kernel_rfl⟩;have F_init:=Zk9 (P:=P) (w:=w) (mg:=mg) (base:=base) Fm0 T kc;have m_Table:mg "Table" = some (.ref 204):=PySem.W.mg_of X G (by kernel_rfl);have b_init:=bdm ["self","n","aparts"] Fm0;have ka:Wm P w (KF w.params) mg base 204 1 "gaining_column" 1 (GT 204) WS:=J4 base Fm1 Mm1 (ZbA Fm1 T kc ) (Ux ["self"] Fm1);have kA:Wm P w (KF w.params) mg base 204 1 "is_tighter" 4 (GT 204) B7:=J4 base Fm2 Mm2 (Zdl Fm2 T kc ) (Ux ["self","i","j","column"] Fm2);have kr:Wm P w (KF w.params) mg base 204 2 "tightest_row" 2 (GT 204) Jg:=J4 base Fm3 Mm3 (Zcw Fm3 T kc kA) (Ux ["self","column"] Fm3);have kL:Wm P w (KF w.params) mg base 204 1 "cleared" 4 (GT 204) Bg:=J4 base Fm4 Mm4 (Zgz Fm4 T kc ) (Ux ["self","row","kept","column"] Fm4);have kX:Wm P w (KF w.params) mg base 204 3 "worth" 1 (GT 204) Bl:=J4 base Fm5 Mm5 (Zjf Fm5 T kc jU) (Ux ["self"] Fm5);have kW:Wm P w (KF w.params) mg base 204 3 "share" 2 (GT 204) Jp:=J4 base Fm6 Mm6 (Zjg Fm6 T kc jU) (Ux ["self","i"] Fm6);have kS:Wm P w (KF w.params) mg base 204 3 "weight" 2 (GT 204) Jm:=J4 base Fm7 Mm7 (ZhT Fm7 T kc jU) (Ux ["self","place"] Fm7);have kF:BQ P w (KF w.params) mg base 204 2 "exchange" 3 Jj:=⟨_,_,_,Zfa Fm8 T kc kL,Mm8,Ux ["self","i","column"] Fm8⟩;have kR:BQ P w (KF w.params) mg base 204 3 "settle" 1 V6:=⟨_,_,_,ZhU Fm9 T kc kF ka kr,Mm9,Ux ["self"] Fm9⟩;have kN:=mk base F30 m30 (Zla F30 T lo kc M_Table F_init m_Table b_init kh kR kW kS kX kE);exact Zqy lo F31 T kx ky jQ kB kj ko kN
noncomputable def tb:List (Str×Addr×Addr):=[("turned",63,59)]
theorem ZqA:∀P q,(P,q)∈LF->∃x c,(x,c,P)∈tb:=by
 intro P q h;simp only[qB,Prod.mk.injEq,zN,or_false]at h;rcases h with⟨rfl,_⟩
 ·exact⟨"turned",63,by simp[tb]⟩
noncomputable def qF:xD:=PySem.W.view PySem.Challenge.pw_tiefold_k28_weights_looked_at [1,2,3,5,6,7,8,9,10,12,13,14,15,17,18,19,20,21,22,23,24,26,27,28,29,30,31,32,33,34,35,36,37,38,39,40]
theorem walk {loose:List Str}{XP:(Str->Option Value)->Heap->Prop}{YP:World->Heap->Prop}(hY:∀(w:World) (h:Heap),YP w h->(KF w.params).In h) :
  qcb qF loose XP YP PySem.Challenge.rw_tiefold_k28_weights_looked_at.row.toRowW (ZiU s_law) [] (λf vs=>qb6 f vs):=
 Zl7 (K:=KF) (tb:=tb) (n:=63) (k:=8) (x:="script") (CX:=λ_=>ZP) (sp:=λw=>ZiP (KF w.params) LF) rfl (by decide) rfl ⟨rfl,by decide,by decide,rfl⟩ hY
  (qb9.mpr ⟨ym.mp (by kernel_rfl),(λ_ h=>nomatch h)⟩)
  (λw=>qb9.mpr ⟨by kernel_rfl,(λ_ h=>nomatch h)⟩) (λw=>by kernel_rfl)
  (λw mg fa h h1 h2 h3=>let ⟨fd,hb,hF⟩:=Zqz h1 h2 h3;⟨fd,hb,λbase g1 g2 g3 g4=>hF base g1 g2 (g3 ("turned",63,59) (by simp[tb])) g4⟩)
  (λ_ _ a ns hl hS hTb=>⟨a,ns,rfl,hS,hl,ZiQ (tb:=tb) ZqA hTb,λ_=>rfl⟩) λ_ _ _ _ _ z=>z
theorem left:PySem.W.LeftO PySem.Challenge.rw_tiefold_k28_weights_looked_at.prog qF [] (λs=>PySem.W.xlAt qF [] s&&PySem.W.recOk PySem.Challenge.rw_tiefold_k28_weights_looked_at.row.records s) (yC KF asF eF).obs (yC KF asF eF).val 3248:=λw=>by kernel_rfl
theorem said:PySem.Challenge.rw_tiefold_k28_weights_looked_at.wellSaid=true:=by kernel_rfl
end K28
open PySem.W
set_option maxRecDepth 100000 in
set_option maxHeartbeats 0 in
theorem PySem.Challenge.cw_tiefold_k28_weights_looked_at_holds : PySem.Challenge.rw_tiefold_k28_weights_looked_at.Holds := by
 refine TF.head_of (q:=K28.qF) (K:=K28.KF) (st:=K28.s_law) K28.said K28.left (by kernel_rfl) (by kernel_rfl) (by kernel_rfl) (by decide +kernel) ⟨rfl,rfl,rfl,rfl,rfl,by decide +kernel⟩ ?hw rfl (K28.walk λw h Y=>kIn_of Y)
 case hw=>w_witness2
