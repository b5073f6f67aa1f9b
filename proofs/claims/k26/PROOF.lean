import PyProof.Rows.All
import Wide.All
import OpenK.AllK
import Wide.FinOn
import Lean
import PyProof.EqAt
import PyProof.EqKinds
import PyProof.TupleCall
import KE.KLam
import PyProof.ZipIter
import PyProof.WalksEnum
import PyProof.WalkInts
import PyProof.SeqI3
import PyProof.Rows.SeqMore
import PyProof.Rows.SortWalk
import PyProof.Draws
import PyProof.EnumMake
import PyProof.DictIter
import KE.KSortTup
import PyProof.Rows.SeqMore2
import PyProof.Rows.RuleIs
import PyProof.Rows.SetFrom
import PyProof.WalksMore
import PyProof.MinMaxWalk
import OpenK.KMore
import PyProof.Rows.SortRuns
import PyProof.Rows.SortRunsK
import KE.KDictSum
import PyProof.ExcClass2
import PyProof.ExcBaseAll.ValueError
import OpenK.KRaise
import KE.KTryMore
import PyProof.ExcAttrAll.ValueError
import PyProof.NsDelKeeps
import PyProof.DictFindH
import PyProof.DictRoadsH
import PyProof.Rows.CountFlat
import PyProof.Rows.RuleN_abs
import PyProof.FitsBits
import PySem.Challenge.RW_tiefold_k26_shares_told
-- CHANGE: your row's module here,as the last of these rows
open PySem.W renaming Frag->qd,kia_one->zp,fnOf->zt,findIn->zD,keepIn->zE,emptyDict->zH,instObj->zO,kla_fn->zT,CodeHd->zU,envX->ym,kHook->yt,codeIn->yD,callWith_K->yV,plainGet->qan,plainGet_of->qaz,lookIn->qaC,tabObj->qaE,hasDictIn->qaU,nsIn->qbd,takerIn->qbq,cellsFrom_some->qbv,methodCall_KW->qbB,hideAll_size->qbF,hideAll_none->qbG,WalkO->qbR,hideAll_get->qbS,isFn->qbZ
open List renaming range->qe,length_map->qf,mem_map->qm,replicate->qp,map_map->qw,mem_filter->qA,getElem?_set_ne->qD,getElem?_eq_some_iff->qH,getElem?_map->qI,length_range->qM,mem_cons->qN,map_cons->qO,mem_append_right->qP,map_congr_left->qQ,mem_range->qR,all_eq_true->qS,getElem?_set_self->qU,map_append->qV,length_cons->qW,mem_cons_of_mem->qX,filter_sublist->qY,lookup_cons->qZ,getElem?_append_left->za,pairwise_iff_getElem->zb,getElem?_eq_getElem->zc,length_filter_le->ze,size_toArray->zm,append_nil->zq,length_append->zC,mem_of_getElem?->zF,mem_iff_getElem->zG,toArray->zI,map_id->zJ,getElem?_append_right->zM,pairwise_cons->zN,filter_map->zQ,range_succ->zR,getElem?_replicate->zS,range_succ_eq_map->zV,mem_append->zZ,nodup_cons->z0,filter_congr->z8,drop_eq_getElem_cons->yb,pairwise_append->yd,length_take->yk,filter_eq_self->yp,append_assoc->yC,any_cons->yL,all_cons->yM,getElem?_range->yP,length_nil->yR,getElem?_zip_eq_some->yS,mem_filterMap->yU,all_map->y4,filter_append->y9,length_eq_zero_iff->qab,any_eq_false->qac,take_sublist->qad,sum_cons->qal,of_mem_zip->qar,foldl->qat,drop_eq_nil_iff->qaw,filterMap_cons->qay,mem_map_of_mem->qaA,map->qaD,lookup->qaG,mem_singleton->qaL,ext_getElem?->qaW,pairwise_map->qaX,getElem?_take_of_lt->qa4,getElem_mem->qa9,Sublist->qba,getElem_map->qbb,idxOf_lt_length_iff->qbc,map_nil->qbf,filter_cons->qbh,getElem?_eq_none->qbD,mem_append_left->qbI,range_eq_range'->qbN,forall_mem_cons->qbO,Pairwise->qbP,replicate_succ->qbT,getElem_of_mem->qbX,getD->qb5,length->qb9
open PySem.Heap renaming get?_push_of_some->qj,lt_size->qz,get?_push_size->qE,get?_update_other->zw,get?_update_self->qao,SameBut->qa3,get?_none_of_le->qbH,get?_update_ne->qbV
open Nat renaming le_refl->qk,le_trans->qu,lt_of_lt_of_le->qK,ne_of_lt->qL,lt_of_le_of_lt->zr,zero_le->zv,lt_irrefl->z5,lt_succ_self->yg,lt_trans->yE,mul_le_mul->yF,lt_trichotomy->qae,lt_succ_of_lt->qaf,le_of_lt->qaq,pow_le_pow_right->qax,mul_le_mul_left->qaB,pos_of_ne_zero->qaN,add_sub_cancel->qaO,mul_comm->qa6,strongRecOn->qbt,le_of_eq->qb0,zero_add->qb1,add_comm->qb4,succ->qcc
open Or renaming inl->qy,inr->z7
open Bool renaming and_eq_true->qB,false_ne_true->yu,and_eq_true_iff->yJ,true_and->qam,false_eq_true->qaJ,or_eq_true->qbr,and_self->qbQ
open PySem.Value renaming ref->qC,bool->zh,none->zk,int->qaH,str->qbo,type->qbE,notImplemented->qbK,float->qb8
open PySem.PassesOwn renaming never->qG
open Ne renaming symm->qJ
open Classical renaming byContradiction->qT,choose_spec->zB,choose->qbe
open PySem renaming mem_of_lookup->zd,Within->qa2,call->qbL
open PyProof.Rows renaming slot_tuple_getitem->zf,callWith_type1->zW
open PySem.Obj renaming mapSeq->zi
open Int renaming mul_le_mul_of_nonneg_right->zj,gcd->zo,le_of_lt->zK,le_of_eq->zY,le_of_mul_le_mul_right->z6,mul_nonneg->yf,mul_zero->yn,emod_lt_of_pos->yz,mul_le_mul_of_nonneg_left->yB,mul_comm->yG,zero_add->yH,mul_assoc->yO,ediv_mul_cancel->yQ,emod_nonneg->yT,fmod_nonneg_of_pos->qak,natAbs_mul->qaF,mul_lt_mul_of_pos_right->qaM,fdiv_eq_ediv_of_nonneg->qaQ,lt_of_mul_lt_mul_right->qaT,gcd_dvd_right->qaY,mul_neg_of_pos_of_neg->qa0,mul_neg_of_neg_of_pos->qa1,gcd_comm->qbg,le_trans->qbi,eq_ofNat_of_zero_le->qbl,pos_of_mul_pos_left->qbn,mul_add->qby,neg_mul->qbz,mul_pos->qbA,toNat_of_nonneg->qbY,zero_mul->qb2,add_zero->qb3,le_refl->qca,one_mul->qcb
open PySem.NameKind renaming free->zu,cell->yN
open PySem.F renaming plain_min_loop->zx,plainAttrs_list->yq,args_tuple_add_2->yW,slot_list_append->yY,type_list_append->yZ,slot_list_getattribute->y6,entry_tuple_add->qaa,slot_tuple_add->qag,entry_min_loop->qai,slot_int_rmul->qau,slot_list_index->qbm,slot_tuple_mul->qbw
open False renaming elim->zy
open True renaming intro->zL
open Option.some renaming inj->zP
open PySem.PyData renaming leavesShort->zX,showable->yA,depth->y8,bulk->qah,leavesShortAll->qap,showableAll->qaI,depthAll->qbs,bulkAll->qbC
open PySem.Builtin.Slice renaming slicePlaces->z9,sliceAdjust->qaZ
open PySem.Around renaming under_plainId->yc,frames_deeper->qbJ
open Option renaming isSome_iff_exists->yj,map_eq_some_iff->qaj,map_some->qav,isSome_map->qaV,bind_some->qa7
open Array renaming length_toList->yo,toList_append->qbU
open ForInStep renaming yield->yy
open PySem.SeqAt renaming EqAt->yI,RcNeAt->qa8,RcAt->qbM
open PySem.Paired renaming length->yK
open PySem.Builtin.List renaming listTooLong->yX
open PySem.Str renaming ofString->qas
open PySem.Builtin.Builtins renaming bindParams->qaK
open PySem.Calls renaming Name_function_global->qaP
open PySem.Builtin.Tuple renaming tupleItemsOf->qaR,tupleTooMany->qaS
open PySem.AutoSeq1 renaming sub_tuple_tuple->qa5
open PySem.Builtin.Range renaming rangeSize->qbj
open PySem.Builtin.Dict renaming updateFrom->qbk
open PyProof.Rows.IsTup renaming new->qbp
open List.cons renaming injEq->qbu
open Prod.mk renaming inj->qbx
open PySem.Builtin.Int renaming intBits->qbW
open Sum renaming inl->qb6,inr->qb7
open PySem PySem.Spec PyProof.Rows
open PySem renaming wpAny_bind→xa,wpAny_pure→xb,wpAny_mono→xc,wpAny→xf,sizeLine→xg,starEach→xh,keywordEach→xi,bootBuiltins→xj,compareOp→xk,wpAny_newObj_type→xl,codeAny_builtin→xm,codeAny→xo,backToKw→xp,attributeBase→xq,swapsWith→xr,wpAny_seqItems→xt,wpAny_tryCatch→xu,wpAny_holding→xw,wpAny_letGo→xy,wpAny_updateSeq→xz,wpAny_call→xA,model→xB,FuncData→xC,Program→xD,Around→xE
abbrev xF:=PySem.Value->PySem.Shared->Prop
set_option maxHeartbeats 8000000
abbrev Qa:=List (Nat×Nat)
abbrev Qb:=List (PySem.Addr×PySem.Obj)
set_option genSizeOfSpec false
set_option bootstrap.genMatcherCode false
local macro_rules|`(tactic|omega)=>`(tactic|first|with_reducible assumption|with_reducible exact qk _|with_reducible exact zv _|exact qu (by with_reducible assumption) (by decide)|exact qaq (by with_reducible assumption)|lia|omega (config:={}))
set_option Elab.async false
set_option linter.all false
set_option maxRecDepth 100000
namespace L2
noncomputable abbrev Yc:=Sum Int Str
noncomputable def BG:Yc->Value->Bool
 | .inl k,v=>Value.isInt k v
 | .inr x,v=>Value.isStrOf x v
noncomputable def keyH (w:World):Yc->Int
 | .inl k=>hashInt k
 | .inr x=>hashStr w x
theorem Uj:∀{k:Yc} {v:Value},BG k v=true->(∃i t,k=qb6 i/\v=qaH i t)∨(∃x t,k=qb7 x/\v=qbo x t)
 | .inl i,v,h=>by
  obtain⟨t,e⟩:=Value.isInt_shape h;exact .inl ⟨i,t,rfl,e⟩
 | .inr x,v,h=>by
  obtain⟨t,e⟩:=Value.isStrOf_shape h;exact .inr ⟨x,t,rfl,e⟩
theorem Zje (i:Int)(t:Tok):BG (.inl i) (.int i t)=true:=by simp[BG,Value.isInt]
theorem Zjf (x:Str)(t:Tok):BG (.inr x) (.str x t)=true:=by simp[BG,Value.isStrOf]
theorem ZoI (a b:Int):decide ((qb6 a:Yc)=qb6 b)=(a==b):=by
 grind
theorem ZoJ (a b:Str):decide ((qb7 a:Yc)=qb7 b)=decide (a=b):=by
 simp
theorem ZoK (a:Int)(b:Str):decide ((qb6 a:Yc)=qb7 b)=false:=decide_eq_false (λq=>nomatch q)
theorem ZoL (a:Str)(b:Int):decide ((qb7 a:Yc)=qb6 b)=false:=decide_eq_false (λq=>nomatch q)
noncomputable def WW (prog:xD)(w:World):PySem.KeyKind prog w Yc where
 is:=BG
 hash:=keyH w
 inj:=λv a b ha hb=>by
  rcases Uj ha with⟨i,t,rfl,rfl⟩ | ⟨x,t,rfl,rfl⟩
  ·rcases Uj hb with⟨j,u,rfl,e⟩ | ⟨y,u,rfl,e⟩
   ·injection e with e1 _;rw[e1]
   ·exact nomatch e
  ·rcases Uj hb with⟨j,u,rfl,e⟩ | ⟨y,u,rfl,e⟩
   ·exact nomatch e
   ·injection e with e1 _;rw[e1]
 byValue:=λk v h=>by
  rcases Uj h with⟨i,t,rfl,rfl⟩ | ⟨x,t,rfl,rfl⟩ <;> rfl
 pyHash:=λhv h=>by
  rcases Uj hv with⟨i,t,rfl,rfl⟩ | ⟨x,t,rfl,rfl⟩
  ·exact wpAny_pyHash_int h
  ·exact wpAny_pyHash_str h
 eqBool:=λhu hv h=>by
  rcases Uj hu with⟨i,t,rfl,rfl⟩ | ⟨x,t,rfl,rfl⟩
  ·rcases Uj hv with⟨j,u,rfl,rfl⟩ | ⟨y,u,rfl,rfl⟩
   ·rw[ZoI]at h;exact wpAny_eqBool_int h
   ·rw[ZoK]at h;exact yI.int_str i t y u _ _ _ _ h
  ·rcases Uj hv with⟨j,u,rfl,rfl⟩ | ⟨y,u,rfl,rfl⟩
   ·rw[ZoL]at h;exact yI.str_int x t j u _ _ _ _ h
   ·rw[ZoJ]at h;exact wpAny_eqBool_str h
 «strs»:=λk x t v h=>by
  rcases Uj h with⟨i,u,rfl,e⟩ | ⟨y,u,rfl,e⟩
  ·exact nomatch e
  ·injection e with e1 _
   subst e1
   cases v <;> rfl
theorem Zf7 (prog:xD)(w:World)(i:Int)(t:Tok):(WW prog w).is (.inl i) (.int i t)=true:=Zje i t
theorem Zf8 (prog:xD)(w:World)(x:Str)(t:Tok):(WW prog w).is (.inr x) (.str x t)=true:=Zjf x t
inductive V where
 | non | bl (b:Bool) | int (i:Int) | str (x:Str) | byt (b:Array UInt8) | flt (b:UInt64) | ref (a:Addr) | ty (n:String)
 deriving DecidableEq
noncomputable def ZN:V->Value->Prop
 | .non,u=>u=zk
 | .bl b,u=>u=zh b
 | .int i,u=>∃t,u=qaH i t
 | .str x,u=>∃t,u=qbo x t
 | .byt b,u=>∃t,u=Value.bytes b t
 | .flt b,u=>∃t,u=qb8 b t
 | .ref a,u=>u=qC a
 | .ty n,u=>u=qbE n
noncomputable abbrev ZG:List V->List Value->Prop:=Paired ZN
theorem ZG.length (r:ZG xs us):xs.length=us.length:=yK r
theorem ZG.get:∀{xs:List V} {us:List Value} {i:Nat} {x:V},ZG xs us->xs[i]?=some x->∃u,us[i]?=some u/\ZN x u
 | _,_,_,_,.nil,e=>by simp at e
 | _,_,0,_,.cons r _,e=>by simp_all
 | _,_,i+1,x,.cons _ t,e=>by
  obtain⟨u,h1,h2⟩:=ZG.get t (by simpa using e);simp_all
theorem ZG.set (r:ZN x u):∀{xs:List V} {us:List Value} (i:Nat),ZG xs us->ZG (xs.set i x) (us.set i u)
 | _,_,_,.nil=>.nil
 | _,_,0,.cons _ t=>.cons r t
 | _,_,i+1,.cons q t=>.cons q (ZG.set r i t)
theorem ZG.append:∀{xs ys:List V} {us ws:List Value},ZG xs us->ZG ys ws->ZG (xs++ys) (us++ws)
 | _,_,_,_,.nil,s=>s
 | _,_,_,_,.cons r t,s=>.cons r (ZG.append t s)
theorem ZG.take:∀{xs:List V} {us:List Value} (n:Nat),ZG xs us->ZG (xs.take n) (us.take n)
 | _,_,0,_=>.nil
 | _,_,_+1,.nil=>.nil
 | _,_,n+1,.cons r t=>.cons r (ZG.take n t)
theorem ZG.drop:∀{xs:List V} {us:List Value} (n:Nat),ZG xs us->ZG (xs.drop n) (us.drop n)
 | _,_,0,r=>r
 | _,_,_+1,.nil=>.nil
 | _,_,n+1,.cons _ t=>ZG.drop n t
noncomputable def UA:Option V->Option Value->Prop
 | some v,some u=>ZN v u
 | none,none=>True
 | _,_=>False
noncomputable def KV {κ:Type}:List (κ×V)->List (κ×Value)->Prop:=Paired λ(p:κ×V) (q:κ×Value)=>p.1=q.1/\ZN p.2 q.2
noncomputable def kV:Yc->V
 | .inl i=>.int i
 | .inr x=>.str x
inductive HO where
 | lst (xs:List V)
 | tup (xs:List V)
 | dK (kvs:List (Yc×V)) | dT (kvs:List (List Yc×V))
 | set (S:Int->Bool) (n:Nat)
 | ins (C dx:Addr) (fs:List (Str×V))
 | own (x:Addr)
 | xd (fs:List (Str×V))
 | met (f x:Addr)
 | rng (lo hi:Int)
 | frz (o:Obj) (u:HO)
 | tbl (ps:Array Value)
 | ext (φ:Heap->Prop)
noncomputable abbrev Hp:=Addr->Option HO
noncomputable def Zp (H:Hp)(a:Addr)(o:HO):Hp:=λb=>if b=a then some o else H b
theorem Z1:Zp H a o a=some o:=by unfold Zp;simp
theorem Zu (h:b≠a):Zp H a o b=H b:=by unfold Zp;simp_all
theorem Ziq:Zp (Zp H a o) a u=Zp H a u:=by
 unfold Zp;simp_all
theorem Zoj {H:Hp}(h:H a=some o)(h':H b=some u)(d:o≠u):a≠b:=by
 intro e;simp_all
theorem Yz {H:Hp}(h:H a=some o)(h':H b=none):a≠b:=by
 intro e;simp_all
section
variable (P:xD)(w:World)
noncomputable def YO (H:Hp)(h:Heap)(a:Addr):HO->Prop
 | .lst xs=>xs.length<=xg/\∃(jP:List Value) (n:Nat),ZG xs jP/\h.get? a=some { cls:=.type "list",data:=.seq jP.toArray n }
 | .tup xs=>xs.length<=xg/\∃jP:List Value,ZG xs jP/\IsTup h a jP.toArray
 | .dK kvs=>kvs.length<=xg/\(a==sysModules)=false/\∃vs,KV kvs vs/\h.DictOf (WW P w) a vs
 | .dT kvs=>kvs.length<=xg/\(a==sysModules)=false/\∃xs:List (List Yc×Addr×Value),
   Paired (λ(p:List Yc×V) (q:List Yc×Addr×Value)=>p.1=q.1/\H q.2.1=some (.tup (p.1.map kV))/\ZN p.2 q.2.2) kvs xs/\
   ∃o es ep,h.get? a=some o/\o.ExactDict/\o.data=.dict es ep/\es.toList=xs.map (entryOfKey (tupleKind (WW P w)))/\(xs.map (·.1)).Nodup
 | .set S n=>h.SetOf (intKind P w) a S n
 | .ins C dx fs=>H dx=some (.own a)/\fs.length<=1000/\dx≠a/\h.get? a=some (zO C dx)/\
   ∃mA,h.Ns1 dx mA/\(∀f,UA (fs.lookup f) (mA f))/\qa2 mA (fs.map (·.1))
 | .own _=>∃o,h.get? a=some o
 | .xd fs=>∃mA,h.Ns1 a mA/\∀f,UA (fs.lookup f) (mA f)
 | .rng lo hi=>∃t u v,h.get? a=some { cls:=.type "range",data:=.fields #[.int lo t,.int hi u,.int 1 v] }
 | .frz o u=>h.get? a=some o/\YO H h a u
 | .tbl ps=>h.get? a=some { cls:=.none,data:=.fields ps }
 | .met f x=>h.get? a=some (PySem.W.methodObj (.ref f) (.ref x))
 | .ext φ=>φ h/\(∃o,h.get? a=some o)/\∀h1 h2:Heap,φ h1->(∀o,h1.get? a=some o->h2.get? a=some o)->φ h2
noncomputable def YC (H:Hp)(h:Heap):Prop:=∀a o,H a=some o->YO P w H h a o
end
section
variable {P:xD}{w:World}{H H':Hp}{h h':Heap}{a:Addr}{o:HO}
theorem YO.lt (x:YO P w H h a o):a<h.objs.size:=by
 cases o with
 | lst xs=>obtain⟨_,_,_,_,e⟩:=x;exact qz e
 | tup xs=>obtain⟨_,_,_,p⟩:=x;exact p.lt
 | dK kvs=>obtain⟨_,_,_,_,o,_,_,e,_⟩:=x;exact qz e
 | dT kvs=>obtain⟨_,_,_,_,o,_,_,e,_⟩:=x;exact qz e
 | set S n=>obtain⟨o,_,_,_,e,_⟩:=x;exact qz e
 | ins C dx fs=>obtain⟨_,_,_,e,_⟩:=x;exact qz e
 | own y=>obtain⟨_,e⟩:=x;exact qz e
 | xd fs=>obtain⟨_,⟨_,_,_,e,_⟩,_⟩:=x;exact qz e
 | rng lo hi=>obtain⟨_,_,_,e⟩:=x;exact qz e
 | frz ob u=>obtain⟨e,_⟩:=x;exact qz e
 | tbl ps=>exact qz (show h.get? a=some _ from x)
 | met f y=>exact qz (show h.get? a=some _ from x)
 | ext φ=>obtain⟨_,⟨_,e⟩,_⟩:=x;exact qz e
theorem Paired.mapP {F G:α->β->Prop}:∀{l₁:List α} {l₂:List β},Paired F l₁ l₂->(∀a b,F a b->G a b)->Paired G l₁ l₂
 | _,_,.nil,_=>.nil
 | _,_,.cons r t,f=>.cons (f _ _ r) (Paired.mapP t f)
theorem YO.stay (x:YO P w H h a o)(k:∀b u,(b=a∨H b=some (.own a))->h.get? b=some u->h'.get? b=some u)
  (ho:∀b,H b=some (.own a)->H' b=some (.own a)) (ht:∀b xs,H b=some (.tup xs)->H' b=some (.tup xs)):YO P w H' h' a o:=by
 induction o with
 | lst xs=>obtain⟨z,jP,n,r,e⟩:=x;exact⟨z,jP,n,r,k _ _ (.inl rfl) e⟩
 | tup xs=>obtain⟨z,jP,r,ob,e,c⟩:=x;exact⟨z,jP,r,ob,k _ _ (.inl rfl) e,c⟩
 | dK kvs=>obtain⟨z,y,vs,r,ob,es,ep,e,c⟩:=x;exact⟨z,y,vs,r,ob,es,ep,k _ _ (.inl rfl) e,c⟩
 | dT kvs=>
  obtain⟨z,y,xs,r,ob,es,ep,e,c⟩:=x;exact⟨z,y,xs,Paired.mapP r λp q z=>⟨z.1,ht _ _ z.2.1,z.2.2⟩,ob,es,ep,k _ _ (.inl rfl) e,c⟩
 | set S n=>obtain⟨ob,es,ep,t,e,c⟩:=x;exact⟨ob,es,ep,t,k _ _ (.inl rfl) e,c⟩
 | ins C dx fs=>
  obtain⟨d,z,ne,e,mA,⟨od,es,ep,e2,c⟩,r⟩:=x;exact⟨ho _ d,z,ne,k _ _ (.inl rfl) e,mA,⟨od,es,ep,k _ _ (.inr d) e2,c⟩,r⟩
 | own y=>obtain⟨ob,e⟩:=x;exact⟨ob,k _ _ (.inl rfl) e⟩
 | xd fs=>obtain⟨mA,⟨od,es,ep,e,c⟩,r⟩:=x;exact⟨mA,⟨od,es,ep,k _ _ (.inl rfl) e,c⟩,r⟩
 | rng lo hi=>obtain⟨t,u,v,e⟩:=x;exact⟨t,u,v,k _ _ (.inl rfl) e⟩
 | frz ob u ih=>obtain⟨e,q⟩:=x;exact⟨k _ _ (.inl rfl) e,ih q⟩
 | tbl ps=>
  have e:=x;exact k a _ (.inl rfl) e
 | met f y=>
  have e:=x;exact k a _ (.inl rfl) e
 | ext φ=>obtain⟨p,⟨o,e⟩,st⟩:=x;exact⟨st _ _ p λo q=>k _ _ (.inl rfl) q,⟨o,k _ _ (.inl rfl) e⟩,st⟩
theorem YC.lt (x:YC P w H h)(e:H a=some o):a<h.objs.size:=(x a o e).lt
theorem YC.fresh (x:YC P w H h)(e:h.objs.size<=a):H a=none:=by
 cases q:H a with
 | none=>rfl
 | some u=>exact absurd (qK (x.lt q) e) (z5 _)
theorem YC.kept (x:YC P w H h)(k:∀b u,h.get? b=some u->h'.get? b=some u):YC P w H h':=λa o e=>
 (x a o e).stay (λb u _ q=>k b u q) (λ_ q=>q) λ_ _ q=>q
theorem YC.laid (x:YC P w H h)(k:∀b u,h.get? b=some u->h'.get? b=some u)(hp:h.objs.size<=a)(new:YO P w (Zp H a o) h' a o):YC P w (Zp H a o) h':=λb u e=>by
 have hn:=x.fresh hp;by_cases hb:b=a
 ·subst hb;rw[Z1]at e;grind
 ·rw[Zu hb]at e
  exact(x b u e).stay (λc v _ q=>k c v q) (λc q=>by rw[Zu (Yz q hn)];exact q) λc xs q=>by rw[Zu (Yz q hn)];exact q
end
noncomputable def Rd (H:Hp)(a:Addr)(u:HO):Prop:=H a=some u∨∃o,H a=some (.frz o u)
theorem Rd.ok (r:Rd H a u)(x:YC P w H h):YO P w H h a u:=by
 rcases r with r | ⟨o,r⟩
 ·exact x a u r
 ·obtain⟨_,q⟩:=x a _ r
  exact q
noncomputable def Mut:Option HO->Prop
 | some (.lst _)=>True
 | some (.dK _)=>True
 | some (.dT _)=>True
 | some (.set _ _)=>True
 | some (.ins _ _ _)=>True
 | some (.ext _)=>True
 | _=>False
section
variable {P:xD}{w:World}{H:Hp}{h h':Heap}{x e:Addr}{o':HO}
theorem YC.write (ok:YC P w H h)(mu:Mut (H x))(he:e=x∨H e=some (.own x))(k:∀b u,b≠e->h.get? b=some u->h'.get? b=some u)(heo:∃u,h'.get? e=some u)
  (new:YO P w (Zp H x o') h' x o'):YC P w (Zp H x o') h':=λb u q=>by
 have nown:∀c y,H c=some (.own y)->c≠x:=λc y r z=>by subst z;rw[r]at mu;exact mu
 have ntup:∀c xs,H c=some (.tup xs)->c≠x:=λc xs r z=>by subst z;rw[r]at mu;exact mu
 by_cases hb:b=x
 ·subst hb;rw[Z1]at q;grind
 ·rw[Zu hb]at q
  by_cases hbe:b=e
  ·have q':H b=some (.own x):=by
    grind
   rw[q]at q';cases q';obtain⟨v,hv⟩:=heo;exact⟨v,by simp_all⟩
  ·refine(ok b u q).stay (λc v hc r=>k c v ?_ r) (λc r=>by rw[Zu (nown c b r)];exact r) λc xs r=>by rw[Zu (ntup c xs r)];exact r
   grind
end
structure Un (fs ex:List Addr)(H H':Hp)(h h':Heap):Prop where
 keep:∀b o,h.get? b=some o->H b=none->b∉fs->b∉ex->h'.get? b=some o
 slot:∀b o,h.get? b=some o->H b=none->b∈fs->b∉ex->∃sl,h'.get? b=some { o with slots:=sl }
 free:∀b o,h.get? b=some o->H b=none->b∉ex->H' b=none
 there:∀b o,h.get? b=some o->b∉ex->∃o',h'.get? b=some o'
 tups:∀b xs,H b=some (.tup xs)->H' b=some (.tup xs)
 frzs:∀b o u,H b=some (.frz o u)->H' b=some (.frz o u)
 tbls:∀b ps,H b=some (.tbl ps)->∃more,H' b=some (.tbl (ps++more))
section
variable {fs fs' ex ex':List Addr}{H H1 H2:Hp}{h h1 h2 h':Heap}{a x e:Addr}{o:HO}
theorem Un.any (u:Un fs ex H H1 h h1)(q:h.get? b=some ob)(n:H b=none)(hx:b∉ex):∃sl,h1.get? b=some { ob with slots:=sl }:=by
 by_cases hb:b∈fs
 ·exact u.slot b ob q n hb hx
 ·exact⟨ob.slots,u.keep b ob q n hb hx⟩
theorem Un.kept (k:∀b u,h.get? b=some u->h'.get? b=some u):Un fs ex H H h h':=
 ⟨λb ob q _ _ _=>k b ob q,λb ob q _ _ _=>⟨ob.slots,k b ob q⟩,λ_ _ _ n _=>n,λb ob q _=>⟨ob,k b ob q⟩,λ_ _ q=>q,λ_ _ _ q=>q,λ_ ps q=>⟨#[],by rw[q];simp⟩⟩
theorem Un.refl:Un fs ex H H h h:=Un.kept λ_ _ q=>q
theorem Un.laid (k:∀b u,h.get? b=some u->h'.get? b=some u)(hp:h.objs.size<=a)(hn:H a=none):Un fs ex H (Zp H a o) h h' where
 keep:=λb u q _ _ _=>k b u q
 slot:=λb u q _ _ _=>⟨u.slots,k b u q⟩
 free:=λb u q n _=>by rw[Zu (qL (qK (qz q) hp))];exact n
 there:=λb u q _=>⟨u,k b u q⟩
 tups:=λb xs q=>by rw[Zu (Yz q hn)];exact q
 frzs:=λb u xs q=>by rw[Zu (Yz q hn)];exact q
 tbls:=λb ps q=>⟨#[],by rw[Zu (Yz q hn),q];simp⟩
theorem Un.write (mu:Mut (H x))(he:e=x∨H e=some (.own x))(k:∀b u,b≠e->h.get? b=some u->h'.get? b=some u)(heo:∃u,h'.get? e=some u):Un fs ex H (Zp H x o) h h':=by
 have hx:∀b,H b=none->b≠x:=λb n z=>by subst z;rw[n]at mu;exact mu
 have hb:∀b,H b=none->b≠e:=λb n z=>by
  simp_all
 have hm:∀b u,H b=some u->¬Mut (some u)->b≠x:=λb u q nm z=>by simp_all
 refine⟨λb u q n _ _=>k b u (hb b n) q,λb u q n _ _=>⟨u.slots,k b u (hb b n) q⟩,λb u q n _=>by rw[Zu (hx b n)];exact n,λb u q _=>?_,
  λb xs q=>by rw[Zu (hm b _ q λz=>z)];exact q,λb u xs q=>by rw[Zu (hm b _ q λz=>z)];exact q,λb ps q=>⟨#[],by rw[Zu (hm b _ q λz=>z),q];simp⟩⟩
 by_cases hbe:b=e
 ·simp_all
 ·exact⟨u,k b u hbe q⟩
end
noncomputable def trk (h:Heap)(H:Hp):List Addr:=(qe h.objs.size).filter λa=>(H a).isSome
noncomputable def hidT (h:Heap)(H:Hp):Heap:=PySem.W.hideAll h (trk h H)
theorem Zjg (h:Heap)(H:Hp):(hidT h H).objs.size=h.objs.size:=qbF _ _
theorem Zkx (e:h.get? b=some o)(n:H b=none):(hidT h H).get? b=some o:=
 qbS _ e λhm=>by
  have q:=(qA.mp hm).2;simp_all
theorem ZmS (e:(hidT h H).get? b=some o):h.get? b=some o/\H b=none:=by
 have e':=PySem.W.of_hideAll (trk h H) e;refine⟨e',?_⟩
 cases q:H b with
 | none=>rfl
 | some x=>
  have hm:b∈trk h H:=qA.mpr ⟨qR.mpr (qz e'),by simp[q]⟩;have z:(hidT h H).get? b=none:=qbG (trk h H) hm
  grind
structure Mod (K:qd)(mg:Str->Option Value)(base:Heap):Prop where
 kin:K.In base
 glob:base.Ns mainGlobals mg
 blt:∃mb,base.Ns builtinsNs mb/\∀x:Str,x≠"__name__"->mb x=xj x
 nolimit:base.NoLimit
structure Cx where
 prog:xD
 w:World
 K:qd
 mg:Str->Option Value
 base:Heap
 A:xE
 N:List Str
 s₀:Shared
 H₀:Hp
 env:Env
 outer:List Env
 stack:List Env
 ex:List Addr
 fn:Str->Bool
 calm:Bool
 pn:Qb
 xe:xF
noncomputable def Wx (l:List Env):List Addr:=l.filterMap (·.frame)
noncomputable abbrev Cx.fs (X:Cx):List Addr:=Wx X.outer
noncomputable def Vis (sc:Scope)(x:Str):Prop:=sc.names.lookup x=some .local∨sc.names.lookup x=some .cell∨sc.names.lookup x=some .free
noncomputable def WS (sc:Scope)(x:Str):Prop:=sc.names.lookup x=some .local∨sc.names.lookup x=some .cell
noncomputable def Look (env:Env)(h:Heap)(m:Str->Option Value)(x:Str)(u:Value):Prop:=
 (env.kindOf x=some .local/\m x=some u)∨((env.kindOf x=some .cell∨env.kindOf x=some .free)/\∃c,env.cells.lookup x=some c/\h.IsCell c (some u))
structure Cx.Ok (X:Cx):Prop where
 mod:Mod X.K X.mg X.base
 kind:X.env.scope.kind=.function
 glob:X.env.globals=mainGlobals
 blt:X.env.builtins=builtinsNs
 above:X.s₀.heap.objs.size<=X.env.locals
 inj:∀x y c,X.env.cells.lookup x=some c->X.env.cells.lookup y=some c->x=y
 has:∀x,(X.env.kindOf x=some .cell∨X.env.kindOf x=some .free)->∃c,X.env.cells.lookup x=some c
 cab:∀x c,X.fn x=true->X.env.cells.lookup x=some c->X.s₀.heap.objs.size<=c
 hd:X.calm=true->X.A.handled=none
 frames:X.A.frames=some X.stack
 stk:X.stack=X.outer∨(X.stack=X.env::X.outer/\X.env.frame=some X.env.locals)
 exf:∀b∈X.ex,b≠X.env.locals/\∀x c,X.env.cells.lookup x=some c->c≠b
 bs:∀b o,X.base.get? b=some o->X.s₀.heap.get? b=some o/\X.H₀ b=none
 bsz:X.base.objs.size<=X.s₀.heap.objs.size
 noex:∀b o,X.base.get? b=some o->b∉X.ex
 exfs:∀b∈X.ex,b∉X.fs
 funs:X.s₀.heap.FunFrames X.base X.outer
 frf:∀b∈X.fs,X.H₀ b=none
structure Inv (X:Cx)(jM:Qb)(σ:List (Option V))(H:Hp)(s:Shared):Prop where
 ok:X.Ok
 os:s.os=X.s₀.os
 bare:AllBare s.gens
 base:Un X.fs X.ex X.H₀ H X.s₀.heap s.heap
 loc:∃m,s.heap.Ns X.env.locals m/\∀(i:Nat) (x:Str) (v:V),X.N[i]?=some x->σ[i]?=some (some v)->Vis X.env.scope x->∃u,ZN v u/\Look X.env s.heap m x u
 cell:∀x c,X.env.cells.lookup x=some c->∃v,s.heap.IsCell c v
 free:H X.env.locals=none
 freeC:∀x c,X.env.cells.lookup x=some c->H c=none
 pin:∀p∈X.pn++jM,s.heap.get? p.1=some p.2/\H p.1=none/\p.1≠X.env.locals/\p.1∉X.fs/\∀v,p.2.data≠.cell v
 hok:YC X.prog X.w H s.heap
 len:σ.length=X.N.length
section
variable {X:Cx}{jM:Qb}{σ:List (Option V)}{H H':Hp}{s:Shared}{h':Heap}
theorem Cx.Ok.nofr (ok:X.Ok)(e:X.base.get? b=some o):b∉X.fs:=λhb=>by
 have:=(ok.funs.mem hb).1
 grind
theorem Inv.bs (I:Inv X jM σ H s):∀b o,X.base.get? b=some o->s.heap.get? b=some o/\H b=none:=λb o e=>
 ⟨I.base.keep b o (I.ok.bs b o e).1 (I.ok.bs b o e).2 (I.ok.nofr e) (I.ok.noex b o e),I.base.free b o (I.ok.bs b o e).1 (I.ok.bs b o e).2 (I.ok.noex b o e)⟩
theorem Inv.bk (I:Inv X jM σ H s):∀b o,X.base.get? b=some o->s.heap.get? b=some o:=λb o e=>(I.bs b o e).1
theorem Inv.mod (I:Inv X jM σ H s):Mod X.K X.mg X.base:=I.ok.mod
theorem Inv.kIn (I:Inv X jM σ H s):X.K.In s.heap:=I.ok.mod.kin.keeps I.bk
theorem Inv.lt (I:Inv X jM σ H s):X.env.locals<s.heap.objs.size:=let ⟨_,hn,_⟩:=I.loc;hn.lt
theorem Inv.sz (I:Inv X jM σ H s):X.s₀.heap.objs.size<=s.heap.objs.size:=qu I.ok.above (qaq I.lt)
theorem Inv.nofs (I:Inv X jM σ H s){a:Addr}(h:s.heap.objs.size<=a):a∉X.fs:=λhb=>by
 obtain⟨_,o,ho,_⟩:=I.ok.funs.mem hb;exact absurd (qK (qz ho) (qu I.sz h)) (z5 _)
theorem Inv.cne (I:Inv X jM σ H s):∀x c,X.env.cells.lookup x=some c->c≠X.env.locals:=λx c e z=>by
 obtain⟨v,o,ho,hd⟩:=I.cell x c e;obtain⟨m,⟨o',es,ep,ho',hd',_⟩,_⟩:=I.loc
 grind
theorem Inv.funs (I:Inv X jM σ H s):s.heap.FunFrames X.base X.outer:=by
 have all:∀(l:List Env),(∀b∈Wx l,b∈X.fs)->X.s₀.heap.FunFrames X.base l->s.heap.FunFrames X.base l:=by
  intro l
  induction l with
  | nil=>intro _ _;trivial
  | cons env r ih=>
   intro hs hl;obtain⟨hk,⟨L,o,hf,hn,ho,hd⟩,hr⟩:=hl;have hL:=hs L (by unfold Wx;simp_all);obtain⟨sl,e⟩:=I.base.slot L o ho (I.ok.frf L hL) hL λz=>I.ok.exfs L z hL;exact⟨hk,⟨L,_,hf,hn,e,hd⟩,ih (λb hb=>hs b (by unfold Wx;rw[qay,hf];exact qX _ hb)) hr⟩
 exact all X.outer (λ_ hb=>hb) I.ok.funs
theorem Inv.stack (I:Inv X jM σ H s):s.heap.FunFrames X.base X.stack:=by
 rcases I.ok.stk with e | ⟨e,hf⟩
 ·rw[e];exact I.funs
 ·rw[e]
  obtain⟨m,hn,_⟩:=I.loc;refine .cons (by rw[I.ok.kind];decide) hf hn ?_ I.funs;exact qbH (qu I.ok.bsz I.ok.above)
theorem Inv.stkSub (I:Inv X jM σ H s):∀b∈Wx X.stack,b∈X.env.locals::X.fs:=λb hb=>by
 rcases I.ok.stk with e | ⟨e,hf⟩
 ·simp_all
 ·rw[e]at hb
  unfold Wx at hb;rw[qay,hf]at hb;exact hb
theorem Inv.stkFree (I:Inv X jM σ H s):∀b∈Wx X.stack,H b=none:=λb hb=>by
 rcases qN.mp (I.stkSub b hb)with e | hb
 ·rw[e];exact I.free
 ·obtain⟨_,o,ho,_⟩:=I.ok.funs.mem hb
  exact I.base.free b o ho (I.ok.frf b hb) λz=>I.ok.exfs b z hb
theorem Inv.step {ch:List Addr}(I:Inv X jM σ H s)
  (hch:∀b∈ch,(b∈X.ex∨X.s₀.heap.objs.size<=b)/\b≠X.env.locals/\(∀x c,X.env.cells.lookup x=some c->c≠b)/\∀p∈X.pn++jM,p.1≠b)
  (keep:∀b o,b≠X.env.locals->b∉X.fs->b∉ch->s.heap.get? b=some o->H b=none->h'.get? b=some o)
  (slot:∀b o,b≠X.env.locals->b∈X.fs->b∉ch->s.heap.get? b=some o->H b=none->∃sl,h'.get? b=some { o with slots:=sl }) (free:∀b o,b∉ch->s.heap.get? b=some o->H b=none->H' b=none)
  (there:∀b o,b∉ch->s.heap.get? b=some o->∃o',h'.get? b=some o')
  (tups:∀b xs,H b=some (.tup xs)->H' b=some (.tup xs)) (frzs:∀b o u,H b=some (.frz o u)->H' b=some (.frz o u)) (tbls:∀b ps,H b=some (.tbl ps)->∃more,H' b=some (.tbl (ps++more)))
  (ns:∀m,s.heap.Ns X.env.locals m->h'.Ns X.env.locals m) (hok:YC X.prog X.w H' h') (hg:AllBare g') :
  Inv X jM σ H' { s with heap:=h',gens:=g',drawn:=d',toks:=t' }:=by
 have neL:∀b o,X.s₀.heap.get? b=some o->b≠X.env.locals:=λb o e=>qL (qK (qz e) I.ok.above);have neC:∀b o,X.s₀.heap.get? b=some o->b∉X.ex->b∉ch:=λb o e hx hb=>by
  rcases (hch b hb).1 with z | z
  ·exact hx z
  ·exact absurd (qK (qz e) z) (z5 _)
 have cellK:∀x c,X.env.cells.lookup x=some c->∀v,s.heap.IsCell c v->h'.IsCell c v:=λx c e v ⟨o,ho,hd⟩=>by
  have nch:c∉ch:=λz=>(hch c z).2.2.1 x c e rfl;by_cases hc:c∈X.fs
  ·obtain⟨sl,q⟩:=slot c o (I.cne x c e) hc nch ho (I.freeC x c e)
   exact⟨_,q,hd⟩
  ·exact⟨o,keep c o (I.cne x c e) hc nch ho (I.freeC x c e),hd⟩
 refine⟨I.ok,I.os,hg,⟨λb o e n hb hx=>?_,λb o e n hb hx=>?_,λb o e n hx=>?_,λb o e hx=>?_,λb xs e=>tups b xs (I.base.tups b xs e),λb o xs e=>frzs b o xs (I.base.frzs b o xs e),λb ps e=>?_⟩,?_,λx c e=>?_,?_,λx c e=>?_,λp hp=>?_,hok,I.len⟩
 ·exact keep b o (neL b o e) hb (neC b o e hx) (I.base.keep b o e n hb hx) (I.base.free b o e n hx)
 ·obtain⟨sl,e1⟩:=I.base.slot b o e n hb hx
  obtain⟨sl',e2⟩:=slot b _ (neL b o e) hb (neC b o e hx) e1 (I.base.free b o e n hx);exact⟨sl',e2⟩
 ·obtain⟨o',e1⟩:=I.base.there b o e hx
  exact free b o' (neC b o e hx) e1 (I.base.free b o e n hx)
 ·obtain⟨o',e1⟩:=I.base.there b o e hx
  exact there b o' (neC b o e hx) e1
 ·obtain⟨m1,e1⟩:=I.base.tbls b ps e
  obtain⟨m2,e2⟩:=tbls b _ e1;exact⟨m1++m2,by rw[e2,Array.append_assoc]⟩
 ·obtain⟨m,hn,hl⟩:=I.loc
  refine⟨m,ns m hn,λi x v e1 e2 e3=>?_⟩;obtain⟨u,r,l⟩:=hl i x v e1 e2 e3;refine⟨u,r,?_⟩;rcases l with l | ⟨k,c,e,z⟩
  ·exact .inl l
  ·exact .inr ⟨k,c,e,cellK x c e _ z⟩
 ·obtain⟨v,z⟩:=I.cell x c e
  exact⟨v,cellK x c e v z⟩
 ·obtain⟨m,⟨o,_,_,ho,_⟩,_⟩:=I.loc
  exact free _ o (λz=>(hch _ z).2.1 rfl) ho I.free
 ·obtain⟨v,o,ho,hd⟩:=I.cell x c e
  exact free c o (λz=>(hch c z).2.2.1 x c e rfl) ho (I.freeC x c e)
 ·obtain⟨e,n,ne,nf,d⟩:=I.pin p hp
  have nch:=λz=>(hch p.1 z).2.2.2 p hp rfl;exact⟨keep p.1 p.2 ne nf nch e n,free p.1 p.2 nch e n,ne,nf,d⟩
theorem Inv.un (I:Inv X jM σ H s)(u:Un X.fs [] H H' s.heap h')(hok:YC X.prog X.w H' h'):Inv X jM σ H' { s with heap:=h',toks:=t' }:=by
 obtain⟨m,⟨o,es,ep,ho,r⟩,_⟩:=id I.loc;obtain⟨sl,hL⟩:=u.any ho I.free (by simp);exact I.step (ch:=[]) (λ_ z=>nomatch z) (λb o _ hb _ e n=>u.keep b o e n hb (by simp)) (λb o _ hb _ e n=>u.slot b o e n hb (by simp)) (λb o _ e n=>u.free b o e n (by simp)) (λb o _ e=>u.there b o e (by simp)) u.tups u.frzs u.tbls (λm' hm=>by
  obtain⟨o',es',ep',ho',r'⟩:=hm;rw[ho]at ho';cases ho';exact⟨_,es',ep',hL,r'⟩) hok I.bare
theorem Inv.call (I:Inv X jM σ H s)(u:Un (Wx X.stack) ch H H' s.heap h')(hok:YC X.prog X.w H' h')(hg:AllBare g')
  (hch:∀b∈ch,(b∈X.ex∨X.s₀.heap.objs.size<=b)/\b≠X.env.locals/\(∀x c,X.env.cells.lookup x=some c->c≠b)/\∀p∈X.pn++jM,p.1≠b) :
  Inv X jM σ H' { s with heap:=h',gens:=g',drawn:=d',toks:=t' }:=by
 obtain⟨m,⟨o,es,ep,ho,r⟩,_⟩:=id I.loc;obtain⟨sl,hL⟩:=u.any ho I.free λz=>(hch _ z).2.1 rfl;exact I.step hch (λb o hL hb hc e n=>u.keep b o e n (λz=>(qN.mp (I.stkSub b z)).elim hL hb) hc) (λb o _ _ hc e n=>u.any e n hc) (λb o hc e n=>u.free b o e n hc) (λb o hc e=>u.there b o e hc) u.tups u.frzs u.tbls (λm' hm=>by
  obtain⟨o',es',ep',ho',r'⟩:=hm;rw[ho]at ho';cases ho';exact⟨_,es',ep',hL,r'⟩) hok hg
theorem Inv.turned (I:Inv X jM σ H s)(k:∀b o,b≠it->s.heap.get? b=some o->h'.get? b=some o)(hn:H it=none)(hL:it≠X.env.locals)
  (h1:it∈X.ex∨X.s₀.heap.objs.size<=it) (h2:∀x c,X.env.cells.lookup x=some c->c≠it) (h3:∀p∈X.pn++jM,p.1≠it):Inv X jM σ H { s with heap:=h',toks:=t' }:=by
 have nit:∀b u,H b=some u->b≠it:=λb u e z=>by grind
 refine I.step (ch:=[it]) (λb hb=>?_) (λb o _ _ hc e _=>k b o (λz=>hc (by simp[z])) e) (λb o _ _ hc e _=>⟨o.slots,k b o (λz=>hc (by simp[z])) e⟩) (λ_ _ _ _ n=>n)
  (λb o hc e=>⟨o,k b o (λz=>hc (by simp[z])) e⟩) (λ_ _ e=>e) (λ_ _ _ e=>e) (λb ps e=>⟨#[],by rw[e];simp⟩) (λm hm=>?_) (λb u e=>?_) I.bare
 ·have e:=by simpa using hb
  subst e;exact⟨h1,hL,h2,h3⟩
 ·obtain⟨o,es,ep,ho,r⟩:=hm
  exact⟨o,es,ep,k _ o (qJ hL) ho,r⟩
 ·refine(I.hok b u e).stay (λc v hc q=>k c v ?_ q) (λ_ q=>q) λ_ _ q=>q
  rcases hc with z | z
  ·rw[z];exact nit b u e
  ·exact nit c _ z
theorem Inv.tok (I:Inv X jM σ H s)(t:Nat):Inv X jM σ H { s with toks:=t }:=I.un Un.refl I.hok
theorem Inv.kept (I:Inv X jM σ H s)(k:∀b u,s.heap.get? b=some u->h'.get? b=some u):Inv X jM σ H { s with heap:=h',toks:=t' }:=I.un (Un.kept k) (I.hok.kept k)
theorem Inv.laid {a:Addr}(I:Inv X jM σ H s)(k:∀b u,s.heap.get? b=some u->h'.get? b=some u)(hp:s.heap.objs.size<=a)(new:YO X.prog X.w (Zp H a o) h' a o) :
  Inv X jM σ (Zp H a o) { s with heap:=h',toks:=t' }:=I.un (Un.laid k hp (I.hok.fresh hp)) (I.hok.laid k hp new)
theorem Inv.write (I:Inv X jM σ H s)(mu:Mut (H x))(he:e=x∨H e=some (.own x))(k:∀b u,b≠e->s.heap.get? b=some u->h'.get? b=some u)(heo:∃u,h'.get? e=some u)
  (new:YO X.prog X.w (Zp H x o) h' x o):Inv X jM σ (Zp H x o) { s with heap:=h',toks:=t' }:=I.un (Un.write mu he k heo) (I.hok.write mu he k heo new)
theorem Inv.pins_of (I:Inv X jM σ H s)(h:∀p∈pins',s.heap.get? p.1=some p.2/\H p.1=none/\p.1≠X.env.locals/\p.1∉X.fs/\∀v,p.2.data≠.cell v):Inv X pins' σ H s:=
 ⟨I.ok,I.os,I.bare,I.base,I.loc,I.cell,I.free,I.freeC,λp hp=>(zZ.mp hp).elim (λz=>I.pin p (qbI _ z)) (h p),I.hok,I.len⟩
theorem Zf9 {N:List Str}(hN:N.Nodup){i:Nat}(a:N[i]?=some x)(b:N[j]?=some x):i=j:=by
 obtain⟨h1,e1⟩:=qH.mp a;obtain⟨h2,e2⟩:=qH.mp b;exact(List.getElem_inj hN).mp (e1.trans e2.symm)
theorem Zjh (I:Inv X jM σ H s)(hN:X.N.Nodup)(hi:X.N[i]?=some x)(hx:WS X.env.scope x)(r:ZN v u)
  (h:∀s',Inv X jM (σ.set i (some v)) H s'->(∃a,qa3 a s.heap s'.heap/\(a=X.env.locals∨X.env.cells.lookup x=some a))->Q () s') (hf:X.fn x=true∨X.env.scope.names.lookup x=some .local:=by first | exact .inl rfl | exact .inr rfl | assumption):xf M A (storeName X.env x u) Q E s:=by
 obtain⟨m,hn,hl⟩:=id I.loc;have hcls:(X.env.scope.kind == .class||(X.env.scope.kind == .module&&X.env.locals != X.env.globals))=false:=by rw[I.ok.kind];rfl
 have hiσ:i < σ.length:=by rw[I.len];exact(qH.mp hi).1
 have cne:=I.cne;have tracked:∀{a:Addr} {h':Heap},(∃o,s.heap.get? a=some o/\H a=none)->qa3 a s.heap h'->YC X.prog X.w H h':=λ{a h'} ha hs b ob e=>by
  obtain⟨_,_,hfree⟩:=ha;refine(I.hok b ob e).stay (λc w' hc q=>(hs.2 c ?_).trans q) (λ_ q=>q) λ_ _ q=>q;rintro rfl;rcases hc with rfl | hc
  ·rw[hfree]at e;cases e
  ·rw[hfree]at hc;cases hc
 rcases hx with hk | hk
 ·refine wpAny_storeName_local hk hn (λh' hn' hs=>?_) hcls
  obtain⟨oL,_,_,hoL,_⟩:=id hn;refine h _ ⟨I.ok,I.os,I.bare,⟨λb o e n hb hx=>?_,λb o e n hb hx=>?_,I.base.free,λb o e hx=>?_,I.base.tups,I.base.frzs,I.base.tbls⟩,⟨_,hn',λj y v' e1 e2 e3=>?_⟩,λy c e=>?_,I.free,I.freeC,λp hp=>?_,tracked ⟨oL,hoL,I.free⟩ hs,by simpa using I.len⟩ ⟨_,hs,.inl rfl⟩
  ·exact(hs.2 b (qL (qK (qz e) I.ok.above))).trans (I.base.keep b o e n hb hx)
  ·obtain⟨sl,e1⟩:=I.base.slot b o e n hb hx
   exact⟨sl,(hs.2 b (qL (qK (qz e) I.ok.above))).trans e1⟩
  ·obtain⟨o',e1⟩:=I.base.there b o e hx
   exact⟨o',(hs.2 b (qL (qK (qz e) I.ok.above))).trans e1⟩
  ·by_cases hj:j=i
   ·subst hj
    rw[hi]at e1;cases e1;rw[qU hiσ]at e2
    cases e2
    exact⟨u,r,.inl ⟨hk,by simp⟩⟩
   ·rw[qD (qJ hj)]at e2
    obtain⟨u',r',q⟩:=hl j y v' e1 e2 e3;refine⟨u',r',?_⟩;rcases q with⟨k,e⟩ | ⟨k,c,e,z⟩
    ·refine .inl ⟨k,?_⟩
     have:y≠x:=λe=>hj (Zf9 hN e1 (e▸hi));simp[this,e]
    ·exact .inr ⟨k,c,e,z.sameBut hs (cne y c e)⟩
  ·obtain⟨w',z⟩:=I.cell y c e
   exact⟨w',z.sameBut hs (cne y c e)⟩
  ·obtain⟨e,n,ne,nf,d⟩:=I.pin p hp
   exact⟨(hs.2 p.1 ne).trans e,n,ne,nf,d⟩
 ·have hfn:X.fn x=true:=by
   rcases hf with z | z
   ·exact z
   ·rw[z]at hk;cases hk
  obtain⟨c,hc⟩:=I.ok.has x (.inl hk);obtain⟨w',z⟩:=I.cell x c hc;refine wpAny_storeName_cell I.ok.kind hk hc z (λh' hc' hs=>?_);obtain⟨oc,hoc,hocd⟩:=id z;refine h { s with heap:=h' } ⟨I.ok,I.os,I.bare,⟨λb o e n hb hx=>?_,λb o e n hb hx=>?_,I.base.free,λb o e hx=>?_,I.base.tups,I.base.frzs,I.base.tbls⟩,⟨m,hn.sameBut hs (qJ (cne x c hc)),λj y v' e1 e2 e3=>?_⟩,λy c' e=>?_,I.free,I.freeC,λp hp=>?_,tracked ⟨oc,hoc,I.freeC x c hc⟩ hs,by simpa using I.len⟩ ⟨c,hs,.inr hc⟩
  ·exact(hs.2 b (qL (qK (qz e) (I.ok.cab x c hfn hc)))).trans (I.base.keep b o e n hb hx)
  ·obtain⟨sl,e1⟩:=I.base.slot b o e n hb hx
   exact⟨sl,(hs.2 b (qL (qK (qz e) (I.ok.cab x c hfn hc)))).trans e1⟩
  ·obtain⟨o',e1⟩:=I.base.there b o e hx
   exact⟨o',(hs.2 b (qL (qK (qz e) (I.ok.cab x c hfn hc)))).trans e1⟩
  ·by_cases hj:j=i
   ·subst hj
    rw[hi]at e1;cases e1;rw[qU hiσ]at e2
    cases e2
    exact⟨u,r,.inr ⟨.inl hk,c,hc,hc'⟩⟩
   ·rw[qD (qJ hj)]at e2
    obtain⟨u',r',q⟩:=hl j y v' e1 e2 e3;refine⟨u',r',?_⟩;rcases q with q | ⟨k,c',e,z'⟩
    ·exact .inl q
    ·refine .inr ⟨k,c',e,z'.sameBut hs ?_⟩
     rintro rfl;exact hj (Zf9 hN e1 (I.ok.inj _ _ _ e hc▸hi))
  ·by_cases hcc:c'=c
   ·subst hcc;exact⟨_,hc'⟩
   ·obtain⟨w2,z2⟩:=I.cell y c' e
    exact⟨w2,z2.sameBut hs hcc⟩
  ·obtain⟨e,n,ne,nf,d⟩:=I.pin p hp
   refine⟨(hs.2 p.1 ?_).trans e,n,ne,nf,d⟩;intro q;simp_all
theorem ZbR (I:Inv X jM σ H s)(hN:X.N.Nodup)(hi:X.N[i]?=some x)(hx:WS X.env.scope x)(r:ZN v u)
  (h:∀s',Inv X jM (σ.set i (some v)) H s'->Q () s') (hf:X.fn x=true∨X.env.scope.names.lookup x=some .local:=by first | exact .inl rfl | exact .inr rfl | assumption):xf M A (storeName X.env x u) Q E s:=
 Zjh I hN hi hx r (λs' I' _=>h s' I') hf
theorem Inv.call' (I:Inv X jM σ H s)(ho:s'.os=s.os)(u:Un (Wx X.stack) ch H H' s.heap s'.heap)(hok:YC X.prog X.w H' s'.heap)(hg:AllBare s'.gens)
  (hch:∀b∈ch,(b∈X.ex∨X.s₀.heap.objs.size<=b)/\b≠X.env.locals/\(∀x c,X.env.cells.lookup x=some c->c≠b)/\∀p∈X.pn++jM,p.1≠b):Inv X jM σ H' s':=by
 obtain⟨h',g',d',t',o'⟩:=s';have e:=ho;subst e;exact I.call u hok hg hch
end
noncomputable abbrev XK:=Value->Option Addr->Hp->Prop
noncomputable abbrev St:=List (Option V)
noncomputable abbrev VK:=V->Hp->Prop
noncomputable abbrev TE:=St->Hp->VK->Prop
noncomputable abbrev TT:=St->Hp->(Bool->Hp->Prop)->Prop
noncomputable abbrev TA:=St->Hp->(List V->Hp->Prop)->Prop
structure Ends where
 nx:St->Hp->Prop
 rt:VK
 bk:St->Hp->Prop:=λ_ _=>False
 ct:St->Hp->Prop:=λ_ _=>False
noncomputable abbrev TS:=Ends->St->Hp->Prop
noncomputable def EP (X:Cx)(jM:Qb)(σ:St)(Q:VK)(u:Value)(s':Shared):Prop:=∃v H',Inv X jM σ H' s'/\ZN v u/\Q v H'
noncomputable def TP (X:Cx)(jM:Qb)(σ:St)(Q:Bool->Hp->Prop)(b:Bool)(s':Shared):Prop:=∃H',Inv X jM σ H' s'/\Q b H'
noncomputable def AP (X:Cx)(jM:Qb)(σ:St)(Q:List V->Hp->Prop)(us:List Value)(s':Shared):Prop:=∃vs H',Inv X jM σ H' s'/\ZG vs us/\Q vs H'
noncomputable def SP (X:Cx)(jM:Qb)(D:Ends)(f:Flow)(s':Shared):Prop:=
 match f with
 | .next=>∃σ' H',Inv X jM σ' H' s'/\D.nx σ' H'
 | .brk=>∃σ' H',Inv X jM σ' H' s'/\D.bk σ' H'
 | .cont=>∃σ' H',Inv X jM σ' H' s'/\D.ct σ' H'
 | .ret u=>∃v σ' H',Inv X jM σ' H' s'/\ZN v u/\D.rt v H'
noncomputable def PE (X:Cx)(e:Expr)(t:TE):Prop:=
 ∀(jM:Qb) (s:Shared) (σ:St) (H:Hp) (Q:VK),Inv X jM σ H s->t σ H Q->xf (xB X.prog X.w) X.A (eval e X.env) (EP X jM σ Q) X.xe s
noncomputable def PT (X:Cx)(e:Expr)(t:TT):Prop:=
 ∀(jM:Qb) (s:Shared) (σ:St) (H:Hp) (Q:Bool->Hp->Prop),Inv X jM σ H s->t σ H Q->xf (xB X.prog X.w) X.A (isTrue e X.env (eval e X.env)) (TP X jM σ Q) X.xe s
noncomputable def PW (X:Cx)(e:Expr)(t:TT):Prop:=
 ∀(whole:Sem Value) (jM:Qb) (s:Shared) (σ:St) (H:Hp) (Q:Bool->Hp->Prop),Inv X jM σ H s->t σ H Q->xf (xB X.prog X.w) X.A (isTrue e X.env whole) (TP X jM σ Q) X.xe s
theorem PW.pt (h:PW X e t):PT X e t:=h _
noncomputable def PA (X:Cx)(es:List Expr)(t:TA):Prop:=
 ∀(pos:Pos) (jM:Qb) (s:Shared) (σ:St) (H:Hp) (Q:List V->Hp->Prop),Inv X jM σ H s->t σ H Q->xf (xB X.prog X.w) X.A (spliced (backTo pos (xh es X.env))) (AP X jM σ Q) X.xe s
noncomputable def PS (X:Cx)(st:Stmt)(t:TS):Prop:=
 ∀(jM:Qb) (s:Shared) (σ:St) (H:Hp) (D:Ends),Inv X jM σ H s->t D σ H->xf (xB X.prog X.w) X.A (exec st X.env) (SP X jM D) X.xe s
noncomputable def XO (X:Cx)(st:List Stmt)(t:TS):Prop:=
 ∀(jM:Qb) (s:Shared) (σ:St) (H:Hp) (D:Ends),Inv X jM σ H s->t D σ H->xf (xB X.prog X.w) X.A (execs st X.env) (SP X jM D) X.xe s
theorem ZI {t:Sem α}{Q Q':α->Shared->Prop}(h:xf M A t Q E s)(hQ:∀a s,Q a s->Q' a s):xf M A t Q' E s:=xc h hQ λ_ _ x=>x
section
variable {X:Cx}
noncomputable def Yf (i:Nat):TE:=fun σ H Q=>∃v,σ[i]?=some (some v)/\Q v H
noncomputable def tC (v:V):TE:=λ_ H Q=>Q v H
theorem ZoM {pos:Pos}(hN:X.N[i]?=some x)(hv:Vis X.env.scope x)(hd:(x==("__debug__" : Str))=false:=by decide)(hcd:(x==("__classdict__" : Str))=false:=by decide):PE X (.Name x pos) (Yf i):=by
 intro jM s σ H Q I h;obtain⟨v,e,h⟩:=h;obtain⟨m,hn,hl⟩:=I.loc;obtain⟨u,r,l⟩:=hl i x v hN e hv;have fin:EP X jM σ Q u s:=⟨v,H,I,r,h⟩;rcases l with⟨hk,hm⟩ | ⟨hk,c,hc,hcell⟩
 ·exact wpAny_Name (wpAny_loadName_local I.ok.kind hk hn hm fin) hd
 ·rcases hk with hk | hk
  ·exact wpAny_Name (wpAny_loadName_cell I.ok.kind hk hc hcell fin) hd
  ·exact wpAny_Name (wpAny_loadName_free I.ok.kind hk hc hcell fin hcd) hd
theorem Xk:PE X (.Constant (.int i) j pos) (tC (.int i)):=λ_ _ _ H _ I h=>wpAny_Constant_int ⟨.int i,H,I.tok _,⟨_,rfl⟩,h⟩
theorem ZpY:PE X (.Constant (.bool b) j pos) (tC (.bl b)):=λ_ _ _ H _ I h=>Constant_bool ⟨.bl b,H,I,rfl,h⟩
theorem Zky:PE X (.Constant .none j pos) (tC .non):=λ_ _ _ H _ I h=>Constant_none ⟨.non,H,I,rfl,h⟩
noncomputable def Gl (X:Cx)(x:Str):Prop:=X.env.kindOf x=some .globalImplicit
theorem Zfk {σ:St}(I:Inv X jM σ H s)(hg:Gl X x)(hm:X.mg x=some u)(h:Q u s)
  (hd:(x==("__debug__" : Str))=false:=by decide):xf (xB X.prog X.w) X.A (eval (.Name x pos) X.env) Q E s:=
 qaP I.ok.kind hg (Calls.loadGlobal_global (by rw[I.ok.glob];exact I.mod.glob.keeps I.bk) hm h) hd
theorem JL {E:xF}{σ:St}{pos:Pos}(I:Inv X jM σ H s)(hg:Gl X x)(hm:X.mg x=none)(hv:xj x=some u)(h:Q u s)
  (hn:x≠"__name__":=by decide) (hd:(x==("__debug__" : Str))=false:=by decide):xf (xB X.prog X.w) X.A (eval (.Name x pos) X.env) Q E s:=by
 obtain⟨mb,h1,h2⟩:=I.mod.blt;exact qaP I.ok.kind hg (Calls.loadGlobal_builtin (by rw[I.ok.glob];exact I.mod.glob.keeps I.bk) hm (by rw[I.ok.blt];exact h1.keeps I.bk) ((h2 x hn).trans hv) h) hd
theorem ZmT {pos:Pos}(hg:Gl X x)(hm:X.mg x=none)(hv:xj x=some u)(r:ZN v u)(hn:x≠"__name__":=by decide)(hd:(x==("__debug__" : Str))=false:=by decide):PE X (.Name x pos) (tC v):=
 λ_ _ _ H _ I h=>JL I hg hm hv ⟨v,H,I,r,h⟩ hn hd
variable {a b:Expr}{ta tb:TE}{pos:Pos}
noncomputable def tB (t:TE):TT:=fun σ H Q=>t σ H λx H1=>∃c,x=.bl c/\Q c H1
theorem ZoN (h:PE X e t)(he:∀whole,isTrue e X.env whole=(do let v<-whole;standAt e.pos;holding [v] (truthy v)):=by intro _;rfl):PT X e (tB t):=by
 intro jM s σ H Q I hw;refine isTrue_plain (ZI (h jM s σ H _ I hw) λv s1 ⟨x,H1,I1,r1,q1⟩=>?_) (he _);obtain⟨d,rfl,q⟩:=q1
 cases r1
 exact wpAny_truthy_bool ⟨H1,I1,q⟩
variable {tA tB':TT}{rest:List Expr}
noncomputable def tAnd (t u:TT):TT:=fun σ H Q=>t σ H λc H1=>if c=true then u σ H1 Q else Q false H1
noncomputable def tOr (t u:TT):TT:=fun σ H Q=>t σ H λc H1=>if c=true then Q true H1 else u σ H1 Q
noncomputable def tNot (t:TT):TT:=fun σ H Q=>t σ H λc H1=>Q (!c) H1
theorem ZmU (ha:PT X a tA):PW X (.BoolOp .And [a] pos) tA:=by
 intro wh jM s σ H Q I h;refine isTrue_and (ZI (ha jM s σ H Q I h) λc s1 e=>?_)
 cases c with
 | true=>exact isTrue_and_nil e
 | false=>exact e
theorem ZoO (ha:PT X a tA):PW X (.BoolOp .Or [a] pos) tA:=by
 intro wh jM s σ H Q I h;refine isTrue_or (ZI (ha jM s σ H Q I h) λc s1 e=>?_)
 cases c with
 | false=>exact isTrue_or_nil e
 | true=>exact e
theorem ZoP (ha:PT X a tA)(hb:PW X (.BoolOp .And (b::rest) pos) tB'):PW X (.BoolOp .And (a::b::rest) pos) (tAnd tA tB'):=by
 intro wh jM s σ H Q I h;refine isTrue_and (ZI (ha jM s σ H _ I h) λc s1 ⟨H1,I1,q1⟩=>?_)
 cases c with
 | true=>exact hb wh jM s1 σ H1 Q I1 q1
 | false=>exact⟨H1,I1,q1⟩
theorem ZpZ (ha:PT X a tA)(hb:PW X (.BoolOp .Or (b::rest) pos) tB'):PW X (.BoolOp .Or (a::b::rest) pos) (tOr tA tB'):=by
 intro wh jM s σ H Q I h;refine isTrue_or (ZI (ha jM s σ H _ I h) λc s1 ⟨H1,I1,q1⟩=>?_)
 cases c with
 | true=>exact⟨H1,I1,q1⟩
 | false=>exact hb wh jM s1 σ H1 Q I1 q1
theorem ZoQ (ha:PT X a tA):PT X (.UnaryOp .Not a pos) (tNot tA):=by
 intro jM s σ H Q I h;exact isTrue_not (ha jM s σ H (λc H1=>Q (!c) H1) I h)
noncomputable def Zp0 (ta tb:TE):TE:=fun σ H Q=>ta σ H λx H1=>∃c,x=.bl c/\if c=true then tb σ H1 Q else Q (.bl false) H1
noncomputable def tOrV (ta tb:TE):TE:=fun σ H Q=>ta σ H λx H1=>∃c,x=.bl c/\if c=true then Q (.bl true) H1 else tb σ H1 Q
noncomputable def Zp1 (ta:TE):TE:=fun σ H Q=>ta σ H λx H1=>∃c,x=.bl c/\Q (.bl (!c)) H1
theorem ZoR (h:PE X a t):PE X (.BoolOp op [a] pos) t:=λjM s σ H Q I hw=>BoolOp_one (h jM s σ H Q I hw)
theorem ZoS (ha:PE X a ta)(hb:PE X (.BoolOp .And (b::rest) pos) tb):PE X (.BoolOp .And (a::b::rest) pos) (Zp0 ta tb):=by
 intro jM s σ H Q I h;refine BoolOp_and (ZI (ha jM s σ H _ I h) λv s1 ⟨x,H1,I1,r1,q1⟩=>?_);obtain⟨c,rfl,q1⟩:=q1
 cases r1
 refine wpAny_truthy_bool ?_
 cases c with
 | true=>exact hb jM s1 σ H1 Q I1 q1
 | false=>exact⟨.bl false,H1,I1,rfl,q1⟩
theorem Zp2 (ha:PE X a ta)(hb:PE X (.BoolOp .Or (b::rest) pos) tb):PE X (.BoolOp .Or (a::b::rest) pos) (tOrV ta tb):=by
 intro jM s σ H Q I h;refine BoolOp_or (ZI (ha jM s σ H _ I h) λv s1 ⟨x,H1,I1,r1,q1⟩=>?_);obtain⟨c,rfl,q1⟩:=q1
 cases r1
 refine wpAny_truthy_bool ?_
 cases c with
 | false=>exact hb jM s1 σ H1 Q I1 q1
 | true=>exact⟨.bl true,H1,I1,rfl,q1⟩
theorem ZoT (ha:PE X a ta):PE X (.UnaryOp .Not a pos) (Zp1 ta):=by
 intro jM s σ H Q I h;refine UnaryOp_ (ZI (ha jM s σ H _ I h) λv s1 ⟨x,H1,I1,r1,q1⟩=>?_);obtain⟨c,rfl,q1⟩:=q1
 cases r1
 exact not_of (wpAny_truthy_bool ⟨.bl (!c),H1,I1,rfl,q1⟩)
noncomputable def tIf (t:TT)(ta tb:TE):TE:=fun σ H Q=>t σ H λc H1=>if c=true then ta σ H1 Q else tb σ H1 Q
theorem Zkz (hc:PT X c tA)(ha:PE X a ta)(hb:PE X b tb):PE X (.IfExp c a b pos) (tIf tA ta tb):=by
 intro jM s σ H Q I h;refine wpAny_IfExp (ZI (hc jM s σ H _ I h) λd s1 ⟨H1,I1,q1⟩=>?_)
 cases d with
 | true=>exact ha jM s1 σ H1 Q I1 q1
 | false=>exact hb jM s1 σ H1 Q I1 q1
end
noncomputable def ZT (K:qd)(H:Hp)(a:Addr)(xs:List V):Prop:=
 Rd H a (.lst xs)∨
  ∃(o:Obj) (jP:Array Value) (n:Nat),K.lookup a=some o/\o.cls=.type "list"/\o.dict=none/\o.data=.seq jP n/\jP.size<=xg/\ZG xs jP.toList
noncomputable def Z5 (K:qd)(H:Hp)(a:Addr)(xs:List V):Prop:=
 Rd H a (.tup xs)∨
  ∃(o:Obj) (jP:Array Value) (n:Nat),K.lookup a=some o/\o.cls=.type "tuple"/\o.data=.seq jP n/\jP.size<=xg/\ZG xs jP.toList
noncomputable def absV:Value->Option V
 | .none=>some .non
 | .bool b=>some (.bl b)
 | .int i _=>some (.int i)
 | .str x _=>some (.str x)
 | .bytes b _=>some (.byt b)
 | .float b _=>some (.flt b)
 | .ref a=>some (.ref a)
 | .type n=>some (.ty n)
 | _=>none
theorem ZN.abs (r:ZN x u):absV u=some x:=by
 cases x with
 | non=>cases r;rfl
 | bl _=>cases r;rfl
 | int _=>obtain⟨t,rfl⟩:=r;rfl
 | str _=>obtain⟨t,rfl⟩:=r;rfl
 | byt _=>obtain⟨t,rfl⟩:=r;rfl
 | flt _=>obtain⟨t,rfl⟩:=r;rfl
 | ref _=>cases r;rfl
 | ty _=>cases r;rfl
theorem ZN.inj (r:ZN x u)(q:ZN y u):x=y:=zP (r.abs.symm.trans q.abs)
theorem ZG.inj:∀{xs ys:List V} {us:List Value},ZG xs us->ZG ys us->xs=ys
 | _,_,_,.nil,.nil=>rfl
 | _,_,_,.cons r t,.cons r' t'=>by rw[r.inj r',ZG.inj t t']
section
variable {X:Cx}{jM:Qb}{σ:St}{H:Hp}{s:Shared}{a:Addr}{xs ys:List V}
theorem ZT.of {K:qd}(h:H a=some (.lst xs)):ZT K H a xs:=.inl (.inl h)
theorem Z5.of {K:qd}(h:H a=some (.tup xs)):Z5 K H a xs:=.inl (.inl h)
theorem Inv.list (I:Inv X jM σ H s)(h:ZT X.K H a xs):∃jP:List Value,ZG xs jP/\PlainL s.heap a jP.toArray/\xs.length<=xg:=by
 rcases h with h | ⟨o,jP,n,hk,hc,hd,hs,hz,r⟩
 ·obtain⟨z,jP,n,r,e⟩:=h.ok I.hok
  exact⟨jP,r,⟨_,n,e,rfl,rfl,rfl⟩,z⟩
 ·refine⟨jP.toList,r,⟨o,n,I.kIn a o hk,hc,hd,by omega⟩,?_⟩
  have e:=r.length
  grind
theorem Inv.tuple (I:Inv X jM σ H s)(h:Z5 X.K H a xs):∃jP:List Value,ZG xs jP/\IsTup s.heap a jP.toArray/\xs.length<=xg:=by
 rcases h with h | ⟨o,jP,n,hk,hc,hs,hz,r⟩
 ·obtain⟨z,jP,r,p⟩:=h.ok I.hok
  exact⟨jP,r,p,z⟩
 ·refine⟨jP.toList,r,⟨o,I.kIn a o hk,hc,n,by omega⟩,?_⟩
  have e:=r.length;simp_all
theorem Inv.list_inj (I:Inv X jM σ H s)(h:ZT X.K H a xs)(h':ZT X.K H a ys):xs=ys:=by
 obtain⟨jP,r,⟨o,n,e,_,_,d⟩,_⟩:=I.list h;obtain⟨its',r',⟨o',n',e',_,_,d'⟩,_⟩:=I.list h';have:jP=its':=by grind
 subst this;exact r.inj r'
theorem Inv.tuple_inj (I:Inv X jM σ H s)(h:Z5 X.K H a xs)(h':Z5 X.K H a ys):xs=ys:=by
 obtain⟨jP,r,⟨o,e,_,n,d⟩,_⟩:=I.tuple h;obtain⟨its',r',⟨o',e',_,n',d'⟩,_⟩:=I.tuple h';have:jP=its':=by grind
 subst this;exact r.inj r'
end
noncomputable abbrev Cx.wish (X:Cx)(E:xF):Cx:={ X with xe:=E }
noncomputable abbrev Cx.nox (X:Cx):Cx:=X.wish λ_ _=>False
theorem Cx.Ok.wish {X:Cx}(ok:X.Ok)(E:xF):(X.wish E).Ok:=
 ⟨ok.mod,ok.kind,ok.glob,ok.blt,ok.above,ok.inj,ok.has,ok.cab,ok.hd,ok.frames,ok.stk,ok.exf,ok.bs,ok.bsz,ok.noex,ok.exfs,ok.funs,ok.frf⟩
theorem Cx.Ok.unwish {X:Cx}(ok:(X.wish E).Ok):X.Ok:=
 ⟨ok.mod,ok.kind,ok.glob,ok.blt,ok.above,ok.inj,ok.has,ok.cab,ok.hd,ok.frames,ok.stk,ok.exf,ok.bs,ok.bsz,ok.noex,ok.exfs,ok.funs,ok.frf⟩
section
variable {X:Cx}{jM:Qb}{σ:St}{H:Hp}{s:Shared}{E:xF}
theorem Inv.wish (I:Inv X jM σ H s)(E:xF):Inv (X.wish E) jM σ H s:=⟨I.ok.wish E,I.os,I.bare,I.base,I.loc,I.cell,I.free,I.freeC,I.pin,I.hok,I.len⟩
theorem Inv.unwish (I:Inv (X.wish E) jM σ H s):Inv X jM σ H s:=⟨I.ok.unwish,I.os,I.bare,I.base,I.loc,I.cell,I.free,I.freeC,I.pin,I.hok,I.len⟩
theorem SP.unwish (h:SP (X.wish E) jM D f s'):SP X jM D f s':=by
 cases f with
 | next=>obtain⟨σ',H',I,q⟩:=h;exact⟨σ',H',I.unwish,q⟩
 | brk=>obtain⟨σ',H',I,q⟩:=h;exact⟨σ',H',I.unwish,q⟩
 | cont=>obtain⟨σ',H',I,q⟩:=h;exact⟨σ',H',I.unwish,q⟩
 | ret u=>obtain⟨v,σ',H',I,r,q⟩:=h;exact⟨v,σ',H',I.unwish,r,q⟩
theorem PE.nox (h:PE X.nox e t):PE X e t:=λjM s σ H Q I hw=>
 xc (h jM s σ H Q (I.wish _) hw) (λ_ _ ⟨v,H',I',r,q⟩=>⟨v,H',I'.unwish,r,q⟩) λ_ _ z=>zy z
theorem XO.nox {st:List Stmt}(h:XO X.nox st t):XO X st t:=λjM s σ H D I hw=>
 xc (h jM s σ H D (I.wish _) hw) (λ_ _ q=>q.unwish) λ_ _ z=>zy z
end
section
variable {X:Cx}{st:Stmt}{rest:List Stmt}{t u:TS}{e:Expr}{te:TE}{pos:Pos}
noncomputable def Zp3:TS:=λD σ H=>D.nx σ H
noncomputable def BR (t u:TS):TS:=λD σ H=>t { D with nx:=u D } σ H
theorem ZbS:XO X [] Zp3:=λ_ _ σ H _ I h=>wpAny_execs_nil ⟨σ,H,I,h⟩
theorem XE (h1:PS X st t)(h2:XO X rest u):XO X (st::rest) (BR t u):=by
 intro jM s σ H D I h;refine wpAny_execs_cons (ZI (h1 jM s σ H { D with nx:=u D } I h) λf s1 q=>?_)
 cases f with
 | next=>
  obtain⟨σ',H',I',q⟩:=q;exact h2 jM s1 σ' H' D I' q
 | ret v=>exact q
 | brk=>exact q
 | cont=>exact q
theorem JE (h1:PS X st t):XO X [st] t:=by
 intro jM s σ H D I h;refine wpAny_execs_cons (ZI (h1 jM s σ H D I h) λf s1 q=>?_)
 cases f with
 | next=>exact wpAny_execs_nil q
 | ret v=>exact q
 | brk=>exact q
 | cont=>exact q
theorem Inv.quiet {σ:St}(I:Inv X jM σ H s):interactive X.env=false:=by simp[interactive,I.ok.kind]
noncomputable def JV (te:TE):TS:=λD σ H=>te σ H λ_ H1=>D.nx σ H1
theorem ZbT (he:PE X e te)(hs:xr e none pos.line X.env=pure false:=by rfl):PS X (.Expr e pos) (JV te):=by
 intro jM s σ H D I h;exact wpAny_Expr_any (ZI (he jM s σ H _ I h) λv s1 ⟨x,H1,I1,r1,q1⟩=>⟨σ,H1,I1,q1⟩) I.quiet hs
noncomputable def tRet (te:TE):TS:=λD σ H=>te σ H D.rt
theorem Zhm (he:PE X e te):PS X (.Return (some e) pos) (tRet te):=by
 intro jM s σ H D I h;exact wpAny_Return_some (ZI (he jM s σ H _ I h) λv s1 ⟨x,H1,I1,r1,q1⟩=>⟨x,σ,H1,I1,r1,q1⟩)
noncomputable def tIfS (c:TT)(t u:TS):TS:=λD σ H=>c σ H λb H1=>if b=true then t D σ H1 else u D σ H1
theorem Zir (hc:PT X c tc)(ha:XO X a t)(hb:XO X b u):PS X (.If c a b pos) (tIfS tc t u):=by
 intro jM s σ H D I h;refine wpAny_If (ZI (hc jM s σ H _ I h) λd s1 ⟨H1,I1,q1⟩=>?_)
 cases d with
 | true=>exact ha jM s1 σ H1 D I1 q1
 | false=>exact hb jM s1 σ H1 D I1 q1
end
noncomputable abbrev TG:=V->St->Hp->(St->Hp->Prop)->Prop
noncomputable abbrev TGs:=List V->St->Hp->(St->Hp->Prop)->Prop
noncomputable def PG (X:Cx)(target:Expr)(t:TG):Prop:=
 ∀(jM:Qb) (s:Shared) (σ:St) (H:Hp) (v:V) (u:Value) (Q:St->Hp->Prop),Inv X jM σ H s->ZN v u->t v σ H Q->
  xf (xB X.prog X.w) X.A (assign target X.env u) (λ_ s'=>∃σ' H',Inv X jM σ' H' s'/\Q σ' H') X.xe s
noncomputable def BX (X:Cx)(ts:List Expr)(t:TGs):Prop:=
 ∀(jM:Qb) (s:Shared) (σ:St) (H:Hp) (vs:List V) (us:List Value) (Q:St->Hp->Prop),Inv X jM σ H s->ZG vs us->t vs σ H Q->
  xf (xB X.prog X.w) X.A (assignInOrder ((assignEach ts X.env).map (·.2)) us) (λ_ s'=>∃σ' H',Inv X jM σ' H' s'/\Q σ' H') X.xe s
noncomputable abbrev TSet:=V->V->V->Hp->(Hp->Prop)->Prop
noncomputable def PSet (X:Cx)(t:TSet):Prop:=
 ∀(jM:Qb) (s:Shared) (σ:St) (H:Hp) (o i v:V) (ov iv u:Value) (Q:Hp->Prop),Inv X jM σ H s->ZN o ov->ZN i iv->ZN v u->t o i v H Q->
  xf (xB X.prog X.w) X.A (setItem ov iv u) (λ_ s'=>∃H',Inv X jM σ H' s'/\Q H') X.xe s
section
variable {X:Cx}{pos:Pos}
noncomputable def Ut (i:Nat):TG:=λv σ H Q=>Q (σ.set i (some v)) H
theorem Wp (hN:X.N.Nodup)(hi:X.N[i]?=some x)(hx:WS X.env.scope x)(hf:X.fn x=true∨X.env.scope.names.lookup x=some .local:=by first | exact .inl rfl | exact .inr rfl | assumption):PG X (.Name x pos) (Ut i):=by
 intro jM s σ H v u Q I r h;exact wpAny_assign_Name (ZbR I hN hi hx r (λs' I'=>⟨_,H,I',h⟩) hf)
noncomputable def gNil:TGs:=λvs σ H Q=>vs=[]/\Q σ H
noncomputable def BH (t:TG)(u:TGs):TGs:=λvs σ H Q=>∃v r,vs=v::r/\t v σ H fun σ' H'=>u r σ' H' Q
theorem Bu:BX X [] gNil:=by
 intro jM s σ H vs us Q I r h;obtain⟨e,h⟩:=h;exact assignInOrder_nil ⟨σ,H,I,h⟩
theorem WV (h1:PG X e t)(h2:BX X es u)
  (hs:(assignEach (e::es) X.env).map (·.2)=assign e X.env::(assignEach es X.env).map (·.2):=by rfl):BX X (e::es) (BH t u):=by
 intro jM s σ H vs us Q I r h;obtain⟨v,vr,e1,h⟩:=h;subst e1
 cases r with
 | cons r rr=>
  rw[hs];refine assignInOrder_cons (ZI (h1 jM s σ H _ _ _ I r h) λ_ s1 ⟨σ1,H1,I1,q1⟩=>?_);exact h2 jM s1 σ1 H1 _ _ Q I1 rr q1
noncomputable def gTup (K:qd)(n:Nat)(t:TGs):TG:=λv σ H Q=>∃a xs,v=.ref a/\Z5 K H a xs/\xs.length=n/\t xs σ H Q
theorem ZkA {k:Nat}(hc:X.calm=true)(h:BX X es t)
  (hn:(assignEach es X.env).length=n:=by rfl) (hst:(assignEach es X.env).findIdx? (·.1)=none:=by rfl):PG X (.Tuple es k pos) (gTup X.K n t):=by
 intro jM s σ H v u Q I r hw;obtain⟨a,xs,e1,hq,hl,hw⟩:=hw;subst e1
 cases r
 obtain⟨jP,rv,ht,hz⟩:=I.tuple hq;refine assign_Tuple_tuple (I.ok.hd hc) ht (by simp[hn,<-hl,rv.length]) hst λh' hx=>?_;have I1:Inv X jM σ H { s with heap:=h' }:=I.kept λb o e=>hx b o (qL (qz e)) e;exact h jM _ σ H xs _ Q I1 (by omega) hw
noncomputable def gSub (to ti:TE)(t:TSet):TG:=λv σ H Q=>to σ H λo H1=>ti σ H1 λi H2=>t o i v H2 λH3=>Q σ H3
theorem Zfl (ho:PE X o to)(hi:PE X i ti)(hs:PSet X t)
  (ha:∀v,assign (.Subscript o i pos) X.env v=(do
   let ov<-holding [v] (eval o X.env)
   let iv<-holding [v,ov] (eval i X.env)
   standAt pos
   holding [v,ov,iv] (setItem ov iv v)
   release [v,ov,iv] []):=by intro _;rfl):PG X (.Subscript o i pos) (gSub to ti t):=by
 intro jM s σ H v u Q I r h;rw[ha];refine xa (xw (ZI (ho jM s σ H _ I h) λov s1 ⟨x,H1,I1,r1,q1⟩=>?_));refine xa (xw (ZI (hi jM s1 σ H1 _ I1 q1) λiv s2 ⟨y,H2,I2,r2,q2⟩=>?_));refine xa (wpAny_standAt (xa (xw (ZI (hs jM s2 σ H2 x y v ov iv u _ I2 r1 r2 r q2) λ_ s3 ⟨H3,I3,q3⟩=>?_))));exact wpAny_release ⟨σ,H3,I3,q3⟩
noncomputable def Ja (te:TE)(g:TG):TS:=λD σ H=>te σ H λx H1=>g x σ H1 D.nx
theorem Zds (he:PE X e te)(hg:PG X tg g)(hs:swapsWithSole [tg] e pos.line X.env=pure false:=by rfl)(hw:swappedStores [tg] e X.env=pure none:=by rfl)
  (h1:(assignEach [tg] X.env).map (·.2)=[assign tg X.env]:=by rfl):PS X (.Assign [tg] e pos) (Ja te g):=by
 intro jM s σ H D I h;refine wpAny_Assign_stores (ZI (he jM s σ H _ I h) λv s1 ⟨x,H1,I1,r1,q1⟩=>?_) hs hw;rw[h1];exact ZI (hg jM s1 σ H1 x v _ I1 r1 q1) λ_ s2 q=>q
theorem Um (hN:X.N.Nodup)(hi:X.N[i]?=some x)(hx:WS X.env.scope x)(he:PE X e te)(hs:xr e (some (.Name x pos')) pos.line X.env=pure false:=by rfl)(hf:X.fn x=true∨X.env.scope.names.lookup x=some .local:=by first | exact .inl rfl | exact .inr rfl | assumption) :
  PS X (.Assign [.Name x pos'] e pos) (Ja te (Ut i)):=by
 intro jM s σ H D I h;refine wpAny_Assign_Name (ZI (he jM s σ H _ I h) λv s1 ⟨y,H1,I1,r1,q1⟩=>?_) hs;exact ZbR I1 hN hi hx r1 (λs2 I2=>⟨_,H1,I2,q1⟩) hf
noncomputable def tPar (i j:Nat)(ta:TA):TS:=λD σ H=>ta σ H λvs H1=>∃v w,vs=[v,w]/\D.nx ((σ.set i (some v)).set j (some w)) H1
theorem ZoU (hc:X.calm=true)(hN:X.N.Nodup)(hi:X.N[i]?=some x)(hj:X.N[j]?=some y)(hij:i≠j)
  (hx:X.env.scope.names.lookup x=some .local) (hy:X.env.scope.names.lookup y=some .local) (ha:PA X [a,b] ta)
  (hw:swappedStores [.Tuple [.Name x px,.Name y py] kt pt] (.Tuple [a,b] k2 pt2) X.env=pure (some [x,y]))
  (hs:swapsWithSole [.Tuple [.Name x px,.Name y py] kt pt] (.Tuple [a,b] k2 pt2) pos.line X.env=pure false:=by rfl) :
  PS X (.Assign [.Tuple [.Name x px,.Name y py] kt pt] (.Tuple [a,b] k2 pt2) pos) (tPar i j ta):=by
 intro jM s σ H D I h;rw[exec_Assign_arm];refine xa (wpAny_standAt ?_);rw[hs];refine xa (xb ?_);rw[if_neg (by decide)];refine xa (Tuple_ (ZI (ha _ jM s σ H _ I h) λus s1 ⟨vs,H1,I1,r1,q1⟩=>?_));obtain⟨v,w,e1,q1⟩:=q1;subst e1;obtain⟨u1,u2,rfl,rv,rw'⟩:∃u1 u2,us=[u1,u2]/\ZN v u1/\ZN w u2:=by
  cases r1 with
  | cons p q=>
   cases q with
   | cons p' q'=>
    cases q'
    exact⟨_,_,rfl,p,p'⟩
 refine xl ?_ (by show 2<=xg;decide);have I2:Inv X jM σ H1 { s1 with heap:=s1.heap.push { cls:=.type "tuple",data:=.seq [u1,u2].toArray } }:=I1.kept (t':=s1.toks) λb o e=>qj _ e;rw[hw];refine xa (xb ?_);show xf (xB X.prog X.w) X.A (do rule "assign.swapped-stores";let items<-unpackItems (.ref s1.heap.objs.size) 2 none;assignInOrder [λv=>bindName X.env y v,λv=>bindName X.env x v] items.reverse;pure Flow.next) _ _ _;refine xa (wpAny_rule (xa (unpackItems_tuple (items:=#[u1,u2]) (I.ok.hd hc) (qbp s1.heap _) λh' hx'=>?_)));have I3:=I2.kept (t':=s1.toks) λb o e=>hx' b o (qL (qz e)) e;refine xa (assignInOrder_cons (wpAny_bindName (ZbR I3 hN hj (.inl hy) rw' (λs2 I4=>?_) (.inr hy))));refine assignInOrder_cons (wpAny_bindName (ZbR I4 hN hi (.inl hx) rv (λs3 I5=>assignInOrder_nil (xb ?_)) (.inr hx)));rw[List.set_comm _ _ (qJ hij)]at I5;exact⟨_,H1,I5,q1⟩
end
section
variable {X:Cx}{pos:Pos}
noncomputable def ZoV (c:TT)(tb:TS):TS:=λD σ H=>∃W:Nat->St->Hp->Prop,(∃m,W m σ H)/\∀m σ H,W m σ H->
 c σ H λb H1=>if b=true then ∃N:St->Hp->Prop,(∀σ' H',N σ' H'->∃m',m'<m/\W m' σ' H')/\tb { D with nx:=N,ct:=N,bk:=D.nx } σ H1 else D.nx σ H1
theorem Zga (hp:PassesOwn (xB X.prog X.w) X.A X.env X.xe)(hc:PT X c tc)(hb:XO X body tb):PS X (.While c body [] pos) (ZoV tc tb):=by
 intro jM s σ H D I h;obtain⟨W,⟨m0,w0⟩,turn⟩:=h;refine wpAny_While (codeAny_whileLoop (λn s'=>∃σ' H',Inv X jM σ' H' s'/\W n σ' H') ?_ m0 ⟨σ,H,I,w0⟩);rintro n s1 ⟨σ1,H1,I1,w1⟩;refine wpAny_passesOwn hp (ZI (hc jM s1 σ1 H1 _ I1 (turn n σ1 H1 w1)) λb s2 ⟨H2,I2,q2⟩=>?_)
 cases b with
 | true=>
  obtain⟨N,hN,q2⟩:=q2;refine wpAny_passesOwn hp (ZI (hb jM s2 σ1 H2 _ I2 q2) λf s3 q3=>?_)
  cases f with
  | next=>
   obtain⟨σ3,H3,I3,n3⟩:=q3;obtain⟨m',hm,w3⟩:=hN σ3 H3 n3;exact⟨m',hm,σ3,H3,I3,w3⟩
  | cont=>
   obtain⟨σ3,H3,I3,n3⟩:=q3;obtain⟨m',hm,w3⟩:=hN σ3 H3 n3;exact⟨m',hm,σ3,H3,I3,w3⟩
  | brk=>exact q3
  | ret v=>exact q3
 | false=>
  exact wpAny_execs_nil ⟨σ1,H2,I2,q2⟩
end
structure It where
 go:Nat->Hp->Prop
 yld:Nat->Hp->V->Hp->Prop
 stop:Nat->Hp->Prop
noncomputable def W3 (X:Cx)(jM:Qb)(H:Hp)(b:Addr):Prop:=
 H b=none/\b≠X.env.locals/\b∉X.fs/\(b∈X.ex∨X.s₀.heap.objs.size<=b)/\(∀x c,X.env.cells.lookup x=some c->c≠b)/\∀p∈X.pn++jM,p.1≠b
theorem Inv.fpOk {σ:St}{b:Addr}(I:Inv X jM σ H s)(hb:s.heap.objs.size<=b)(hn:H' b=none):W3 X jM H' b:=by
 refine⟨hn,Nat.ne_of_gt (qK I.lt hb),I.nofs hb,.inr (qu I.sz hb),λx c e z=>?_,λp hp z=>?_⟩
 ·obtain⟨v,q⟩:=I.cell x c e
  exact absurd (qK q.lt (by simp_all)) (z5 _)
 ·exact absurd (qK (qz (I.pin p hp).1) (by simp_all)) (z5 _)
structure Turn (P:xD)(w:World)(K:qd)(tg:Expr)(J:It)(fp:List Addr)(it:Addr)(tn:Nat->Heap->Prop):Prop where
 mem:it∈fp
 obj:∀i h,tn i h->∀b∈fp,∃o,h.get? b=some o/\∀v,o.data≠.cell v
 keep:∀i h h',tn i h->(∀b∈fp,∀o,h.get? b=some o->h'.get? b=some o)->tn i h'
 item:∀(X:Cx),X.prog=P->X.w=w->X.K=K->X.calm=true->∀(i:Nat) (jM:Qb) (s:Shared) (σ:St) (H:Hp) (E:xF),Inv X jM σ H s->(∀b∈fp,W3 X jM H b)->tn i s.heap->J.go i H->
  xf (xB P w) X.A (pyNext (.ref it)) (λr s1=>∃u,r=some u/\
   xf (xB P w) X.A (letOwnedTupleGo tg (.ref it) u) (λ_ s2=>∃x H',Inv X jM σ H' s2/\ZN x u/\J.yld i H x H'/\tn (i+1) s2.heap/\∀b∈fp,H' b=none) E s1) E s
 done:∀(X:Cx),X.prog=P->X.w=w->X.K=K->X.calm=true->∀(i:Nat) (jM:Qb) (s:Shared) (σ:St) (H:Hp) (E:xF),Inv X jM σ H s->(∀b∈fp,W3 X jM H b)->tn i s.heap->J.stop i H->
  xf (xB P w) X.A (pyNext (.ref it)) (λr s1=>r=none/\Inv X jM σ H s1) E s
 self:∀(A:xE) (i:Nat) (s:Shared) (Q:xF) (E:xF),tn i s.heap->Q (.ref it) s->xf (xB P w) A (pyIter (.ref it)) Q E s
noncomputable abbrev TI:=St->Hp->(It->Hp->Prop)->Prop
noncomputable def PIE (X:Cx)(jM:Qb)(σ:St)(tg:Expr)(R:It->Hp->Prop)(itv:Value)(s2:Shared):Prop:=
 ∃(it:Addr) (fp:List Addr) (tn:Nat->Heap->Prop) (J:It) (H':Hp),itv=.ref it/\Inv X jM σ H' s2/\Turn X.prog X.w X.K tg J fp it tn/\tn 0 s2.heap/\(∀b∈fp,W3 X jM H' b)/\R J H'
noncomputable def PI (X:Cx)(tg iter:Expr)(wi:TI):Prop:=
 ∀(jM:Qb) (s:Shared) (σ:St) (H:Hp) (R:It->Hp->Prop),Inv X jM σ H s->wi σ H R->
  xf (xB X.prog X.w) X.A (eval iter X.env) (λv s1=>xf (xB X.prog X.w) X.A (pyIter v) (PIE X jM σ tg R) X.xe s1) X.xe s
theorem ZkB (ho : s.heap.get? it = some o)(hc : o.cls = .type n)(hd : o.data = .fields vs)
    (hn : ["enumerate", "zip", "dict_itemiterator", "dict_reverseitemiterator", "odict_iterator", "itertools.zip_longest", "itertools.pairwise"].contains n = false) (hQ : Q () s) : xf M A (letOwnedTupleGo tg (.ref it) u) Q E s := by
  unfold letOwnedTupleGo
  cases tg <;> first
    | exact xb hQ
    | (cases u <;> first
        | exact xb hQ
        | (refine xa (wpAny_load ho ?_)
           rw[hc, hd];show xf M A (if (["enumerate", "zip", "dict_itemiterator", "dict_reverseitemiterator", "odict_iterator", "itertools.zip_longest", "itertools.pairwise"].contains n && vs[0]? == some (rawInt _)) = true then _ else _) Q E s;rw[if_neg (by intro h; rw[hn] at h; cases h)];exact xb hQ))
noncomputable def Itl (K:qd)(a:Addr):It:=
 ⟨λi H=>∃xs x,ZT K H a xs/\xs[i]?=some x,λi H x H'=>H'=H/\∀xs,ZT K H a xs->xs[i]?=some x,λi H=>∃xs,ZT K H a xs/\xs.length<=i⟩
noncomputable def Itt (K:qd)(a:Addr):It:=
 ⟨λi H=>∃xs x,Z5 K H a xs/\xs[i]?=some x,λi H x H'=>H'=H/\∀xs,Z5 K H a xs->xs[i]?=some x,λi H=>∃xs,Z5 K H a xs/\xs.length<=i⟩
noncomputable def Itr (lo:Int)(n:Nat):It:=⟨λi _=>i<n,λi H x H'=>H'=H/\x=.int (lo+i),λi _=>n<=i⟩
theorem Zji {K:qd}(a it:Addr):Turn P w K tg (Itl K a) [it] it (λi h=>h.IsListIter it a i) where
 mem:=by simp
 obj:=λi h st b hb=>by
  have e:b=it:=by simpa using hb
  subst e;obtain⟨o,e,c,d⟩:=st;exact⟨o,e,λv z=>by rw[d]at z;cases z⟩
 keep:=λi h h' st k=>st.at λo e=>k it (by simp) o e
 item:=by
  intro X hP hw hK hc i jM s σ H E I hf st hg;subst hP hw hK;obtain⟨xs,x,hq,hx⟩:=hg;obtain⟨jP,rv,p,hz⟩:=I.list hq;obtain⟨u,hu,ru⟩:=rv.get hx;obtain⟨f0,f1,f2,f3,f4,f5⟩:=hf it (by simp);refine wpAny_pyNext_list_item st p.isList (x:=u) (by simpa using hu) λh' st' sb=>?_;have I1:Inv X jM σ H { s with heap:=h' }:=I.turned (t':=s.toks) (λb o hb e=>(sb.2 b hb).trans e) f0 f1 f3 f4 f5;obtain⟨o,e,c,d⟩:=id st';exact⟨u,rfl,ZkB (s:={ s with heap:=h' }) e c d (by decide) ⟨x,H,I1,ru,⟨rfl,λys hy=>by rw[I.list_inj hy hq];exact hx⟩,st',λb hb=>(hf b hb).1⟩⟩
 done:=by
  intro X hP hw hK hc i jM s σ H E I hf st hg;subst hP hw hK;obtain⟨xs,hq,hx⟩:=hg;obtain⟨jP,rv,p,hz⟩:=I.list hq;obtain⟨f0,f1,f2,f3,f4,f5⟩:=hf it (by simp);have hl:=rv.length;exact wpAny_pyNext_list_end (I.ok.hd hc) st p.isList (by simp;omega) λh' eb=>⟨rfl,I.turned (λb o hb e=>eb b o hb e) f0 f1 f3 f4 f5⟩
 self:=λ_ _ _ _ _ st h=>wpAny_pyIter_listiter st h
theorem Zhn {K:qd}(a it:Addr):Turn P w K tg (Itt K a) [it] it (λi h=>h.IsTupleIter it a i) where
 mem:=by simp
 obj:=λi h st b hb=>by
  have e:b=it:=by simpa using hb
  subst e;obtain⟨o,e,c,d⟩:=st;exact⟨o,e,λv z=>by rw[d]at z;cases z⟩
 keep:=λi h h' st k=>st.at λo e=>k it (by simp) o e
 item:=by
  intro X hP hw hK hc i jM s σ H E I hf st hg;subst hP hw hK;obtain⟨xs,x,hq,hx⟩:=hg;obtain⟨jP,rv,p,hz⟩:=I.tuple hq;obtain⟨u,hu,ru⟩:=rv.get hx;obtain⟨f0,f1,f2,f3,f4,f5⟩:=hf it (by simp);refine wpAny_pyNext_tuple_item st (show s.heap.IsTuple a jP.toArray from p) (x:=u) (by simpa using hu) λh' st' sb=>?_;have I1:Inv X jM σ H { s with heap:=h' }:=I.turned (t':=s.toks) (λb o hb e=>(sb.2 b hb).trans e) f0 f1 f3 f4 f5;obtain⟨o,e,c,d⟩:=id st';exact⟨u,rfl,ZkB (s:={ s with heap:=h' }) e c d (by decide) ⟨x,H,I1,ru,⟨rfl,λys hy=>by rw[I.tuple_inj hy hq];exact hx⟩,st',λb hb=>(hf b hb).1⟩⟩
 done:=by
  intro X hP hw hK hc i jM s σ H E I hf st hg;subst hP hw hK;obtain⟨xs,hq,hx⟩:=hg;obtain⟨jP,rv,p,hz⟩:=I.tuple hq;obtain⟨f0,f1,f2,f3,f4,f5⟩:=hf it (by simp);have hl:=rv.length;exact wpAny_pyNext_tuple_end (I.ok.hd hc) st (show s.heap.IsTuple a jP.toArray from p) (by simp;omega) λh' eb=>⟨rfl,I.turned (λb o hb e=>eb b o hb e) f0 f1 f3 f4 f5⟩
 self:=λ_ _ _ _ _ st h=>wpAny_pyIter_tupleiter st h
theorem Zho {K:qd}(it:Addr)(lo:Int)(n:Nat):Turn P w K tg (Itr lo n) [it] it (λi h=>IsRangeIter h it (lo+(i:Nat)*1) ((n:Int)-(i:Nat)) 1) where
 mem:=by simp
 obj:=λi h st b hb=>by
  have e:b=it:=by simpa using hb
  subst e;exact⟨_,st,λv z=>by
   have z':Data.fields _=Data.cell v:=z
   cases z'⟩
 keep:=λi h h' st k=>k it (by simp) _ st
 item:=by
  intro X hP hw hK hc i jM s σ H E I hf st hg;subst hP hw hK;obtain⟨f0,f1,f2,f3,f4,f5⟩:=hf it (by simp);have W:=Walks.range (prog:=X.prog) (w:=X.w) (I.ok.hd hc) it lo 1 n;refine W.item i s _ _ hg st λv h' tk hv st' kk=>?_;obtain⟨t,rfl⟩:=hv;have I1:Inv X jM σ H { s with heap:=h',toks:=tk }:=I.turned (λb o hb e=>kk b o (by simpa using hb) e) f0 f1 f3 f4 f5;refine⟨_,rfl,ZkB st' rfl rfl (by decide) ⟨.int (lo+i),H,I1,⟨t,?_⟩,⟨rfl,rfl⟩,st',λb hb=>(hf b hb).1⟩⟩;simp
 done:=by
  intro X hP hw hK hc i jM s σ H E I hf st hg;obtain⟨f0,f1,f2,f3,f4,f5⟩:=hf it (by simp);exact wpAny_pyNext_range_end (I.ok.hd hc) st (by have:n<=i:=hg;omega) λh' eb=>⟨rfl,I.turned (λb o hb e=>eb b o hb e) f0 f1 f3 f4 f5⟩
 self:=λ_ _ _ _ _ st h=>wpAny_pyIter_rangeiter st h
section
variable {X:Cx}{tg:Expr}
noncomputable def Zp4 (K:qd)(tl:TE):TI:=fun σ H R=>tl σ H λx H1=>∃a,x=.ref a/\(∃xs,ZT K H1 a xs)/\R (Itl K a) H1
noncomputable def iTup (K:qd)(tl:TE):TI:=fun σ H R=>tl σ H λx H1=>∃a,x=.ref a/\(∃xs,Z5 K H1 a xs)/\R (Itt K a) H1
theorem ZmV (hl:PE X l tl):PI X tg l (Zp4 X.K tl):=by
 intro jM s σ H R I h;refine ZI (hl jM s σ H _ I h) λv s1 ⟨x,H1,I1,r1,q1⟩=>?_;obtain⟨a,e,⟨xs,hq⟩,q⟩:=q1;subst e
 cases r1
 obtain⟨jP,rv,p,hz⟩:=I1.list hq;refine wpAny_pyIter_list p.isList ?_;refine⟨s1.heap.objs.size,[s1.heap.objs.size],_,_,H1,rfl,I1.kept λb o e=>qj _ e,Zji a _,⟨_,qE _ rfl,rfl,rfl⟩,λb hb=>?_,q⟩;have e:=by simpa using hb
 subst e;exact I1.fpOk (qk _) (I1.hok.fresh (qk _))
theorem ZoW (hl:PE X l tl):PI X tg l (iTup X.K tl):=by
 intro jM s σ H R I h;refine ZI (hl jM s σ H _ I h) λv s1 ⟨x,H1,I1,r1,q1⟩=>?_;obtain⟨a,e,⟨xs,hq⟩,q⟩:=q1;subst e
 cases r1
 obtain⟨jP,rv,p,hz⟩:=I1.tuple hq;refine wpAny_pyIter_tuple (show s1.heap.IsTuple a jP.toArray from p) ?_;refine⟨s1.heap.objs.size,[s1.heap.objs.size],_,_,H1,rfl,I1.kept λb o e=>qj _ e,Zhn a _,⟨_,qE _ rfl,rfl,rfl⟩,λb hb=>?_,q⟩;have e:=by simpa using hb
 subst e;exact I1.fpOk (qk _) (I1.hok.fresh (qk _))
theorem Zgb {σ:St}{lo:Int}(I:Inv X jM σ H s)(h1:-(2 ^ 62)<=lo)(h2:lo<2 ^ 62)(h3:-(2 ^ 62)<=hi)(h4:hi<2 ^ 62)
  (q:R (Itr lo (hi-lo).toNat) H):xf (xB X.prog X.w) X.A (pyIter (.ref s.heap.objs.size)) (PIE X jM σ tg R) E { s with heap:=s.heap.push { cls:=.type "range",data:=.fields #[.int lo t,.int hi u,.int 1 v] },toks:=tk }:=by
 refine wpAny_pyIter_range (IsRange.new ..) (small_one h1 h2 h3 h4) ?_;have I1:Inv X jM σ H { s with heap:=s.heap.push { cls:=.type "range",data:=.fields #[.int lo t,.int hi u,.int 1 v] },toks:=tk }:=I.kept λb o e=>qj _ e;refine⟨(s.heap.push { cls:=.type "range",data:=.fields #[.int lo t,.int hi u,.int 1 v] }).objs.size,[(s.heap.push { cls:=.type "range",data:=.fields #[.int lo t,.int hi u,.int 1 v] }).objs.size],_,_,H,rfl,
  I1.kept λb o e=>qj _ e,Zho _ lo (hi-lo).toNat,?_,λb hb=>?_,q⟩
 ·have e1:lo+((0:Nat):Int)*1=lo:=by simp
  have e2:(((hi-lo).toNat:Nat):Int)-((0:Nat):Int)=qbj lo hi 1:=by rw[rangeSize_one];grind
  rw[e1,e2];exact qE _ rfl
 ·have e:b=(s.heap.push { cls:=.type "range",data:=.fields #[.int lo t,.int hi u,.int 1 v] }).objs.size:=by simpa using hb
  subst e;exact I1.fpOk (qk _) (I1.hok.fresh (qk _))
noncomputable def Zp5 (ta:TA):TI:=fun σ H R=>ta σ H λvs H1=>∃j:Int,vs=[.int j]/\-(2 ^ 62)<=j/\j<2 ^ 62/\R (Itr 0 j.toNat) H1
noncomputable def Zp6 (ta:TA):TI:=fun σ H R=>ta σ H λvs H1=>∃i j:Int,vs=[.int i,.int j]/\(-(2 ^ 62)<=i/\i<2 ^ 62/\-(2 ^ 62)<=j/\j<2 ^ 62)/\R (Itr i (j-i).toNat) H1
theorem ZeH (hg:Gl X "range")(hm:X.mg "range" = none)(ha:PA X [a] ta)(hs:xh [a] X.env=[(false,eval a X.env)]:=by rfl):PI X tg (.Call (.Name "range" p) [a] [] pos) (Zp5 ta):=by
 intro jM s σ H R I h;refine Call_ (JL I hg hm boot_range (zW (ZI (ha pos jM s σ H _ I h) λus s1 ⟨vs,H1,I1,r1,q1⟩=>?_) hs rfl));obtain⟨j,e,q1,q2,q⟩:=q1;subst e
 cases r1 with
 | cons r rr=>
  cases rr
  obtain⟨t,rfl⟩:=r;exact call_range_1 (Zgb I1 (by omega) (by omega) q1 q2 (by simp_all))
theorem Zjj {p pos:Pos}(hg:Gl X "range")(hm:X.mg "range" = none)(ha:PA X [a,b] ta)(hs:xh [a,b] X.env=[(false,eval a X.env),(false,eval b X.env)]:=by rfl)(hs2:xh [b] X.env=[(false,eval b X.env)]:=by rfl) :
  PI X tg (.Call (.Name "range" p) [a,b] [] pos) (Zp6 ta):=by
 intro jM s σ H R I h;refine Call_ (JL I hg hm boot_range (zW (ZI (ha pos jM s σ H _ I h) λus s1 ⟨vs,H1,I1,r1,q1⟩=>?_) (by rw[hs,hs2]) (by rw[hs2];rfl)));obtain⟨i,j,e,⟨q1,q2,q3,q4⟩,q⟩:=q1;subst e
 cases r1 with
 | cons r rr=>
  cases rr with
  | cons r' rr=>
   cases rr
   obtain⟨t,rfl⟩:=r;obtain⟨t',rfl⟩:=r';exact call_range_2 (Zgb I1 q1 q2 q3 q4 q)
noncomputable def tFor (wi:TI)(g:TG)(tb:TS):TS:=λD σ H=>wi σ H λJ H1=>∃W:Nat->Nat->St->Hp->Prop,(∃m,W 0 m σ H1)/\∀i m σ H,W i m σ H->
 (J.stop i H/\D.nx σ H)∨(J.go i H/\∃N:St->Hp->Prop,(∀σ' H',N σ' H'->∃m',m'<m/\W (i+1) m' σ' H')/\∀x H',J.yld i H x H'->g x σ H' fun σ2 H2=>tb { D with nx:=N,ct:=N,bk:=D.nx } σ2 H2)
noncomputable def Zdt (fp:List Addr)(h:Heap):Qb:=fp.filterMap λb=>(h.get? b).map λo=>(b,o)
theorem Bo (hb:b∈fp)(e:h.get? b=some o):(b,o)∈Zdt fp h:=yU.mpr ⟨b,hb,by rw[e];rfl⟩
theorem Zjk (hp:p∈Zdt fp h):p.1∈fp/\h.get? p.1=some p.2:=by
 obtain⟨b,hb,e⟩:=yU.mp hp
 cases q:h.get? b with
 | none=>simp_all
 | some o=>
  rw[q]at e;have e':=zP e;subst e';exact⟨hb,q⟩
theorem Inv.pinned {σ:St}(I:Inv X jM σ H s)(hf:∀b∈fp,W3 X jM H b)(ho:∀b∈fp,∃o,s.heap.get? b=some o/\∀v,o.data≠.cell v):Inv X (jM++Zdt fp s.heap) σ H s:=
 I.pins_of λp hp=>(zZ.mp hp).elim (λz=>I.pin p (qP _ z)) λz=>by
  obtain⟨hb,e⟩:=Zjk z;obtain⟨f0,f1,f2,_⟩:=hf p.1 hb;obtain⟨o,e',d⟩:=ho p.1 hb;simp_all
theorem Inv.unpinned {σ:St}(I:Inv X (jM++pl) σ H s):Inv X jM σ H s:=I.pins_of λp hp=>I.pin p (qP _ (qbI _ hp))
theorem ZkC (hp:PassesOwn (xB X.prog X.w) X.A X.env X.xe)(hc:X.calm=true)(hi:PI X tg iter wi)(hg:PG X tg g)(hb:XO X body tb)
  (hs:∀x,foldedSetIterable iter X.env x=pure x:=by intro _;rfl):PS X (.For tg iter body [] pos) (tFor wi g tb):=by
 intro jM s σ H D I h;refine wpAny_For (ZI (hi jM s σ H _ I h) λv s1 h1=>ZI h1 λitv s2 h2=>?_) hs;obtain⟨it,fp,tn,J,H2,e,I2,T,jZ,f2,W,⟨m0,w0⟩,turn⟩:=h2;subst e
 -- what stays true of the iterator's objects through the loop
 have stat:∀{H':Hp},(∀b∈fp,H' b=none)->∀b∈fp,W3 X jM H' b:=λhn b hb=>⟨hn b hb,(f2 b hb).2⟩;refine codeAny_forLoop_any (λn s'=>∃i σ' H',Inv X jM σ' H' s'/\tn i s'.heap/\(∀b∈fp,H' b=none)/\W i n σ' H') ?_ m0 ⟨0,σ,H2,I2,jZ,λb hb=>(f2 b hb).1,w0⟩;rintro n s3 ⟨i,σ3,H3,I3,st3,fr3,w3⟩;rcases turn i n σ3 H3 w3 with⟨stop,qn⟩ | ⟨go,N,hN,step⟩
 ·refine wpAny_passesOwn hp (ZI (T.done X rfl rfl rfl hc i jM s3 σ3 H3 X.xe I3 (stat fr3) st3 stop) λr s4 ⟨hr,I4⟩=>?_)
  subst hr;exact wpAny_execs_nil ⟨σ3,H3,I4,qn⟩
 ·refine wpAny_passesOwn hp (ZI (T.item X rfl rfl rfl hc i jM s3 σ3 H3 X.xe I3 (stat fr3) st3 go) λr s4 ⟨u,hr,h4⟩=>?_)
  subst hr;refine wpAny_passesOwn hp (ZI h4 λ_ s5 ⟨x,H5,I5,r5,y5,st5,fr5⟩=>?_);have I5':=I5.pinned (stat fr5) (T.obj _ _ st5);refine wpAny_passesOwn hp (ZI (hg _ s5 σ3 H5 x u _ I5' r5 (step x H5 y5)) λ_ s6 ⟨σ6,H6,I6,q6⟩=>?_);refine wpAny_passesOwn hp (ZI (hb _ s6 σ6 H6 _ I6 q6) λf s7 q7=>?_);have again:∀{σ7:St} {H7:Hp},Inv X (jM++Zdt fp s5.heap) σ7 H7 s7->N σ7 H7->∃m,m<n/\∃i σ' H',Inv X jM σ' H' s7/\tn i s7.heap/\(∀b∈fp,H' b=none)/\W i m σ' H':=λ{σ7 H7} I7 n7=>by
   obtain⟨m',hm,w7⟩:=hN σ7 H7 n7;refine⟨m',hm,i+1,σ7,H7,I7.unpinned,T.keep _ _ _ st5 λb hb o e=>(I7.pin (b,o) (qP _ (qP _ (Bo hb e)))).1,λb hb=>?_,w7⟩;obtain⟨o,e,d⟩:=T.obj _ _ st5 b hb;exact(I7.pin (b,o) (qP _ (qP _ (Bo hb e)))).2.1
  cases f with
  | next=>obtain⟨σ7,H7,I7,n7⟩:=q7;exact again I7 n7
  | cont=>obtain⟨σ7,H7,I7,n7⟩:=q7;exact again I7 n7
  | brk=>obtain⟨σ7,H7,I7,q7⟩:=q7;exact⟨σ7,H7,I7.unpinned,q7⟩
  | ret v=>obtain⟨x7,σ7,H7,I7,r7,q7⟩:=q7;exact⟨x7,σ7,H7,I7.unpinned,r7,q7⟩
end
noncomputable abbrev R2:=V->V->Hp->VK->Prop
noncomputable def Yj (X:Cx)(f:Value->Value->Sem Value)(r:R2):Prop:=
 ∀(jM:Qb) (s:Shared) (σ:St) (H:Hp) (x y:V) (v u:Value) (Q:VK),Inv X jM σ H s->ZN x v->ZN y u->r x y H Q->
  xf (xB X.prog X.w) X.A (f v u) (EP X jM σ Q) X.xe s
noncomputable def UnR (X:Cx)(f:Value->Sem Value)(r:V->Hp->VK->Prop):Prop:=
 ∀(jM:Qb) (s:Shared) (σ:St) (H:Hp) (x:V) (v:Value) (Q:VK),Inv X jM σ H s->ZN x v->r x H Q->
  xf (xB X.prog X.w) X.A (f v) (EP X jM σ Q) X.xe s
noncomputable def WH (X:Cx)(f:Value)(r:List V->Hp->VK->Prop):Prop:=
 ∀(jM:Qb) (s:Shared) (σ:St) (H:Hp) (xs:List V) (us:List Value) (Q:VK),Inv X jM σ H s->ZG xs us->r xs H Q->
  xf (xB X.prog X.w) X.A (call f us) (EP X jM σ Q) X.xe s
noncomputable def WK (r:R2)(ta tb:TE):TE:=fun σ H Q=>ta σ H λx H1=>tb σ H1 λy H2=>r x y H2 Q
noncomputable def tUn (r:V->Hp->VK->Prop)(ta:TE):TE:=fun σ H Q=>ta σ H λx H1=>r x H1 Q
noncomputable def rI (C:Int->Int->Prop)(g:Int->Int->V):R2:=λx y H Q=>∃i j,x=.int i/\y=.int j/\C i j/\Q (g i j) H
noncomputable def VT (g:Int->Int->V):R2:=λx y H Q=>∃i j,x=.int i/\y=.int j/\Q (g i j) H
noncomputable def rU (g:Int->V):V->Hp->VK->Prop:=λx H Q=>∃i,x=.int i/\Q (g i) H
section
variable {X:Cx}{a b c:Expr}{ta tb tc:TE}{pos:Pos}
theorem binT (ha:PE X a ta)(hb:PE X b tb){σ:St}{R:V->V->Hp->Prop}(I:Inv X jM σ H s)
  (h:ta σ H λx H1=>tb σ H1 λy H2=>R x y H2) {f:Value->Value->Sem Value}
  (hf:∀v u s2 x y H2,Inv X jM σ H2 s2->ZN x v->ZN y u->R x y H2->xf (xB X.prog X.w) X.A (f v u) Q X.xe s2) :
  xf (xB X.prog X.w) X.A (eval a X.env) (λv s₁=>xf (xB X.prog X.w) X.A (eval b X.env) (λu s₂=>xf (xB X.prog X.w) X.A (f v u) Q X.xe s₂) X.xe s₁) X.xe s:=by
 refine ZI (ha jM s σ H _ I h) λv s1 ⟨x,H1,I1,r1,q1⟩=>?_;refine ZI (hb jM s1 σ H1 _ I1 q1) λu s2 ⟨y,H2,I2,r2,q2⟩=>?_;exact hf v u s2 x y H2 I2 r1 r2 q2
theorem Uu (ho:Yj X (binaryOp op) r)(ha:PE X a ta)(hb:PE X b tb):PE X (.BinOp a op b pos) (WK r ta tb):=by
 intro jM s σ H Q I h;exact wpAny_BinOp (binT ha hb I h λv u s2 x y H2 I2 rx ry q=>ho jM s2 σ H2 x y v u Q I2 rx ry q)
theorem Zp7 (ho:UnR X (unaryOp op) r)(ha:PE X a ta):PE X (.UnaryOp op a pos) (tUn r ta):=by
 intro jM s σ H Q I h;exact UnaryOp_ (ZI (ha jM s σ H _ I h) λv s1 ⟨x,H1,I1,r1,q1⟩=>ho jM s1 σ H1 x v Q I1 r1 q1)
theorem Bf {g:Int->Int->Int}
  (rule:∀(i j:Int) (t u:Tok) (s:Shared) (Q:xF) (E:xF),C i j->Q (.int (g i j) s.toks) { s with toks:=s.toks+1 }->xf (xB X.prog X.w) X.A (f (.int i t) (.int j u)) Q E s) :
  Yj X f (rI C λi j=>.int (g i j)):=by
 intro jM s σ H x y v u Q I rx ry h;obtain⟨i,j,rfl,rfl,hc,q⟩:=h;obtain⟨t,rfl⟩:=rx;obtain⟨t',rfl⟩:=ry;exact rule i j t t' s _ _ hc ⟨.int (g i j),H,I.tok _,⟨_,rfl⟩,q⟩
theorem opI0 {g:Int->Int->Int}
  (rule:∀(i j:Int) (t u:Tok) (s:Shared) (Q:xF) (E:xF),Q (.int (g i j) s.toks) { s with toks:=s.toks+1 }->xf (xB X.prog X.w) X.A (f (.int i t) (.int j u)) Q E s) :
  Yj X f (VT λi j=>.int (g i j)):=by
 intro jM s σ H x y v u Q I rx ry h;obtain⟨i,j,rfl,rfl,q⟩:=h;obtain⟨t,rfl⟩:=rx;obtain⟨t',rfl⟩:=ry;exact rule i j t t' s _ _ ⟨.int (g i j),H,I.tok _,⟨_,rfl⟩,q⟩
theorem opB0 {g:Int->Int->Bool}
  (rule:∀(i j:Int) (t u:Tok) (s:Shared) (Q:xF) (E:xF),Q (.bool (g i j)) s->xf (xB X.prog X.w) X.A (f (.int i t) (.int j u)) Q E s) :
  Yj X f (VT λi j=>.bl (g i j)):=by
 intro jM s σ H x y v u Q I rx ry h;obtain⟨i,j,rfl,rfl,q⟩:=h;obtain⟨t,rfl⟩:=rx;obtain⟨t',rfl⟩:=ry;exact rule i j t t' s _ _ ⟨.bl (g i j),H,I,rfl,q⟩
noncomputable def CDiv (i j:Int):Prop:=0<j/\j<1073741824
noncomputable def CPow (i j:Int):Prop:=0<=j/\j<=1000000/\i.natAbs<2 ^ 64
noncomputable def CMul (i j:Int):Prop:=(-(2 ^ 64)<i/\i<2 ^ 64)∨(-(2 ^ 64)<j/\j<2 ^ 64)
theorem CMul.ok (h:CMul i j):IntMulOk i j:=by
 rcases h with⟨h1,h2⟩ | ⟨h1,h2⟩
 ·exact .of_left (intBits_le_64 h1 h2)
 ·exact .of_right (intBits_le_64 h1 h2)
theorem Zhp:Yj X (binaryOp .Add) (VT λi j=>.int (i+j)):=opI0 λ_ _ _ _ _ _ _ q=>add_int q
theorem ZoX:Yj X (binaryOp .Sub) (VT λi j=>.int (i-j)):=opI0 λ_ _ _ _ _ _ _ q=>sub_int q
theorem Zhq:Yj X (binaryOp .Mult) (rI CMul λi j=>.int (i*j)):=Bf λ_ _ _ _ _ _ _ hc q=>mul_int q hc.ok
theorem ZmW:Yj X (binaryOp .FloorDiv) (rI CDiv λi j=>.int (i / j)):=Bf λi j _ _ _ _ _ hc q=>by
 have h1:=hc.1;have h2:=hc.2;exact floordiv_int (by omega) (by rw[qaQ i (by omega)];exact q) (.inl (PyProof.noPylong_small (by omega)))
theorem Zfm:Yj X (binaryOp .Mod) (rI (λ_ j=>0<j) λi j=>.int (i % j)):=Bf λi j _ _ _ _ _ hc q=>by
 exact mod_int' (by omega) (by rw[Int.fmod_eq_emod_of_nonneg i (by omega)];exact q)
theorem ZmX:Yj X (binaryOp .Mod) (rI (λ_ j=>j≠0) λi j=>.int (i.fmod j)):=Bf λ_ _ _ _ _ _ _ hc q=>mod_int' hc q
theorem ZoY:Yj X (binaryOp .Pow) (rI CPow λi j=>.int (i ^ j.toNat)):=Bf λ_ _ _ _ _ _ _ hc q=>pow_int_small hc.1 hc.2.1 hc.2.2 q
theorem unI {g:Int->Int}
  (rule:∀(i:Int) (t:Tok) (s:Shared) (Q:xF) (E:xF),Q (.int (g i) s.toks) { s with toks:=s.toks+1 }->xf (xB X.prog X.w) X.A (f (.int i t)) Q E s) :
  UnR X f (rU λi=>.int (g i)):=by
 intro jM s σ H x v Q I rx h;obtain⟨i,rfl,q⟩:=h;obtain⟨t,rfl⟩:=rx;exact rule i t s _ _ ⟨.int (g i),H,I.tok _,⟨_,rfl⟩,q⟩
theorem ZoZ:UnR X (unaryOp .USub) (rU λi=>.int (-i)):=unI λ_ _ _ _ _ q=>neg_int q
end
section
variable {X:Cx}{a b c:Expr}{ta tb tc:TE}{pos:Pos}
theorem ZkD {σ:St}(I:Inv X jM σ H s)(q:Q (.bl k) H)(e:k=k'):EP X jM σ Q (.bool k') s:=by
 subst e;exact⟨.bl k,H,I,rfl,q⟩
theorem ZkE:Yj X (xk .Lt) (VT λi j=>.bl (decide (i<j))):=opB0 λ_ _ _ _ _ _ _ q=>lt_int q
theorem Zp8:Yj X (xk .LtE) (VT λi j=>.bl (decide (i<=j))):=opB0 λ_ _ _ _ _ _ _ q=>le_int q
theorem Zok:Yj X (xk .Gt) (VT λi j=>.bl (decide (j<i))):=opB0 λ_ _ _ _ _ _ _ q=>gt_int q
theorem Zp9:Yj X (xk .GtE) (VT λi j=>.bl (decide (j<=i))):=opB0 λ_ _ _ _ _ _ _ q=>ge_int q
theorem Zo0:Yj X (xk .Is) (λx y H Q=>y=.non/\Q (.bl (decide (x=.non))) H):=by
 intro jM s σ H x y v u Q I rx ry h;obtain⟨rfl,q⟩:=h
 cases ry
 refine is_none_gen (ZkD I q ?_)
 cases x <;> first
  | (rfl)
  | (obtain⟨t,rfl⟩:=rx;rfl)
theorem ZmY:Yj X (xk .IsNot) (λx y H Q=>y=.non/\Q (.bl (!decide (x=.non))) H):=by
 intro jM s σ H x y v u Q I rx ry h;obtain⟨rfl,q⟩:=h
 cases ry
 refine isnot_none_gen (ZkD I q ?_)
 cases x <;> first
  | (rfl)
  | (obtain⟨t,rfl⟩:=rx;rfl)
theorem Yj.or (h:Yj X f r)(h':Yj X f r'):Yj X f (λx y H Q=>r x y H Q∨r' x y H Q):=by
 intro jM s σ H x y v u Q I rx ry q;rcases q with q | q
 ·exact h jM s σ H x y v u Q I rx ry q
 ·exact h' jM s σ H x y v u Q I rx ry q
theorem Zdu (b:Expr)(h:op≠.In:=by decide)(h2:op≠.NotIn:=by decide):behindInMarks op b=false:=by
 have e1:(op==CmpOp.In)=false:=by grind
 have e2:(op==CmpOp.NotIn)=false:=by grind
 cases b <;> simp[behindInMarks,e1,e2]
theorem ZmZ (ho:Yj X (xk op) r)(ha:PE X a ta)(hb:PE X b tb)(hm:behindInMarks op b=false):PE X (.Compare a [op] [b] pos) (WK r ta tb):=by
 intro jM s σ H Q I h;exact wpAny_Compare1 (binT ha hb I h λv u s2 x y H2 I2 rx ry q=>ho jM s2 σ H2 x y v u Q I2 rx ry q) hm
noncomputable def Zqa (t:TE):TT:=fun σ H Q=>t σ H λx H'=>∃k,x=.bl k/\Q k H'
theorem ZbU (ho:Yj X (xk op) r)(ha:PE X a ta)(hb:PE X b tb)(hm:behindInMarks op b=false):PT X (.Compare a [op] [b] pos) (Zqa (WK r ta tb)):=by
 intro jM s σ H Q I h;refine wpAny_isTrue_Compare1 (ZI (ha jM s σ H _ I h) λv s1 ⟨x,H1,I1,r1,q1⟩=>ZI (hb jM s1 σ H1 _ I1 q1) λu s2 ⟨y,H2,I2,r2,q2⟩=>
  ZI (ho jM s2 σ H2 x y v u _ I2 r1 r2 q2) λc s3 ⟨z,H3,I3,r3,k,e,q3⟩=>?_) hm
 subst e
 cases r3
 exact wpAny_truthy_bool ⟨H3,I3,q3⟩
theorem Zdv:(xg:Nat)<2 ^ 63:=by decide
theorem VM (r:ZG [x] us):∃u,us=[u]/\ZN x u:=by
 cases r with
 | cons r1 r2=>cases r2;exact⟨_,rfl,r1⟩
theorem ZkF (r:ZG [x,y] us):∃u w',us=[u,w']/\ZN x u/\ZN y w':=by
 cases r with
 | cons r1 r2=>
  cases r2 with
  | cons r3 r4=>cases r4;exact⟨_,_,rfl,r1,r3⟩
theorem Zjl (hc:X.calm=true):WH X (.builtin "max") (λxs H Q=>∃i j,xs=[.int i,.int j]/\Q (.int (if j > i then j else i)) H):=by
 intro jM s σ H xs us Q I r h;obtain⟨i,j,rfl,q⟩:=h;obtain⟨u,w',rfl,⟨t,rfl⟩,⟨t',rfl⟩⟩:=ZkF r;refine max_two_ints (I.ok.hd hc) λh' tk k=>⟨_,H,I.kept k,?_,q⟩;by_cases hj:j > i
 ·rw[if_pos hj,if_pos hj];exact⟨_,rfl⟩
 ·rw[if_neg hj,if_neg hj];exact⟨_,rfl⟩
theorem Zjm (hc:X.calm=true):WH X (.builtin "min") (λxs H Q=>∃i j,xs=[.int i,.int j]/\Q (.int (if j<i then j else i)) H):=by
 intro jM s σ H xs us Q I r h;obtain⟨i,j,rfl,q⟩:=h;obtain⟨u,w',rfl,⟨t,rfl⟩,⟨t',rfl⟩⟩:=ZkF r;refine min_two_ints (I.ok.hd hc) λh' tk k=>⟨_,H,I.kept k,?_,q⟩;by_cases hj:j<i
 ·rw[if_pos hj,if_pos hj];exact⟨_,rfl⟩
 ·rw[if_neg hj,if_neg hj];exact⟨_,rfl⟩
end
structure ObjM (h:Heap)(x dx C:Addr)(mA:Str->Option Value):Prop where
 obj:h.get? x=some (zO C dx)
 ns:h.Ns1 dx mA
 ne:dx≠x
theorem Zjn {h:Heap}(n:h.Ns1 dx mA):∃od,h.get? dx=some od/\∀name,qaC name od=some (mA name):=by
 obtain⟨o,es,ep,ho,hd,hk,_,hm⟩:=n;refine⟨o,ho,λname=>?_⟩;have e:=hm name;unfold nsFind findBy at e;rw[<-Array.find?_toList]at e;unfold qaC;rw[hd];dsimp only;split
 ·simp_all
 ·rename_i q
  rw[q]at e;have a:es.toList.any (·.refKey)=false:=by
   rw[qac];intro y hy;obtain⟨z,t,hkey⟩:=hk y (Array.mem_toList_iff.mp hy);simp[DictEntry.refKey,hkey]
  grind
theorem ObjM.look (I:ObjM h x dx C mA):∃od,PySem.W.InstAt h x (zO C dx) C (some od)/\∀name,qaC name od=some (mA name):=
 let ⟨od,ho,hl⟩:=Zjn I.ns
 ⟨od,⟨I.obj,rfl,rfl,ho⟩,hl⟩
section
variable {prog:xD}{w:World}{A:xE}{E:xF}{s:Shared}{K:qd}{x dx C f:Addr}{mA:Str->Option Value}{name:Str}{v:Value}
theorem Zm0 (X:K.In s.heap)(I:ObjM s.heap x dx C mA)(hg:qan K C name=true)(hh:qaU K C=true)
  (ha:zD K (.ref C) name=some none) (hv:mA name=some v) (hv':PySem.W.handedIn v=true) (h:Q v { s with toks:=s.toks+1 }) :
  xf (xB prog w) A (getAttr (.ref x) name expr) Q E s:=by
 obtain⟨od,J,hl⟩:=I.look;exact PySem.W.get_value X J (qaz hg).1 (PySem.W.findObj_own hh ha rfl (by rw[hl,hv])) hv' h
theorem ZkG (X:K.In s.heap)(I:ObjM s.heap x dx C mA)(hg:qan K C name=true)
  (hf:zD K (.ref C) name=some (some (.ref f))) (ht:qbZ K (.ref f)=true) (hv:mA name=none) (h:Q (.ref f,[.ref x]) s) :
  xf (xB prog w) A (getMethod (.ref x) name pl) Q E s:=by
 obtain⟨od,J,hl⟩:=I.look;exact PySem.W.method_fn X J (qaz hg).1 (qaz hg).2 hf (beq_iff_eq.mp ht) (by show(qaC name od).map (·.isSome)=some false;simp_all) h
theorem Zm1 (X:K.In s.heap)(I:ObjM s.heap x dx C mA)
  (hs:zD K (.ref C) "__setattr__" = some (some (.builtin "object.__setattr__"))) (hp:PySem.W.plainOver K C=true) (ht:qbq K C name=some none) (hh:qaU K C=true)
  (hw:qa2 mA ns) (hsz:ns.length<=xg)
  (h:∀h',ObjM h' x dx C (λy=>if y=name then some v else mA y)->qa3 dx s.heap h'->Q () { s with heap:=h',toks:=s.toks+2 }) :
  xf (xB prog w) A (setAttr (.ref x) name v) Q E s:=by
 obtain⟨od,J,hl⟩:=I.look;refine PySem.W.set_plain X J hs (PySem.W.osa_open X J hp ht λb=>?_);obtain⟨cd,hc,hd'⟩:=PySem.W.any_some hh;have hx:=I.obj;refine xa (xb (xa (xa (wpAny_loadPart hx (xa (PySem.W.Looks.here (PySem.W.looks_clsIn X hc) ?_))))));rw[hd'];refine xb (xa (xb (xa ?_)));refine wpAny_nsSet1 I.ns λh' hn2 hs2=>?_;obtain⟨oD,esD,epD,hoD,hdD,hcD⟩:=hn2.count (qa2.cons name v hw);refine xa (wpAny_lookBehind hoD (by rw[hdD];exact pastItsLine_dict (qu hcD (by grind))) ?_);exact xb (h _ ⟨(hs2.2 _ (qJ I.ne)).trans I.obj,hn2,I.ne⟩ hs2)
theorem ZkH (X:K.In s.heap)(hm:PySem.W.makesIn K C=true)
  (hi:zD K (.ref C) "__init__" = some (some (.ref f))) (hf:PySem.W.typeIn K (.ref f)=some (.type "function"))
  (h:xo (xB prog w) (A.under (.builtin "type.__call__" ⟨.ref C::vs,kw⟩)) (.call (.ref f) ⟨.ref (s.heap.objs.size+1)::vs,kw⟩) (PySem.W.InitBack (s.heap.objs.size+1) R)
   { s with heap:=(s.heap.push zH).push (zO C s.heap.objs.size) }) :
  xo (xB prog w) A (.call (.ref C) ⟨vs,kw⟩) R s:=by
 exact PySem.W.make_core (PySem.W.makes_of X hm) (PySem.W.looks_findIn X hi) (λself=>PySem.W.bind_fn X self hf) (.inl rfl) h
end
noncomputable def YQ (f:Str)(v:V):List (Str×V)->List (Str×V)
 | []=>[(f,v)]
 | (g,x)::r=>if g=f then (g,v)::r else (g,x)::YQ f v r
theorem ZcN (f g:Str)(v:V):∀fs:List (Str×V),(YQ f v fs).lookup g=if g=f then some v else fs.lookup g
 | []=>by
  show qaG g [(f,v)]=_
  grind
 | (k,x)::r=>by
  have ih:=ZcN f g v r;rw[show YQ f v ((k,x)::r)=(if k=f then (k,v)::r else (k,x)::YQ f v r)from rfl]
  grind
theorem Zcx (f:Str)(v:V):∀fs:List (Str×V),f∈(YQ f v fs).map (·.1)/\∀g,g∈fs.map (·.1)->g∈(YQ f v fs).map (·.1)
 | []=>⟨by simp[YQ],λg h=>by simp at h⟩
 | (k,x)::r=>by
  obtain⟨i1,i2⟩:=Zcx f v r;rw[show YQ f v ((k,x)::r)=(if k=f then (k,v)::r else (k,x)::YQ f v r)from rfl]
  grind
theorem ZcO (f:Str)(v:V):∀fs:List (Str×V),(YQ f v fs).length<=fs.length+1
 | []=>by simp[YQ]
 | (k,x)::r=>by
  have ih:=ZcO f v r;rw[show YQ f v ((k,x)::r)=(if k=f then (k,v)::r else (k,x)::YQ f v r)from rfl]
  grind
theorem jC (r:UA (some v) o):∃u,o=some u/\ZN v u:=by
 cases o with
 | none=>exact(show False from r).elim
 | some u=>exact⟨u,rfl,r⟩
theorem jD (r:UA none o):o=none:=by
 cases o with
 | none=>rfl
 | some u=>exact(show False from r).elim
theorem Zjo (r:ZN v u):PySem.W.handedIn u=true:=by
 cases v with
 | non=>cases (show u=zk from r);rfl
 | bl b=>cases (show u=zh b from r);rfl
 | int i=>obtain⟨t,e⟩:=(show ∃t,u=qaH i t from r);cases e;rfl
 | str x=>obtain⟨t,e⟩:=(show ∃t,u=qbo x t from r);cases e;rfl
 | byt b=>obtain⟨t,e⟩:=(show ∃t,u=Value.bytes b t from r);cases e;rfl
 | flt b=>obtain⟨t,e⟩:=(show ∃t,u=qb8 b t from r);cases e;rfl
 | ref a=>cases (show u=qC a from r);rfl
 | ty n=>cases (show u=qbE n from r);rfl
section
variable {P:xD}{w:World}{H H':Hp}{h h':Heap}{a C dx:Addr}{fs fs':List (Str×V)}
theorem Zdb (hok:YC P w H h)(e:H a=some (.ins C dx fs)):∃mA,ObjM h a dx C mA/\(∀f,UA (fs.lookup f) (mA f))/\qa2 mA (fs.map (·.1))/\fs.length<=1000/\H dx=some (.own a):=by
 obtain⟨d,z,ne,ob,mA,n,r,q⟩:=(show YO P w H h a (.ins C dx fs)from hok a _ e);exact⟨mA,⟨ob,n,ne⟩,r,q,z,d⟩
end
structure Cls (K:qd)(C:Addr):Prop where
 pg:qan K C Str.empty=true
 hd:qaU K C=true
 po:PySem.W.plainOver K C=true
 sa:zD K (.ref C) "__setattr__" = some (some (.builtin "object.__setattr__"))
theorem Cls.get {K:qd}(c:Cls K C)(f:Str):qan K C f=true:=c.pg
noncomputable def Xl (K:qd)(C:Addr)(f:Str):Prop:=zD K (.ref C) f=some none
theorem Xl.taker {K:qd}(n:Xl K C f):qbq K C f=some none:=by
 unfold qbq;rw[show zD K (.ref C) f=some none from n];rfl
structure Meth (K:qd)(C:Addr)(m:Str)(f:Addr):Prop where
 at_:zD K (.ref C) m=some (some (.ref f))
 fn:qbZ K (.ref f)=true
 kp:zE K (.ref f)=true
section
variable {X:Cx}{jM:Qb}{σ:St}{H:Hp}{s:Shared}{a C dx:Addr}{fs:List (Str×V)}{f:Str}{v:V}{A:xE}{E:xF}
theorem Zhr (I:Inv X jM σ H s)(e:H a=some (.ins C dx fs))(c:Cls X.K C)(n:Xl X.K C f)(l:fs.lookup f=some v)
  (h:∀u s',Inv X jM σ H s'->ZN v u->Q u s'):xf (xB X.prog X.w) A (getAttr (.ref a) f b) Q E s:=by
 obtain⟨mA,O,r,_,_,_⟩:=Zdb I.hok e;obtain⟨u,hu,ru⟩:=jC (by rw[<-l];exact r f);exact Zm0 I.kIn O (c.get f) c.hd n hu (Zjo ru) (h u _ (I.tok _) ru)
theorem Zdw (I:Inv X jM σ H s)(e:H a=some (.ins C dx fs))(c:Cls X.K C)(k:Meth X.K C m g)(l:fs.lookup m=none)
  (h:Q (.ref g,[.ref a]) s):xf (xB X.prog X.w) A (getMethod (.ref a) m pl) Q E s:=by
 obtain⟨mA,O,r,_,_,_⟩:=Zdb I.hok e;have hn:=jD (by rw[<-l];exact r m);exact ZkG I.kIn O (c.get m) k.at_ k.fn hn h
theorem Zhs (I:Inv X jM σ H s)(e:H a=some (.ins C dx fs))(c:Cls X.K C)(n:Xl X.K C f)(hl:fs.length<1000)(ry:ZN y u)
  (h:∀s',Inv X jM σ (Zp H a (.ins C dx (YQ f y fs))) s'->Q () s'):xf (xB X.prog X.w) A (setAttr (.ref a) f u) Q E s:=by
 obtain⟨mA,O,r,wi,_,ho⟩:=Zdb I.hok e;have hz:(fs.map (·.1)).length<=xg:=by rw[qf,sizeLine_eq];omega
 refine Zm1 I.kIn O c.sa c.po n.taker c.hd wi hz λh' O' sb=>h _ ?_;have hd:∃o,h'.get? dx=some o:=let ⟨o,_,_,e',_⟩:=O'.ns;⟨o,e'⟩;refine I.write (x:=a) (e:=dx) (by rw[e];exact zL) (.inr ho) (λb q hb z=>(sb.2 b hb).trans z) hd ?_;refine⟨by rw[Zu O.ne];exact ho,?_,O.ne,O'.obj,_,O'.ns,λg=>?_,λg hg=>?_⟩
 ·have:=ZcO f y fs;omega
 ·rw[ZcN]
  by_cases q:g=f
  ·rw[if_pos q,if_pos q];exact ry
  ·simp_all
 ·by_cases q:g=f
  ·rw[q];exact(Zcx f y fs).1
  ·refine(Zcx f y fs).2 g (wi g λz=>hg ?_)
   grind
theorem jI (I:Inv X jM σ H s):Inv X jM σ (Zp (Zp H s.heap.objs.size (.own (s.heap.objs.size+1))) (s.heap.objs.size+1) (.ins C s.heap.objs.size []))
  { s with heap:=(s.heap.push zH).push (zO C s.heap.objs.size) }:=by
 have e1:(s.heap.push zH).get? s.heap.objs.size=some zH:=qE s.heap rfl;have e2:((s.heap.push zH).push (zO C s.heap.objs.size)).get? (s.heap.objs.size+1)=some (zO C s.heap.objs.size):=by
  have:=qE (s.heap.push zH) (o:=zO C s.heap.objs.size) rfl;simp_all
 have e3:(s.heap.push zH).Ns s.heap.objs.size (λ_=>none):=⟨zH,#[],_,e1,rfl,(λe he=>absurd he (by simp)),λ_=>rfl⟩;have I1:=I.laid (o:=.own (s.heap.objs.size+1)) (t':=s.toks) (λb u q=>qj _ q) (qk _) ⟨_,e1⟩;refine I1.laid (λb u q=>qj _ q) (qb0 (Heap.size_push _ _)) ?_;have ne:s.heap.objs.size≠s.heap.objs.size+1:=qL (yg _);refine⟨by rw[Zu ne,Z1],zv _,ne,e2,λ_=>none,(Heap.Ns1.of_empty e3).at λo q=>qj _ q,λ_=>zL,λy hy=>absurd rfl hy⟩
theorem Zm2 (hb:xq e f env (eval e env)=eval e env)
  (h:xf (xB prog w) A (eval e env) (λo s₁=>xf (xB prog w) A (getAttr o f true) Q E s₁) E s):xf (xB prog w) A (eval (.Attribute e f pos) env) Q E s:=
 Attribute_any_ h (by rw[arm_eval_Attribute,hb])
end
noncomputable def tFld (K:qd)(ta:TE)(f:Str):TE:=fun σ H Q=>ta σ H λx H1=>∃a C dx fs v,x=.ref a/\H1 a=some (.ins C dx fs)/\Cls K C/\Xl K C f/\fs.lookup f=some v/\Q v H1
noncomputable def sFld (K:qd)(ta tv:TE)(f:Str):TS:=λD σ H=>tv σ H λy H1=>ta σ H1 λx H2=>∃a C dx fs,x=.ref a/\H2 a=some (.ins C dx fs)/\Cls K C/\Xl K C f/\fs.length<1000/\
 D.nx σ (Zp H2 a (.ins C dx (YQ f y fs)))
section
variable {X:Cx}{o e value:Expr}{f:Str}{pos pos' tpos:Pos}{ta tv:TE}
theorem U0 (he:PE X e ta)(hb:xq e f X.env (eval e X.env)=eval e X.env):PE X (.Attribute e f pos) (tFld X.K ta f):=by
 intro jM s σ H Q I h;refine Zm2 hb (ZI (he jM s σ H _ I h) λu s1 ⟨x,H1,I1,rx,a,C,dx,fs,v,ex,ea,c,n,l,q⟩=>?_);subst ex;obtain rfl:u=qC a:=rx;exact Zhr I1 ea c n l λu' s2 I2 ru=>⟨v,H1,I2,ru,q⟩
theorem BB (ha:PE X o ta)(hv:PE X value tv)(hs:xr value (some (.Attribute o f pos')) pos.line X.env=pure false):PS X (.Assign [.Attribute o f pos'] value pos) (sFld X.K ta tv f):=by
 intro jM s σ H D I h;refine plainObj_wpAny_Assign_Attribute (ZI (hv jM s σ H _ I h) λu s1 ⟨y,H1,I1,ry,q⟩=>ZI (ha jM s1 σ H1 _ I1 q) λov s2 ⟨x,H2,I2,rx,a,C,dx,fs,ex,ea,c,n,l,q2⟩=>?_) hs;subst ex;obtain rfl:ov=qC a:=rx;exact Zhs I2 ea c n l ry λs3 I3=>⟨σ,_,I3,q2⟩
end
section
variable {X:Cx}{jM:Qb}{σ:St}{H:Hp}{s:Shared}{A:xE}{E:xF}{Q:xF}{c:Value}{b:Bool}
inductive TyOf (K:qd)(H:Hp):V->Value->Prop where
 | non:TyOf K H .non (.type "NoneType")
 | bl (x:Bool):TyOf K H (.bl x) (.type "bool")
 | int (i:Int):TyOf K H (.int i) (.type "int")
 | str (x:Str):TyOf K H (.str x) (.type "str")
 | flt (x:UInt64):TyOf K H (.flt x) (.type "float")
 | lst {a:Addr} {xs:List V} (e:H a=some (.lst xs)):TyOf K H (.ref a) (.type "list")
 | frz {a:Addr} {o:Obj} {xs:List V} (e:H a=some (.frz o (.lst xs))):TyOf K H (.ref a) (.type "list")
 | tup {a:Addr} {xs:List V} (e:H a=some (.tup xs)):TyOf K H (.ref a) (.type "tuple")
 | dK {a:Addr} {kvs:List (Yc×V)} (e:H a=some (.dK kvs)):TyOf K H (.ref a) (.type "dict")
 | dT {a:Addr} {kvs:List (List Yc×V)} (e:H a=some (.dT kvs)):TyOf K H (.ref a) (.type "dict")
 | ins {a C dx:Addr} {fs:List (Str×V)} (e:H a=some (.ins C dx fs)) (cl:Cls K C) (ha:zD K (.ref C) "__class__" = some (some (.builtin "object.__class__")))
   (hn:PySem.W.specialIn K (.builtin "object.__class__") "__get__" = some (some (.builtin "getset_descriptor.__get__"))) (htk:PySem.W.takesIn K (.builtin "object.__class__")=some true)
   (hm:PySem.W.mroIn K C (.type "object")=some true):TyOf K H (.ref a) (.ref C)
theorem Zjp (I:Inv X jM σ H s)(rx:ZN x u)(ty:TyOf X.K H x t)(e:PySem.W.kitOne X.K t c=some b)(h:∀tk,Q (.bool b) { s with toks:=tk }) :
  xf (xB X.prog X.w) A (call (.builtin "isinstance") [u,c]) Q E s:=by
 cases ty with
 | non=>cases (show u=zk from rx);exact zp PySem.W.kitx_none I.kIn zL e (λz=>nomatch z) h
 | bl y=>cases (show u=zh y from rx);exact zp PySem.W.kitx_bool I.kIn zL e (λz=>nomatch z) h
 | int i=>obtain⟨t,q⟩:=(show ∃t,u=qaH i t from rx);cases q;exact zp PySem.W.kitx_int I.kIn zL e (λz=>nomatch z) h
 | str y=>obtain⟨t,q⟩:=(show ∃t,u=qbo y t from rx);cases q;exact zp PySem.W.kitx_str I.kIn zL e (λz=>nomatch z) h
 | flt y=>obtain⟨t,q⟩:=(show ∃t,u=qb8 y t from rx);cases q;exact zp PySem.W.kitx_float I.kIn zL e (λz=>nomatch z) h
 | @lst a xs ea=>
  cases (show u=qC a from rx)
  obtain⟨_,_,n,_,h1⟩:=(show YO X.prog X.w H s.heap a (.lst xs)from I.hok a _ ea);exact zp PySem.W.kitx_list I.kIn ⟨_,h1,rfl⟩ e (λz=>nomatch z) h
 | @frz a ob xs ea=>
  cases (show u=qC a from rx)
  obtain⟨_,_,_,n,_,h1⟩:=(show YO X.prog X.w H s.heap a (.frz ob (.lst xs))from I.hok a _ ea);exact zp PySem.W.kitx_list I.kIn ⟨_,h1,rfl⟩ e (λz=>nomatch z) h
 | @tup a xs ea=>
  cases (show u=qC a from rx)
  obtain⟨_,_,_,p⟩:=(show YO X.prog X.w H s.heap a (.tup xs)from I.hok a _ ea);obtain⟨o,h1,h2,_⟩:=p;exact zp PySem.W.kitx_tuple I.kIn ⟨o,h1,h2⟩ e (λz=>nomatch z) h
 | @dK a kvs ea=>
  cases (show u=qC a from rx)
  obtain⟨_,_,vs,_,p⟩:=(show YO X.prog X.w H s.heap a (.dK kvs)from I.hok a _ ea);obtain⟨o,es,ep,h1,h2,_⟩:=p;exact zp PySem.W.kitx_dict I.kIn ⟨o,h1,h2.1⟩ e (λz=>nomatch z) h
 | @dT a kvs ea=>
  cases (show u=qC a from rx)
  obtain⟨_,_,xs,_,o,es,ep,h1,h2,_⟩:=(show YO X.prog X.w H s.heap a (.dT kvs)from I.hok a _ ea);exact zp PySem.W.kitx_dict I.kIn ⟨o,h1,h2.1⟩ e (λz=>nomatch z) h
 | @ins a C dx fs ea cl ha hn htk hm=>
  cases (show u=qC a from rx)
  obtain⟨mA,O,_⟩:=Zdb I.hok ea;obtain⟨od,J,_⟩:=O.look;exact zp (PySem.W.kitx_own (cl.get _) cl.hd ha hn htk hm) I.kIn J e (λz=>nomatch z) h
end
structure Room (k:Nat)(A:xE):Prop where
 hd:A.handled=none
 dp:A.depth+3*k+5<recursionLimit
 un:A.units+16*k+200<cLine
 gd:A.guards=some []
theorem Room.mono (r:Room k A)(h:j<=k):Room j A:=⟨r.hd,by have:=r.dp;omega,by have:=r.un;omega,r.gd⟩
theorem Room.deeper (r:Room (k+1) A)(env:Env):Room k (A.deeper env):=
 ⟨r.hd,by have:=r.dp;show A.depth+1+3*k+5<_;omega,by have:=r.un;show A.units+3+16*k+200<_;omega,r.gd⟩
theorem Zht {A:xE}:(A.under (.builtin "type.__call__" ⟨.ref C::us,kw⟩)).depth=A.depth+1:=by
 rfl
theorem Zhu {A:xE}:(A.under (.builtin "type.__call__" ⟨.ref C::us,kw⟩)).units=A.units+1:=by
 rfl
theorem Room.make (r:Room (k+1) A)(C:Addr)(us:List Value)(kw:List (Str×Value)):Room k (A.under (.builtin "type.__call__" ⟨.ref C::us,kw⟩)):=
 ⟨r.hd,by have:=r.dp;rw[Zht];omega,by have:=r.un;rw[Zhu];omega,by first | exact r.gd | (rfl)⟩
theorem Room.depth (r:Room k A):A.depth<recursionLimit:=by have:=r.dp;omega
theorem Room.units (r:Room k A):A.units+64<cLine:=by have:=r.un;omega
theorem Room.units0 (r:Room k A):A.units<cLine:=by have:=r.un;omega
noncomputable def V9:TA:=λ_ H Q=>Q [] H
noncomputable def Uv (ta:TE)(tr:TA):TA:=fun σ H Q=>ta σ H λx H1=>tr σ H1 λxs H2=>Q (x::xs) H2
section
variable {X:Cx}{e:Expr}{es:List Expr}{te:TE}{t:TA}{pos:Pos}
theorem X7:PA X [] V9:=λ_ _ _ _ H Q I h=>Calls.spliced_nil ⟨[],H,I,.nil,h⟩
theorem XB (ha:PE X e te)(hr:PA X es t)(hs:xh (e::es) X.env=(false,eval e X.env)::xh es X.env:=by rfl):PA X (e::es) (Uv te t):=by
 intro pos jM s σ H Q I h;rw[hs];refine Calls.spliced_cons (ZI (ha jM s σ H _ I h) λu s1 ⟨x,H1,I1,r1,q1⟩=>?_);exact ZI (hr pos jM s1 σ H1 _ I1 q1) λus s2 ⟨xs,H2,I2,r2,q2⟩=>⟨x::xs,H2,I2,.cons r1 r2,q2⟩
noncomputable def tTup (t:TA):TE:=fun σ H Q=>t σ H λxs H1=>xs.length<=xg/\∀p,H1 p=none->Q (.ref p) (Zp H1 p (.tup xs))
noncomputable def tLst (t:TA):TE:=fun σ H Q=>t σ H λxs H1=>xs.length<=xg/\∀p,H1 p=none->Q (.ref p) (Zp H1 p (.lst xs))
theorem Zo1 (h:PA X es t):PE X (.Tuple es x1 pos) (tTup t):=by
 intro jM s σ H Q I hq;refine wpAny_Tuple_spliced (ZI (h pos jM s σ H _ I hq) λus s1 ⟨xs,H1,I1,r,z,q⟩=>⟨by rw[<-r.length];exact z,?_⟩);have hf:=I1.hok.fresh (qk _);refine⟨.ref s1.heap.objs.size,Zp H1 s1.heap.objs.size (.tup xs),I1.laid (λb u e=>qj _ e) (qk _) ?_,rfl,q _ hf⟩;exact⟨z,us,r,⟨_,qE _ rfl,rfl,_,rfl⟩⟩
theorem ZkI (h:PA X es t):PE X (.List es pos) (tLst t):=by
 intro jM s σ H Q I hq;refine wpAny_List_spliced (ZI (h pos jM s σ H _ I hq) λus s1 ⟨xs,H1,I1,r,z,q⟩=>⟨by rw[<-r.length];exact z,?_⟩);have hf:=I1.hok.fresh (qk _);refine⟨.ref s1.heap.objs.size,Zp H1 s1.heap.objs.size (.lst xs),I1.laid (λb u e=>qj _ e) (qk _) ?_,rfl,q _ hf⟩;exact⟨z,us,0,r,qE _ rfl⟩
end
noncomputable abbrev Sp:=List V->Hp->VK->XK->Prop
noncomputable abbrev UL:=List Env->Hp->Shared->XK->xF
structure Env0 (P:xD)(w:World)(K:qd)(mg:Str->Option Value)(base:Heap)(A:xE)(outer:List Env)(s:Shared)(H:Hp):Prop where
 frames:A.frames=some outer
 mod:Mod K mg base
 bs:∀b o,base.get? b=some o->s.heap.get? b=some o/\H b=none
 bsz:base.objs.size<=s.heap.objs.size
 funs:s.heap.FunFrames base outer
 frf:∀b∈Wx outer,H b=none
 hok:YC P w H s.heap
 bare:AllBare s.gens
noncomputable def CE (outer:List Env)(P:xD)(w:World)(H:Hp)(s:Shared)(Q:VK)(u:Value)(s':Shared):Prop:=
 ∃v H',s'.os=s.os/\AllBare s'.gens/\Un (Wx outer) [] H H' s.heap s'.heap/\YC P w H' s'.heap/\ZN v u/\Q v H'
noncomputable def CR (CX:UL)(outer:List Env)(P:xD)(w:World)(H:Hp)(s:Shared)(Q:VK)(E:XK)(r:Result)(s':Shared):Prop:=
 match r with
 | .ok (.ret u)=>CE outer P w H s Q u s'
 | .ok _=>False
 | .error e=>CX outer H s E e s'
structure FnOk (P:xD)(w:World)(K:qd)(mg:Str->Option Value)(base:Heap)(CX:UL)(k:Nat)(f:Addr)(fd:xC)(ps:List Str)(sp:Sp):Prop where
 len:∀vs H Q E,sp vs H Q E->vs.length=ps.length
 run:∀(A:xE) (outer:List Env) (s:Shared) (H:Hp) (args:Args) (us:List Value) (vs:List V) (Q:VK) (E:XK),Room k A->Env0 P w K mg base A outer s H->BindsTo s fd args (ps.zip us)->ZG vs us->sp vs H Q E->
  xo (xB P w) A (.call (.ref f) args) (CR CX outer P w H s Q E) s
theorem FnOk.mono {K:qd}(F:FnOk P w K mg base CX j f fd ps sp)(h:j<=k) :
  FnOk P w K mg base CX k f fd ps sp:=⟨F.len,λA outer s H args us vs Q E hr=>F.run A outer s H args us vs Q E (hr.mono h)⟩
theorem FnOk.imp {K:qd}(F:FnOk P w K mg base CX k f fd ps sp)
  (h:∀vs H Q E,sp' vs H Q E->sp vs H Q E):FnOk P w K mg base CX k f fd ps sp':=
 ⟨λvs H Q E q=>F.len vs H Q E (h _ _ _ _ q),λA outer s H args us vs Q E hr he hb hv hs=>F.run A outer s H args us vs Q E hr he hb hv (h _ _ _ _ hs)⟩
theorem Env0.make {K:qd}(e:Env0 P w K mg base A outer s H)(C:Addr)(us:List Value)(kw:List (Str×Value)) :
  Env0 P w K mg base (A.under (.builtin "type.__call__" ⟨.ref C::us,kw⟩)) outer s H:=⟨by first | exact e.frames | (rfl),e.mod,e.bs,e.bsz,e.funs,e.frf,e.hok,e.bare⟩
section
variable {X:Cx}{jM:Qb}{σ:St}{H:Hp}{s s':Shared}
theorem Inv.env0 (I:Inv X jM σ H s):Env0 X.prog X.w X.K X.mg X.base X.A X.stack s H:=
 ⟨I.ok.frames,I.ok.mod,I.bs,qu I.ok.bsz I.sz,I.stack,I.stkFree,I.hok,I.bare⟩
theorem Inv.after (I:Inv X jM σ H s)(h:CE X.stack X.prog X.w H s Q u s'):EP X jM σ Q u s':=by
 obtain⟨v,H',os,bare,un,hok,r,q⟩:=h;obtain⟨hh,g,d,t,os'⟩:=s';obtain rfl:os'=s.os:=os;exact⟨v,H',I.call un hok bare (λb z=>absurd z (by simp)),r,q⟩
end
noncomputable def Zqb (sp:Sp)(dvs:List V)(E:XK)(t:TA):TE:=fun σ H Q=>t σ H λvs H1=>sp (vs++dvs) H1 Q E
noncomputable def Zis (C:Addr)(m:Str)(sp:Sp)(dvs:List V)(E:XK)(ta:TE)(t:TA):TE:=fun σ H Q=>ta σ H λx H1=>∃a dx fs,x=.ref a/\H1 a=some (.ins C dx fs)/\fs.lookup m=none/\
 t σ H1 λvs H2=>sp (x::(vs++dvs)) H2 Q E
noncomputable def Zqc (C:Addr)(sp:Sp)(dvs:List V)(E:XK)(t:TA):TE:=fun σ H Q=>t σ H λvs H1=>∀x dx,H1 x=none->H1 dx=none->dx≠x->
 sp (.ref x::(vs++dvs)) (Zp (Zp H1 dx (.own x)) x (.ins C dx [])) (λv H2=>v=.non/\Q (.ref x) H2) E
noncomputable def Xf (K:qd)(fd:xC)(ps:List Str)(ds:List Value):Prop:=
 ∀(s:Shared) (us:List Value),K.In s.heap->(us++ds).length=ps.length->BindsTo s fd ⟨us,[]⟩ (ps.zip (us++ds))
theorem Xf.all {K:qd}(h:∀us:List Value,us.length=ps.length->bindArgs fd ⟨us,[]⟩=pure (ps.zip us)):Xf K fd ps []:=λs us _ hl=>by
 rw[zq]at hl⊢;exact .of_eq (h us hl)
noncomputable def U1 (CX:UL)(X:Cx)(E:XK):Prop:=∀(jM:Qb) (σ:St) (H:Hp) (s:Shared) (e:Value) (s':Shared),Inv X jM σ H s->CX X.stack H s E e s'->X.xe e s'
section
variable {X:Cx}{CX:UL}{k:Nat}{f C:Addr}{fd:xC}{ps:List Str}{sp:Sp}{dvs:List V}{ds:List Value}{E:XK}{x m:Str}{p pos apos:Pos}{e o:Expr}{es:List Expr}{ta:TE}{t:TA}
theorem Zfn {σ:St}(F:FnOk X.prog X.w X.K X.mg X.base CX k f fd ps sp)(hr:Room k X.A)(hb:Xf X.K fd ps ds)(hd:ZG dvs ds)(hx:U1 CX X E)
  (I:Inv X jM σ H s) (r:ZG vs us) (h:sp (vs++dvs) H Q E):xf (xB X.prog X.w) X.A (call (.ref f) us) (EP X jM σ Q) X.xe s:=by
 have r2:=r.append hd;have hl:(us++ds).length=ps.length:=by rw[<-r2.length];exact F.len _ _ _ _ h
 refine xA (codeAny_mono (F.run X.A X.stack s H ⟨us,[]⟩ (us++ds) (vs++dvs) Q E hr I.env0 (hb s us I.kIn hl) r2 h) λr s' hq=>?_)
 cases r with
 | error e=>exact hx jM σ H s e s' I hq
 | ok fl=>
  cases fl with
  | ret u=>exact I.after hq
  | next=>exact zy hq
  | brk=>exact zy hq
  | cont=>exact zy hq
theorem Zm3 (F:FnOk X.prog X.w X.K X.mg X.base CX k f fd ps sp)(hr:Room k X.A)(hg:Gl X x)(hm:X.mg x=some (.ref f))(hk:zE X.K (.ref f)=true)(hb:Xf X.K fd ps ds)(hd:ZG dvs ds)(hx:U1 CX X E)
  (ha:PA X (e::es) t) (hdb:(x==("__debug__" : Str))=false:=by decide) (he:xh (e::es) X.env=(false,eval e X.env)::xh es X.env:=by rfl) (hpl:(backTo pos (xh es X.env)).any (·.1)=false:=by rfl) :
  PE X (.Call (.Name x p) (e::es) [] pos) (Zqb sp dvs E t):=by
 intro jM s σ H Q I h;refine wpAny_Call_Name_kw (Zfk I hg hm ?_ hdb);refine yV I.ok.mod.kin hk (ZI (ha pos jM s σ H _ I h) λus s1 ⟨vs,H1,I1,r,q⟩=>⟨I1.kIn,?_⟩) he hpl;exact Zfn F hr hb hd hx I1 r q
theorem Zit {pl:Sem Bool}(he:PE X o ta)(c:Cls X.K C)(hm:Meth X.K C m f)(F:FnOk X.prog X.w X.K X.mg X.base CX k f fd ps sp)(hr:Room k X.A)(hb:Xf X.K fd ps ds)(hd:ZG dvs ds)(hx:U1 CX X E)(ha:PA X (e::es) t)
  (hst:xh (e::es) X.env=(false,eval e X.env)::xh es X.env:=by rfl) (hpl:(backTo pos (xh es X.env)).any (·.1)=false:=by rfl)
  (ht:eval (.Call (.Attribute o m apos) (e::es) [] pos) X.env=(do
   let ov<-eval o X.env
   standAt apos.atName
   let (f,first)<-holding [ov] (getMethod ov m pl)
   callWith pos f first (backTo pos (xh (e::es) X.env)) (xp pos (xi [] X.env))):=by rfl) :
  PE X (.Call (.Attribute o m apos) (e::es) [] pos) (Zis C m sp dvs E ta t):=by
 intro jM s σ H Q I h;refine qbB (ZI (he jM s σ H _ I h) λu s1 ⟨x,H1,I1,rx,a,dx,fs,ex,ea,l,q⟩=>?_) ht;subst ex;obtain rfl:u=qC a:=rx;refine Zdw I1 ea c hm l ?_;refine yV I.ok.mod.kin hm.kp (ZI (ha pos jM s1 σ H1 _ I1 q) λus s2 ⟨vs,H2,I2,r,q2⟩=>⟨I2.kIn,?_⟩) hst hpl;exact Zfn (vs:=.ref a::vs) F hr hb hd hx I2 (.cons rfl r) q2
theorem Zgc (he:PE X o ta)(c:Cls X.K C)(hm:Meth X.K C m f)(F:FnOk X.prog X.w X.K X.mg X.base CX k f fd ps sp)(hr:Room k X.A)(hb:Xf X.K fd ps ds)(hd:ZG dvs ds)(hx:U1 CX X E)
  (ht:eval (.Call (.Attribute o m apos) [] [] pos) X.env=(do
   let ov<-eval o X.env
   standAt apos.atName
   let (f,first)<-holding [ov] (getMethod ov m pl)
   callWith pos f first (backTo pos (xh [] X.env)) (xp pos (xi [] X.env))):=by rfl) :
  PE X (.Call (.Attribute o m apos) [] [] pos) (Zis C m sp dvs E ta V9):=by
 intro jM s σ H Q I h;refine qbB (ZI (he jM s σ H _ I h) λu s1 ⟨x,H1,I1,rx,a,dx,fs,ex,ea,l,q⟩=>?_) ht;subst ex;obtain rfl:u=qC a:=rx;refine Zdw I1 ea c hm l ?_;exact PySem.W.callWith_K0 I1.kIn hm.kp (Zfn (vs:=[.ref a]) F hr hb hd hx I1 (.cons rfl .nil) q)
structure Mk (K:qd)(C f:Addr):Prop where
 makes:PySem.W.makesIn K C=true
 init:zD K (.ref C) "__init__" = some (some (.ref f))
 fn:qbZ K (.ref f)=true
 kp:zE K (.ref C)=true
theorem ZkJ {σ:St}(M:Mk X.K C f)(F:FnOk X.prog X.w X.K X.mg X.base CX k f fd ps sp)(hr:Room (k+1) X.A)(hb:Xf X.K fd ps ds)(hd:ZG dvs ds)
  (hx:U1 CX X E) (I:Inv X jM σ H s) (r:ZG vs us)
  (h:∀x dx,H x=none->H dx=none->dx≠x->sp (.ref x::(vs++dvs)) (Zp (Zp H dx (.own x)) x (.ins C dx [])) (λv H2=>v=.non/\Q (.ref x) H2) E) :
  xf (xB X.prog X.w) X.A (call (.ref C) us) (EP X jM σ Q) X.xe s:=by
 have hq:=h (s.heap.objs.size+1) s.heap.objs.size (I.hok.fresh (Nat.le_succ _)) (I.hok.fresh (qk _)) (qL (yg _));have I2:=jI (C:=C) I;have r2:ZG (V.ref (s.heap.objs.size+1)::(vs++dvs)) (qC (s.heap.objs.size+1)::(us++ds)):=.cons rfl (r.append hd);have hl:=by
  have e:=r2.length;rw[F.len _ _ _ _ hq]at e;exact e.symm
 refine xA (ZkH I.kIn M.makes M.init (beq_iff_eq.mp M.fn) (codeAny_mono (F.run _ X.stack _ _ ⟨qC (s.heap.objs.size+1)::us,[]⟩ (qC (s.heap.objs.size+1)::(us++ds)) _ _ E (hr.make C us [])
  (I2.env0.make C us []) (hb _ (qC (s.heap.objs.size+1)::us) I2.kIn hl) r2 hq) λr s' hq'=>?_))
 cases r with
 | error e=>exact hx jM σ _ _ e s' I2 hq'
 | ok fl=>
  cases fl with
  | ret u=>
   obtain⟨v,H',I3,rv,ev,q3⟩:=I2.after hq';subst ev;exact⟨rv,⟨V.ref (s.heap.objs.size+1),H',I3,rfl,q3⟩⟩
  | next=>exact zy hq'
  | brk=>exact zy hq'
  | cont=>exact zy hq'
theorem Zm4 (M:Mk X.K C f)(F:FnOk X.prog X.w X.K X.mg X.base CX k f fd ps sp)(hr:Room (k+1) X.A)(hg:Gl X x)(hm:X.mg x=some (.ref C))(hb:Xf X.K fd ps ds)(hd:ZG dvs ds)(hx:U1 CX X E)
  (ha:PA X (e::es) t) (hdb:(x==("__debug__" : Str))=false:=by decide) (he:xh (e::es) X.env=(false,eval e X.env)::xh es X.env:=by rfl) (hpl:(backTo pos (xh es X.env)).any (·.1)=false:=by rfl) :
  PE X (.Call (.Name x p) (e::es) [] pos) (Zqc C sp dvs E t):=by
 intro jM s σ H Q I h;refine wpAny_Call_Name_kw (Zfk I hg hm ?_ hdb);refine yV I.ok.mod.kin M.kp (ZI (ha pos jM s σ H _ I h) λus s1 ⟨vs,H1,I1,r,q⟩=>⟨I1.kIn,?_⟩) he hpl;exact ZkJ M F hr hb hd hx I1 r q
end
noncomputable def PK (X:Cx)(kws:List Keyword)(t:TA):Prop:=
 ∀(pos:Pos) (jM:Qb) (s:Shared) (σ:St) (H:Hp) (Q:List V->Hp->Prop),Inv X jM σ H s->t σ H Q->xf (xB X.prog X.w) X.A (evalAll ((xp pos (xi kws X.env)).map (·.2))) (AP X jM σ Q) X.xe s
section
variable {X:Cx}{CX:UL}{k:Nat}{f C:Addr}{fd:xC}{ps ks:List Str}{sp:Sp}{E:XK}{x m:Str}{p pos apos kpos:Pos}{e o:Expr}{es:List Expr}{kws:List Keyword}{te ta:TE}{t tk:TA}{nm:Option Str}
theorem Zo2:PK X [] V9:=λ_ _ _ _ H Q I h=>wpAny_evalAll_nil ⟨[],H,I,.nil,h⟩
theorem Zm5 (ha:PE X e te)(hr:PK X kws t):PK X (⟨nm,e,kpos⟩::kws) (Uv te t):=by
 intro pos jM s σ H Q I h;refine wpAny_evalAll_cons (xa (ZI (ha jM s σ H _ I h) λu s1 ⟨x,H1,I1,r1,q1⟩=>xa (wpAny_standAt (xb ?_))));exact ZI (hr pos jM s1 σ H1 _ I1 q1) λus s2 ⟨xs,H2,I2,r2,q2⟩=>⟨x::xs,H2,I2,.cons r1 r2,q2⟩
variable {g:List Value->List Value->List Value}{gV:List V->List V->List V}
end
structure FnScope (N P:List Str)(sc:Scope):Prop where
 kind:sc.kind=.function
 co:sc.isCoroutine=false
 gen:sc.isGenerator=false
 nd:N.Nodup
 pre:N.take P.length=P
 par:∀x∈P,sc.names.lookup x=some .local∨sc.names.lookup x=some .cell
 nofree:∀y∈sc.names,y.2≠.free
theorem ZeI {kindOf:Str->Option NameKind}:∀{binds:List (Str×Value)} {m:Str->Option Value},(∀v,(x,v)∉binds)->bindL kindOf binds m x=m x
 | [],_,_=>rfl
 | (n,v)::r,m,h=>by
  unfold bindL;rw[ZeI λw hw=>h w (qX _ hw)];split
  ·grind
  ·rfl
theorem ZeJ {kindOf:Str->Option NameKind}:∀{binds:List (Str×Value)} {m:Str->Option Value},(∀v,(x,v)∉binds)->bindC kindOf binds m x=m x
 | [],_,_=>rfl
 | (n,v)::r,m,h=>by
  unfold bindC;rw[ZeJ λw hw=>h w (qX _ hw)];split
  ·rfl
  ·grind
theorem ZeK {kindOf:Str->Option NameKind}:∀{P:List Str} {vs:List Value} {i:Nat} {m:Str->Option Value},P.Nodup->P[i]?=some x->vs[i]?=some v->kindOf x=some .local->
  bindL kindOf (P.zip vs) m x=some v
 | [],_,_,_,_,h,_,_=>by simp at h
 | _::_,[],_,_,_,_,h,_=>by simp at h
 | p::P,w::vs,0,m,nd,h1,h2,hk=>by
  simp at h1 h2;subst h1;subst h2;show bindL kindOf ((p,w)::P.zip vs) m p=_;unfold bindL;rw[ZeI λv hv=>(z0.mp nd).1 (qar hv).1,if_pos hk];simp
 | p::P,w::vs,i+1,m,nd,h1,h2,hk=>by
  show bindL kindOf ((p,w)::P.zip vs) m x=_;exact ZeK (z0.mp nd).2 (by simpa using h1) (by simpa using h2) hk
theorem ZeL {kindOf:Str->Option NameKind}:∀{P:List Str} {vs:List Value} {i:Nat} {m:Str->Option Value},P.Nodup->P[i]?=some x->vs[i]?=some v->kindOf x≠some .local->
  bindC kindOf (P.zip vs) m x=some v
 | [],_,_,_,_,h,_,_=>by simp at h
 | _::_,[],_,_,_,_,h,_=>by simp at h
 | p::P,w::vs,0,m,nd,h1,h2,hk=>by
  simp at h1 h2;subst h1;subst h2;show bindC kindOf ((p,w)::P.zip vs) m p=_;unfold bindC;rw[ZeJ λv hv=>(z0.mp nd).1 (qar hv).1,if_neg hk];simp
 | p::P,w::vs,i+1,m,nd,h1,h2,hk=>by
  show bindC kindOf ((p,w)::P.zip vs) m x=_;exact ZeL (z0.mp nd).2 (by simpa using h1) (by simpa using h2) hk
noncomputable def start (N:List Str)(vs:List V):St:=vs.map some++qp (N.length-vs.length) none
noncomputable def Vp (CX:UL)(P:xD)(w:World)(K:qd)(mg:Str->Option Value)(base:Heap)(N:List Str)(qual:Str)(scope:Scope)(f:Addr)(cd:Value)(A:xE)(outer:List Env)(s:Shared)(H:Hp)(E:XK):Cx where
 prog:=P
 w:=w
 K:=K
 mg:=mg
 base:=base
 A:=A.deeper (envOfC qual scope s.heap.objs.size f cd)
 N:=N
 s₀:=s
 H₀:=H
 env:=envOfC qual scope s.heap.objs.size f cd
 outer:=outer
 stack:=envOfC qual scope s.heap.objs.size f cd::outer
 ex:=[]
 calm:=true
 fn:=λ_=>true
 pn:=[]
 xe:=λe s'=>xf (xB P w) (A.deeper (envOfC qual scope s.heap.objs.size f cd)) (leaving (envOfC qual scope s.heap.objs.size f cd) e) (λ_ s''=>CX outer H s E e s'') (λe' s''=>CX outer H s E e' s'') s'
theorem Zgd {sc:Scope}(h:sc.names.lookup x=some .cell):∃c,(cellsFrom n sc.names []).lookup x=some c:=by
 have q:=qbv sc.names n [] (.inl h);exact yj.mp q
theorem Zjq {K:qd}
  (S:FnScope N ps scope) (hd:A.handled=none) (e0:Env0 P w K mg base A outer s H) (hl:vs.length=ps.length) (r:ZG vs us)
  (x:InCallC s s.heap.objs.size (bindL (envOfC qual scope s.heap.objs.size f cd).kindOf (ps.zip us) λ_=>none) (cellsFrom (s.heap.objs.size+1) scope.names []) (bindC (envOfC qual scope s.heap.objs.size f cd).kindOf (ps.zip us) λ_=>none) s1) :
  Inv (Vp CX P w K mg base N qual scope f cd A outer s H E) [] (start N vs) H s1:=by
 have hpl:ps.length<=N.length:=by have:=congrArg qb9 S.pre;rw[yk]at this;omega
 obtain⟨h1,tk,rfl,hk⟩:=x.done;have noA:∀b:Addr,b∉(Vp CX P w K mg base N qual scope f cd A outer s H E).ex:=λb z=>absurd (show b∈([]:List Addr)from z) (by simp);refine⟨⟨e0.mod,S.kind,rfl,rfl,qk _,λy z c h1 h2=>?_,λy hy=>?_,λy c _ h=>?_,λ_=>hd,qbJ e0.frames,.inr ⟨rfl,rfl⟩,λb z=>absurd z (noA b),e0.bs,e0.bsz,λb _ _=>noA b,λb z=>absurd z (noA b),e0.funs,e0.frf⟩,
  rfl,e0.bare,Un.kept hk,⟨_,x.toInCall.ns,λi y v h1 h2 h3=>?_⟩,λy c h=>⟨_,x.cell y c h⟩,e0.hok.fresh (qk _),λy c h=>?_,λp hp=>absurd (show p∈([]:Qb)from hp) (by simp),e0.hok.kept hk,?_⟩
 ·exact name_of_addr x.apart (zd h1) (zd h2)
 ·have hy:scope.names.lookup y=some .cell∨scope.names.lookup y=some .free:=hy
  rcases hy with hy | hy
  ·exact Zgd hy
  ·exact absurd rfl (S.nofree _ (zd hy))
 ·exact qaq (x.above y c (zd h))
 ·have hi:i<vs.length:=by
   unfold start at h2;by_cases hi:i<vs.length
   ·exact hi
   ·rw[zM (by simpa using hi)]at h2
    rw[zS]at h2;split at h2 <;> cases h2
  have ha:vs[i]?=some v:=by
   unfold start at h2;rw[za (by simpa using hi),qI]at h2
   cases e:vs[i]? with
   | none=>rw[e]at h2;cases h2
   | some a=>rw[e]at h2;cases h2;rfl
  obtain⟨u,hu,rv⟩:=r.get ha;have hp:ps[i]?=some y:=by
   rw[<-S.pre,qa4 (by omega)];exact h1
  have ndP:ps.Nodup:=by rw[<-S.pre];exact S.nd.sublist (qad _ _)
  refine⟨u,rv,?_⟩;rcases S.par y (zF hp)with k | k
  ·exact .inl ⟨k,ZeK ndP hp hu k⟩
  ·obtain⟨c,e⟩:=Zgd (n:=s.heap.objs.size+1) k
   refine .inr ⟨.inl k,c,e,?_⟩;have q:=x.cell y c e;rw[ZeL ndP hp hu (by show scope.names.lookup y≠_;simp_all)]at q;exact q
 ·exact e0.hok.fresh (qaq (x.above y c (zd h)))
 ·unfold start
  show _=N.length
  grind
theorem Zol {K:qd}{kV:Value}
  (lk:K.lookup f=some ⟨oc,od,.func (zt name qual params body scope dV kV doc pm an cdv ct),osl⟩) (hcd:yD K cdv qual=true) (S:FnScope N ps scope)
  (len:∀vs H Q E,sp vs H Q E->vs.length=ps.length)
  (hbody:∀(A:xE) (outer:List Env) (s:Shared) (H:Hp) (vs:List V) (Q:VK) (E:XK),Room k (A.deeper (envOfC qual scope s.heap.objs.size f cdv))->sp vs H Q E->
   ∃t,XO (Vp CX P w K mg base N qual scope f cdv A outer s H E) body t/\t { nx:=λ_ H'=>Q .non H',rt:=Q } (start N vs) H) :
  FnOk P w K mg base CX (k+1) f (zt name qual params body scope dV kV doc pm an cdv ct) ps sp:=by
 refine⟨len,λA outer s H args us vs Q E hr e0 hb r hsp=>?_⟩;have hl:=len _ _ _ _ hsp;have KX:K.In s.heap:=e0.mod.kin.keeps λb o e=>(e0.bs b o e).1;have lim:s.heap.NoLimit:=e0.mod.nolimit.keeps λb o e=>(e0.bs b o e).1;have hkind:∀y∈ps.zip us,scope.names.lookup y.1=some .local∨(scope.names.lookup y.1=some .cell/\((cellsFrom (s.heap.objs.size+1) scope.names []).lookup y.1).isSome=true):=λ⟨n,v⟩ hy=>by
  rcases S.par n (qar hy).1 with q | q
  ·exact .inl q
  ·exact .inr ⟨q,qbv _ _ _ (.inl q)⟩
 refine codeAny_call_function hr.depth (KX _ _ lk) rfl S.co S.gen rfl (PySem.W.codeRec_of KX hcd) (hb _ _ _ _ ?_);refine wpAny_newFunctionEnv_cells S.kind hkind λenv he s1 x=>?_;subst he;refine⟨lim.keeps x.toInCall.keep,codeAny_func ?_⟩;obtain⟨t,ht,hq⟩:=hbody A outer s H vs Q E (hr.deeper _) hsp;have I:Inv (Vp CX P w K mg base N qual scope f cdv A outer s H E) [] (start N vs) H s1:=Zjq S hr.hd e0 hl r x;refine xc (ht [] s1 (start N vs) H _ I hq) (λfl s' hs=>?_) λe s' hs=>hs;have fin:∀{σ':St} {H':Hp} {v:V} {u:Value},Inv (Vp CX P w K mg base N qual scope f cdv A outer s H E) [] σ' H' s'->ZN v u->Q v H'->CE outer P w H s Q u s':=
  λ{σ' H' v u} J rv q=>⟨v,H',J.os,J.bare,J.base,J.hok,rv,q⟩
 cases fl with
 | ret u=>
  obtain⟨v,σ',H',J,rv,q⟩:=hs;exact fin J rv q
 | next=>
  obtain⟨σ',H',J,q⟩:=hs;exact fin (v:=V.non) J rfl q
 | brk=>
  obtain⟨_,_,_,q⟩:=hs;simp_all
 | cont=>
  obtain⟨_,_,_,q⟩:=hs;simp_all
section
variable {X:Cx}{x:Str}{p pos:Pos}{e:Expr}{es:List Expr}{t:TA}{id T:String}{r:List V->Hp->VK->Prop}
noncomputable def tCB (r:List V->Hp->VK->Prop)(t:TA):TE:=fun σ H Q=>t σ H λvs H1=>r vs H1 Q
theorem Za0 (hc:WH X (.builtin id) r)(hg:Gl X x)(hm:X.mg x=none)(hv:xj x=some (.builtin id))(ha:PA X (e::es) t)(hn:x≠"__name__":=by decide)(hdb:(x==("__debug__" : Str))=false:=by decide)
  (he:xh (e::es) X.env=(false,eval e X.env)::xh es X.env:=by rfl) (hpl:(backTo pos (xh es X.env)).any (·.1)=false:=by rfl):PE X (.Call (.Name x p) (e::es) [] pos) (tCB r t):=by
 intro jM s σ H Q I h;refine wpAny_Call_Name_kw (JL I hg hm hv ?_ hn hdb);exact PyProof.Rows.callWith_builtin1 (ZI (ha pos jM s σ H _ I h) λus s1 ⟨vs,H1,I1,r1,q1⟩=>hc jM s1 σ H1 vs us Q I1 r1 q1) he hpl
theorem ZeM (hc:WH X (.type T) r)(hg:Gl X x)(hm:X.mg x=none)(hv:xj x=some (.type T))(ha:PA X (e::es) t)(hn:x≠"__name__":=by decide)(hdb:(x==("__debug__" : Str))=false:=by decide)
  (he:xh (e::es) X.env=(false,eval e X.env)::xh es X.env:=by rfl) (hpl:(backTo pos (xh es X.env)).any (·.1)=false:=by rfl):PE X (.Call (.Name x p) (e::es) [] pos) (tCB r t):=by
 intro jM s σ H Q I h;refine wpAny_Call_Name_kw (JL I hg hm hv ?_ hn hdb);exact zW (ZI (ha pos jM s σ H _ I h) λus s1 ⟨vs,H1,I1,r1,q1⟩=>hc jM s1 σ H1 vs us Q I1 r1 q1) he hpl
end
end L2
namespace HT
noncomputable def lexLt:List Int->List Int->Bool
 | [],[]=>false
 | [],_::_=>true
 | _::_,[]=>false
 | x::xs,y::ys=>if x=y then lexLt xs ys else decide (x<y)
theorem Zhv (x y:Int)(xs ys:List Int):lexLt (x::xs) (y::ys)=if x=y then lexLt xs ys else decide (x<y):=rfl
theorem Zep:lexLt [] []=false:=rfl
theorem Zdx (y:Int)(ys:List Int):lexLt [] (y::ys)=true:=rfl
theorem Zdy (x:Int)(xs:List Int):lexLt (x::xs) []=false:=rfl
theorem ZkK (A:xE)(s:Shared)(a:Int)(t:Tok)(c:Int)(u:Tok):∃e,yI A s (.int a t) (.int c u) e/\(e=true↔a=c):=
 ⟨(a==c),yI.int_int a t c u,by simp⟩
theorem ZkL (A:xE)(s:Shared)(a:Int)(t:Tok)(c:Int)(u:Tok)(prog:xD)(w:World)(E:xF)(Q:xF)(h:Q (.bool (decide (a<c))) s) :
  xf (xB prog w) A (richCompare .Lt (.int a t) (.int c u)) Q E s:=
 (PyProof.Rows.lt_int h:xf (xB prog w) A (xk .Lt (.int a t) (.int c u)) Q E s)
section
open PySem.SeqAt
open PySem.AutoSeq1 (wpAny_loadPart')
open PySem.MeetsSeq PySem.MeetsSeq2 PySem.MeetsSeq3
theorem Zeq (l b:Addr)(items items2:Array Value)(n n2:Nat)(dd dd2:Option Addr)(sl sl2:Array (Option Value))(ns ms:List Int)(hi:IntsAre items.toList ns)(hj:IntsAre items2.toList ms) :
  Meets (Builtin.«tuple.__lt__» ⟨[.ref l,.ref b],[]⟩)
   (λ_ R s=>s.heap.get? l=some { cls:=.type "tuple",dict:=dd,data:=.seq items n,slots:=sl }/\s.heap.get? b=some { cls:=.type "tuple",dict:=dd2,data:=.seq items2 n2,slots:=sl2 }/\
    R (.ok (.ret (.bool (lexLt ns ms)))) s):=
 .of_wp λprog w A R s h=>by
  obtain⟨hp,g,d,tk,os⟩:=s;obtain⟨hl,hb,h⟩:=h;have f2:=qa5;have z1:items.size=ns.length:=by rw[<-hi.length];simp
  have z2:items2.size=ms.length:=by rw[<-hj.length];simp
  wp_walk using wpAny_loadPart' hl,wpAny_loadPart' hb,wpAny_forIn_list _ (λrest b s'=>b.1=none/\s'=⟨hp,g,d,tk,os⟩/\∃(vs ws:List Value) (ns' ms':List Int),rest=vs.zip ws/\
   IntsAre vs ns'/\IntsAre ws ms'/\ns'.length+items2.size=ms'.length+items.size/\R (.ok (.ret (.bool (lexLt ns' ms')))) ⟨hp,g,d,tk,os⟩) _
  case turn=>
   rintro⟨y,x⟩ rest b s' ⟨hb',rfl,vs,ws,ns',ms',hz,hvi,hwi,jW,hR⟩
   cases hvi with
   | nil=>rw[List.zip_nil_left]at hz;cases hz
   | cons a t hvi'=>
    cases hwi with
    | nil=>rw[List.zip_nil_right]at hz;cases hz
    | cons c u hwi'=>
     rw[List.zip_cons_cons]at hz;injection hz with hyx hrest;injection hyx with hy hx;subst hy hx;rw[Zhv]at hR;simp only[qW]at jW;obtain⟨e,he,hiff⟩:=ZkK A.in1 ⟨hp,g,d,tk,os⟩ a t c u;refine xa (he prog w _ _ ?_)
     cases e with
     | true=>
      rw[if_pos (hiff.mp rfl)]at hR
      wp_walk
      exact⟨rfl,rfl,_,_,_,_,hrest,hvi',hwi',by omega,hR⟩
     | false=>
      rw[if_neg (λq=>absurd (hiff.mpr q) yu)]at hR;have hri:=ZkL A.in1 ⟨hp,g,d,tk,os⟩ a t c u prog w
      wp_walk using hri
      exact⟨_,rfl,by simpa using hR⟩
  case fin=>
   rintro⟨b1,b2⟩ s' ⟨hb',rfl,vs,ws,ns',ms',hz,hvi,hwi,jW,hR⟩;simp only at hb';subst hb';have hv:lexLt ns' ms'=decide (items.size<items2.size):=by
    cases hvi with
    | nil=>
     cases hwi with
     | nil=>
      simp only[yR]at jW;rw[Zep];exact(decide_eq_false (by omega)).symm
     | cons c u hw=>
      simp only[yR,qW]at jW;rw[Zdx];exact(decide_eq_true (by omega)).symm
    | cons a t hv=>
     cases hwi with
     | nil=>
      simp only[yR,qW]at jW;rw[Zdy];exact(decide_eq_false (by omega)).symm
     | cons c u hw=>
      rw[List.zip_cons_cons]at hz
      cases hz
   rw[hv]at hR
   wp_walk
   exact⟨_,rfl,by simpa[Builtin.Tuple.tupleCompareSizes]using hR⟩
  case h=>
   exact⟨rfl,rfl,items.toList,items2.toList,ns,ms,rfl,hi,hj,by omega,h⟩
end
section
variable {prog:xD}{w:World}{A:xE}{E:xF}{s:Shared}
theorem lt_tupInts (hl:IsTup s.heap l items)(hb:IsTup s.heap b items2)(hi:IntsAre items.toList ns)(hj:IntsAre items2.toList ms)
  (hu:A.units<cLine) (h:Q (.bool (lexLt ns ms)) s):xf (xB prog w) A (xk .Lt (.ref l) (.ref b)) Q E s:=by
 obtain⟨⟨cls,dd,data,sl⟩,ho,hc,n,hd⟩:=id hl;obtain⟨⟨cls2,dd2,data2,sl2⟩,ho2,hc2,n2,hd2⟩:=id hb;subst hc hd hc2 hd2;exact richCompare_meets_room (op:=.Lt) ⟨_,ho,rfl⟩ ⟨_,ho2,rfl⟩ PySem.F.slot_tuple_lt PySem.F.entry_tuple_lt (PySem.F.args_tuple_lt_2 _ _) (Zeq l b items items2 n n2 dd dd2 sl sl2 ns ms hi hj)
  ⟨ho,ho2,show zh (lexLt ns ms)≠qbK/\Q (.bool (lexLt ns ms)) s from⟨(λx=>nomatch x),h⟩⟩ hu
theorem cat_tup (ht:IsTup s.heap t vs.toArray)(hb:IsTup s.heap b ws.toArray)(hv:vs≠[])
  (h1:ws=[]->Q (.ref t) s) (h2:ws≠[]->Q (.ref s.heap.objs.size) { s with heap:=s.heap.push { cls:=.type "tuple",data:=.seq (vs++ws).toArray } })
  (hsz:vs.length+ws.length<=xg):xf (xB prog w) A (binaryOp .Add (.ref t) (.ref b)) Q E s:=by
 obtain⟨⟨cls,dd,data,sl⟩,ho,hc,n,hd⟩:=id ht;obtain⟨⟨cls2,dd2,data2,sl2⟩,ho2,hc2,n2,hd2⟩:=id hb;subst hc hd hc2 hd2;have e:vs.toArray++ws.toArray=(vs++ws).toArray:=by simp
 by_cases hw:ws=[]
 ·exact concat_meets ⟨_,ho,rfl⟩ ⟨_,ho2,rfl⟩ noFill_tuple_add seq_tuple_add qag qaa (yW _ _)
   (tuple_addW1 t b vs.toArray ws.toArray n n2 dd dd2 sl sl2 (by simpa using hv) (by simp[hw])) ⟨ho,ho2,h1 hw⟩
 ·refine concat_meets ⟨_,ho,rfl⟩ ⟨_,ho2,rfl⟩ noFill_tuple_add seq_tuple_add qag qaa (yW _ _)
   (tuple_addW2 t b vs.toArray ws.toArray n n2 dd dd2 sl sl2 (by simpa using hv) (by simp_all) (by omega)) ⟨ho,ho2,?_⟩
  rw[e];exact h2 hw
noncomputable def sIx (n d:Nat):Option Int->Nat
 | none=>d
 | some v=>if v<0 then (v+(n:Int)).toNat else min v.toNat n
theorem Zo3 (n d:Nat)(hd:d<=n)(o:Option Int):sIx n d o<=n:=by
 cases o with
 | none=>exact hd
 | some v=>
  show(if v<0 then (v+(n:Int)).toNat else min v.toNat n)<=n;by_cases hv:v<0
  ·grind
  ·rw[if_neg hv];exact Nat.min_le_right _ _
theorem Ziu (v:Int)(n d:Nat):(if v<0 then max (v+(n:Int)) 0 else min v (n:Int))=((sIx n d (some v):Nat):Int):=by
 show(if v<0 then max (v+(n:Int)) 0 else min v (n:Int))=(((if v<0 then (v+(n:Int)).toNat else min v.toNat n):Nat):Int)
 grind
theorem Zhw (lo hi:Option Int)(n:Nat):qaZ lo hi 1 (n:Int)=(((sIx n 0 lo:Nat):Int),((sIx n n hi:Nat):Int)):=by
 refine Prod.ext ?_ ?_
 ·cases lo with
  | none=>rfl
  | some v=>exact Ziu v n 0
 ·cases hi with
  | none=>rfl
  | some v=>exact Ziu v n n
theorem Zhx (i j:Nat):z9 (i:Int) (j:Int) 1=j-i:=by
 unfold z9;simp
 grind
theorem Zdz (p:IsPart v o)(h:Q o s):xf (xB prog w) A (Builtin.Slice.slicePartIndex v) Q E s:=by
 cases p with
 | none=>exact slicePart_none h
 | int i t=>exact slicePart_int h
theorem ZaH {lo:Option Int}{n:Nat}(hs:s.heap.IsSliceOf sl vl vu .none)(pl:IsPart vl lo)(pu:IsPart vu hi)
  (h:Q (((sIx n 0 lo:Nat):Int),1,sIx n n hi-sIx n 0 lo) s):xf (xB prog w) A (Builtin.Slice.sliceApplied (.ref sl) (pure (n:Int))) Q E s:=by
 obtain⟨os,hos,hcs,hds⟩:=id hs;refine xa (xa (wpAny_field hos hds (x:=vl) rfl (xa (wpAny_field hos hds (x:=vu) rfl (xa (wpAny_field hos hds rfl (xb ?_)))))));refine xa (slicePart_none ?_);refine xa (Zdz pl (xa (Zdz pu (xa (xb ?_)))));show xf _ _ (match qaZ lo hi 1 (n:Int)with | (lo,hi)=>pure (lo,(1:Int),z9 lo hi 1)) _ _ s;rw[Zhw lo hi n];show xf _ _ (pure (((sIx n 0 lo:Nat):Int),(1:Int),z9 ((sIx n 0 lo:Nat):Int) ((sIx n n hi:Nat):Int) 1)) _ _ s;rw[Zhx];exact xb h
theorem ZkM (xs:Array Value)(i k:Nat):((qe k).filterMap λ(m:Nat)=>xs[((i:Int)+(m:Int)*1).toNat]?).toArray=((xs.toList.drop i).take k).toArray:=by
 have e:(λ(m:Nat)=>xs[((i:Int)+(m:Int)*1).toNat]?)=λm=>xs[i+m]?:=by
  funext m
  grind
 rw[e];have:=pick_run xs i k;have e2:((λx=>xs[x]?)∘λx=>i+x)=λm=>xs[i+m]?:=rfl;simp_all
theorem getItem_tuple_cut {lo:Option Int}(ht:IsTup s.heap t items)(hs:s.heap.IsSliceOf sl vl vu .none)(pl:IsPart vl lo)(pu:IsPart vu hi)
  (hw:¬(sIx items.size 0 lo=0/\sIx items.size items.size hi=items.size))
  (h:Q (.ref s.heap.objs.size) { s with heap:=s.heap.push { cls:=.type "tuple",data:=.seq ((items.toList.drop (sIx items.size 0 lo)).take (sIx items.size items.size hi-sIx items.size 0 lo)).toArray } })
  (hsz:items.size<=xg):xf (xB prog w) A (getItem (.ref t) (.ref sl)) Q E s:=by
 have htake:sizeOk (.seq ((items.toList.drop (sIx items.size 0 lo)).take (sIx items.size items.size hi-sIx items.size 0 lo)).toArray):=by
  show((items.toList.drop (sIx items.size 0 lo)).take (sIx items.size items.size hi-sIx items.size 0 lo)).toArray.size<=xg;rw[zm,yk,List.length_drop,yo];omega
 have hj:sIx items.size items.size hi<=items.size:=Zo3 _ _ (qk _) hi;obtain⟨os,hos,hcs,hds⟩:=id hs;have hTs:s.TypeIs (.ref sl) "slice":=⟨os,hos,hcs⟩;unfold getItem
 try with_reducible refine xw ?_
 first | refine xa (xb ?_) | skip
 refine xa (wpAny_sequenceKey ht.typeIs (by decide) ?_);refine xa (wpAny_callSpecial?_slot (name:=qas "__getitem__") ht.typeIs zf
  (wpAny_call_entry zf ht.typeIs entry_tuple_getitem ?_ (args_tuple_getitem _ _)))
 show xf _ _ (qaR (.ref t) >>= _) _ _ s;refine xa (tupleItemsOf_ ht ?_);refine xa (wpAny_typeOf hTs ?_);rw[if_pos (by decide)];refine xa (ZaH hs pl pu ?_);have hno:¬((((sIx items.size 0 lo:Nat):Int)==0&&(1:Int)==1&&(sIx items.size items.size hi-sIx items.size 0 lo)==items.size)=true):=by
  intro q;rw[qB,qB]at q;have q1:((sIx items.size 0 lo:Nat):Int)=0:=eq_of_beq q.1.1;have q2:=eq_of_beq q.2;omega
 show xf _ _ (if (((sIx items.size 0 lo:Nat):Int)==0&&(1:Int)==1&&(sIx items.size items.size hi-sIx items.size 0 lo)==items.size)=true then _ else _) _ _ s;rw[if_neg hno,ZkM]
 first
  | exact xa (xl (xb ⟨_,rfl,xb h⟩) htake)
  | rfl
  | rfl
  | rfl
end
end HT
namespace L2
noncomputable abbrev TO:=St->Hp->(Option Int->Hp->Prop)->Prop
noncomputable def PO (X:Cx)(e:Option Expr)(t:TO):Prop:=
 ∀(jM:Qb) (s:Shared) (σ:St) (H:Hp) (Q:Option Int->Hp->Prop),Inv X jM σ H s->t σ H Q->
  xf (xB X.prog X.w) X.A (evalPart e X.env) (λu s'=>∃o H',Inv X jM σ H' s'/\IsPart u o/\Q o H') X.xe s
noncomputable def Zm6:TO:=λ_ H Q=>Q none H
noncomputable def Zqd (t:TE):TO:=fun σ H Q=>t σ H λx H1=>∃i,x=.int i/\Q (some i) H1
theorem Zan:∀{us:List Value},ZG (ns.map V.int) us->IntsAre us ns:=by
 induction ns with
 | nil=>intro us r;cases r;exact .nil
 | cons n ns ih=>
  intro us r
  cases r with
  | cons r1 r2=>
   obtain⟨t,e⟩:=r1;subst e;exact .cons n t (ih r2)
section
variable {X:Cx}{e:Expr}{te:TE}{lo hi:Option Expr}{tl th:TO}{pos p2:Pos}
theorem Zm7:PO X none Zm6:=by
 intro jM s σ H Q I h;exact xb ⟨none,H,I,.none,h⟩
theorem Zm8 (h:PE X e te):PO X (some e) (Zqd te):=by
 intro jM s σ H Q I hw;refine ZI (h jM s σ H _ I hw) λu s1 ⟨x,H1,I1,r1,q1⟩=>?_;obtain⟨i,rfl,q⟩:=q1;obtain⟨t,rfl⟩:=r1;exact⟨some i,H1,I1,.int i t,q⟩
noncomputable def Jk (X:Cx)(r:V->Option Int->Option Int->Hp->VK->Prop):Prop:=
 ∀(jM:Qb) (s:Shared) (σ:St) (H:Hp) (x:V) (v vl vu:Value) (lo hi:Option Int) (sl:Addr) (Q:VK),Inv X jM σ H s->ZN x v->s.heap.IsSliceOf sl vl vu .none->IsPart vl lo->IsPart vu hi->r x lo hi H Q->
  ∃T id,typeLookup (.type T) "__getitem__" = pure (some (.builtin id))/\s.TypeIs v T/\xf (xB X.prog X.w) X.A (getItem v (.ref sl)) (EP X jM σ Q) X.xe s
theorem Jk.or (h:Jk X r)(h':Jk X r'):Jk X (λx lo hi H Q=>r x lo hi H Q∨r' x lo hi H Q):=by
 intro jM s σ H x v vl vu lo hi sl Q I rx hs pl pu q;rcases q with q | q
 ·exact h jM s σ H x v vl vu lo hi sl Q I rx hs pl pu q
 ·exact h' jM s σ H x v vl vu lo hi sl Q I rx hs pl pu q
noncomputable def tSl (r:V->Option Int->Option Int->Hp->VK->Prop)(te:TE)(tl th:TO):TE:=fun σ H Q=>te σ H λx H1=>tl σ H1 λl H2=>th σ H2 λu H3=>r x l u H3 Q
theorem ZkN (hr:Jk X r)(he:PE X e te)(hl:PO X lo tl)(hu:PO X hi th):PE X (.Subscript e (.Slice lo hi none p2) pos) (tSl r te tl th):=by
 intro jM s σ H Q I h;refine Subscript_ (ZI (he jM s σ H _ I h) λv s1 ⟨x,H1,I1,r1,q1⟩=>?_);refine wpAny_Slice (ZI (hl jM s1 σ H1 _ I1 q1) λvl s2 ⟨l,H2,I2,pl,q2⟩=>ZI (hu jM s2 σ H2 _ I2 q2) λvu s3 ⟨u,H3,I3,pu,q3⟩=>?_);refine xb ?_;have I4:Inv X jM σ H3 { s3 with heap:=s3.heap.push { cls:=.type "slice",data:=.fields #[vl,vu,.none] } }:=I3.kept λb ob q=>qj _ q;obtain⟨T,id,hT,ht,hg⟩:=hr jM { s3 with heap:=s3.heap.push { cls:=.type "slice",data:=.fields #[vl,vu,.none] } } σ H3 x v vl vu l u s3.heap.objs.size Q I4 r1 (Heap.IsSliceOf.new ..) pl pu q3;exact tail_any ht hT hg (by rfl)
noncomputable def Jb (xs:List V)(lo hi:Option Int):List V:=(xs.drop (HT.sIx xs.length 0 lo)).take (HT.sIx xs.length xs.length hi-HT.sIx xs.length 0 lo)
theorem ZcP (xs:List V)(lo hi:Option Int):(Jb xs lo hi).length<=xs.length:=by
 unfold Jb;rw[yk,List.length_drop];omega
noncomputable def rSlT (K:qd):V->Option Int->Option Int->Hp->VK->Prop:=λx lo hi H Q=>∃a xs,x=.ref a/\Z5 K H a xs/\
 ¬(HT.sIx xs.length 0 lo=0/\HT.sIx xs.length xs.length hi=xs.length)/\∀p,H p=none->Q (.ref p) (Zp H p (.tup (Jb xs lo hi)))
theorem Zo4:Jk X (rSlT X.K):=by
 intro jM s σ H x v vl vu lo hi sl Q I rx hs pl pu h;obtain⟨a,xs,rfl,hx,hw,q⟩:=h
 cases rx
 obtain⟨jP,r,ht,hz⟩:=I.tuple hx;have jW:jP.toArray.size=xs.length:=(r.length.symm);refine⟨"tuple",_,zf.lookup,ht.typeIs,?_⟩;refine HT.getItem_tuple_cut ht hs pl pu (by rw[jW];exact hw) ?_ (by rw[jW];exact hz);rw[jW];refine⟨.ref s.heap.objs.size,_,I.laid (λb ob q=>qj _ q) (qk _) ?_,rfl,q _ (I.hok.fresh (qk _))⟩;exact⟨qu (ZcP xs lo hi) hz,_,(r.drop (HT.sIx xs.length 0 lo)).take (HT.sIx xs.length xs.length hi-HT.sIx xs.length 0 lo),qbp _ _⟩
noncomputable def rLtT (K:qd):R2:=λx y H Q=>∃a b ns ms,x=.ref a/\y=.ref b/\Z5 K H a (ns.map V.int)/\Z5 K H b (ms.map V.int)/\Q (.bl (HT.lexLt ns ms)) H
theorem Zo5 (hu:X.A.units<cLine):Yj X (xk .Lt) (rLtT X.K):=by
 intro jM s σ H x y v u Q I rx ry h;obtain⟨a,b,ns,ms,rfl,rfl,ha,hb,q⟩:=h
 cases rx
 cases ry
 obtain⟨jP,r1,p1,_⟩:=I.tuple ha;obtain⟨kf,r2,p2,_⟩:=I.tuple hb;have i1:=Zan r1;have i2:=Zan r2;exact HT.lt_tupInts p1 p2 i1 i2 hu ⟨.bl (HT.lexLt ns ms),H,I,rfl,q⟩
noncomputable def Zqe (K:qd):R2:=λx y H Q=>∃a b xs ys,x=.ref a/\y=.ref b/\Z5 K H a xs/\Z5 K H b ys/\xs≠[]/\xs.length+ys.length<=xg/\
 (ys=[]->Q (.ref a) H)/\(ys≠[]->∀p,H p=none->Q (.ref p) (Zp H p (.tup (xs++ys))))
theorem ZG.nil_iff (r:ZG xs us):us=[]↔xs=[]:=by
 cases r with
 | nil=>simp
 | cons _ _=>simp
theorem Zm9:Yj X (binaryOp .Add) (Zqe X.K):=by
 intro jM s σ H x y v u Q I rx ry h;obtain⟨a,b,xs,ys,rfl,rfl,ha,hb,hx,hz,q1,q2⟩:=h
 cases rx
 cases ry
 obtain⟨jP,r1,p1,_⟩:=I.tuple ha;obtain⟨kf,r2,p2,_⟩:=I.tuple hb;refine HT.cat_tup p1 p2 (λz=>hx (r1.nil_iff.mp z)) (λz=>⟨.ref a,H,I,rfl,q1 (r2.nil_iff.mp z)⟩) (λz=>?_) (by rw[<-r1.length,<-r2.length];exact hz);refine⟨.ref s.heap.objs.size,_,I.laid (λb ob q=>qj _ q) (qk _) ?_,rfl,q2 (λw=>z (r2.nil_iff.mpr w)) _ (I.hok.fresh (qk _))⟩;exact⟨by simp_all,_,r1.append r2,qbp _ _⟩
end
noncomputable def Wy (n:Nat)(i:Int):Option Nat:=if 0<=i then (if i<n then some i.toNat else none)else if -(n:Int)<=i then some (i+n).toNat else none
noncomputable def Xu {α:Type}(xs:List α)(i:Int):Option α:=(Wy xs.length i).bind λj=>xs[j]?
theorem Ziv (h:Wy n i=some j):seqIndex? i n=some j/\j<n/\-(n:Int)<=i/\i<n:=by
 unfold Wy at h;by_cases h0:0<=i
 ·rw[if_pos h0]at h
  by_cases h1:i<n
  ·rw[if_pos h1]at h
   have e:=zP h;exact⟨by rw[seqIndex_of h0 h1,e],by omega,by omega,h1⟩
  ·simp_all
 ·rw[if_neg h0]at h
  by_cases h1:-(n:Int)<=i
  ·rw[if_pos h1]at h
   have e:=zP h;exact⟨by rw[seqIndex_neg (by omega) h1,e],by omega,h1,by omega⟩
  ·simp_all
theorem Ziw {xs:List α}{v:α}(h:Xu xs i=some v):∃j,seqIndex? i xs.length=some j/\xs[j]?=some v/\j<xs.length/\-(xs.length:Int)<=i/\i<xs.length:=by
 unfold Xu at h
 cases e:Wy xs.length i with
 | none=>simp_all
 | some j=>
  rw[e]at h;obtain⟨h1,h2,h3,h4⟩:=Ziv e;exact⟨j,h1,h,h2,h3,h4⟩
theorem VF {xs:List α}{j:Nat}{v:α}(h:xs[j]?=some v):Xu xs (j:Int)=some v:=by
 have hj:=(qH.mp h).1;have e:Wy xs.length (j:Int)=some j:=by
  unfold Wy;simp_all
 unfold Xu;rw[e];exact h
noncomputable def Zfo (b:Expr):Prop:=∀o i,subscripted b false o i=operate [o,i] (getItem o i)
noncomputable def Jl (X:Cx)(r:R2):Prop:=
 ∀(value slice:Expr) (jM:Qb) (s:Shared) (σ:St) (H:Hp) (x y:V) (v u:Value) (Q:VK),Inv X jM σ H s->ZN x v->ZN y u->r x y H Q->
  subscripted slice false v u=operate [v,u] (getItem v u)->xf (xB X.prog X.w) X.A (subscriptTail value slice v u) (EP X jM σ Q) X.xe s
noncomputable def MtR (X:Cx)(id:String)(r:V->List V->Hp->VK->Prop):Prop:=
 ∀(jM:Qb) (s:Shared) (σ:St) (H:Hp) (x:V) (xs:List V) (v:Value) (us:List Value) (Q:VK),Inv X jM σ H s->ZN x v->ZG xs us->r x xs H Q->
  xf (xB X.prog X.w) X.A (call (.builtin id) (v::us)) (EP X jM σ Q) X.xe s
section
variable {X:Cx}{a b:Expr}{ta tb:TE}{pos:Pos}
theorem Jl.or (h:Jl X r)(h':Jl X r'):Jl X (λx y H Q=>r x y H Q∨r' x y H Q):=by
 intro value slice jM s σ H x y v u Q I rx ry q hs;rcases q with q | q
 ·exact h value slice jM s σ H x y v u Q I rx ry q hs
 ·exact h' value slice jM s σ H x y v u Q I rx ry q hs
theorem W1 (hr:Jl X r)(ha:PE X a ta)(hb:PE X b tb)(hs:Zfo b):PE X (.Subscript a b pos) (WK r ta tb):=by
 intro jM s σ H Q I h;exact Subscript_ (binT ha hb I h λv u s2 x y H2 I2 rx ry q=>hr a b jM s2 σ H2 x y v u Q I2 rx ry q (hs _ _))
noncomputable def rIxL (K:qd):R2:=λx y H Q=>∃p xs i v,x=.ref p/\y=.int i/\ZT K H p xs/\Xu xs i=some v/\Q v H
noncomputable def rIxT (K:qd):R2:=λx y H Q=>∃p xs i v,x=.ref p/\y=.int i/\Z5 K H p xs/\Xu xs i=some v/\Q v H
theorem WX:Jl X (rIxL X.K):=by
 intro value slice jM s σ H x y v u Q I rx ry h hs;obtain⟨p,xs,i,z,rfl,rfl,hq,he,q⟩:=h
 cases rx
 obtain⟨t,rfl⟩:=ry;obtain⟨jP,r,pl,hz⟩:=I.list hq;obtain⟨j,h1,h2,h3,h4,h5⟩:=Ziw he;obtain⟨w,ew,rw'⟩:=r.get h2;have hl:=r.length;have hn:=Zdv;have fin:EP X jM σ Q w s:=⟨z,H,I,rw',q⟩;by_cases h0:0<=i
 ·have hj:i.toNat=j:=by
   rw[seqIndex_of h0 h5]at h1;exact zP h1
  exact item_listR pl.isList h0 (by omega) (by rw[hj];simpa using ew) fin hs
 ·have hj:(i+(jP.toArray.size:Int)).toNat=j:=by
   rw[seqIndex_neg (by omega) h4]at h1;simp_all
  exact subscriptTail_builtinR pl.isList.typeIs slot_list_getitem.lookup
   (wpAny_getItem_list_neg pl.isList (by omega) (by simp_all) (by omega) (by rw[hj];simpa using ew) ⟨rfl,fin⟩) hs
theorem Zo6:Jl X (rIxT X.K):=by
 intro value slice jM s σ H x y v u Q I rx ry h hs;obtain⟨p,xs,i,z,rfl,rfl,hq,he,q⟩:=h
 cases rx
 obtain⟨t,rfl⟩:=ry;obtain⟨jP,r,pl,hz⟩:=I.tuple hq;obtain⟨j,h1,h2,h3,h4,h5⟩:=Ziw he;obtain⟨w,ew,rw'⟩:=r.get h2;have hl:=r.length;have hn:=Zdv;have fin:EP X jM σ Q w s:=⟨z,H,I,rw',q⟩;exact subscriptTail_builtinR pl.typeIs slot_tuple_getitem.lookup
  (getItem_tuple (j:=j) pl (by omega) (by omega) (by simp_all) (by simpa using ew) ⟨rfl,fin⟩) hs
theorem Zhy (jP:List Value)(n j:Nat)(u:Value):zi (·.setIfInBounds j u) { cls:=.type "list",data:=.seq jP.toArray n } = { cls:=.type "list",data:=.seq (jP.set j u).toArray n }:=by
 simp[zi]
theorem Inv.lst {σ:St}(I:Inv X jM σ H s)(h:H p=some (.lst xs)) :
  ∃(jP:List Value) (n:Nat),ZG xs jP/\s.heap.get? p=some { cls:=.type "list",data:=.seq jP.toArray n }/\xs.length<=xg:=by
 obtain⟨z,jP,n,r,e⟩:=I.hok p _ h;exact⟨jP,n,r,e,z⟩
theorem Inv.lstUpd {σ:St}{jP:List Value}(I:Inv X jM σ H s)(h:H p=some (.lst xs))
  (ho:s.heap.get? p=some { cls:=.type "list",data:=.seq jP.toArray n }) (hf:f { cls:=.type "list",data:=.seq jP.toArray n } = { cls:=.type "list",data:=.seq its'.toArray n' }) (r:ZG ys its') (hz:ys.length<=xg) (t:Nat) :
  Inv X jM σ (Zp H p (.lst ys)) { s with heap:=s.heap.update p f,toks:=t }:=by
 have e:(s.heap.update p f).get? p=some { cls:=.type "list",data:=.seq its'.toArray n' }:=by
  rw[qao f ho (by rw[hf] <;> rfl),hf]
 refine I.write (by rw[h];trivial) (.inl rfl) (λb u hb q=>(zw _ _ (qJ hb)).trans q) ⟨_,e⟩ ?_;exact⟨hz,its',n',r,e⟩
noncomputable def Zge:V->V->V->Hp->(Hp->Prop)->Prop:=λo i v H Q=>∃p xs k j,o=.ref p/\i=.int k/\H p=some (.lst xs)/\Wy xs.length k=some j/\Q (Zp H p (.lst (xs.set j v)))
theorem ZbV:PSet X Zge:=by
 intro jM s σ H o i v ov iv u Q I ro ri rv h;obtain⟨p,xs,k,j,rfl,rfl,hp,hj,q⟩:=h
 cases ro
 obtain⟨t,rfl⟩:=ri;obtain⟨jP,n,r,ho,hz⟩:=I.lst hp;obtain⟨h1,h2,h3,h4⟩:=Ziv hj;have hl:=r.length;have hn:=Zdv;have I':Inv X jM σ (Zp H p (.lst (xs.set j v))) { s with heap:=s.heap.update p (zi (·.setIfInBounds j u)) }:=
  I.lstUpd hp ho (Zhy jP n j u) (r.set rv j) (by rw[List.length_set];exact hz) s.toks
 by_cases h0:0<=k
 ·have hk:k.toNat=j:=by
   rw[seqIndex_of h0 h4]at h1;exact zP h1
  exact PySem.W.ki_setAt ho h0 (by omega) (by rw[zm,<-hl];exact h4) (by rw[hk];exact⟨_,I',q⟩)
 ·have hk:(k+(jP.toArray.size:Int)).toNat=j:=by
   rw[seqIndex_neg (by omega) h3]at h1;simp_all
  exact PySem.W.ki_setBack ho (by omega) (by simp_all) (by omega) (by rw[hk];exact⟨_,I',q⟩)
theorem Zfp (lo hi:Option Int)(n:Nat):(sliceBounds lo hi none n).1=((HT.sIx n 0 lo:Nat):Int)/\(sliceBounds lo hi none n).2.1=((HT.sIx n n hi:Nat):Int)/\(sliceBounds lo hi none n).2.2=1:=by
 refine⟨?_,?_,rfl⟩
 ·cases lo with
  | none=>simp[sliceBounds,HT.sIx]
  | some i=>
   simp only[sliceBounds,HT.sIx,Option.getD_none,show(1:Int) > 0 by decide,if_true];by_cases h:i<0
   ·simp only[h,if_true] <;> omega
   ·simp only[h,if_false] <;> omega
 ·cases hi with
  | none=>rfl
  | some i=>
   simp only[sliceBounds,HT.sIx,Option.getD_none,show(1:Int) > 0 by decide,if_true];by_cases h:i<0
   ·simp only[h,if_true] <;> omega
   ·simp only[h,if_false] <;> omega
theorem Zer (jP:List Value)(lo hi:Option Int):slicePick jP.toArray lo hi none=((jP.drop (HT.sIx jP.length 0 lo)).take (HT.sIx jP.length jP.length hi-HT.sIx jP.length 0 lo)).toArray:=by
 obtain⟨h1,h2,h3⟩:=Zfp lo hi jP.toArray.size;unfold slicePick;rw[h1,h2,h3];simp only[sliceRange_one,pick_run] <;> rfl
noncomputable def rSlL (K:qd):V->Option Int->Option Int->Hp->VK->Prop:=λx lo hi H Q=>∃a xs,x=.ref a/\ZT K H a xs/\∀p,H p=none->Q (.ref p) (Zp H p (.lst (Jb xs lo hi)))
theorem Zna:Jk X (rSlL X.K):=by
 intro jM s σ H x v vl vu lo hi sl Q I rx hs pl pu h;obtain⟨a,xs,rfl,hx,q⟩:=h
 cases rx
 obtain⟨jP,r,ht,hz⟩:=I.list hx;have jW:=r.length;refine⟨"list",_,slot_list_getitem.lookup,ht.isList.typeIs,?_⟩;refine wpAny_getItem_list_slice ht.isList hs pl pu .none (by simp) ?_ (by grind);rw[Zer,<-jW];refine⟨.ref s.heap.objs.size,_,I.laid (λb ob q=>qj _ q) (qk _) ?_,rfl,q _ (I.hok.fresh (qk _))⟩;exact⟨qu (ZcP xs lo hi) hz,_,0,(r.drop (HT.sIx xs.length 0 lo)).take (HT.sIx xs.length xs.length hi-HT.sIx xs.length 0 lo),qE _ rfl⟩
theorem B9:WH X (.builtin "len") (λxs H Q=>∃p ys,xs=[.ref p]/\(ZT X.K H p ys∨Z5 X.K H p ys)/\Q (.int ys.length) H):=by
 intro jM s σ H xs us Q I r h;obtain⟨p,ys,rfl,hq,q⟩:=h;obtain⟨u,rfl,rx⟩:=VM r
 cases rx
 have hn:=Zdv;rcases hq with hq | hq
 ·obtain⟨jP,r',pl,hz⟩:=I.list hq
  have jW:=r'.length;exact Calls.call_len_list pl.isList (by simp only[zm] <;> omega) ⟨.int ys.length,H,I.tok _,⟨s.toks+1,by simp_all⟩,q⟩
 ·obtain⟨jP,r',pl,hz⟩:=I.tuple hq
  have jW:=r'.length;exact len_tuple pl (by simp only[zm] <;> omega) ⟨.int ys.length,H,I.tok _,⟨s.toks+1,by simp_all⟩,q⟩
theorem Zes:WH X (.type "tuple") (λxs H Q=>∃p ys,xs=[.ref p]/\((ZT X.K H p ys/\∀l,H l=none->Q (.ref l) (Zp H l (.tup ys)))∨(Z5 X.K H p ys/\Q (.ref p) H))):=by
 intro jM s σ H xs us Q I r h;obtain⟨p,ys,rfl,h⟩:=h;obtain⟨u,rfl,rx⟩:=VM r
 cases rx
 rcases h with⟨hq,q⟩ | ⟨hq,q⟩
 ·obtain⟨jP,r',pl,hz⟩:=I.list hq
  have jW:=r'.length;refine call_tuple_list pl.isList (λh' kp=>?_) (by simp_all);have I1:Inv X jM σ H { s with heap:=h' }:=I.kept kp;have I2:Inv X jM σ (Zp H h'.objs.size (.tup ys)) { s with heap:=h'.push { cls:=.type "tuple",data:=.seq jP.toArray } }:=
   I1.laid (λb o e=>qj _ e) (qk _) (show YO X.prog X.w _ _ _ (.tup ys)from⟨hz,jP,r',qbp _ _⟩)
  exact⟨.ref h'.objs.size,_,I2,rfl,q _ (I1.hok.fresh (qk _))⟩
 ·obtain⟨jP,r',pl,hz⟩:=I.tuple hq
  exact call_tuple_same pl ⟨.ref p,H,I,rfl,q⟩
noncomputable def tyV (K:qd)(T:String)(x:V)(H:Hp):Prop:=match x with
 | .str _=>T = "str"
 | .int _=>T = "int"
 | .ref p=>(T = "list"/\∃xs,ZT K H p xs)∨(T = "tuple"/\∃o,K.lookup p=some o/\o.cls=.type "tuple"/\o.dict=none)∨
   (T = "dict"/\((∃kvs,H p=some (.dK kvs))∨∃kvs,H p=some (.dT kvs)))∨(T = "set"/\∃S n,H p=some (.set S n))
 | _=>False
theorem Zo7 {σ:St}(I:Inv X jM σ H s)(r:ZN x v)(ty:tyV X.K T x H) :
  s.TypeIs v T/\∀a,v=.ref a->∃ob,s.heap.get? a=some ob/\ob.dict=none:=by
 cases x with
 | str z=>
  obtain⟨t,rfl⟩:=r
  cases (show T = "str" from ty)
  exact⟨typeIs_str s z t,λ_ e=>nomatch e⟩
 | int i=>
  obtain⟨t,rfl⟩:=r
  cases (show T = "int" from ty)
  exact⟨typeIs_int s i t,λ_ e=>nomatch e⟩
 | ref p=>
  cases r
  rcases ty with⟨rfl,xs,hq⟩ | ⟨rfl,o,hk,hc,hd⟩ | ⟨rfl,hk⟩ | ⟨rfl,S,n,hk⟩
  ·obtain⟨jP,_,pl,_⟩:=I.list hq
   refine⟨pl.isList.typeIs,λa e=>?_⟩
   cases e
   obtain⟨o,n,e,c,hd,_⟩:=pl;exact⟨o,e,hd⟩
  ·refine⟨⟨o,I.kIn p o hk,hc⟩,λa e=>?_⟩
   cases e
   exact⟨o,I.kIn _ o hk,hd⟩
  ·have z:∃o,s.heap.get? p=some o/\o.ExactDict:=by
    rcases hk with⟨kvs,hk⟩ | ⟨kvs,hk⟩
    ·obtain⟨_,_,_,_,o,_,_,e,ex,_⟩:=I.hok p _ hk
     exact⟨o,e,ex⟩
    ·obtain⟨_,_,_,_,o,_,_,e,ex,_⟩:=I.hok p _ hk
     exact⟨o,e,ex⟩
   obtain⟨o,e,ex⟩:=z;refine⟨⟨o,e,ex.1⟩,λa e2=>?_⟩
   cases e2
   exact⟨o,e,ex.2.1⟩
  ·obtain⟨o,_,_,_,e,ex,_⟩:=I.hok p _ hk
   refine⟨⟨o,e,ex.1⟩,λa e2=>?_⟩
   cases e2
   exact⟨o,e,ex.2.1⟩
 | _=>exact zy ty
noncomputable def BY (K:qd)(T:String)(r:V->List V->Hp->VK->Prop)(to:TE)(t:TA):TE:=fun σ H Q=>to σ H λx H1=>tyV K T x H1/\t σ H1 λxs H2=>r x xs H2 Q
variable {o e:Expr}{es:List Expr}{to:TE}{t:TA}{name:Str}{apos cpos:Pos}{T id:String}{r:V->List V->Hp->VK->Prop}
theorem Zix (pa:PlainAttrs T)(slot:Slot T name id)(hty:typeOf (.builtin id)=pure (.type "method_descriptor"))(hm:MtR X id r)(ho:PE X o to)(ha:PA X (e::es) t)
  (hbase:xq o name X.env (eval o X.env)=eval o X.env:=by rfl)
  (hfew:((backTo cpos (xh (e::es) X.env)).all (λx=>!x.1)&&(xp cpos (xi [] X.env)).all (λx=>x.1.isSome)
   && decide ((e::es).length+([]:List Keyword).length+(if ([]:List Keyword).isEmpty then 0 else 1)<30))=true:=by rfl)
  (hline:(apos.endLine==cpos.line)=true:=by rfl) (hs:xh (e::es) X.env=(false,eval e X.env)::xh es X.env:=by rfl) (hplain:(backTo cpos (xh es X.env)).any (·.1)=false:=by rfl) :
  PE X (.Call (.Attribute o name apos) (e::es) [] cpos) (BY X.K T r to t):=by
 intro jM s σ H Q I h;refine wpAny_Call_method_late hbase hfew hline rfl (ZI (ho jM s σ H _ I h) λv s1 ⟨x,H1,I1,r1,ty,q1⟩=>?_);obtain⟨h1,h2⟩:=Zo7 I1 r1 ty;refine⟨T,id,pa,slot,hty,h1,h2,?_⟩;have hA:=ha cpos jM s1 σ H1 _ I1 q1;rw[hs]at hA⊢;refine Calls.callWith_builtin (by show(false||(backTo cpos (xh es X.env)).any (·.1))=false;rw[hplain] <;> rfl) (Calls.evalArgs_plain ?_);exact ZI hA λus s2 ⟨vs,H2,I2,r2,q2⟩=>hm jM s2 σ H2 x vs v us Q I2 r1 r2 q2
end
noncomputable def MtM (X:Cx)(id:String)(r:V->List V->Hp->VK->Prop):Prop:=
 ∀(jM:Qb) (s:Shared) (σ:St) (H:Hp) (x:V) (xs:List V) (v:Value) (us:List Value) (Q:VK),Inv X jM σ H s->ZN x v->ZG xs us->r x xs H Q->
  xf (xB X.prog X.w) X.A (call (.builtin id) (v::us)) (EP X jM σ Q) X.xe s
theorem ZG.one:∀{x:V} {us:List Value},ZG [x] us->∃u,us=[u]/\ZN x u
 | _,_,.cons r .nil=>⟨_,rfl,r⟩
theorem ZG.two:∀{x y:V} {us:List Value},ZG [x,y] us->∃u v,us=[u,v]/\ZN x u/\ZN y v
 | _,_,_,.cons r (.cons q .nil)=>⟨_,_,rfl,r,q⟩
theorem ZG.rep (h:ZG xs us):∀k:Nat,ZG (qp k xs).flatten (qp k us).flatten
 | 0=>.nil
 | k+1=>by
  exact ZG.append h (ZG.rep h k)
theorem Zcy (jP:List Value):∀(k:Nat) (ke:List Value),
  qat (λx1 x2=>x1++x2) ke.toArray (qp k jP.toArray)=(ke++(qp k jP).flatten).toArray
 | 0,ke=>by simp
 | k+1,ke=>by
  have e:ke.toArray++jP.toArray=(ke++jP).toArray:=by simp
  have e2:(ke++jP)++(qp k jP).flatten=ke++(qp (k+1) jP).flatten:=by
   grind
  rw[<-e2,<-Zcy jP k (ke++jP),<-e,qbT,List.foldl_cons]
section
variable {X:Cx}{jM:Qb}{σ:St}{H:Hp}{s:Shared}{l b:Addr}{xs ys zs:List V}
theorem Inv.lset {jP:List Value}(I:Inv X jM σ H s)(hH:H l=some (.lst xs))
  (e:s.heap.get? l=some { cls:=.type "list",data:=.seq jP.toArray n }) (hf:f jP.toArray=its'.toArray) (hv:ZG ys its') (hz:ys.length<=xg) :
  Inv X jM σ (Zp H l (.lst ys)) { s with heap:=s.heap.update l (zi f),toks:=t' }:=by
 have q:=PySem.IsL.update e f;rw[hf]at q;refine I.write (by rw[hH];exact trivial) (.inl rfl) (λb' u hb hu=>(zw s.heap (zi f) (qJ hb)).trans hu) ⟨_,q⟩ ?_;exact⟨hz,its',_,hv,q⟩
theorem Inv.lnew (I:Inv X jM σ H s)(hv:ZG ys jP)(hz:ys.length<=xg) :
  Inv X jM σ (Zp H s.heap.objs.size (.lst ys)) { s with heap:=s.heap.push { cls:=.type "list",data:=.seq jP.toArray },toks:=t' }:=
 I.laid (λ_ _ q=>qj _ q) (qk _) ⟨hz,jP,0,hv,qE _ rfl⟩
theorem Inv.fresh (I:Inv X jM σ H s):H s.heap.objs.size=none:=I.hok.fresh (qk _)
theorem Inv.lstM (I:Inv X jM σ H s)(hH:H l=some (.lst xs)):xs.length<=xg/\∃(jP:List Value) (n:Nat),ZG xs jP/\xs.length=jP.length/\s.heap.get? l=some { cls:=.type "list",data:=.seq jP.toArray n }:=by
 obtain⟨z,jP,n,r,e⟩:=I.hok l _ hH;exact⟨z,jP,n,r,r.length,e⟩
theorem ZkO (h:n<=xg):yX n=false:=by
 unfold yX
 grind
end
section
variable {X:Cx}
noncomputable def Bv:V->List V->Hp->VK->Prop:=λx vs H Q=>∃l xs y,x=.ref l/\vs=[y]/\H l=some (.lst xs)/\xs.length<xg/\Q .non (Zp H l (.lst (xs ++ [y])))
theorem Zbl:MtM X "list.append" Bv:=by
 intro jM s σ H x vs v us Q I rx rv h;obtain⟨l,xs,y,rfl,rfl,hH,hz,q⟩:=h
 cases rx
 obtain⟨u,rfl,ru⟩:=rv.one;obtain⟨z,jP,n,r,hl,e⟩:=I.lstM hH;refine call_meets F.slot_list_append ⟨_,e,rfl⟩ F.entry_list_append (F.args_list_append_2 _ _) (PySem.list_append l jP.toArray n u (by grind)) ⟨e,?_⟩;refine⟨.non,_,I.lset hH e (by simp) (r.append (.cons ru .nil)) ?_,rfl,q⟩
 grind
noncomputable def rCat:R2:=λx y H Q=>∃l b xs zs,x=.ref l/\y=.ref b/\H l=some (.lst xs)/\H b=some (.lst zs)/\xs.length+zs.length<=xg/\∀p,H p=none->Q (.ref p) (Zp H p (.lst (xs++zs)))
theorem Zo8:Yj X (binaryOp .Add) rCat:=by
 intro jM s σ H x y v u Q I rx ry h;obtain⟨l,b,xs,zs,rfl,rfl,hH,hB,hz,q⟩:=h
 cases rx
 cases ry
 obtain⟨z,jP,n,r,hl,e⟩:=I.lstM hH;obtain⟨z2,kf,n2,r2,hl2,e2⟩:=I.lstM hB;refine PySem.P.add_list e e2 ?_ (by simp_all);have ea:jP.toArray++kf.toArray=(jP++kf).toArray:=by simp
 rw[ea];exact⟨.ref _,_,I.lnew (r.append r2) (by simp_all),rfl,q _ I.fresh⟩
noncomputable def rRep:R2:=λx y H Q=>∃l k xs,x=.ref l/\y=.int k/\H l=some (.lst xs)/\-(2 ^ 63)<=k/\k<2 ^ 63/\xs.length*k.toNat<=xg/\
 ∀p,H p=none->Q (.ref p) (Zp H p (.lst (qp k.toNat xs).flatten))
theorem Zfq {α:Type}(xs:List α)(k:Nat):(qp k xs).flatten.length=k*xs.length:=by
 simp
theorem Zo9:Yj X (binaryOp .Mult) rRep:=by
 intro jM s σ H x y v u Q I rx ry h;obtain⟨l,k,xs,rfl,rfl,hH,h1,h2,hz,q⟩:=h
 cases rx
 obtain⟨t,rfl⟩:=ry;obtain⟨z,jP,n,r,hl,e⟩:=I.lstM hH;have jW:jP.toArray.size*k.toNat<=xg:=by rw[zm,<-hl];exact hz
 have hcap:¬jP.toArray.size*k.toNat > (2 ^ 63-1) / 8:=by
  have:(xg:Nat)<=(2 ^ 63-1) / 8:=by decide
  omega
 have hfit:¬(!Builtin.List.listFitsIndex k)=true:=by
  rw[fitsIndex_both h1 h2];exact yu
 have hlong:¬yX (jP.toArray.size*k.toNat)=true:=by
  rw[ZkO jW];exact yu
 have hnew:qat (λx1 x2=>x1++x2) #[] (qp (if jP.toArray.isEmpty=true then 0 else k.toNat) jP.toArray)=(qp k.toNat jP).flatten.toArray:=by
  have f0:∀m,qat (λx1 x2=>x1++x2) #[] (qp m jP.toArray)=(qp m jP).flatten.toArray:=λm=>by
   have:=Zcy jP m [];simp_all
  rw[f0]
  cases jP with
  | nil=>simp
  | cons a r'=>rfl
 refine wpAny_binaryOp_repeat_ref (by decide) ⟨_,e,rfl⟩ (λs'=>typeIs_int s' k t) noFill_list_mul F.fills_int_mul qau repeat_list F.slot_int_index.lookup
  (call_meets qau (typeIs_int s k t) F.entry_int_rmul (F.args_int_rmul_2 _ _) (int___rmul___int_list k t l jP.toArray n)
   ⟨e,rfl,⟨_,e,rfl⟩,call_meets F.slot_list_mul ⟨_,e,rfl⟩ F.entry_list_mul (F.args_list_mul_2 _ _) (AutoListH.list___mul___list_int_3 l jP.toArray n k t hfit hcap hlong) ⟨e,?_⟩⟩)
 rw[hnew];exact⟨.ref _,_,I.lnew (r.rep k.toNat) (by rw[Zfq,qa6];exact hz),rfl,q _ I.fresh⟩
end
section
variable {prog:xD}{w:World}{A:xE}{E:xF}{s:Shared}
end
section
variable {X:Cx}
end
section
variable {κ:Type}[DecidableEq κ]
noncomputable def YX (kvs:List (κ×V))(k:κ):Option V:=(kvs.find? λkv=>decide (kv.1=k)).map (·.2)
noncomputable def Y5 (kvs:List (κ×V))(k:κ)(v:V):List (κ×V):=
 if (kvs.any λkv=>decide (kv.1=k))=true then kvs.map (λkv=>if kv.1=k then (kv.1,v)else kv)else kvs ++ [(k,v)]
theorem VC {p:κ×V}(e:p.1=k):YX (p::r) k=some p.2:=by simp[YX,e]
theorem VD {p:κ×V}(e:¬p.1=k):YX (p::r) k=YX r k:=by simp[YX,e]
theorem ZbW (k:κ):∀kvs:List (κ×V),(kvs.any λkv=>decide (kv.1=k))=(YX kvs k).isSome
 | []=>rfl
 | p::r=>by
  rw[yL];by_cases e:p.1=k
  ·simp only[VC e,decide_eq_true e,Bool.true_or,Option.isSome_some]
  ·rw[VD e,decide_eq_false e];exact ZbW k r
theorem Zgf (k j:κ)(y:V):∀kvs:List (κ×V),YX (kvs.map λkv=>if kv.1=k then (kv.1,y)else kv) j=(YX kvs j).map λx=>if j=k then y else x
 | []=>rfl
 | p::r=>by
  have ih:=Zgf k j y r;rw[qO];by_cases h:p.1=k
  ·rw[if_pos h]
   by_cases e:p.1=j
   ·rw[VC (p:=(p.1,y)) e,VC e,qav,if_pos (e.symm.trans h)]
   ·rw[VD (p:=(p.1,y)) e,VD e,ih]
  ·rw[if_neg h]
   by_cases e:p.1=j
   ·rw[VC e,VC e,qav,if_neg (λz=>h (e.trans z))]
   ·rw[VD e,VD e,ih]
theorem ZeN (k j:κ)(y:V):∀kvs:List (κ×V),YX kvs k=none->YX (kvs ++ [(k,y)]) j=if j=k then some y else YX kvs j
 | [],_=>by
  by_cases e:k=j
  ·rw[if_pos e.symm];exact VC e
  ·rw[if_neg (λz=>e z.symm)];exact VD e
 | p::r,hn=>by
  rw[List.cons_append];have hk:¬p.1=k:=λz=>by rw[VC z]at hn;cases hn
  rw[VD hk]at hn;have ih:=ZeN k j y r hn;by_cases e:p.1=j
  ·rw[VC e,VC e,if_neg (λz=>hk (e.trans z))]
  ·rw[VD e,VD e,ih]
theorem ZkP (kvs:List (κ×V))(k j:κ)(y:V):YX (Y5 kvs k y) j=if j=k then some y else YX kvs j:=by
 unfold Y5;by_cases a:(kvs.any λkv=>decide (kv.1=k))=true
 ·rw[if_pos a,Zgf]
  rw[ZbW]at a;by_cases e:j=k
  ·obtain⟨x,hx⟩:=yj.mp a
   grind
  ·simp_all
 ·rw[if_neg a]
  refine ZeN k j y kvs ?_;rw[ZbW]at a;simp_all
theorem Bl (kvs:List (κ×V))(k:κ)(v:V):(Y5 kvs k v).length<=kvs.length+1:=by
 unfold Y5;split
 ·simp
 ·simp
theorem UA.isSome_eq (r:UA o u):o.isSome=u.isSome:=by
 cases o with
 | none=>cases u with
  | none=>rfl
  | some _=>exact(show False from r).elim
 | some _=>cases u with
  | none=>exact(show False from r).elim
  | some _=>rfl
theorem KV.val (r:KV kvs vs)(k:κ):UA (YX kvs k) (valueAt vs k):=by
 induction r with
 | nil=>exact zL
 | @cons p q ps qs h t ih=>
  obtain⟨h1,h2⟩:=h;by_cases e:p.1=k
  ·have e':=h1.symm.trans e
   have b:valueAt (q::qs) k=some q.2:=by simp[valueAt,e']
   rw[VC e,b];exact h2
  ·have e':¬q.1=k:=λz=>e (h1.trans z)
   have b:valueAt (q::qs) k=valueAt qs k:=by simp[valueAt,e']
   rw[VD e,b];exact ih
theorem KV.any (r:KV kvs vs)(k:κ):(kvs.any λkv=>decide (kv.1=k))=vs.any λkv=>decide (kv.1=k):=by
 induction r with
 | nil=>rfl
 | cons h t ih=>simp_all
theorem KV.repl (r:KV kvs vs)(k:κ)(ry:ZN y u) :
  KV (kvs.map λkv=>if kv.1=k then (kv.1,y)else kv) (vs.map λkv=>if kv.1=k then (kv.1,u)else kv):=by
 induction r with
 | nil=>exact .nil
 | @cons p q ps qs h t ih=>
  refine .cons ?_ ih;by_cases e:p.1=k
  ·simp_all
  ·simp_all
theorem KV.put (r:KV kvs vs)(k:κ)(ry:ZN y u):KV (Y5 kvs k y) (stored vs k u):=by
 unfold Y5 stored;rw[r.any k];by_cases e:(vs.any λkv=>decide (kv.1=k))=true
 ·rw[if_pos e,if_pos e];exact r.repl k ry
 ·rw[if_neg e,if_neg e];exact Paired.snoc r ⟨rfl,ry⟩
theorem KV.length {kvs:List (κ×V)}(r:KV kvs vs):kvs.length=vs.length:=yK r
end
theorem Zgg (r:ZN (kV k) u):(WW P w).is k u=true:=by
 cases k with
 | inl i=>obtain⟨t,e⟩:=(show ∃t,u=qaH i t from r);subst e;exact Zf7 P w i t
 | inr x=>obtain⟨t,e⟩:=(show ∃t,u=qbo x t from r);subst e;exact Zf8 P w x t
theorem ZeO:∀{ks:List Yc} {us:List Value},ZG (ks.map kV) us->ItemsAre (WW P w) ks us
 | [],_,r=>by cases r;exact .nil
 | k::ks,_,r=>by
  cases r with
  | cons h t=>exact .cons (Zgg h) (ZeO t)
noncomputable abbrev KT (H:Hp):List (List Yc×V)->List (List Yc×Addr×Value)->Prop:=Paired λp q=>p.1=q.1/\H q.2.1=some (.tup (p.1.map kV))/\ZN p.2 q.2.2
theorem KT.val (r:KT H kvs xs)(k:List Yc):UA (YX kvs k) ((atKey xs k).map (·.2)):=by
 induction r with
 | nil=>exact zL
 | @cons p q ps qs h t ih=>
  obtain⟨h1,_,h2⟩:=h;by_cases e:p.1=k
  ·have e':=h1.symm.trans e
   have b:atKey (q::qs) k=some q.2:=by simp[atKey,e']
   rw[VC e,b];exact h2
  ·have e':¬q.1=k:=λz=>e (h1.trans z)
   have b:atKey (q::qs) k=atKey qs k:=by simp[atKey,e']
   rw[VD e,b];exact ih
theorem KT.repl (r:KT H kvs xs)(k:List Yc)(ry:ZN y u) :
  KT H (kvs.map λkv=>if kv.1=k then (kv.1,y)else kv) (xs.map (putAt k u)):=by
 induction r with
 | nil=>exact .nil
 | @cons p q ps qs h t ih=>
  refine .cons ?_ ih;unfold putAt;by_cases e:p.1=k
  ·simp_all
  ·simp_all
theorem KT.put (r:KT H kvs xs)(k:List Yc)(hb:H b=some (.tup (k.map kV)))(ry:ZN y u) :
  KT H (Y5 kvs k y) (storedH xs k b u):=by
 have e:(kvs.any λkv=>decide (kv.1=k))=(atKey xs k).isSome:=by
  rw[ZbW,(r.val k).isSome_eq,qaV]
 unfold Y5 storedH;rw[e];by_cases q:(atKey xs k).isSome=true
 ·rw[if_pos q,if_pos q];exact r.repl k ry
 ·rw[if_neg q,if_neg q];exact Paired.snoc r ⟨rfl,hb,ry⟩
theorem KT.keeps (r:KT H kvs xs)(ht:∀b ys,H b=some (.tup ys)->H' b=some (.tup ys)):KT H' kvs xs:=
 Paired.mapP r λ_ _ z=>⟨z.1,ht _ _ z.2.1,z.2.2⟩
section
variable {P:xD}{w:World}{H:Hp}{h:Heap}{a:Addr}
theorem Zom (ok:YC P w H h)(e:Rd H a u):YO P w H h a u:=e.ok ok
theorem ZkQ (ok:YC P w H h)(e:Rd H a (.dK kvs)):kvs.length<=xg/\(a==sysModules)=false/\∃vs,KV kvs vs/\h.DictOf (WW P w) a vs:=
 show YO P w H h a (.dK kvs)from Zom ok e
theorem Zon (ok:YC P w H h)(e:H a=some (.dK kvs)):kvs.length<=xg/\(a==sysModules)=false/\∃vs,KV kvs vs/\h.DictOf (WW P w) a vs:=ZkQ ok (.inl e)
theorem ZdA (ok:YC P w H h)(e:H a=some (.tup (ks.map kV))):(tupleKind (WW P w)).is h ks a:=by
 obtain⟨_,jP,r,o,h1,h2,n,h3⟩:=(show YO P w H h a (.tup (ks.map kV))from ok a _ e);exact⟨o,jP.toArray,n,h1,h2,h3,by simpa using ZeO r⟩
theorem ZkR (ok:YC P w H h)(e:Rd H a (.dT kvs)):kvs.length<=xg/\(a==sysModules)=false/\
  ∃xs,KT H kvs xs/\h.DictOfH (tupleKind (WW P w)) a xs:=by
 obtain⟨z,y,xs,r,o,es,ep,h1,h2,h3,h4,h5⟩:=(show YO P w H h a (.dT kvs)from Zom ok e);refine⟨z,y,xs,r,o,es,ep,h1,h2,h3,h4,λx hx=>?_,h5⟩;have all:∀{l:List (List Yc×V)} {m:List (List Yc×Addr×Value)},KT H l m->∀x∈m,(tupleKind (WW P w)).is h x.1 x.2.1:=by
  intro l m q
  induction q with
  | nil=>simp
  | @cons p q ps qs hq t ih=>
   intro x hx;rcases qN.mp hx with e | hx
   ·exact ZdA ok (by simp_all)
   ·exact ih x hx
 exact all r x hx
theorem Zoo (ok:YC P w H h)(e:H a=some (.dT kvs)):kvs.length<=xg/\(a==sysModules)=false/\
  ∃xs,KT H kvs xs/\h.DictOfH (tupleKind (WW P w)) a xs:=ZkR ok (.inl e)
end
noncomputable def VP (H:Hp)(a:Addr)(y:V)(r:Option V):Prop:=
 (∃kvs k,Rd H a (.dK kvs)/\y=kV k/\r=YX kvs k)∨∃kvs k b,Rd H a (.dT kvs)/\y=.ref b/\H b=some (.tup (k.map kV))/\r=YX kvs k
noncomputable def UB (H:Hp)(a:Addr)(y v:V)(H':Hp):Prop:=
 (∃kvs k,H a=some (.dK kvs)/\y=kV k/\kvs.length<xg/\H'=Zp H a (.dK (Y5 kvs k v)))∨
 ∃kvs k b,H a=some (.dT kvs)/\y=.ref b/\H b=some (.tup (k.map kV))/\kvs.length<xg/\H'=Zp H a (.dT (Y5 kvs k v))
theorem VP.k {k:Yc}(e:H a=some (.dK kvs)):VP H a (kV k) (YX kvs k):=.inl ⟨kvs,k,.inl e,rfl,rfl⟩
theorem VP.t {k:List Yc}(e:H a=some (.dT kvs))(eb:H b=some (.tup (k.map kV))):VP H a (.ref b) (YX kvs k):=.inr ⟨kvs,k,b,.inl e,rfl,eb,rfl⟩
theorem UB.t {k:List Yc}(e:H a=some (.dT kvs))(eb:H b=some (.tup (k.map kV)))(hl:kvs.length<xg) :
  UB H a (.ref b) v (Zp H a (.dT (Y5 kvs k v))):=.inr ⟨kvs,k,b,e,rfl,eb,hl,rfl⟩
section
variable {X:Cx}{jM:Qb}{σ:St}{H:Hp}{s:Shared}{a:Addr}{y v:V}{u r:Value}{o:Option V}{A:xE}{E:xF}
theorem Inv.big (I:Inv X jM σ H s):sysModules<s.heap.objs.size:=by
 have h:=(I.mod.glob.keeps I.bk).lt;exact yE (by decide) h
theorem d_in (hu:A.units+1<cLine)(I:Inv X jM σ H s)(g:VP H a y o)(ry:ZN y u)(h:∀s',Inv X jM σ H s'->Q (.bool o.isSome) s') :
  xf (xB X.prog X.w) A (xk .In u (.ref a)) Q E s:=by
 rcases g with⟨kvs,k,e,ey,l⟩ | ⟨kvs,k,b,e,ey,eb,l⟩
 ·subst ey
  obtain⟨z,hd,vs,rel,dd⟩:=ZkQ I.hok e;refine wpAny_in_of (Zgg ry) hd dd.mapOf ?_;rw[<-(rel.val k).isSome_eq,<-l];exact h _ (I.tok _)
 ·subst ey
  cases (show u=qC b from ry)
  obtain⟨z,hd,xs,rel,dd⟩:=ZkR I.hok e;refine wpAny_in_heap (tupleKind_room_in1 hu) (ZdA I.hok eb) hd dd ?_;have q:=(rel.val k).isSome_eq;rw[qaV]at q;rw[<-q,<-l];exact h _ (I.tok _)
theorem Znb (hu:A.units+1<cLine)(I:Inv X jM σ H s)(g:VP H a y o)(ry:ZN y u)(h:∀s',Inv X jM σ H s'->Q (.bool (!o.isSome)) s') :
  xf (xB X.prog X.w) A (xk .NotIn u (.ref a)) Q E s:=by
 rcases g with⟨kvs,k,e,ey,l⟩ | ⟨kvs,k,b,e,ey,eb,l⟩
 ·subst ey
  obtain⟨z,hd,vs,rel,dd⟩:=ZkQ I.hok e;refine wpAny_notIn_of (Zgg ry) hd dd.mapOf ?_;rw[<-(rel.val k).isSome_eq,<-l];exact h _ (I.tok _)
 ·subst ey
  cases (show u=qC b from ry)
  obtain⟨z,hd,xs,rel,dd⟩:=ZkR I.hok e;refine wpAny_notIn_heap (tupleKind_room_in1 hu) (ZdA I.hok eb) hd dd ?_;have q:=(rel.val k).isSome_eq;rw[qaV]at q;rw[<-q,<-l];exact h _ (I.tok _)
theorem Zdc (I:Inv X jM σ H s)(mu:Mut (H a))(hs:qa3 a s.heap h')(he:∃q,h'.get? a=some q)(new:YO X.prog X.w (Zp H a ob) h' a ob) :
  Inv X jM σ (Zp H a ob) { s with heap:=h',toks:=t' }:=
 I.write mu (.inl rfl) (λb q hb z=>(hs.2 b hb).trans z) he new
theorem ZkS (z:kvs.length<=xg)(hd:(a==sysModules)=false)(rel:KV kvs vs)(dd:h'.DictOf (WW P w) a vs) :
  YO P w H' h' a (.dK kvs):=⟨z,hd,vs,rel,dd⟩
theorem Zjr (hu:A.units+1<cLine)(I:Inv X jM σ H s)(g:UB H a y v H')(ry:ZN y u)(rv:ZN v r)(h:∀s',Inv X jM σ H' s'->Q () s') :
  xf (xB X.prog X.w) A (setItem (.ref a) u r) Q E s:=by
 rcases g with⟨kvs,k,e,ey,l,eH⟩ | ⟨kvs,k,b,e,ey,eb,l,eH⟩
 ·subst ey eH
  obtain⟨z,hd,vs,rel,dd⟩:=Zon I.hok e;have hz:vs.length<=xg:=by rw[<-rel.length];exact z
  have hl:(Y5 kvs k v).length<=xg:=by have:=Bl kvs k v;omega
  refine wpAny_setItem_pairs (hsz:=hz) (Zgg ry) dd λh' dd' hs=>h _ ?_;have he:∃q,h'.get? a=some q:=let ⟨q,_,_,hq,_⟩:=dd';⟨q,hq⟩;exact Zdc I (by rw[e];exact zL) hs he (ZkS hl hd (rel.put k rv) dd')
 ·subst ey eH
  cases (show u=qC b from ry)
  obtain⟨z,hd,xs,rel,dd⟩:=Zoo I.hok e;have hz:xs.length<=xg:=by rw[<-yK rel];exact z
  have hl:(Y5 kvs k v).length<=xg:=by have:=Bl kvs k v;omega
  refine wpAny_setItem_heap (tupleKind_room_in1 hu) (ZdA I.hok eb) dd λh' dd' hs=>h _ ?_;obtain⟨q,es,ep,hq,h2,h3,h4,_,h5⟩:=dd';refine Zdc I (by rw[e];exact zL) hs ⟨q,hq⟩ ⟨hl,hd,_,(rel.put k eb rv).keeps λc ys ec=>?_,q,es,ep,hq,h2,h3,h4,h5⟩;rw[Zu (Zoj ec e (λz=>nomatch z))];exact ec
end
section
variable {X:Cx}{jM:Qb}{σ:St}{H:Hp}{s:Shared}{a:Addr}{kvs:List (Yc×V)}{k:Yc}{u:Value}{A:xE}{E:xF}
end
noncomputable def Zqf (td ty tv:TE):TS:=λD σ H=>tv σ H λv H1=>td σ H1 λx H2=>ty σ H2 λy H3=>∃a H4,x=.ref a/\UB H3 a y v H4/\D.nx σ H4
section
variable {X:Cx}{o i e value:Expr}{pos pos' tpos:Pos}{td ty tv:TE}
theorem Znc (hu:X.A.units+1<cLine)(ho:PE X o td)(hi:PE X i ty)(hv:PE X value tv)(hs:xr value (some (.Subscript o i pos')) pos.line X.env=pure false) :
  PS X (.Assign [.Subscript o i pos'] value pos) (Zqf td ty tv):=by
 intro jM s σ H D I h;refine wpAny_Assign_Subscript (ZI (hv jM s σ H _ I h) λr s1 ⟨v,H1,I1,rv,q1⟩=>ZI (ho jM s1 σ H1 _ I1 q1) λu s2 ⟨x,H2,I2,rx,q2⟩=>ZI (hi jM s2 σ H2 _ I2 q2) λiv s3 ⟨y,H3,I3,ry,a,H4,ex,g,q3⟩=>?_) hs;subst ex;obtain rfl:u=qC a:=rx;exact Zjr hu I3 g ry rv λs4 I4=>⟨σ,H4,I4,q3⟩
end
theorem ZkT (h:Heap)(hb:sysModules<h.objs.size):YO P w H (h.push { cls:=.type "dict",data:=.dict #[] }) h.objs.size (.dK []):=
 ⟨zv _,beq_eq_false_iff_ne.mpr (qJ (qL hb)),[],.nil,Heap.DictOf.new h⟩
theorem Zgh (h:Heap)(hb:sysModules<h.objs.size):YO P w H (h.push { cls:=.type "dict",data:=.dict #[] }) h.objs.size (.dT []):=
 ⟨zv _,beq_eq_false_iff_ne.mpr (qJ (qL hb)),[],.nil,_,#[],0,qE _ rfl,⟨rfl,rfl,rfl⟩,rfl,rfl,List.nodup_nil⟩
noncomputable def Zpa:TE:=λ_ H Q=>∀p,H p=none->Q (.ref p) (Zp H p (.dT []))
section
variable {X:Cx}{pos:Pos}
theorem ZkU:PE X (.Dict [] [] pos) Zpa:=λjM s σ H Q I h=>
 wpAny_Dict_empty ⟨.ref s.heap.objs.size,_,I.laid (λ_ _ q=>qj _ q) (qk _) (Zgh s.heap I.big),rfl,h _ (I.hok.fresh (qk _))⟩
end
section
variable {X:Cx}{jM:Qb}{σ:St}{H:Hp}{s:Shared}{a:Addr}{y d:V}{u r:Value}{o:Option V}{A:xE}{E:xF}
end
section
variable {X:Cx}{o e f:Expr}{apos cpos:Pos}{td ty tx:TE}
end
section
variable {X:Cx}{jM:Qb}{σ:St}{H:Hp}{s:Shared}{a:Addr}{kvs:List (Yc×V)}{A:xE}{E:xF}
end
section
variable {X:Cx}{jM:Qb}{σ:St}{H:Hp}{s:Shared}{a:Addr}{y:V}{u:Value}{A:xE}{E:xF}
end
end L2
namespace Att
open PySem.W PySem.Calls
theorem Zc8:∀(ns:List Int) (vs:List Value),WellAll P h vs (ns.map WData.int)->IntsAre vs ns:=by
 intro ns
 induction ns with
 | nil=>
  intro vs w
  cases w
  exact .nil
 | cons n ns ih=>
  intro vs w
  cases w with
  | cons a b=>
   cases a
   exact .cons _ _ (ih _ b)
theorem Zjs {l:OpenLaw}(hn:l.most=some n)
  (hpre:l.row.toRowW.claim.pre args=true) (hwl:WellAll P h vals args) :
  ∃a vs ns,vals=[qC a]/\args=[WData.list (ns.map WData.int)]/\h.get? a=some { cls:=.type "list",data:=.seq vs.toArray }/\IntsAre vs ns/\ns.length<=n:=by
 have hsh:=(pre_splitW hpre).1;have hc:l.pre.holds [] { args:=args }=true:=(pre_splitW hpre).2;obtain⟨d,r,rfl,h1,h2⟩:=hasAllW_cons hsh;obtain rfl:=hasAllW_nil h2;obtain⟨xs,rfl,h3⟩:=hasW_list h1;obtain⟨ns,rfl⟩:=items_int h3;have jW:ns.length<=n:=by
  have h4:(WTm.not (.lt (.lit (.int (n:Int))) (.len (.arg 0)))).holds [] { args:=[.list (ns.map .int)] }=true:=by
   have h4:=(holds_andW hc).1;simp_all
  have h5:=condW_of h4 (w_not (w_lt w_lit (w_len_list (w_arg rfl))));simp_all
 cases hwl with
 | cons w1 w2=>
  cases w2
  cases w1 with
  | list ho hall=>exact⟨_,_,ns,rfl,rfl,ho,Zc8 ns _ hall,jW⟩
theorem Zjt (l:OpenLaw)(args:List WData):l.row.toRowW.claim.post args (.bool true) args=true:=
 postW_of
  (show WShape.has [] (.bool true) .bool=true by rfl)
  (show(WTm.eq .res (.lit (.bool true))).value [] { args:=args,res:=some (.bool true),after:=args }=some (.bool (true==true))from w_eq_bool (w_res rfl) w_lit) rfl
theorem attach_call {l:OpenLaw}
  (hn:l.most=some n) (hdf:d.params.defaults=[])
  (call:∀(w:World) (s₀ s₁:Shared) (mg mb:Str->Option Value) (fa:Addr) (o:Obj) (pm cd doc:Value) (a:Addr) (vs:List Value) (ns:List Int),
   Ground q loose [] XP w s₀ mg mb s₁.heap->YP w s₁.heap->
   s₁.heap.get? fa=some o->o.data=.func (docDef d.name d.params d.body d.scope pm cd doc)->s₁.heap.CodeRec cd d.name->mg d.name=some (.ref fa)->
   s₁.heap.get? a=some { cls:=.type "list",data:=.seq vs.toArray }->IntsAre vs ns->ns.length<=n->s₁.gens = #[]->
   xo (xB l.prog w) callerA (.call (.ref fa) ⟨[.ref a],[]⟩) (λr s'=>r=.ok (.ret (.bool true))/\OldK s₁.heap s'.heap/\s'.os=s₁.os/\AllBare s'.gens) s₁) :
  WalkO q loose XP YP l.row.toRowW d [] (λf vs=>qbL f vs):=by
 intro w s₀ s₁ mg mb G Y fa o pm cd doc dV kV ho hd hcd hD hmg hg args vals as hpre hlay hrd hwl hlo;obtain rfl:dV=.none:=Dflts.none hD hdf;obtain rfl:kV=.none:=Dflts.noKw hD;obtain⟨a,vs,ns,rfl,rfl,hobj,hints,jW⟩:=Zjs hn hpre hwl;refine enter_call (codeAny_mono (call w s₀ s₁ mg mb fa o pm cd doc a vs ns G Y ho (fd_plain hd) hcd hmg hobj hints jW hg) λr s' hq=>?_);obtain⟨rfl,h2,h3,h4⟩:=hq;exact⟨.inl ⟨.bool true,.bool true,[],rfl,λ_=>rfl,.bool true,Zjt l _,λ_=>⟨qbP.nil,λ_ hm=>(nomatch hm)⟩⟩,h2,h3,h4⟩
section
variable {prog:xD}{w:World}{A:xE}{E:xF}{s:Shared}{K:Frag}
end
end Att
namespace L2
theorem ZeP:∀{vs:List Value} {ns:List Int},IntsAre vs ns->ZG (ns.map V.int) vs
 | _,_,.nil=>.nil
 | _,_,.cons n t h=>.cons ⟨t,rfl⟩ (ZeP h)
noncomputable def WE (s:Stmt):Arguments:=match s with
 | .FunctionDef _ a _ _ _ _ _ _ _ _=>a
 | _=>{ posonlyargs:=[],args:=[],vararg:=none,kwonlyargs:=[],kw_defaults:=[],kwarg:=none,defaults:=[] }
noncomputable def XV (s:Stmt):List Stmt:=match s with
 | .FunctionDef _ _ b _ _ _ _ _ _ _=>b
 | _=>[]
noncomputable def ZF (s:Stmt):Scope:=match s with
 | .FunctionDef _ _ _ _ _ _ sc _ _ _=>sc
 | _=>{ kind:=.function,names:=[],isGenerator:=false,isCoroutine:=false }
noncomputable abbrev ZR:UL:=λ_ _ _ _ _ _=>False
noncomputable abbrev E0:XK:=λ_ _ _=>False
theorem JW:U1 ZR X E0:=λ_ _ _ _ _ _ _ h=>h.elim
structure Fun (K:qd)(x qual:Str)(st:Stmt)(f:Addr)(fd:xC):Prop where
 ex:∃(oc:Value) (od:Option Addr) (kV doc pm:Value) (an:Option Addr) (cdv ct:Value) (osl:Array (Option Value)),
  fd=zt x qual (WE st) (XV st) (ZF st) .none kV doc pm an cdv ct/\K.lookup f=some ⟨oc,od,.func fd,osl⟩/\yD K cdv qual=true
 kp:zE K (.ref f)=true
section
variable {P:xD}{w:World}{K:qd}{mg:Str->Option Value}{base:Heap}
theorem Fun.ok {st:Stmt}(F:Fun K x qual st f fd)(S:FnScope N ps (ZF st))(len:∀vs H Q E,sp vs H Q E->vs.length=ps.length)
  (hbody:∀(cdv:Value) (A:xE) (outer:List Env) (s:Shared) (H:Hp) (vs:List V) (Q:VK) (E:XK),Room k (A.deeper (envOfC qual (ZF st) s.heap.objs.size f cdv))->sp vs H Q E->
   ∃t,XO (Vp ZR P w K mg base N qual (ZF st) f cdv A outer s H E).nox (XV st) t/\t { nx:=λ_ H'=>Q .non H',rt:=Q } (start N vs) H):FnOk P w K mg base ZR (k+1) f fd ps sp:=by
 obtain⟨oc,od,kV,doc,pm,an,cdv,ct,osl,rfl,lk,hcd⟩:=F.ex;refine Zol lk hcd S len λA outer s H vs Q E hr hsp=>?_;obtain⟨t,h,q⟩:=hbody cdv A outer s H vs Q E hr hsp;exact⟨t,h.nox,q⟩
theorem Fun.binds {st:Stmt}(F:Fun K x qual st f fd)
  (h:∀(kV doc pm:Value) (an:Option Addr) (cdv ct:Value) (us:List Value),us.length=ps.length->bindArgs (zt x qual (WE st) (XV st) (ZF st) .none kV doc pm an cdv ct) ⟨us,[]⟩=pure (ps.zip us)):Xf K fd ps []:=by
 obtain⟨oc,od,kV,doc,pm,an,cdv,ct,osl,rfl,lk,hcd⟩:=F.ex;exact .all (h kV doc pm an cdv ct)
theorem ZkV {st:Stmt}{kV:Value}(l:K.lookup f=some ⟨oc,od,.func (zt x qual (WE st) (XV st) (ZF st) .none kV doc pm an cdv ct),osl⟩)
  (c:yD K cdv qual=true) (k:zE K (.ref f)=true):Fun K x qual st f (zt x qual (WE st) (XV st) (ZF st) .none kV doc pm an cdv ct):=⟨⟨oc,od,kV,doc,pm,an,cdv,ct,osl,rfl,l,c⟩,k⟩
end
theorem hu_of (hr:Room k A):A.units+1<cLine:=zr (Nat.add_le_add_left (by decide:1<=64) _) hr.units
section
variable {X:Cx}
theorem pv (i:Nat){pos:Pos}(hN:X.N[i]?=some x:=by rfl)(hv:Vis X.env.scope x:=by first | exact qy rfl | exact z7 (qy rfl) | exact z7 (z7 rfl))(hd:(x==("__debug__" : Str))=false:=by decide)
  (hcd:(x==("__classdict__" : Str))=false:=by decide):PE X (.Name x pos) (Yf i):=ZoM hN hv hd hcd
end
theorem Ua {A:Prop}(h:B):if false=true then A else B:=by
 grind
theorem Ub {A:Prop}(h:A):if true=true then A else B:=by
 exact h
section
variable {X:Cx}
end
section
variable {κ:Type}[DecidableEq κ]
end
theorem Zgi (I:Nat->Shared->Prop)
  (turn:∀n s,I n s->xf (xB prog w) A (pyNext it) (λr s₁=>match r with
   | none=>R (.ok .next) s₁
   | some v=>xf (xB prog w) A (letOwnedTupleGo target it v) (λ_ s₁'=>xf (xB prog w) A (assign target env v) (λ_ s₂=>
     xf (xB prog w) A (forIn ifs true λc r=>if r=true then do let ok<-isTrue c env (eval c env);pure (yy ok)else pure (yy r)) (λok s₃=>
      if ok=true then xf (xB prog w) A (eval elt env) (λx s₄=>
       xf (xB prog w) A (call (.builtin "list.append") [ke,x]) (λ_ s₅=>∃m,m<n/\I m s₅) (notedBy (xB prog w) A env λe s'=>R (.error e) s') s₄) (notedBy (xB prog w) A env λe s'=>R (.error e) s') s₃
      else ∃m,m<n/\I m s₃) (notedBy (xB prog w) A env λe s'=>R (.error e) s') s₂) (notedBy (xB prog w) A env λe s'=>R (.error e) s') s₁') (notedBy (xB prog w) A env λe s'=>R (.error e) s') s₁) (notedBy (xB prog w) A env λe s'=>R (.error e) s') s)
  (n:Nat) (h:I n s) :
  xo (xB prog w) A (.compLoop (.ListComp elt [⟨target,iter,ifs,0⟩] scope pos) 0 it ke env) R s:=by
 refine codeAny_loop rfl I (λn s hI=>?_) n h;show xf _ A ((compTurn (.ListComp elt [⟨target,iter,ifs,0⟩] scope pos) 0 it ke env).onRaise (λx=>do noteFrame x env;theTreesLotGoes x)) _ _ s;refine wpAny_noted ?_;rw[compTurn_list];refine xa (wpAny_standAt (xa (xc (turn n s hI) (λr s₁ h₁=>?_) λ_ _ h'=>h')))
 cases r with
 | none=>exact xb h₁
 | some v=>
  refine xa (xc h₁ (λ_ s₁' h₁'=>?_) λ_ _ h'=>h');refine xa (xc h₁' (λ_ s₂ h₂=>xa (xc h₂ (λok s₃ h₃=>?_) λ_ _ h'=>h')) λ_ _ h'=>h')
  cases ok with
  | false=>exact xb ⟨rfl,h₃⟩
  | true=>
   exact xa (xa (xc h₃ (λx s₄ h₄=>xa (xc h₄ (λ_ s₅ h₅=>xb (xb ⟨rfl,h₅⟩)) λ_ _ h'=>h')) λ_ _ h'=>h'))
noncomputable def YN (X:Cx)(jM:Qb)(N':List Str)(scope:Scope)(cl:List (Str×Addr))(C:Addr)(s:Shared)(H:Hp)(fp:List Addr):Cx where
 prog:=X.prog
 w:=X.w
 K:=X.K
 mg:=X.mg
 base:=X.base
 A:=X.A
 N:=N'
 s₀:=s
 H₀:=H
 env:=compEnvC scope cl C X.env
 outer:=X.stack
 stack:=X.stack
 ex:=fp
 fn:=λ_=>false
 calm:=X.calm
 pn:=X.pn++jM
 xe:=λ_ _=>False
noncomputable def Uc (X:Cx)(ifs:List Expr)(t:TT):Prop:=
 ∀(jM:Qb) (s:Shared) (σ:St) (H:Hp) (Q:Bool->Hp->Prop),Inv X jM σ H s->t σ H Q->
  xf (xB X.prog X.w) X.A (forIn ifs true λc r=>if r=true then do let ok<-isTrue c X.env (eval c X.env);pure (yy ok)else pure (yy r)) (TP X jM σ Q) X.xe s
noncomputable def Zqg:TT:=λ_ H Q=>Q true H
theorem ZkW:Uc X [] Zqg:=λ_ _ _ H _ I h=>xb ⟨H,I,h⟩
theorem ZkX (h:PT X c t):Uc X [c] t:=λjM s σ H Q I hq=>wpAny_tests_one (h jM s σ H Q I hq)
structure BlkOk (X:Cx)(N':List Str)(src:List (Option Nat))(scope:Scope)(cl:List (Str×Addr)):Prop where
 clos:closureFor scope X.env=pure cl
 nocell:∀y∈scope.names,y.2≠.cell
 kind:scope.kind=.function
 names:∀y∈scope.names,y.2=.local->scope.names.lookup y.1=some .local
 len:src.length=N'.length
 cells:∀x c,cl.lookup x=some c->X.env.cells.lookup x=some c
 has:∀x,((relabel scope X.env).names.lookup x=some .cell∨(relabel scope X.env).names.lookup x=some .free)->∃c,cl.lookup x=some c
 from_:∀(i j:Nat) x,src[i]?=some (some j)->N'[i]?=some x->X.N[j]?=some x/\(X.env.kindOf x=some .cell∨X.env.kindOf x=some .free)/\((relabel scope X.env).names.lookup x=some .cell∨(relabel scope X.env).names.lookup x=some .free)
noncomputable def V4 (src:List (Option Nat))(σ:St):St:=src.map λo=>o.bind λj=>(σ[j]?).bind id
theorem Znd {σ:St}{C:Addr}
  (B:BlkOk X N' src scope cl) (I:Inv X jM σ H s) (hf:∀b∈fp,W3 X jM H b) (hC:s.heap.objs.size<=C) (hCf:∀b∈fp,b≠C)
  (hs:s1.os=s.os) (hg:s1.gens=s.gens) (hk:∀b o,s.heap.get? b=some o->s1.heap.get? b=some o) (hn:s1.heap.Ns C m):Inv (YN X jM N' scope cl C s H fp) [] (V4 src σ) H s1:=by
 have noC:∀b o,s.heap.get? b=some o->b≠C:=λb o e=>qL (qK (qz e) hC);refine⟨⟨I.ok.mod,B.kind,I.ok.glob,I.ok.blt,hC,λx y c h1 h2=>I.ok.inj x y c (B.cells _ _ h1) (B.cells _ _ h2),λx hx=>B.has x hx,λx c hf _=>(by cases hf),I.ok.hd,I.ok.frames,.inl rfl,λb hb=>?_,I.bs,qu I.ok.bsz I.sz,λb o e hb=>?_,λb hb z=>?_,I.stack,I.stkFree⟩,
  hs,by rw[hg];exact I.bare,Un.kept hk,⟨m,hn,λi x v h1 h2 h3=>?_⟩,λx c e=>?_,I.hok.fresh hC,λx c e=>I.freeC x c (B.cells _ _ e),λp hp=>?_,I.hok.kept hk,?_⟩
 ·obtain⟨f0,f1,f2,f3,f4,f5⟩:=hf b hb
  exact⟨hCf b hb,λx c e=>f4 x c (B.cells _ _ e)⟩
 ·obtain⟨f0,f1,f2,f3,f4,f5⟩:=hf b hb
  rcases f3 with z | z
  ·exact I.ok.noex b o e z
  ·exact absurd (qK (qz (I.ok.bs b o e).1) z) (z5 _)
 ·obtain⟨f0,f1,f2,f3,f4,f5⟩:=hf b hb
  rcases qN.mp (I.stkSub b z)with e | e
  ·exact f1 e
  ·exact f2 e
 ·have h2':(V4 src σ)[i]?=some (some v):=h2
  unfold V4 at h2';rw[qI]at h2'
  cases e:src[i]? with
  | none=>rw[e]at h2';cases h2'
  | some o=>
   rw[e]at h2'
   cases o with
   | none=>simp at h2'
   | some j=>
    obtain⟨q1,q2,q3⟩:=B.from_ i j x e h1;have hj:σ[j]?=some (some v):=by
     simp only[qav,qa7,Option.some.injEq]at h2'
     cases e2:σ[j]? with
     | none=>rw[e2]at h2';cases h2'
     | some o2=>rw[e2]at h2';simp at h2';rw[h2']
    obtain⟨mm,hnn,hl⟩:=I.loc;have vis:Vis X.env.scope x:=by
     rcases q2 with z | z
     ·exact .inr (.inl z)
     ·exact .inr (.inr z)
    obtain⟨u,r,l⟩:=hl j x v q1 hj vis;refine⟨u,r,?_⟩;rcases l with⟨k,_⟩ | ⟨_,c,ec,z⟩
    ·rcases q2 with z | z <;> rw[z]at k <;> cases k
    ·obtain⟨c',ec'⟩:=B.has x q3
     have ee:c'=c:=by
      have:=B.cells _ _ ec';rw[ec]at this;simp_all
     subst ee;obtain⟨o,ho,hd⟩:=z;exact .inr ⟨q3,c',ec',o,hk _ _ ho,hd⟩
 ·obtain⟨v,o,ho,hd⟩:=I.cell x c (B.cells _ _ e)
  exact⟨v,o,hk _ _ ho,hd⟩
 ·have hp':p∈X.pn++jM:=by simpa[YN]using hp
  obtain⟨e,n,ne,nf,d⟩:=I.pin p hp';refine⟨hk _ _ e,n,noC _ _ e,λz=>?_,d⟩;rcases qN.mp (I.stkSub p.1 z)with q | q
  ·exact ne q
  ·exact nf q
 ·show(V4 src σ).length=N'.length
  unfold V4;rw[qf,B.len]
noncomputable def ZkY (src:List (Option Nat))(wi:TI)(g:TG)(tt:TT)(te:TE):TE:=fun σ H Q=>wi σ H λJ H1=>∀p,H1 p=none->
 ∃W:Nat->Nat->St->Hp->Prop,(∃m,W 0 m (V4 src σ) (Zp H1 p (.lst [])))/\∀i m σ2 H2,W i m σ2 H2->
  (J.stop i H2/\Q (.ref p) H2)∨(J.go i H2/\∀x H3,J.yld i H2 x H3->g x σ2 H3 fun σ4 H4=>tt σ4 H4 λok H5=>
   if ok=true then te σ4 H5 λy H6=>∃xs,H6 p=some (.lst xs)/\xs.length<xg/\∃m',m'<m/\W (i+1) m' σ4 (Zp H6 p (.lst (xs ++ [y])))
   else ∃m',m'<m/\W (i+1) m' σ4 H5)
theorem ZeQ
  {σ:St} {Qp:Addr->Hp->Prop} {RR:Value->Addr->Result->Shared->Prop}
  (hc:X.calm=true) (B:BlkOk X N' src scope cl)
  (hg:∀jM C s H fp,PG (YN X jM N' scope cl C s H fp) tg g) (ht:∀jM C s H fp,Uc (YN X jM N' scope cl C s H fp) ifs tt) (he:∀jM C s H fp,PE (YN X jM N' scope cl C s H fp) elt te)
  (I2:Inv X jM σ H2 s₂) (T:Turn X.prog X.w X.K tg J fp it tn) (jZ:tn 0 s₂.heap) (f2:∀b∈fp,W3 X jM H2 b)
  (q2:∀p,H2 p=none->∃W:Nat->Nat->St->Hp->Prop,(∃m,W 0 m (V4 src σ) (Zp H2 p (.lst [])))/\∀i m σ2 H2,W i m σ2 H2->
   (J.stop i H2/\Qp p H2)∨(J.go i H2/\∀x H3,J.yld i H2 x H3->g x σ2 H3 fun σ4 H4=>tt σ4 H4 λok H5=>
    if ok=true then te σ4 H5 λy H6=>∃xs,H6 p=some (.lst xs)/\xs.length<xg/\∃m',m'<m/\W (i+1) m' σ4 (Zp H6 p (.lst (xs ++ [y])))
    else ∃m',m'<m/\W (i+1) m' σ4 H5))
  (hfin:∀p C s6 H5 mm,Inv X jM σ H5 s6->s6.heap.Ns C mm->W3 X jM H5 C->Qp p H5->RR (.ref p) C (.ok .next) s6) :
  xf (xB X.prog X.w) X.A (newList []) (λke s₃=>xf (xB X.prog X.w) X.A (newFunctionEnv scope X.env.globals cl [] X.env.qual none .none (some X.env)) (λcenv s₄=>
   xo (xB X.prog X.w) X.A (.compStart (.ListComp elt [⟨tg,iter,ifs,0⟩] scope pos) 0 (.ref it) ke { cenv with scope:=relabel scope X.env }) (RR ke cenv.locals) s₄) E s₃) E s₂:=by
 have fpold:∀b∈fp,b<s₂.heap.objs.size:=λb hb=>by
  obtain⟨o,e,_⟩:=T.obj _ _ jZ b hb;exact qz e
 have q2:=q2 s₂.heap.objs.size (I2.hok.fresh (qk _));obtain⟨W,⟨m0,w0⟩,turn⟩:=q2
 -- the new list
 refine xl ?_;have I3:Inv X jM σ (Zp H2 s₂.heap.objs.size (.lst [])) { s₂ with heap:=s₂.heap.push { cls:=.type "list",dict:=none,data:=.seq ([]:List Value).toArray } }:=
  I2.lnew (t':=s₂.toks) (ys:=[]) .nil (zv _)
 have st3:tn 0 (s₂.heap.push { cls:=.type "list",dict:=none,data:=.seq ([]:List Value).toArray }):=T.keep _ _ _ jZ λb _ o e=>qj _ e;have f3:∀b∈fp,W3 X jM (Zp H2 s₂.heap.objs.size (.lst [])) b:=λb hb=>by
  obtain⟨f0,f1⟩:=f2 b hb;exact⟨by rw[Zu (qL (fpold b hb))];exact f0,f1⟩
 generalize hs3:({ s₂ with heap:=s₂.heap.push { cls:=.type "list",dict:=none,data:=.seq ([]:List Value).toArray } }:Shared)=s₃ at I3;have st3':tn 0 s₃.heap:=by rw[<-hs3];exact st3
 have lt3:s₂.heap.objs.size<s₃.heap.objs.size:=by rw[<-hs3];show _<(Heap.push _ _).objs.size;rw[Heap.size_push];exact yg _
 refine wpAny_newFunctionEnv B.nocell (by intro y hy;simp at hy) (λh₁ hns₁ hsb₁=>?_) B.kind;have kp1:∀b o,s₃.heap.get? b=some o->h₁.get? b=some o:=λb o e=>hsb₁.extBut b o (qL (qz e)) (qj _ e);have I4:=Znd (s1:={ s₃ with heap:=h₁,toks:=s₃.toks+([]:List (Str×Value)).length }) (C:=s₃.heap.objs.size) B I3 f3 (qk _) (λb hb=>qL (yE (fpold b hb) lt3)) rfl rfl kp1 hns₁;have st4:tn 0 h₁:=T.keep _ _ _ st3' λb _ o e=>kp1 b o e;show xo (xB X.prog X.w) X.A (.compStart (.ListComp elt [⟨tg,iter,ifs,0⟩] scope pos) 0 (.ref it) (.ref s₂.heap.objs.size) (compEnvC scope cl s₃.heap.objs.size X.env)) (RR (.ref s₂.heap.objs.size) s₃.heap.objs.size) _;generalize hs4:({ s₃ with heap:=h₁,toks:=s₃.toks+([]:List (Str×Value)).length }:Shared)=s₄ at I4;have st4':tn 0 s₄.heap:=by rw[<-hs4];exact st4
 have blkX:∀{b:Addr} {H':Hp},b∈fp->H' b=none->W3 (YN X jM N' scope cl s₃.heap.objs.size s₃ (Zp H2 s₂.heap.objs.size (.lst [])) fp) [] H' b:=λ{b H'} hb hn=>by
  obtain⟨f0,f1,f2',f3',f4',f5'⟩:=f3 b hb;refine⟨hn,qL (yE (fpold b hb) lt3),λz=>?_,.inl hb,λx c e=>f4' x c (B.cells _ _ e),λp hp=>?_⟩
  ·rcases qN.mp (I3.stkSub b z)with e | e
   ·exact f1 e
   ·exact f2' e
  ·exact f5' p (by simpa[YN]using hp)
 have loop:xo (xB X.prog X.w) X.A (.compLoop (.ListComp elt [⟨tg,iter,ifs,0⟩] scope pos) 0 (.ref it) (.ref s₂.heap.objs.size) (compEnvC scope cl s₃.heap.objs.size X.env)) (RR (.ref s₂.heap.objs.size) s₃.heap.objs.size) s₄:=by
  refine Zgi (λn s'=>∃i σ' H',Inv (YN X jM N' scope cl s₃.heap.objs.size s₃ (Zp H2 s₂.heap.objs.size (.lst [])) fp) [] σ' H' s'/\tn i s'.heap/\(∀b∈fp,H' b=none)/\W i n σ' H') ?_ m0 ⟨0,_,_,I4,st4',λb hb=>(f3 b hb).1,w0⟩;rintro n s5 ⟨i,σ5,H5,I5,st5,fr5,w5⟩;rcases turn i n σ5 H5 w5 with⟨stop,qn⟩ | ⟨go,step⟩
  ·refine xc (T.done (YN X jM N' scope cl s₃.heap.objs.size s₃ (Zp H2 s₂.heap.objs.size (.lst [])) fp) rfl rfl rfl hc i [] s5 σ5 H5 (λ_ _=>False) I5 (λb hb=>blkX hb (fr5 b hb)) st5 stop) (λr s6 ⟨hr,I6⟩=>?_) λ_ _ f=>f.elim
   subst hr;obtain⟨mm,hnn,_⟩:=id I6.loc;have nC:H5 s₃.heap.objs.size=none:=I6.free;have J1:Inv X jM σ H5 s6:=by
    refine I3.call' (ch:=fp) I6.os I6.base I6.hok I6.bare λb hb=>?_;obtain⟨f0,f1,f2',f3',f4',f5'⟩:=f3 b hb;exact⟨f3',f1,f4',f5'⟩
   exact hfin _ _ s6 H5 mm J1 hnn (I3.fpOk (qk _) nC) qn
  ·refine xc (T.item (YN X jM N' scope cl s₃.heap.objs.size s₃ (Zp H2 s₂.heap.objs.size (.lst [])) fp) rfl rfl rfl hc i [] s5 σ5 H5 (λ_ _=>False) I5 (λb hb=>blkX hb (fr5 b hb)) st5 go) (λr s6 ⟨u,hr,h6⟩=>?_) λ_ _ f=>f.elim
   subst hr;refine xc h6 (λ_ s7 ⟨x,H7,I7,r7,y7,st7,fr7⟩=>?_) λ_ _ f=>f.elim;have I7':=I7.pinned (λb hb=>blkX hb (fr7 b hb)) (T.obj _ _ st7);refine xc (hg _ _ _ _ _ _ s7 σ5 H7 x u _ I7' r7 (step x H7 y7)) (λ_ s8 ⟨σ8,H8,I8,q8⟩=>?_) λ_ _ f=>f.elim;refine xc (ht _ _ _ _ _ _ s8 σ8 H8 _ I8 q8) (λok s9 ⟨H9,I9,q9⟩=>?_) λ_ _ f=>f.elim;have again:∀{σ7:St} {H7:Hp} {sz:Shared},Inv (YN X jM N' scope cl s₃.heap.objs.size s₃ (Zp H2 s₂.heap.objs.size (.lst [])) fp) ([]++Zdt fp s7.heap) σ7 H7 sz->(∃m',m'<n/\W (i+1) m' σ7 H7)->
     ∃m,m<n/\∃i σ' H',Inv (YN X jM N' scope cl s₃.heap.objs.size s₃ (Zp H2 s₂.heap.objs.size (.lst [])) fp) [] σ' H' sz/\tn i sz.heap/\(∀b∈fp,H' b=none)/\W i m σ' H':=λ{σ7 H7 sz} Iz ⟨m',hm,wz⟩=>by
    refine⟨m',hm,i+1,σ7,H7,Iz.unpinned,T.keep _ _ _ st7 λb hb o e=>(Iz.pin (b,o) (qP _ (qP _ (Bo hb e)))).1,λb hb=>?_,wz⟩;obtain⟨o,e,d⟩:=T.obj _ _ st7 b hb;exact(Iz.pin (b,o) (qP _ (qP _ (Bo hb e)))).2.1
   cases ok with
   | false=>
    show ∃m,m<n/\_;exact again I9 (by simpa using q9)
   | true=>
    have q9':te σ8 H9 λy H6=>∃xs,H6 s₂.heap.objs.size=some (.lst xs)/\xs.length<xg/\∃m',m'<n/\W (i+1) m' σ8 (Zp H6 s₂.heap.objs.size (.lst (xs ++ [y]))):=by simpa using q9
    show xf _ _ _ _ _ _;refine xc (he _ _ _ _ _ _ s9 σ8 H9 _ I9 q9') (λy sA ⟨yv,HA,IA,rA,xs,eA,zA,mA⟩=>?_) λ_ _ f=>f.elim;refine xc (Zbl (X:=YN X jM N' scope cl s₃.heap.objs.size s₃ (Zp H2 s₂.heap.objs.size (.lst [])) fp) _ sA σ8 HA (.ref s₂.heap.objs.size) [yv] (.ref s₂.heap.objs.size) [y] (λ_ HB=>HB=Zp HA s₂.heap.objs.size (.lst (xs ++ [yv]))) IA rfl (.cons rA .nil) ⟨_,xs,yv,rfl,rfl,eA,zA,rfl⟩) (λ_ sB ⟨_,HB,IB,_,eB⟩=>?_) λ_ _ f=>f.elim;subst eB;exact again IB mA
 exact codeAny_compStart_list loop (T.self _ 0 _ _ _ st4' loop)
theorem Zne
  (hc:X.calm=true) (B:BlkOk X N' src scope cl) (hi:PI X tg iter wi)
  (hg:∀jM C s H fp,PG (YN X jM N' scope cl C s H fp) tg g) (ht:∀jM C s H fp,Uc (YN X jM N' scope cl C s H fp) ifs tt) (he:∀jM C s H fp,PE (YN X jM N' scope cl C s H fp) elt te)
  (hs:∀x,foldedSetIterable iter X.env x=pure x:=by intro _;rfl):PE X (.ListComp elt [⟨tg,iter,ifs,0⟩] scope pos) (ZkY src wi g tt te):=by
 intro jM s σ H Q I h;refine wpAny_comprehension_free rfl hs B.clos B.kind B.names (xc (hi jM s σ H _ I h) (λxv s₁ h₁=>xc h₁ (λit s₂ h₂=>?_) λ_ _ e=>e) λ_ _ e=>e);obtain⟨it,fp,tn,J,H2,e,I2,T,jZ,f2,q2⟩:=h₂;subst e;refine ZeQ hc B hg ht he I2 T jZ f2 q2 ?_;intro p C s6 H5 mm J1 hnn fC qn;refine⟨mm,hnn,λh' sb=>?_⟩;obtain⟨c0,c1,c2,c3,c4,c5⟩:=fC;exact⟨.ref p,H5,J1.turned (λb o hb e=>(sb.2 b hb).trans e) c0 c1 c3 c4 c5,rfl,qn⟩
theorem Znf {spos:Pos}
  (hN:X.N.Nodup) (hi':X.N[i]?=some x) (hx:WS X.env.scope x)
  (hc:X.calm=true) (B:BlkOk X N' src scope cl) (hi:PI X tg iter wi)
  (hg:∀jM C s H fp,PG (YN X jM N' scope cl C s H fp) tg g) (ht:∀jM C s H fp,Uc (YN X jM N' scope cl C s H fp) ifs tt) (he:∀jM C s H fp,PE (YN X jM N' scope cl C s H fp) elt te)
  (hsw:xr (.ListComp elt [⟨tg,iter,ifs,0⟩] scope pos) (some (.Name x pos')) spos.line X.env=pure true:=by rfl)
  (hs:∀x,foldedSetIterable iter X.env x=pure x:=by intro _;rfl)
  (hf:X.fn x=true∨X.env.scope.names.lookup x=some .local:=by first | exact .inl rfl | exact .inr rfl | assumption) :
  PS X (.Assign [.Name x pos'] (.ListComp elt [⟨tg,iter,ifs,0⟩] scope pos) spos) (λD σ H=>ZkY src wi g tt te σ H λy H1=>D.nx (σ.set i (some y)) H1):=by
 intro jM s σ H D I h;rw[exec_Assign_Name_used _ _ _ _ hsw];refine xa (wpAny_standAt (xa ?_));show xf _ _ (do let _<-comprehension (.ListComp elt [⟨tg,iter,ifs,0⟩] scope pos) scope X.env _ (newList []) false (eval iter X.env) (some (assign (.Name x pos') X.env))) _ _ s;refine xa (xc (wpAny_comprehension_free (use:=some (assign (.Name x pos') X.env)) (Q:=λ_ s'=>SP X jM D .next s') rfl hs B.clos B.kind B.names
  (xc (hi jM s σ H _ I h) (λxv s₁ h₁=>xc h₁ (λit s₂ h₂=>?_) λ_ _ e=>e) λ_ _ e=>e)) (λ_ s' hq=>xb (xb hq)) λ_ _ e=>e)
 obtain⟨it,fp,tn,J,H2,e,I2,T,jZ,f2,q2⟩:=h₂;subst e;refine ZeQ (RR:=λke C=>compPost (xB X.prog X.w) X.A X.xe (some (assign (.Name x pos') X.env)) (λ_ s'=>SP X jM D .next s') ke C) (Qp:=λp H=>D.nx (σ.set i (some (.ref p))) H) hc B hg ht he I2 T jZ f2 q2 ?_;intro p C s6 H5 mm J1 hnn fC qn;obtain⟨oC,es,ep,hoC,hdC,hrC⟩:=id hnn;have fC':∀b∈[C],W3 X jM H5 b:=by
  intro b hb;have e:b=C:=by simpa using hb
  rw[e];exact fC
 have oC':∀b∈[C],∃o,s6.heap.get? b=some o/\∀v,o.data≠.cell v:=by
  intro b hb;have e:b=C:=by simpa using hb
  rw[e];exact⟨oC,hoC,λv z=>by rw[hdC]at z;cases z⟩
 have J2:=J1.pinned fC' oC';refine xc (Wp hN hi' hx hf _ s6 σ H5 (.ref p) (.ref p) (fun σ' H'=>σ'=σ.set i (some (.ref p))/\H'=H5) J2 rfl ⟨rfl,rfl⟩) (λ_ s7 ⟨σ7,H7,I7,e7,e7'⟩=>?_) λ_ _ e=>e;subst e7 e7';have pC:=I7.pin (C,oC) (qP _ (qP _ (Bo (by simp) hoC)));refine⟨mm,⟨oC,es,ep,pC.1,hdC,hrC⟩,λh' sb=>?_⟩;obtain⟨c0,c1,c2,c3,c4,c5⟩:=fC;exact⟨_,_,(I7.unpinned).turned (λb o hb e=>(sb.2 b hb).trans e) c0 c1 c3 c4 c5,qn⟩
end L2
namespace TF
open L2
inductive D where
 | non | bl (b:Bool) | int (i:Int) | str (x:Str) | tup (xs:List D) | lst (xs:List D)
 | dk (kvs:List (Yc×V)) | dt (kvs:List (List Yc×V)) | du (kvs:List (List Yc×V)) | df (kvs:List (Yc×V)) | pen | ty (n:String) | clo (t:Nat) (caps:List D)
noncomputable abbrev St:=L2.St
noncomputable abbrev Pn:=List Int×List Int
noncomputable abbrev M (α:Type):=Pn->Option (α×Pn)
noncomputable abbrev Zd:=List (Option D)
noncomputable def ZH {α:Type}(a:α):M α:=λs=>some (a,s)
noncomputable def Zm {α β:Type}(m:M α)(k:α->M β):M β:=λs=>match m s with | none=>none | some p=>k p.1 p.2
noncomputable def ZP {α:Type}:M α:=λ_=>none
noncomputable def YV {α:Type}(o:Option α):M α:=λs=>match o with | none=>none | some a=>some (a,s)
theorem Zx {m:M α}{k:α->M β}{b:β}(h:Zm m k s=some (b,s')):∃a s1,m s=some (a,s1)/\k a s1=some (b,s'):=by
 unfold Zm at h
 cases e:m s with
 | none=>simp_all
 | some p=>rw[e]at h;exact⟨p.1,p.2,rfl,h⟩
theorem ZJ {a b:α}(h:ZH a s=some (b,s')):b=a/\s'=s:=by
 unfold ZH at h
 grind
theorem Wo {o:Option α}{b:α}(h:YV o s=some (b,s')):o=some b/\s'=s:=by
 unfold YV at h
 cases e:o with
 | none=>simp_all
 | some a=>simp_all
structure Gh where
 fp:Addr->Prop
 rd:Addr->Prop
 pen:V
 st:Pn->Hp->Prop
 mono:∀s H H',st s H->(∀b o,rd b->H b=some o->H' b=some o)->(∀b φ,H b=some (.ext φ)->H' b=some (.ext φ))->(∀b vs,H b=some (.tup vs)->H' b=some (.tup vs))->st s H'
 sub:∀b,fp b->rd b
 dom:∀s H b,st s H->rd b->∃o,H b=some o
 ntp:∀s H b vs,st s H->fp b->H b≠some (.tup vs)
 clo:Nat->V->List V->Prop:=λ_ _ _=>False
mutual
noncomputable def Zl (G:Gh)(H:Hp):D->V->Prop
 | .non,v=>v=.non
 | .bl b,v=>v=.bl b
 | .int i,v=>v=.int i
 | .str x,v=>v=.str x
 | .tup ds,v=>∃a vs,v=.ref a/\¬G.fp a/\H a=some (.tup vs)/\Zi G H ds vs
 | .lst ds,v=>∃a vs,v=.ref a/\¬G.fp a/\H a=some (.lst vs)/\Zi G H ds vs
 | .dk kvs,v=>∃a,v=.ref a/\¬G.fp a/\H a=some (.dK kvs)
 | .dt kvs,v=>∃a o,v=.ref a/\¬G.fp a/\H a=some (.frz o (.dT kvs))
 | .du kvs,v=>∃a,v=.ref a/\¬G.fp a/\H a=some (.dT kvs)
 | .df kvs,v=>∃a o,v=.ref a/\¬G.fp a/\H a=some (.frz o (.dK kvs))
 | .pen,v=>v=G.pen
 | .ty n,v=>v=.ty n
 | .clo t ds,v=>∃vs,G.clo t v vs/\Zi G H ds vs
noncomputable def Zi (G:Gh)(H:Hp):List D->List V->Prop
 | [],vs=>vs=[]
 | d::ds,vs=>∃v r,vs=v::r/\Zl G H d v/\Zi G H ds r
end
noncomputable def ZA (G:Gh)(H H':Hp):Prop:=∀b o,¬G.fp b->H b=some o->H' b=some o
theorem ZA.refl (G:Gh)(H:Hp):ZA G H H:=λ_ _ _ e=>e
theorem ZA.trans (a:ZA G H H1)(b:ZA G H1 H2):ZA G H H2:=λc o n e=>b c o n (a c o n e)
mutual
theorem Zl.ext {G:Gh}{H H':Hp}(e:ZA G H H'):∀{d:D} {v:V},Zl G H d v->Zl G H' d v
 | .non,_,h=>h
 | .bl _,_,h=>h
 | .int _,_,h=>h
 | .str _,_,h=>h
 | .tup ds,v,h=>by
  unfold Zl at h⊢;obtain⟨a,vs,e1,n,e2,r⟩:=h;exact⟨a,vs,e1,n,e _ _ n e2,Zi.ext e r⟩
 | .lst ds,v,h=>by
  unfold Zl at h⊢;obtain⟨a,vs,e1,n,e2,r⟩:=h;exact⟨a,vs,e1,n,e _ _ n e2,Zi.ext e r⟩
 | .dk kvs,v,h=>by
  unfold Zl at h⊢;obtain⟨a,e1,n,e2⟩:=h;exact⟨a,e1,n,e _ _ n e2⟩
 | .dt kvs,v,h=>by
  unfold Zl at h⊢;obtain⟨a,o,e1,n,e2⟩:=h;exact⟨a,o,e1,n,e _ _ n e2⟩
 | .df kvs,v,h=>by
  unfold Zl at h⊢;obtain⟨a,o,e1,n,e2⟩:=h;exact⟨a,o,e1,n,e _ _ n e2⟩
 | .du kvs,v,h=>by
  unfold Zl at h⊢;obtain⟨a,e1,n,e2⟩:=h;exact⟨a,e1,n,e _ _ n e2⟩
 | .pen,_,h=>h
 | .ty _,_,h=>h
 | .clo t ds,v,h=>by
  unfold Zl at h⊢;obtain⟨vs,c,r⟩:=h;exact⟨vs,c,Zi.ext e r⟩
theorem Zi.ext {G:Gh}{H H':Hp}(e:ZA G H H'):∀{ds:List D} {vs:List V},Zi G H ds vs->Zi G H' ds vs
 | [],_,h=>h
 | d::ds,vs,h=>by
  unfold Zi at h⊢;obtain⟨v,r,e1,r1,r2⟩:=h;exact⟨v,r,e1,Zl.ext e r1,Zi.ext e r2⟩
end
section
variable {G:Gh}{H:Hp}
theorem jd:Zl G H (.tup ds) v↔∃a vs,v=.ref a/\¬G.fp a/\H a=some (.tup vs)/\Zi G H ds vs:=by rfl
theorem jb:Zl G H (.lst ds) v↔∃a vs,v=.ref a/\¬G.fp a/\H a=some (.lst vs)/\Zi G H ds vs:=by rfl
theorem ji:Zl G H (.dk kvs) v↔∃a,v=.ref a/\¬G.fp a/\H a=some (.dK kvs):=by rfl
theorem jk:Zl G H (.dt kvs) v↔∃a o,v=.ref a/\¬G.fp a/\H a=some (.frz o (.dT kvs)):=by rfl
theorem jl:Zl G H (.du kvs) v↔∃a,v=.ref a/\¬G.fp a/\H a=some (.dT kvs):=by rfl
theorem js:Zl G H (.df kvs) v↔∃a o,v=.ref a/\¬G.fp a/\H a=some (.frz o (.dK kvs)):=by rfl
theorem ja:Zl G H (.int i) v↔v=.int i:=by rfl
theorem je:Zl G H (.bl b) v↔v=.bl b:=by rfl
theorem jh:Zl G H (.str b) v↔v=.str b:=by rfl
theorem jg:Zl G H .non v↔v=.non:=by rfl
theorem jq:Zl G H .pen v↔v=G.pen:=by rfl
theorem jr:Zl G H (.ty n) v↔v=.ty n:=by rfl
theorem jx:Zl G H (.clo t ds) v↔∃vs,G.clo t v vs/\Zi G H ds vs:=by rfl
theorem Zi.nil_iff:Zi G H [] vs↔vs=[]:=by rfl
theorem jc:Zi G H (d::ds) vs↔∃v r,vs=v::r/\Zl G H d v/\Zi G H ds r:=by
 rfl
theorem Zi.length:∀{ds:List D} {vs:List V},Zi G H ds vs->ds.length=vs.length
 | [],vs,h=>by rw[Zi.nil_iff.mp h];rfl
 | d::ds,vs,h=>by
  obtain⟨v,r,rfl,_,h2⟩:=jc.mp h;simp[Zi.length h2]
theorem Zi.get:∀{ds:List D} {vs:List V} {i:Nat} {d:D},Zi G H ds vs->ds[i]?=some d->∃v,vs[i]?=some v/\Zl G H d v
 | [],_,_,_,_,e=>by simp at e
 | d::ds,vs,0,d',h,e=>by
  obtain⟨v,r,rfl,h1,_⟩:=jc.mp h;simp_all
 | d::ds,vs,i+1,d',h,e=>by
  obtain⟨v,r,rfl,_,h2⟩:=jc.mp h;obtain⟨u,e1,e2⟩:=Zi.get h2 (by simpa using e);simp_all
theorem Zi.append:∀{ds es:List D} {vs us:List V},Zi G H ds vs->Zi G H es us->Zi G H (ds++es) (vs++us)
 | [],es,vs,us,h,h'=>by rw[Zi.nil_iff.mp h];exact h'
 | d::ds,es,vs,us,h,h'=>by
  obtain⟨v,r,rfl,h1,h2⟩:=jc.mp h;exact jc.mpr ⟨v,r++us,rfl,h1,Zi.append h2 h'⟩
theorem Zi.one (h:Zl G H d v):Zi G H [d] [v]:=jc.mpr ⟨v,[],rfl,h,Zi.nil_iff.mpr rfl⟩
theorem Zi.cons (h:Zl G H d v)(h2:Zi G H ds vs):Zi G H (d::ds) (v::vs):=jc.mpr ⟨v,vs,rfl,h,h2⟩
theorem Zi.take:∀{ds:List D} {vs:List V} (n:Nat),Zi G H ds vs->Zi G H (ds.take n) (vs.take n)
 | _,_,0,_=>Zi.nil_iff.mpr (by simp)
 | [],vs,n+1,h=>by rw[Zi.nil_iff.mp h];rfl
 | d::ds,vs,n+1,h=>by
  obtain⟨u,r,rfl,h1,h2⟩:=jc.mp h;exact Zi.cons h1 (Zi.take n h2)
theorem Zi.drop:∀{ds:List D} {vs:List V} (n:Nat),Zi G H ds vs->Zi G H (ds.drop n) (vs.drop n)
 | _,_,0,h=>h
 | [],vs,n+1,h=>by rw[Zi.nil_iff.mp h];rfl
 | d::ds,vs,n+1,h=>by
  obtain⟨u,r,rfl,h1,h2⟩:=jc.mp h;exact Zi.drop n h2
end
noncomputable def Nt (o:Option HO):Prop:=∃u,o=some u/\∀vs,u≠.tup vs
theorem Nt.no (h:Nt o)(e:o=none):False:=by
 obtain⟨u,q,_⟩:=h
 grind
structure Gr (G:Gh)(Hf H Hf' H':Hp):Prop where
 hh:ZA G H H'
 ff:ZA G Hf Hf'
 fh:ZA G Hf' H'
 nw:∀b,¬G.fp b->Hf b=none->Nt (H b)->Hf' b=none
theorem Gr.refl (e:ZA G Hf H):Gr G Hf H Hf H:=⟨.refl _ _,.refl _ _,e,λ_ _ h _=>h⟩
theorem Gr.trans (a:Gr G Hf H jU H1)(b:Gr G jU H1 jX H2):Gr G Hf H jX H2:=
 ⟨a.hh.trans b.hh,a.ff.trans b.ff,b.fh,λc n h1 h2=>b.nw c n (a.nw c n h1 h2) (let ⟨u,e,nt⟩:=h2;⟨u,a.hh c u n e,nt⟩)⟩
theorem Gr.new (e:ZA G Hf H)(hp:H p=none)(nf:¬G.fp p):Gr G Hf H (Zp Hf p o) (Zp H p o) where
 hh:=λb u n q=>by rw[Zu (Yz q hp)];exact q
 ff:=λb u n q=>by rw[Zu (Yz (e b u n q) hp)];exact q
 fh:=λb u n q=>by
  by_cases hb:b=p
  ·subst hb;rw[Z1]at q⊢;exact q
  ·rw[Zu hb]at q⊢;exact e b u n q
 nw:=λb n h1 h2=>by
  by_cases hb:b=p
  ·subst hb;exact(h2.no hp).elim
  ·rw[Zu hb];exact h1
theorem Gh.nofp {G:Gh}(h:G.st s H)(hp:H p=none):¬G.fp p:=λf=>by
 obtain⟨o,e⟩:=G.dom s H p h (G.sub p f)
 grind
theorem ju {G:Gh}(h:G.st s H)(hp:H p=none):¬G.rd p:=λf=>by
 obtain⟨o,e⟩:=G.dom s H p h f
 grind
theorem Gh.grow {G:Gh}(h:G.st s H)(hp:H p=none):G.st s (Zp H p o):=G.mono s H _ h (λb u _ q=>by
 rw[Zu (Yz q hp)];exact q) (λb φ q=>by
 rw[Zu (Yz q hp)];exact q) λb φ q=>by
 rw[Zu (Yz q hp)];exact q
noncomputable def JX:D->Prop
 | .lst _=>True
 | .dk _=>True
 | .dt _=>True
 | .du _=>True
 | _=>False
noncomputable def YM (G:Gh)(H Hf':Hp)(d:D)(v:V):Prop:=∀a,v=.ref a->JX d->H a=none/\∀ds,d=.lst ds->∃vs Hm,Hf' a=some (.lst vs)/\Hm a=none/\ZA G Hm Hf'/\Zi G Hm ds vs
theorem jn (e:ZA G H H')(r:∀a,v=.ref a->JX d->¬G.fp a)(h:YM G H' Hf' d v):YM G H Hf' d v:=λa ea m=>by
 refine⟨?_,(h a ea m).2⟩
 cases q:H a with
 | none=>rfl
 | some o=>
  have:=e a o (r a ea m) q;rw[(h a ea m).1]at this;cases this
theorem Zl.nofp (r:Zl G H d v):∀a,v=.ref a->JX d->¬G.fp a:=λa e m=>by
 cases d with
 | lst ds=>obtain⟨b,vs,e1,n,_⟩:=jb.mp r;grind
 | dk ds=>obtain⟨b,e1,n,_⟩:=ji.mp r;simp_all
 | dt ds=>obtain⟨b,_,e1,n,_⟩:=jk.mp r;simp_all
 | du ds=>obtain⟨b,e1,n,_⟩:=jl.mp r;simp_all
 | _=>exact m.elim
noncomputable def Yt (G:Gh)(H:Hp)(σ:St)(ρ:Zd):Prop:=∀(i:Nat) (d:D),ρ[i]?=some (some d)->∃v,σ[i]?=some (some v)/\Zl G H d v
theorem Yt.ext (h:Yt G H σ ρ)(e:ZA G H H'):Yt G H' σ ρ:=λi d q=>let ⟨v,a,b⟩:=h i d q;⟨v,a,b.ext e⟩
noncomputable def PD (X:Cx)(G:Gh)(fr:Bool)(e:Expr)(f:Zd->M D):Prop:=
 ∃t,PE X e t/\∀(σ:St) (Hf H:Hp) (ρ:Zd) (s:Pn) (d:D) (s':Pn) (Q:VK),ZA G Hf H->Yt G Hf σ ρ->G.st s H->f ρ s=some (d,s')->
  (∀v Hf' H',Gr G Hf H Hf' H'->G.st s' H'->Zl G Hf' d v->(fr=true->YM G H Hf' d v)->Q v H')->t σ H Q
noncomputable def XQ (X:Cx)(G:Gh)(e:Expr)(f:Zd->M Bool):Prop:=
 ∃t,PT X e t/\∀(σ:St) (Hf H:Hp) (ρ:Zd) (s:Pn) (b:Bool) (s':Pn) (Q:Bool->Hp->Prop),ZA G Hf H->Yt G Hf σ ρ->G.st s H->f ρ s=some (b,s')->
  (∀Hf' H',Gr G Hf H Hf' H'->G.st s' H'->Q b H')->t σ H Q
noncomputable def Wz (X:Cx)(G:Gh)(es:List Expr)(f:Zd->M (List D)):Prop:=
 ∃t,PA X es t/\∀(σ:St) (Hf H:Hp) (ρ:Zd) (s:Pn) (ds:List D) (s':Pn) (Q:List V->Hp->Prop),ZA G Hf H->Yt G Hf σ ρ->G.st s H->f ρ s=some (ds,s')->
  (∀vs Hf' H',Gr G Hf H Hf' H'->G.st s' H'->Zi G Hf' ds vs->Q vs H')->t σ H Q
section
variable {X:Cx}{G:Gh}
theorem PD.weak (h:PD X G fr e f):PD X G false e f:=by
 obtain⟨t,p,q⟩:=h;exact⟨t,p,fun σ Hf H ρ s d s' Q e1 e2 e3 e4 k=>q σ Hf H ρ s d s' Q e1 e2 e3 e4 λv Hf' H' g1 g2 g3 _=>k v Hf' H' g1 g2 g3 (λz=>by cases z)⟩
noncomputable def Za (i:Nat):Zd->M D:=fun ρ=>YV ((ρ[i]?).bind id)
noncomputable def dC (d:D):Zd->M D:=λ_=>ZH d
theorem Zhz (i:Nat)(h:PE X (.Name x pos) (Yf i)):PD X G false (.Name x pos) (Za i):=by
 refine⟨_,h,fun σ Hf H ρ s d s' Q e1 e2 e3 e4 k=>?_⟩;obtain⟨e,rfl⟩:=Wo e4;have e':ρ[i]?=some (some d):=by
  cases q:ρ[i]? with
  | none=>simp_all
  | some o=>simp_all
 obtain⟨v,h1,h2⟩:=e2 i d e';exact⟨v,h1,k v Hf H (.refl e1) e3 h2 (λz=>by cases z)⟩
theorem YM.scal (h:JX d->False):YM G H Hf' d v:=λ_ _ m=>(h m).elim
theorem ZC:PD X G true (.Constant (.int i) j pos) (dC (.int i)):=by
 refine⟨_,Xk,fun σ Hf H ρ s d s' Q e1 e2 e3 e4 k=>?_⟩;obtain⟨rfl,rfl⟩:=ZJ e4;exact k _ Hf H (.refl e1) e3 (ja.mpr rfl) λ_=>.scal λz=>z
theorem Y9:PD X G true (.Constant (.bool b) j pos) (dC (.bl b)):=by
 refine⟨_,ZpY,fun σ Hf H ρ s d s' Q e1 e2 e3 e4 k=>?_⟩;obtain⟨rfl,rfl⟩:=ZJ e4;exact k _ Hf H (.refl e1) e3 (je.mpr rfl) λ_=>.scal λz=>z
theorem ZdB:PD X G true (.Constant .none j pos) (dC .non):=by
 refine⟨_,Zky,fun σ Hf H ρ s d s' Q e1 e2 e3 e4 k=>?_⟩;obtain⟨rfl,rfl⟩:=ZJ e4;exact k _ Hf H (.refl e1) e3 (jg.mpr rfl) λ_=>.scal λz=>z
noncomputable def Zf:Zd->M (List D):=λ_=>ZH []
noncomputable def Zb (f:Zd->M D)(g:Zd->M (List D)):Zd->M (List D):=fun ρ=>Zm (f ρ) λd=>Zm (g ρ) λds=>ZH (d::ds)
theorem Zr:Wz X G [] Zf:=by
 refine⟨_,X7,fun σ Hf H ρ s d s' Q e1 e2 e3 e4 k=>?_⟩;obtain⟨rfl,rfl⟩:=ZJ e4;exact k _ Hf H (.refl e1) e3 (Zi.nil_iff.mpr rfl)
theorem Zj (h:PD X G fr e f)(hr:Wz X G es g)(hs:xh (e::es) X.env=(false,eval e X.env)::xh es X.env:=by rfl):Wz X G (e::es) (Zb f g):=by
 obtain⟨t,p,q⟩:=h;obtain⟨u,p2,q2⟩:=hr;refine⟨_,XB p p2 hs,fun σ Hf H ρ s ds s' Q e1 e2 e3 e4 k=>?_⟩;obtain⟨d,s1,a1,a2⟩:=Zx e4;obtain⟨r,s2,a3,a4⟩:=Zx a2;obtain⟨rfl,rfl⟩:=ZJ a4;refine q σ Hf H ρ s d s1 _ e1 e2 e3 a1 λv jU H1 g1 jV r1 _=>?_;refine q2 σ jU H1 ρ s1 r _ _ g1.fh (e2.ext g1.ff) jV a3 λvs jX H2 g2 jZ r2=>?_;exact k _ jX H2 (g1.trans g2) jZ (Zi.cons (r1.ext g2.ff) r2)
noncomputable def Z9 (f:Zd->M (List D)):Zd->M D:=fun ρ=>Zm (f ρ) λds=>if ds.length<=xg then ZH (.tup ds)else ZP
noncomputable def X0 (f:Zd->M (List D)):Zd->M D:=fun ρ=>Zm (f ρ) λds=>if ds.length<=xg then ZH (.lst ds)else ZP
theorem XA {α:Type}{c:Prop}[Decidable c]{a:M α}{s s':Pn}{b:α}(h:(if c then a else ZP) s=some (b,s')):c/\a s=some (b,s'):=by
 split at h
 ·simp_all
 ·cases h
theorem YM.mk (e:ZA G Hf H)(hp:H p=none)(nf:¬G.fp p)(r:Zi G Hf ds vs):YM G H (Zp Hf p (.lst vs)) (.lst ds) (.ref p):=λa ea _=>by
 cases ea
 refine⟨hp,λds' ed=>?_⟩
 cases ed
 have hf:Hf p=none:=by
  cases q:Hf p with
  | none=>rfl
  | some o=>rw[e p o nf q]at hp;cases hp
 exact⟨vs,Hf,Z1,hf,λb o n q=>by rw[Zu (Yz q hf)];exact q,r⟩
theorem Xs (h:Wz X G es f):PD X G true (.Tuple es x1 pos) (Z9 f):=by
 obtain⟨t,p,q⟩:=h;refine⟨_,Zo1 p,fun σ Hf H ρ s d s' Q e1 e2 e3 e4 k=>?_⟩;obtain⟨ds,s1,a1,a2⟩:=Zx e4;obtain⟨hl,a3⟩:=XA a2;obtain⟨rfl,rfl⟩:=ZJ a3;refine q σ Hf H ρ s ds s' _ e1 e2 e3 a1 λvs jU H1 g1 jV r1=>⟨by rw[<-r1.length];exact hl,λp hp=>?_⟩;have nf:=Gh.nofp jV hp;have g2:=Gr.new (o:=.tup vs) g1.fh hp nf;exact k (.ref p) _ _ (g1.trans g2) (Gh.grow jV hp) (jd.mpr ⟨p,vs,rfl,nf,Z1,r1.ext g2.ff⟩) λ_=>.scal λz=>z
theorem V0 (h:Wz X G es f):PD X G true (.List es pos) (X0 f):=by
 obtain⟨t,p,q⟩:=h;refine⟨_,ZkI p,fun σ Hf H ρ s d s' Q e1 e2 e3 e4 k=>?_⟩;obtain⟨ds,s1,a1,a2⟩:=Zx e4;obtain⟨hl,a3⟩:=XA a2;obtain⟨rfl,rfl⟩:=ZJ a3;refine q σ Hf H ρ s ds s' _ e1 e2 e3 a1 λvs jU H1 g1 jV r1=>⟨by rw[<-r1.length];exact hl,λp hp=>?_⟩;have nf:=Gh.nofp jV hp;have g2:=Gr.new (o:=.lst vs) g1.fh hp nf;refine k (.ref p) _ _ (g1.trans g2) (Gh.grow jV hp) (jb.mpr ⟨p,vs,rfl,nf,Z1,r1.ext g2.ff⟩) λ_=>jn g1.hh (λa ea _=>by simp_all) (YM.mk g1.fh hp nf r1)
noncomputable def Y4 (X:Cx)(G:Gh)(f:Value->Value->Sem Value)(g:D->D->Option D):Prop:=
 ∃r,Yj X f r/\∀(Hf H:Hp) (s:Pn) (x y:V) (d e c:D) (Q:VK),ZA G Hf H->G.st s H->Zl G Hf d x->Zl G Hf e y->g d e=some c->
  (∀v Hf' H',Gr G Hf H Hf' H'->G.st s H'->Zl G Hf' c v->YM G H Hf' c v->Q v H')->r x y H Q
noncomputable def Zc (g:D->D->Option D)(a b:Zd->M D):Zd->M D:=fun ρ=>Zm (a ρ) λd=>Zm (b ρ) λe=>YV (g d e)
theorem op2D
  (qa:∀(σ:St) (Hf H:Hp) (ρ:Zd) (s:Pn) (d:D) (s':Pn) (Q:VK),ZA G Hf H->Yt G Hf σ ρ->G.st s H->fa ρ s=some (d,s')->(∀v Hf' H',Gr G Hf H Hf' H'->G.st s' H'->Zl G Hf' d v->Q v H')->ta σ H Q)
  (qb:∀(σ:St) (Hf H:Hp) (ρ:Zd) (s:Pn) (d:D) (s':Pn) (Q:VK),ZA G Hf H->Yt G Hf σ ρ->G.st s H->fb ρ s=some (d,s')->(∀v Hf' H',Gr G Hf H Hf' H'->G.st s' H'->Zl G Hf' d v->Q v H')->tb σ H Q)
  (qo:∀(Hf H:Hp) (s:Pn) (x y:V) (d e c:D) (Q:VK),ZA G Hf H->G.st s H->Zl G Hf d x->Zl G Hf e y->g d e=some c->(∀v Hf' H',Gr G Hf H Hf' H'->G.st s H'->Zl G Hf' c v->YM G H Hf' c v->Q v H')->r x y H Q)
  (σ:St) (Hf H:Hp) (ρ:Zd) (s:Pn) (d:D) (s':Pn) (Q:VK) (e1:ZA G Hf H) (e2:Yt G Hf σ ρ) (e3:G.st s H) (e4:Zc g fa fb ρ s=some (d,s'))
  (k:∀v Hf' H',Gr G Hf H Hf' H'->G.st s' H'->Zl G Hf' d v->YM G H Hf' d v->Q v H'):WK r ta tb σ H Q:=by
 obtain⟨da,s1,a1,a2⟩:=Zx e4;obtain⟨db,s2,a3,a4⟩:=Zx a2;obtain⟨a5,rfl⟩:=Wo a4;refine qa σ Hf H ρ s da s1 _ e1 e2 e3 a1 λx jU H1 g1 jV r1=>?_;refine qb σ jU H1 ρ s1 db _ _ g1.fh (e2.ext g1.ff) jV a3 λy jX H2 g2 jZ r2=>?_;refine qo jX H2 _ x y da db d Q g2.fh jZ (r1.ext g2.ff) r2 a5 λv Hf3 H3 g3 st3 r3 fz=>?_;exact k v Hf3 H3 ((g1.trans g2).trans g3) st3 r3 (jn (g1.hh.trans g2.hh) r3.nofp fz)
theorem PD.drop (h:PD X G fr e f):∃t,PE X e t/\∀(σ:St) (Hf H:Hp) (ρ:Zd) (s:Pn) (d:D) (s':Pn) (Q:VK),ZA G Hf H->Yt G Hf σ ρ->G.st s H->f ρ s=some (d,s')->
  (∀v Hf' H',Gr G Hf H Hf' H'->G.st s' H'->Zl G Hf' d v->Q v H')->t σ H Q:=by
 obtain⟨t,p,q⟩:=h;exact⟨t,p,fun σ Hf H ρ s d s' Q a b c d' k=>q σ Hf H ρ s d s' Q a b c d' λv Hf' H' g1 g2 g3 _=>k v Hf' H' g1 g2 g3⟩
theorem ZZ (ho:Y4 X G (binaryOp op) g)(ha:PD X G r1 a fa)(hb:PD X G r2 b fb):PD X G true (.BinOp a op b pos) (Zc g fa fb):=by
 obtain⟨r,po,qo⟩:=ho;obtain⟨ta,pa,qa⟩:=ha.drop;obtain⟨tb,pb,qb⟩:=hb.drop;exact⟨_,Uu po pa pb,fun σ Hf H ρ s d s' Q e1 e2 e3 e4 k=>op2D qa qb qo σ Hf H ρ s d s' Q e1 e2 e3 e4 λv Hf' H' g1 g2 g3 fz=>k v Hf' H' g1 g2 g3 λ_=>fz⟩
theorem Vj (ho:Y4 X G (xk op) g)(ha:PD X G r1 a fa)(hb:PD X G r2 b fb)
  (hm:behindInMarks op b=false:=by first | exact Zdu _ | with_unfolding_all rfl):PD X G true (.Compare a [op] [b] pos) (Zc g fa fb):=by
 obtain⟨r,po,qo⟩:=ho;obtain⟨ta,pa,qa⟩:=ha.drop;obtain⟨tb,pb,qb⟩:=hb.drop;exact⟨_,ZmZ po pa pb hm,fun σ Hf H ρ s d s' Q e1 e2 e3 e4 k=>op2D qa qb qo σ Hf H ρ s d s' Q e1 e2 e3 e4 λv Hf' H' g1 g2 g3 fz=>k v Hf' H' g1 g2 g3 λ_=>fz⟩
noncomputable def Zo (f:Zd->M D):Zd->M Bool:=fun ρ=>Zm (f ρ) λd=>match d with | .bl b=>ZH b | _=>ZP
theorem ZdC (h:Zo f ρ s=some (b,s')):f ρ s=some (.bl b,s'):=by
 obtain⟨d,s1,a1,a2⟩:=Zx h
 cases d with
 | bl c=>obtain⟨rfl,rfl⟩:=ZJ a2;exact a1
 | _=>cases a2
theorem YT (ho:Y4 X G (xk op) g)(ha:PD X G r1 a fa)(hb:PD X G r2 b fb)
  (hm:behindInMarks op b=false:=by first | exact Zdu _ | with_unfolding_all rfl):XQ X G (.Compare a [op] [b] pos) (Zo (Zc g fa fb)):=by
 obtain⟨r,po,qo⟩:=ho;obtain⟨ta,pa,qa⟩:=ha.drop;obtain⟨tb,pb,qb⟩:=hb.drop;refine⟨_,ZbU po pa pb hm,fun σ Hf H ρ s c s' Q e1 e2 e3 e4 k=>?_⟩;exact op2D qa qb qo σ Hf H ρ s (.bl c) s' _ e1 e2 e3 (ZdC e4) λv Hf' H' g1 g2 g3 fz=>⟨c,je.mp g3,k Hf' H' g1 g2⟩
theorem Xe (h:PD X G fr e f)(he:∀whole,isTrue e X.env whole=(do let v<-whole;standAt e.pos;holding [v] (truthy v)):=by intro _;rfl):XQ X G e (Zo f):=by
 obtain⟨t,p,q⟩:=h;refine⟨_,ZoN p he,fun σ Hf H ρ s c s' Q e1 e2 e3 e4 k=>?_⟩;exact q σ Hf H ρ s (.bl c) s' _ e1 e2 e3 (ZdC e4) λv Hf' H' g1 g2 g3 fz=>⟨c,je.mp g3,k Hf' H' g1 g2⟩
noncomputable def Yg (f:Zd->M Bool):Zd->M Bool:=fun ρ=>Zm (f ρ) λb=>ZH (!b)
theorem Wq (h:XQ X G a f):XQ X G (.UnaryOp .Not a pos) (Yg f):=by
 obtain⟨t,p,q⟩:=h;refine⟨_,ZoQ p,fun σ Hf H ρ s c s' Q e1 e2 e3 e4 k=>?_⟩;obtain⟨b,s1,a1,a2⟩:=Zx e4;obtain⟨rfl,rfl⟩:=ZJ a2;exact q σ Hf H ρ s b s' _ e1 e2 e3 a1 λHf' H' g1 g2=>k Hf' H' g1 g2
noncomputable def W4 (f g:Zd->M Bool):Zd->M Bool:=fun ρ=>Zm (f ρ) λb=>if b=true then g ρ else ZH false
noncomputable def Yi (f g:Zd->M Bool):Zd->M Bool:=fun ρ=>Zm (f ρ) λb=>if b=true then ZH true else g ρ
noncomputable def Xv (X:Cx)(G:Gh)(e:Expr)(f:Zd->M Bool):Prop:=
 ∃t,PW X e t/\∀(σ:St) (Hf H:Hp) (ρ:Zd) (s:Pn) (b:Bool) (s':Pn) (Q:Bool->Hp->Prop),ZA G Hf H->Yt G Hf σ ρ->G.st s H->f ρ s=some (b,s')->
  (∀Hf' H',Gr G Hf H Hf' H'->G.st s' H'->Q b H')->t σ H Q
theorem Xv.pt (h:Xv X G e f):XQ X G e f:=by
 obtain⟨t,p,q⟩:=h;exact⟨t,p.pt,q⟩
theorem Zgj (h:XQ X G a f):Xv X G (.BoolOp .And [a] pos) f:=by
 obtain⟨t,p,q⟩:=h;exact⟨t,ZmU p,q⟩
theorem Ve (h:XQ X G a f):Xv X G (.BoolOp .Or [a] pos) f:=by
 obtain⟨t,p,q⟩:=h;exact⟨t,ZoO p,q⟩
theorem Zfr {rest:List Expr}(h:XQ X G a f)(h2:Xv X G (.BoolOp .And (b::rest) pos) g):Xv X G (.BoolOp .And (a::b::rest) pos) (W4 f g):=by
 obtain⟨t,p,q⟩:=h;obtain⟨u,p2,q2⟩:=h2;refine⟨_,ZoP p p2,fun σ Hf H ρ s c s' Q e1 e2 e3 e4 k=>?_⟩;obtain⟨b,s1,a1,a2⟩:=Zx e4;refine q σ Hf H ρ s b s1 _ e1 e2 e3 a1 λjU H1 g1 jV=>?_
 cases b with
 | true=>exact q2 σ jU H1 ρ s1 c s' _ g1.fh (e2.ext g1.ff) jV a2 λjX H2 g2 jZ=>k jX H2 (g1.trans g2) jZ
 | false=>obtain⟨rfl,rfl⟩:=ZJ a2;exact k jU H1 g1 jV
theorem WF {rest:List Expr}(h:XQ X G a f)(h2:Xv X G (.BoolOp .Or (b::rest) pos) g):Xv X G (.BoolOp .Or (a::b::rest) pos) (Yi f g):=by
 obtain⟨t,p,q⟩:=h;obtain⟨u,p2,q2⟩:=h2;refine⟨_,ZpZ p p2,fun σ Hf H ρ s c s' Q e1 e2 e3 e4 k=>?_⟩;obtain⟨b,s1,a1,a2⟩:=Zx e4;refine q σ Hf H ρ s b s1 _ e1 e2 e3 a1 λjU H1 g1 jV=>?_
 cases b with
 | true=>obtain⟨rfl,rfl⟩:=ZJ a2;exact k jU H1 g1 jV
 | false=>exact q2 σ jU H1 ρ s1 c s' _ g1.fh (e2.ext g1.ff) jV a2 λjX H2 g2 jZ=>k jX H2 (g1.trans g2) jZ
noncomputable def Vq (f g:Zd->M D):Zd->M D:=fun ρ=>Zm (f ρ) λd=>match d with | .bl true=>g ρ | .bl false=>ZH (.bl false) | _=>ZP
noncomputable def Ug (f g:Zd->M D):Zd->M D:=fun ρ=>Zm (f ρ) λd=>match d with | .bl true=>ZH (.bl true) | .bl false=>g ρ | _=>ZP
noncomputable def BS (f:Zd->M D):Zd->M D:=fun ρ=>Zm (f ρ) λd=>match d with | .bl b=>ZH (.bl (!b)) | _=>ZP
theorem Zfs (h:PD X G fr a f):PD X G false (.BoolOp op [a] pos) f:=by
 obtain⟨t,p,q⟩:=h.weak;exact⟨t,ZoR p,q⟩
theorem ZkZ {rest:List Expr}(h:PD X G r1 a f)(h2:PD X G r2 (.BoolOp .And (b::rest) pos) g):PD X G false (.BoolOp .And (a::b::rest) pos) (Vq f g):=by
 obtain⟨t,p,q⟩:=h.drop;obtain⟨u,p2,q2⟩:=h2.drop;refine⟨_,ZoS p p2,fun σ Hf H ρ s c s' Q e1 e2 e3 e4 k=>?_⟩;obtain⟨d,s1,a1,a2⟩:=Zx e4;refine q σ Hf H ρ s d s1 _ e1 e2 e3 a1 λv jU H1 g1 jV r1=>?_
 cases d with
 | bl b=>
  cases b with
  | true=>exact⟨true,je.mp r1,Ub (q2 σ jU H1 ρ s1 c s' _ g1.fh (e2.ext g1.ff) jV a2 λv jX H2 g2 jZ r2=>k v jX H2 (g1.trans g2) jZ r2 (λz=>by cases z))⟩
  | false=>obtain⟨rfl,rfl⟩:=ZJ a2;exact⟨false,je.mp r1,Ua (k _ jU H1 g1 jV (je.mpr rfl) (λz=>by cases z))⟩
 | _=>cases a2
theorem Zop {rest:List Expr}(h:PD X G r1 a f)(h2:PD X G r2 (.BoolOp .Or (b::rest) pos) g):PD X G false (.BoolOp .Or (a::b::rest) pos) (Ug f g):=by
 obtain⟨t,p,q⟩:=h.drop;obtain⟨u,p2,q2⟩:=h2.drop;refine⟨_,Zp2 p p2,fun σ Hf H ρ s c s' Q e1 e2 e3 e4 k=>?_⟩;obtain⟨d,s1,a1,a2⟩:=Zx e4;refine q σ Hf H ρ s d s1 _ e1 e2 e3 a1 λv jU H1 g1 jV r1=>?_
 cases d with
 | bl b=>
  cases b with
  | false=>exact⟨false,je.mp r1,Ua (q2 σ jU H1 ρ s1 c s' _ g1.fh (e2.ext g1.ff) jV a2 λv jX H2 g2 jZ r2=>k v jX H2 (g1.trans g2) jZ r2 (λz=>by cases z))⟩
  | true=>obtain⟨rfl,rfl⟩:=ZJ a2;exact⟨true,je.mp r1,Ub (k _ jU H1 g1 jV (je.mpr rfl) (λz=>by cases z))⟩
 | _=>cases a2
theorem Zk0 (h:PD X G r1 a f):PD X G true (.UnaryOp .Not a pos) (BS f):=by
 obtain⟨t,p,q⟩:=h.drop;refine⟨_,ZoT p,fun σ Hf H ρ s c s' Q e1 e2 e3 e4 k=>?_⟩;obtain⟨d,s1,a1,a2⟩:=Zx e4;refine q σ Hf H ρ s d s1 _ e1 e2 e3 a1 λv jU H1 g1 jV r1=>?_
 cases d with
 | bl b=>obtain⟨rfl,rfl⟩:=ZJ a2;exact⟨b,je.mp r1,k _ jU H1 g1 jV (je.mpr rfl) λ_=>.scal λz=>z⟩
 | _=>cases a2
noncomputable def Vx (c:Zd->M Bool)(f g:Zd->M D):Zd->M D:=fun ρ=>Zm (c ρ) λb=>if b=true then f ρ else g ρ
theorem Zk1 (hc:XQ X G c fc)(ha:PD X G r1 a f)(hb:PD X G r2 b g):PD X G false (.IfExp c a b pos) (Vx fc f g):=by
 obtain⟨tc,pc,qc⟩:=hc;obtain⟨ta,pa,qa⟩:=ha.drop;obtain⟨tb,pb,qb⟩:=hb.drop;refine⟨_,Zkz pc pa pb,fun σ Hf H ρ s d s' Q e1 e2 e3 e4 k=>?_⟩;obtain⟨b,s1,a1,a2⟩:=Zx e4;refine qc σ Hf H ρ s b s1 _ e1 e2 e3 a1 λjU H1 g1 jV=>?_
 cases b with
 | true=>exact Ub (qa σ jU H1 ρ s1 d s' _ g1.fh (e2.ext g1.ff) jV a2 λv jX H2 g2 jZ r2=>k v jX H2 (g1.trans g2) jZ r2 (λz=>by cases z))
 | false=>exact Ua (qb σ jU H1 ρ s1 d s' _ g1.fh (e2.ext g1.ff) jV a2 λv jX H2 g2 jZ r2=>k v jX H2 (g1.trans g2) jZ r2 (λz=>by cases z))
noncomputable def Vl (X:Cx)(G:Gh)(f:Value)(g:List D->Option D):Prop:=
 ∃r,WH X f r/\∀(Hf H:Hp) (s:Pn) (xs:List V) (ds:List D) (c:D) (Q:VK),ZA G Hf H->G.st s H->Zi G Hf ds xs->g ds=some c->
  (∀v Hf' H',Gr G Hf H Hf' H'->G.st s H'->Zl G Hf' c v->YM G H Hf' c v->Q v H')->r xs H Q
noncomputable def ZB (g:List D->Option D)(fs:Zd->M (List D)):Zd->M D:=fun ρ=>Zm (fs ρ) λds=>YV (g ds)
theorem XF {id:String}{p pos:Pos}(hc:Vl X G (.builtin id) g)(hg:Gl X x)(hm:X.mg x=none)(hv:xj x=some (.builtin id))(ha:Wz X G (e::es) fs)
  (hn:x≠"__name__":=by decide) (hdb:(x==("__debug__" : Str))=false:=by decide)
  (he:xh (e::es) X.env=(false,eval e X.env)::xh es X.env:=by rfl) (hpl:(backTo pos (xh es X.env)).any (·.1)=false:=by rfl):PD X G true (.Call (.Name x p) (e::es) [] pos) (ZB g fs):=by
 obtain⟨r,pr,qr⟩:=hc;obtain⟨t,pa,qa⟩:=ha;refine⟨_,Za0 pr hg hm hv pa hn hdb he hpl,fun σ Hf H ρ s d s' Q e1 e2 e3 e4 k=>?_⟩;obtain⟨ds,s1,a1,a2⟩:=Zx e4;obtain⟨a3,rfl⟩:=Wo a2;refine qa σ Hf H ρ s ds _ _ e1 e2 e3 a1 λvs jU H1 g1 jV r1=>?_;exact qr jU H1 _ vs ds d Q g1.fh jV r1 a3 λv jX H2 g2 jZ r2 fz=>k v jX H2 (g1.trans g2) jZ r2 λ_=>jn g1.hh r2.nofp fz
theorem ZaI {p pos:Pos}(hc:Vl X G (.type T) g)(hg:Gl X x)(hm:X.mg x=none)(hv:xj x=some (.type T))(ha:Wz X G (e::es) fs)
  (hn:x≠"__name__":=by decide) (hdb:(x==("__debug__" : Str))=false:=by decide)
  (he:xh (e::es) X.env=(false,eval e X.env)::xh es X.env:=by rfl) (hpl:(backTo pos (xh es X.env)).any (·.1)=false:=by rfl):PD X G true (.Call (.Name x p) (e::es) [] pos) (ZB g fs):=by
 obtain⟨r,pr,qr⟩:=hc;obtain⟨t,pa,qa⟩:=ha;refine⟨_,ZeM pr hg hm hv pa hn hdb he hpl,fun σ Hf H ρ s d s' Q e1 e2 e3 e4 k=>?_⟩;obtain⟨ds,s1,a1,a2⟩:=Zx e4;obtain⟨a3,rfl⟩:=Wo a2;refine qa σ Hf H ρ s ds _ _ e1 e2 e3 a1 λvs jU H1 g1 jV r1=>?_;exact qr jU H1 _ vs ds d Q g1.fh jV r1 a3 λv jX H2 g2 jZ r2 fz=>k v jX H2 (g1.trans g2) jZ r2 λ_=>jn g1.hh r2.nofp fz
noncomputable def IxD (X:Cx)(G:Gh)(g:D->D->Option D):Prop:=
 ∃r,Jl X r/\∀(Hf H:Hp) (s:Pn) (x y:V) (d e c:D) (Q:VK),ZA G Hf H->G.st s H->Zl G Hf d x->Zl G Hf e y->g d e=some c->
  (∀v,Zl G Hf c v->Q v H)->r x y H Q
theorem ZK (ho:IxD X G g)(ha:PD X G r1 a fa)(hb:PD X G r2 b fb)(hs:Zfo b:=by intro _ _;rfl):PD X G false (.Subscript a b pos) (Zc g fa fb):=by
 obtain⟨r,po,qo⟩:=ho;obtain⟨ta,pa,qa⟩:=ha.drop;obtain⟨tb,pb,qb⟩:=hb.drop;refine⟨_,W1 po pa pb hs,fun σ Hf H ρ s d s' Q e1 e2 e3 e4 k=>?_⟩;obtain⟨da,s1,a1,a2⟩:=Zx e4;obtain⟨db,s2,a3,a4⟩:=Zx a2;obtain⟨a5,rfl⟩:=Wo a4;refine qa σ Hf H ρ s da s1 _ e1 e2 e3 a1 λx jU H1 g1 jV r1=>?_;refine qb σ jU H1 ρ s1 db _ _ g1.fh (e2.ext g1.ff) jV a3 λy jX H2 g2 jZ r2=>?_;exact qo jX H2 _ x y da db d Q g2.fh jZ (r1.ext g2.ff) r2 a5 λv r3=>k v jX H2 (g1.trans g2) jZ r3 (λz=>by cases z)
noncomputable def Yp (n:Nat)(fr:Bool)(GG:Gh->Prop)(F:List D->M D):Sp:=λvs H Q _=>∃(G:Gh) (Hf:Hp) (ds:List D) (s:Pn) (d:D) (s':Pn),GG G/\vs.length=n/\ZA G Hf H/\Zi G Hf ds vs/\G.st s H/\F ds s=some (d,s')/\
 ∀v Hf' H',Gr G Hf H Hf' H'->G.st s' H'->Zl G Hf' d v->(fr=true->YM G H Hf' d v)->Q v H'
noncomputable def ZD (F:List D->M D)(fs:Zd->M (List D)):Zd->M D:=fun ρ=>Zm (fs ρ) F
theorem Zng {p pos:Pos}
  (FN:FnOk X.prog X.w X.K X.mg X.base CX k f fd ps (Yp n fr GG F)) (hG:GG G) (hr:Room k X.A) (hg:Gl X x) (hm:X.mg x=some (.ref f)) (hk:zE X.K (.ref f)=true) (hb:Xf X.K fd ps []) (hx:U1 CX X E)
  (ha:Wz X G (e::es) fs) (jW:(e::es).length=n:=by rfl) (hal:∀ρ s ds s',fs ρ s=some (ds,s')->ds.length=(e::es).length)
  (hdb:(x==("__debug__" : Str))=false:=by decide) (he:xh (e::es) X.env=(false,eval e X.env)::xh es X.env:=by rfl) (hpl:(backTo pos (xh es X.env)).any (·.1)=false:=by rfl) :
  PD X G fr (.Call (.Name x p) (e::es) [] pos) (ZD F fs):=by
 obtain⟨t,pa,qa⟩:=ha;refine⟨_,Zm3 FN hr hg hm hk hb .nil hx pa hdb he hpl,fun σ Hf H ρ s d s' Q e1 e2 e3 e4 k=>?_⟩;obtain⟨ds,s1,a1,a2⟩:=Zx e4;refine qa σ Hf H ρ s ds _ _ e1 e2 e3 a1 λvs jU H1 g1 jV r1=>?_;refine⟨G,jU,ds,s1,d,s',hG,by rw[zq,<-r1.length,hal _ _ _ _ a1];exact jW,g1.fh,by simp_all,jV,a2,λv jX H2 g2 jZ r2 fz=>?_⟩;exact k v jX H2 (g1.trans g2) jZ r2 λz=>jn g1.hh r2.nofp (fz z)
theorem YF (h:∀ρ s ds s',g ρ s=some (ds,s')->ds.length=n):∀ρ s ds s',Zb f g ρ s=some (ds,s')->ds.length=n+1:=fun ρ s ds s' q=>by
 obtain⟨d,s1,a1,a2⟩:=Zx q;obtain⟨r,s2,a3,a4⟩:=Zx a2;obtain⟨rfl,rfl⟩:=ZJ a4;simp[h _ _ _ _ a3]
theorem WD:∀ρ s ds s',Zf ρ s=some (ds,s')->ds.length=0:=fun ρ s ds s' q=>by
 obtain⟨rfl,rfl⟩:=ZJ q;rfl
end
mutual
noncomputable def Xg:D->Bool
 | .tup ds=>Uo ds
 | .lst _=>false
 | .dk _=>false
 | .dt _=>false
 | .du _=>false
 | .df _=>false
 | .clo _ _=>false
 | _=>true
noncomputable def Uo:List D->Bool
 | []=>true
 | d::ds=>Xg d&&Uo ds
end
mutual
theorem Zl.only {G:Gh}{H H':Hp}(e:∀b vs,¬G.fp b->H b=some (.tup vs)->H' b=some (.tup vs)):∀{d:D} {v:V},Xg d=true->Zl G H d v->Zl G H' d v
 | .non,_,_,h=>h
 | .bl _,_,_,h=>h
 | .int _,_,_,h=>h
 | .str _,_,_,h=>h
 | .tup ds,v,n,h=>by
  obtain⟨a,vs,e1,nf,e2,r⟩:=jd.mp h;exact jd.mpr ⟨a,vs,e1,nf,e _ _ nf e2,Zi.only e (by simpa[Xg]using n) r⟩
 | .lst ds,v,n,h=>by simp[Xg]at n
 | .dk kvs,v,n,h=>by simp[Xg]at n
 | .dt kvs,v,n,h=>by simp[Xg]at n
 | .du kvs,v,n,h=>by simp[Xg]at n
 | .df kvs,v,n,h=>by simp[Xg]at n
 | .pen,_,_,h=>h
 | .ty _,_,_,h=>h
 | .clo _ _,v,n,h=>by simp[Xg]at n
theorem Zi.only {G:Gh}{H H':Hp}(e:∀b vs,¬G.fp b->H b=some (.tup vs)->H' b=some (.tup vs)):∀{ds:List D} {vs:List V},Uo ds=true->Zi G H ds vs->Zi G H' ds vs
 | [],_,_,h=>h
 | d::ds,vs,n,h=>by
  obtain⟨v,r,e1,r1,r2⟩:=jc.mp h;have n':Xg d=true/\Uo ds=true:=by simpa[Uo]using n
  exact jc.mpr ⟨v,r,e1,Zl.only e n'.1 r1,Zi.only e n'.2 r2⟩
end
noncomputable def Up (G:Gh)(Hf H:Hp)(a:Addr):D->Prop
 | .lst ds=>∃vs,H a=some (.lst vs)/\Zi G Hf ds vs
 | .dk kvs=>H a=some (.dK kvs)
 | .dt kvs=>∃o,H a=some (.frz o (.dT kvs))
 | .du kvs=>H a=some (.dT kvs)
 | _=>False
theorem Up.there (h:Up G Hf H a d):∃o,H a=some o/\∀vs,o≠.tup vs:=by
 cases d with
 | lst ds=>obtain⟨vs,e,_⟩:=h;simp_all
 | dk kvs=>exact⟨_,h,λ_ z=>by cases z⟩
 | dt kvs=>obtain⟨o,h⟩:=h;simp_all
 | du kvs=>exact⟨_,h,λ_ z=>by cases z⟩
 | _=>exact h.elim
theorem Up.keep (h:Up G Hf H a d)(e:ZA G Hf Hf')(ha:∀o,H a=some o->H' a=some o):Up G Hf' H' a d:=by
 cases d with
 | lst ds=>obtain⟨vs,q,r⟩:=h;exact⟨vs,ha _ q,r.ext e⟩
 | dk kvs=>exact ha _ h
 | dt kvs=>obtain⟨o,h⟩:=h;exact⟨o,ha _ h⟩
 | du kvs=>exact ha _ h
 | _=>exact h.elim
theorem Up.rep (h:Up G Hf H a d)(nf:¬G.fp a)(e:ZA G Hf Hf')(ha:∀o,H a=some o->Hf' a=some o):Zl G Hf' d (.ref a):=by
 cases d with
 | lst ds=>obtain⟨vs,q,r⟩:=h;exact jb.mpr ⟨a,vs,rfl,nf,ha _ q,r.ext e⟩
 | dk kvs=>exact ji.mpr ⟨a,rfl,nf,ha _ h⟩
 | dt kvs=>obtain⟨o,h⟩:=h;exact jk.mpr ⟨a,o,rfl,nf,ha _ h⟩
 | du kvs=>exact jl.mpr ⟨a,rfl,nf,ha _ h⟩
 | _=>exact h.elim
structure Jf (G:Gh)(own:List Nat)(kn jQ H0:Hp)(σ:St)(Hf H:Hp)(ρ:Zd):Prop where
 len:σ.length=ρ.length
 kn:ZA G kn Hf
 gr:Gr G jQ H0 Hf H
 fz:∀(i:Nat) (d:D),i∉own->ρ[i]?=some (some d)->∃v,σ[i]?=some (some v)/\Zl G Hf d v
 ow:∀(i:Nat) (d:D),i∈own->ρ[i]?=some (some d)->∃a,σ[i]?=some (some (.ref a))/\¬G.rd a/\Hf a=none/\H0 a=none/\Up G Hf H a d
 ne:∀(i j:Nat) (a:Addr) (di dj:D),i∈own->j∈own->i≠j->ρ[i]?=some (some di)->ρ[j]?=some (some dj)->σ[i]?=some (some (.ref a))->σ[j]?=some (some (.ref a))->False
noncomputable def J (G:Gh)(own:List Nat)(kn jQ H0:Hp)(σ:St)(H:Hp)(ρ:Zd):Prop:=∃Hf,Jf G own kn jQ H0 σ Hf H ρ
noncomputable def YH (own:List Nat)(ρ:Zd):Zd:=ρ.mapIdx λi o=>if i∈own then none else o
theorem ZbX (ρ:Zd):YH [] ρ=ρ:=by
 unfold YH;apply qaW;simp
theorem Zk2 (h:(YH own ρ)[i]?=some (some d)):i∉own/\ρ[i]?=some (some d):=by
 unfold YH at h;simp_all
section
variable {X:Cx}{G:Gh}{own:List Nat}{kn jQ H0 Hf H:Hp}{σ:St}{ρ:Zd}
theorem Jf.envA (j:Jf G own kn jQ H0 σ Hf H ρ):Yt G Hf σ (YH own ρ):=λi d e=>by
 obtain⟨n,q⟩:=Zk2 e;exact j.fz i d n q
theorem jv (h:¬G.rd a):¬G.fp a:=λz=>h (G.sub a z)
theorem Jf.grow (j:Jf G own kn jQ H0 σ Hf H ρ)(g:Gr G Hf H Hf' H'):Jf G own kn jQ H0 σ Hf' H' ρ where
 len:=j.len
 kn:=j.kn.trans g.ff
 gr:=j.gr.trans g
 fz:=λi d n e=>let ⟨v,a,b⟩:=j.fz i d n e;⟨v,a,b.ext g.ff⟩
 ow:=λi d m e=>by
  obtain⟨a,h1,h2,h3,h4,h5⟩:=j.ow i d m e;have nf:=jv h2;refine⟨a,h1,h2,?_,h4,h5.keep g.ff λo q=>g.hh a o nf q⟩;exact g.nw a nf h3 h5.there
 ne:=j.ne
noncomputable def Y6 (jQ H0 H:Hp):Hp:=λb=>open Classical in if jQ b=none/\Nt (H0 b)then none else H b
theorem VX:ZA G (Y6 jQ H0 H) H:=λb o _ e=>by
 unfold Y6 at e
 grind
theorem Jf.wideF (j:Jf G own kn jQ H0 σ Hf H ρ):ZA G Hf (Y6 jQ H0 H):=λb o n e=>by
 unfold Y6;split
 ·rename_i h
  rw[j.gr.nw b n h.1 h.2]at e;cases e
 ·exact j.gr.fh b o n e
theorem Jf.envB (j:Jf G own kn jQ H0 σ Hf H ρ):Yt G (Y6 jQ H0 H) σ ρ:=λi d e=>by
 by_cases m:i∈own
 ·obtain⟨a,h1,h2,h3,h4,h5⟩:=j.ow i d m e
  refine⟨_,h1,h5.rep (jv h2) j.wideF λo q=>?_⟩;unfold Y6;rw[if_neg (λz=>z.2.no h4)];exact q
 ·obtain⟨v,h1,h2⟩:=j.fz i d m e
  exact⟨v,h1,h2.ext j.wideF⟩
theorem Jf.grW (j:Jf G own kn jQ H0 σ Hf H ρ)(g:Gr G (Y6 jQ H0 H) H Hf' H'):Gr G jQ H0 Hf' H' where
 hh:=j.gr.hh.trans g.hh
 ff:=λb o n e=>g.ff b o n (j.wideF b o n (j.gr.ff b o n e))
 fh:=g.fh
 nw:=λb n h1 h2=>g.nw b n (by unfold Y6;simp_all) (let ⟨u,e,nt⟩:=h2;⟨u,j.gr.hh b u n e,nt⟩)
noncomputable def okB:D->Bool
 | .lst ds=>Uo ds
 | .dk _=>true
 | .dt _=>true
 | .du _=>true
 | _=>false
theorem Znh (h:okB d=true):JX d:=by
 cases d <;> first | trivial | (rfl)
theorem Jf.growB (j:Jf G own kn jQ H0 σ Hf H ρ)(g:Gr G (Y6 jQ H0 H) H Hf' H') :
  ∃Hf'',Jf G own kn jQ H0 σ Hf'' H' ρ/\ZA G Hf Hf''/\(∀d v,Xg d=true->Zl G Hf' d v->Zl G Hf'' d v)/\∀d v,okB d=true->YM G H Hf' d v->Zl G Hf' d v->Zl G Hf'' d v/\YM G H Hf'' d v:=by
 classical
 -- the owned addresses are left out again
 let OA:Addr->Prop:=λb=>∃i d,i∈own/\ρ[i]?=some (some d)/\σ[i]?=some (some (.ref b))
 have oaH:∀b,OA b->Hf b=none/\¬G.rd b/\∃o,H b=some o/\∀vs,o≠.tup vs:=λb ⟨i,d,m,e,q⟩=>by
  obtain⟨a,h1,h2,h3,h4,h5⟩:=j.ow i d m e;rw[q]at h1;cases h1;exact⟨h3,h2,h5.there⟩
 have W:=j.grW g;refine⟨λb=>if OA b then none else Hf' b,?_⟩;have fF:ZA G Hf (λb=>if OA b then none else Hf' b):=λb o n e=>by
  have:¬OA b:=λz=>by rw[(oaH b z).1]at e;cases e
  show(if OA b then none else Hf' b)=_;rw[if_neg this];exact g.ff b o n (j.wideF b o n e)
 have Fh:ZA G (λb=>if OA b then none else Hf' b) H':=λb o n e=>by
  have e':(if OA b then none else Hf' b)=some o:=e;split at e'
  ·cases e'
  ·exact g.fh b o n e'
 have tupK:∀b vs,¬G.fp b->Hf' b=some (.tup vs)->(if OA b then none else Hf' b)=some (.tup vs):=λb vs nf e=>by
  have:¬OA b:=λz=>by
   obtain⟨_,_,o,q,nt⟩:=oaH b z;have q1:=g.hh b o nf q;have q2:=g.fh b _ nf e;rw[q1]at q2;exact nt vs (zP q2)
  rw[if_neg this];exact e
 have frK:∀a,H a=none->¬OA a:=λa e z=>by
  obtain⟨_,_,o,q,nt⟩:=oaH a z;rw[e]at q;cases q
 refine⟨⟨j.len,j.kn.trans fF,⟨W.hh,j.gr.ff.trans fF,Fh,λb n h1 h2=>?_⟩,λi d n e=>?_,λi d m e=>?_,j.ne⟩,fF,λd v n r=>Zl.only tupK n r,λd v ok fr r=>?_⟩
 ·show(if OA b then none else Hf' b)=none
  split
  ·rfl
  ·exact W.nw b n h1 h2
 ·obtain⟨v,a,b⟩:=j.fz i d n e
  exact⟨v,a,b.ext fF⟩
 ·obtain⟨a,h1,h2,h3,h4,h5⟩:=j.ow i d m e
  refine⟨a,h1,h2,?_,h4,h5.keep fF λo q=>g.hh a o (jv h2) q⟩;show(if OA a then none else Hf' a)=none;rw[if_pos ⟨i,d,m,e,h1⟩]
 ·cases d with
  | lst ds=>
   obtain⟨a,vs,e,n,q,r'⟩:=jb.mp r;have na:=frK a (fr a e trivial).1;have ea:(if OA a then none else Hf' a)=some (.lst vs):=by rw[if_neg na];exact q
   refine⟨jb.mpr ⟨a,vs,e,n,ea,Zi.only tupK ok r'⟩,λb eb m=>?_⟩;rw[e]at eb;cases eb;refine⟨(fr a e trivial).1,λds' ed=>?_⟩
   cases ed
   refine⟨vs,λb=>if b=a then none else if OA b then none else Hf' b,ea,if_pos rfl,λb o nb eb=>?_,?_⟩
   ·have eb':(if b=a then none else if OA b then none else Hf' b)=some o:=eb
    split at eb'
    ·cases eb'
    ·exact eb'
   ·refine Zi.only (λb ws nb eb=>?_) ok r'
    have hba:b≠a:=λz=>by rw[z,q]at eb;cases eb
    show(if b=a then none else if OA b then none else Hf' b)=_;rw[if_neg hba];exact tupK b ws nb eb
  | dk ds=>
   obtain⟨a,e,n,q⟩:=ji.mp r;have na:=frK a (fr a e trivial).1;refine⟨ji.mpr ⟨a,e,n,?_⟩,λb eb m=>⟨(fr b eb m).1,λds' ed=>by cases ed⟩⟩;show(if OA a then none else Hf' a)=_;rw[if_neg na];exact q
  | dt ds=>
   obtain⟨a,o,e,n,q⟩:=jk.mp r;have na:=frK a (fr a e trivial).1;refine⟨jk.mpr ⟨a,o,e,n,?_⟩,λb eb m=>⟨(fr b eb m).1,λds' ed=>by cases ed⟩⟩;simp_all
  | du ds=>
   obtain⟨a,e,n,q⟩:=jl.mp r;have na:=frK a (fr a e trivial).1;refine⟨jl.mpr ⟨a,e,n,?_⟩,λb eb m=>⟨(fr b eb m).1,λds' ed=>by cases ed⟩⟩;simp_all
  | _=>exact absurd (Znh ok) (λz=>z)
theorem Jf.set (j:Jf G own kn jQ H0 σ Hf H ρ)(ho:∀k,k∈own'->k≠i/\k∈own)(hk:∀k,k∈own->k≠i->k∈own')(r:Zl G Hf d v):Jf G own' kn jQ H0 (σ.set i (some v)) Hf H (ρ.set i (some d)) where
 len:=by simp[j.len]
 kn:=j.kn
 gr:=j.gr
 fz:=λk c n e=>by
  by_cases h:i=k
  ·subst h
   have hl:i < ρ.length:=by
    have:=(qH.mp e).1;simp_all
   rw[qU hl]at e
   cases e
   exact⟨v,qU (by rw[j.len];exact hl),r⟩
  ·rw[qD h]at e⊢
   exact j.fz k c (λz=>n (hk k z (qJ h))) e
 ow:=λk c m e=>by
  have h:=qJ (ho k m).1;rw[qD h]at e⊢;exact j.ow k c (ho k m).2 e
 ne:=λk l a dk dl mk ml n ek el sk sl=>by
  have h:=qJ (ho k mk).1;have h':=qJ (ho l ml).1;rw[qD h]at ek sk;rw[qD h']at el sl;exact j.ne k l a dk dl (ho k mk).2 (ho l ml).2 n ek el sk sl
noncomputable def JM:D->Bool
 | .lst _=>true
 | .dk _=>true
 | .dt _=>true
 | .du _=>true
 | _=>false
theorem ZhA (h:JM d=true):JX d:=by
 cases d <;> first | trivial | (rfl)
theorem Jf.setOwn (j0:Jf G own kn jQ H0 σ Hq Hb ρ)(j:Jf G own kn jQ H0 σ Hf H ρ)(ho:∀k,k∈own'↔k=i∨k∈own)(st:G.st s Hb)(hb:ZA G Hb H)(hq:ZA G Hq Hf)
  (r:Zl G Hf d v) (fr:YM G Hb Hf d v) (ok:JM d=true):∃Hf',Jf G own' kn jQ H0 (σ.set i (some v)) Hf' H (ρ.set i (some d)):=by
 classical
 have mu:=ZhA ok;obtain⟨a,ea,nfa⟩:∃a,v=.ref a/\¬G.fp a:=by
  cases d with
  | lst ds=>obtain⟨a,vs,e,n,_⟩:=jb.mp r;exact⟨a,e,n⟩
  | dk ds=>obtain⟨a,e,n,_⟩:=ji.mp r;exact⟨a,e,n⟩
  | dt ds=>obtain⟨a,_,e,n,_⟩:=jk.mp r;exact⟨a,e,n⟩
  | du ds=>obtain⟨a,e,n,_⟩:=jl.mp r;exact⟨a,e,n⟩
  | _=>exact mu.elim
 subst ea;have fra:Hb a=none:=(fr a rfl mu).1;have hqa:Hq a=none:=by
  cases e:Hq a with
  | none=>rfl
  | some o=>rw[j0.gr.fh a o nfa e]at fra;cases fra
 have h0a:H0 a=none:=by
  cases e:H0 a with
  | none=>rfl
  | some o=>rw[j0.gr.hh a o nfa e]at fra;cases fra
 have qF:ZA G Hq (λb=>if b=a then none else Hf b):=λb o n e=>by
  have:b≠a:=λz=>by rw[z,hqa]at e;cases e
  show(if b=a then none else Hf b)=_;rw[if_neg this];exact hq b o n e
 have oldA:∀k c,k∈own->ρ[k]?=some (some c)->σ[k]?≠some (some (.ref a)):=λk c m e z=>by
  obtain⟨b,h1,_,_,_,h5⟩:=j0.ow k c m e;rw[z]at h1;cases h1;obtain⟨o,q,_⟩:=h5.there;rw[fra]at q;cases q
 refine⟨λb=>if b=a then none else Hf b,by simp[j.len],j0.kn.trans qF,⟨j.gr.hh,j0.gr.ff.trans qF,λb o n e=>?_,λb n h1 h2=>?_⟩,λk c n e=>?_,λk c m e=>?_,λk l b dk dl mk ml n ek el sk sl=>?_⟩
 ·have e':(if b=a then none else Hf b)=some o:=e
  split at e'
  ·cases e'
  ·exact j.gr.fh b o n e'
 ·show(if b=a then none else Hf b)=none
  split
  ·rfl
  ·exact j.gr.nw b n h1 h2
 ·have h:i≠k:=λz=>n ((ho k).mpr (.inl z.symm))
  rw[qD h]at e⊢;obtain⟨v,q1,q2⟩:=j0.fz k c (λz=>n ((ho k).mpr (.inr z))) e;exact⟨v,q1,q2.ext qF⟩
 ·by_cases h:i=k
  ·subst h
   have hl:i < ρ.length:=by
    have:=(qH.mp e).1;simpa using this
   rw[qU hl]at e
   cases e
   refine⟨a,qU (by rw[j.len];exact hl),ju st fra,by show(if a=a then none else Hf a)=none;rw[if_pos rfl],h0a,?_⟩
   cases d with
   | lst ds=>
    obtain⟨a',vs,e',n',q',r'⟩:=jb.mp r
    cases e'
    obtain⟨ws,Hm,f1,f2,f3,f4⟩:=(fr a rfl mu).2 ds rfl;rw[q']at f1;cases f1;refine⟨vs,j.gr.fh a _ n' q',f4.ext λb o nb eb=>?_⟩;have:b≠a:=λz=>by rw[z,f2]at eb;cases eb
    show(if b=a then none else Hf b)=_;rw[if_neg this];exact f3 b o nb eb
   | dk ds=>obtain⟨a',e',n',q'⟩:=ji.mp r;cases e';exact j.gr.fh a _ n' q'
   | dt ds=>obtain⟨a',o',e',n',q'⟩:=jk.mp r;cases e';exact⟨o',j.gr.fh a _ n' q'⟩
   | du ds=>obtain⟨a',e',n',q'⟩:=jl.mp r;cases e';exact j.gr.fh a _ n' q'
   | _=>exact mu.elim
  ·have m':k∈own:=((ho k).mp m).resolve_left (qJ h)
   rw[qD h]at e⊢;obtain⟨b,h1,h2,h3,h4,h5⟩:=j0.ow k c m' e;obtain⟨b',g1,g2,g3,g4,g5⟩:=j.ow k c m' e;rw[h1]at g1;cases g1;refine⟨b,h1,h2,?_,h4,h5.keep qF λo q=>hb b o (jv h2) q⟩;show(if b=a then none else Hf b)=none;split
   ·rfl
   ·exact g3
 ·by_cases hk:i=k
  ·subst hk
   have h':i≠l:=n;have hl:i < σ.length:=by
    have:=(qH.mp sk).1;simpa using this
   rw[qU hl]at sk
   cases sk
   rw[qD h']at el sl;exact oldA l dl (((ho l).mp ml).resolve_left (qJ h')) el sl
  ·by_cases hl':i=l
   ·subst hl'
    have hl:i < σ.length:=by
     have:=(qH.mp sl).1;simp_all
    simp_all
   ·rw[qD hk]at ek sk
    rw[qD hl']at el sl;exact j.ne k l b dk dl (((ho k).mp mk).resolve_left (qJ hk)) (((ho l).mp ml).resolve_left (qJ hl')) n ek el sk sl
theorem Jf.freeze (j:Jf G own kn jQ H0 σ Hf H ρ)(ho:∀k,k∈own'->k∈own):∃Hf',Jf G own' kn jQ H0 σ Hf' H ρ:=by
 classical
 let OA:Addr->Prop:=λb=>∃i d,i∈own/\i∉own'/\ρ[i]?=some (some d)/\σ[i]?=some (some (.ref b))
 have oaH:∀b,OA b->Hf b=none/\H0 b=none:=λb ⟨i,d,m,_,e,q⟩=>by
  obtain⟨a,h1,h2,h3,h4,h5⟩:=j.ow i d m e;rw[q]at h1;cases h1;exact⟨h3,h4⟩
 have fF:ZA G Hf (λb=>if OA b then H b else Hf b):=λb o n e=>by
  have:¬OA b:=λz=>by rw[(oaH b z).1]at e;cases e
  show(if OA b then H b else Hf b)=_;rw[if_neg this];exact e
 refine⟨λb=>if OA b then H b else Hf b,j.len,j.kn.trans fF,⟨j.gr.hh,j.gr.ff.trans fF,λb o n e=>?_,λb n h1 h2=>?_⟩,λk c n e=>?_,λk c m e=>?_,λk l b dk dl mk ml=>j.ne k l b dk dl (ho k mk) (ho l ml)⟩
 ·have e':(if OA b then H b else Hf b)=some o:=e
  split at e'
  ·exact e'
  ·exact j.gr.fh b o n e'
 ·have:=λz=>h2.no (oaH b z).2
  rw[if_neg this];exact j.gr.nw b n h1 h2
 ·by_cases m:k∈own
  ·obtain⟨a,h1,h2,h3,h4,h5⟩:=j.ow k c m e
   refine⟨_,h1,h5.rep (jv h2) fF λo q=>?_⟩;rw[if_pos ⟨k,c,m,n,e,h1⟩];exact q
  ·obtain⟨v,h1,h2⟩:=j.fz k c m e
   exact⟨v,h1,h2.ext fF⟩
 ·obtain⟨a,h1,h2,h3,h4,h5⟩:=j.ow k c (ho k m) e
  refine⟨a,h1,h2,?_,h4,h5.keep fF λo q=>q⟩;have:¬OA a:=λ⟨i,d,mi,ni,ei,qi⟩=>j.ne i k a d c mi (ho k m) (λz=>ni (z▸m)) ei e qi h1;simp_all
end
theorem Jf.setF {kn:Hp}(j:Jf G own kn jQ H0 σ Hf H ρ)(hi:i∉own)(r:Zl G Hf d v):Jf G own kn jQ H0 (σ.set i (some v)) Hf H (ρ.set i (some d)):=
 j.set (λk m=>⟨λz=>hi (by simp_all),m⟩) (λk m _=>m) r
noncomputable def Va (G:Gh)(fr:Bool)(t:TE)(f:Zd->M D):Prop:=
 ∀(σ:St) (Hf H:Hp) (ρ:Zd) (s:Pn) (d:D) (s':Pn) (Q:VK),ZA G Hf H->Yt G Hf σ ρ->G.st s H->f ρ s=some (d,s')->
  (∀v Hf' H',Gr G Hf H Hf' H'->G.st s' H'->Zl G Hf' d v->(fr=true->YM G H Hf' d v)->Q v H')->t σ H Q
noncomputable def Ba (G:Gh)(own:List Nat)(fr:Bool)(t:TE)(f:Zd->M D):Prop:=
 ∀(kn jQ H0:Hp) (σ:St) (Hf H:Hp) (ρ:Zd) (s:Pn) (d:D) (s':Pn) (Q:VK),Jf G own kn jQ H0 σ Hf H ρ->G.st s H->f ρ s=some (d,s')->
  (∀v Hf' H',Jf G own kn jQ H0 σ Hf' H' ρ->ZA G Hf Hf'->ZA G H H'->G.st s' H'->Zl G Hf' d v->(fr=true->YM G H Hf' d v)->Q v H')->t σ H Q
section
variable {X:Cx}{G:Gh}{own:List Nat}{fr:Bool}{t:TE}{f:Zd->M D}
theorem Va.a (h:Va G fr t f):Ba G own fr t (fun ρ=>f (YH own ρ)):=λkn jQ H0 σ Hf H ρ s d s' Q j st e k=>
 h σ Hf H (YH own ρ) s d s' Q j.gr.fh j.envA st e λv Hf' H' g st' r fz=>k v Hf' H' (j.grow g) g.ff g.hh st' r fz
theorem Va.n (h:Va G fr t f):Ba G [] fr t f:=λkn jQ H0 σ Hf H ρ s d s' Q j st e k=>
 h.a kn jQ H0 σ Hf H ρ s d s' Q j st (by show f (YH [] ρ) s=_;rw[ZbX];exact e) k
inductive Out where
 | nx (ρ:Zd) | rt (d:D) | bk (ρ:Zd) | ct (ρ:Zd)
noncomputable def Post (G:Gh)(ob own':List Nat)(kn jQ H0:Hp)(fr:Bool)(out:Out)(s':Pn)(E:Ends):Prop:=match out with
 | .nx ρ=>∀σ H,J G own' kn jQ H0 σ H ρ->G.st s' H->E.nx σ H
 | .bk ρ=>∀σ H,J G ob kn jQ H0 σ H ρ->G.st s' H->E.bk σ H
 | .ct ρ=>∀σ H,J G ob kn jQ H0 σ H ρ->G.st s' H->E.ct σ H
 | .rt d=>∀v Hf' H',Gr G jQ H0 Hf' H'->G.st s' H'->Zl G Hf' d v->(fr=true->YM G H0 Hf' d v)->E.rt v H'
noncomputable def Dos (G:Gh)(ob own own':List Nat)(fr:Bool)(t:TS)(g:Zd->M Out):Prop:=
 ∀(kn jQ H0:Hp) (σ:St) (H:Hp) (ρ:Zd) (s:Pn) (out:Out) (s':Pn) (E:Ends),J G own kn jQ H0 σ H ρ->G.st s H->g ρ s=some (out,s')->Post G ob own' kn jQ H0 fr out s' E->t E σ H
noncomputable def Y1 (X:Cx)(G:Gh)(ob own own':List Nat)(fr:Bool)(st:Stmt)(g:Zd->M Out):Prop:=∃t,PS X st t/\Dos G ob own own' fr t g
noncomputable def X1 (X:Cx)(G:Gh)(ob own own':List Nat)(fr:Bool)(sts:List Stmt)(g:Zd->M Out):Prop:=∃t,XO X sts t/\Dos G ob own own' fr t g
variable {ob own' own2:List Nat}
theorem Y1.frz {st:Stmt}(h:Y1 X G ob own2 own' fr st g)(hs:∀k,k∈own2->k∈own:=by decide):Y1 X G ob own own' fr st g:=by
 obtain⟨t,p,q⟩:=h;exact⟨t,p,λkn jQ H0 σ H ρ s out s' E ⟨Hf,j⟩ st e po=>q kn jQ H0 σ H ρ s out s' E (j.freeze hs) st e po⟩
noncomputable def Zg:Zd->M Out:=fun ρ=>ZH (.nx ρ)
noncomputable def Ze (g1 g2:Zd->M Out):Zd->M Out:=fun ρ=>Zm (g1 ρ) λo=>match o with | .nx ρ'=>g2 ρ' | .rt d=>ZH (.rt d) | .bk ρ'=>ZH (.bk ρ') | .ct ρ'=>ZH (.ct ρ')
theorem Yq (hs:∀k,k∈own'->k∈own:=by decide):X1 X G ob own own' fr [] Zg:=⟨_,ZbS,λkn jQ H0 σ H ρ s out s' E ⟨Hf,j⟩ st e p=>by
 obtain⟨rfl,rfl⟩:=ZJ e;exact p σ H (j.freeze hs) st⟩
theorem YS {st:Stmt}(h:Y1 X G ob own own2 fr st g1)(h2:X1 X G ob own2 own' fr sts g2):X1 X G ob own own' fr (st::sts) (Ze g1 g2):=by
 obtain⟨t,p,q⟩:=h;obtain⟨u,p2,q2⟩:=h2;refine⟨_,XE p p2,λkn jQ H0 σ H ρ s out s' E j st e po=>?_⟩;obtain⟨o,s1,a1,a2⟩:=Zx e;refine q kn jQ H0 σ H ρ s o s1 _ j st a1 ?_
 cases o with
 | nx ρ1=>exact fun σ1 H1 j1 jV=>q2 kn jQ H0 σ1 H1 ρ1 s1 out s' E j1 jV a2 po
 | rt d=>obtain⟨rfl,rfl⟩:=ZJ a2;exact po
 | bk ρ1=>obtain⟨rfl,rfl⟩:=ZJ a2;exact po
 | ct ρ1=>obtain⟨rfl,rfl⟩:=ZJ a2;exact po
noncomputable def Zz (f:Zd->M D):Zd->M Out:=fun ρ=>Zm (f ρ) λd=>ZH (.rt d)
theorem Z8 (h:PD X G fr e f):Y1 X G ob own own' fr (.Return (some e) pos) (Zz f):=by
 obtain⟨t,p,q⟩:=h;refine⟨_,Zhm p,λkn jQ H0 σ H ρ s out s' E ⟨Hf,j⟩ st e po=>?_⟩;obtain⟨d,s1,a1,a2⟩:=Zx e;obtain⟨rfl,rfl⟩:=ZJ a2;exact q σ _ H ρ s d s' _ VX j.envB st a1 λv Hf' H' g st' r fz=>po v Hf' H' (j.grW g) st' r λz=>jn j.gr.hh r.nofp (fz z)
theorem ZhB (hi:i∈own)(h:PE X (.Name x pos') (Yf i)):Y1 X G ob own own' true (.Return (some (.Name x pos')) pos) (Zz (Za i)):=by
 refine⟨_,Zhm h,λkn jQ H0 σ H ρ s out s' E ⟨Hf,j⟩ st e po=>?_⟩;obtain⟨d,s1,a1,a2⟩:=Zx e;obtain⟨rfl,rfl⟩:=ZJ a2;obtain⟨e1,rfl⟩:=Wo a1;have e':ρ[i]?=some (some d):=by
  cases q:ρ[i]? with
  | none=>simp_all
  | some o=>simp_all
 obtain⟨v,h1,h2⟩:=j.envB i d e';obtain⟨a,g1,g2,g3,g4,g5⟩:=j.ow i d hi e';rw[g1]at h1;cases h1;refine⟨_,g1,po (.ref a) _ H (j.grW (.refl VX)) st h2 λ_ b eb _=>?_⟩
 cases eb
 refine⟨g4,λds ed=>?_⟩;subst ed;obtain⟨vs,q1,q2⟩:=g5;refine⟨vs,Hf,?_,g3,j.wideF,q2⟩;unfold Y6;rw[if_neg (λz=>z.2.no g4)];exact q1
noncomputable def ZU (c:Zd->M Bool)(g1 g2:Zd->M Out):Zd->M Out:=fun ρ=>Zm (c ρ) λb=>if b=true then g1 ρ else g2 ρ
theorem BC (hc:XQ X G c fc)(ha:X1 X G ob own own' fr a g1)(hb:X1 X G ob own own' fr b g2):Y1 X G ob own own' fr (.If c a b pos) (ZU fc g1 g2):=by
 obtain⟨tc,pc,qc⟩:=hc;obtain⟨ta,pa,qa⟩:=ha;obtain⟨tb,pb,qb⟩:=hb;refine⟨_,Zir pc pa pb,λkn jQ H0 σ H ρ s out s' E ⟨Hf,j⟩ st e po=>?_⟩;obtain⟨b,s1,a1,a2⟩:=Zx e;refine qc σ _ H ρ s b s1 _ VX j.envB st a1 λHf' H' g st'=>?_;obtain⟨F,j',fF,q1,q2⟩:=j.growB g
 cases b with
 | true=>exact Ub (qa kn jQ H0 σ H' ρ s1 out s' E ⟨F,j'⟩ st' a2 po)
 | false=>exact Ua (qb kn jQ H0 σ H' ρ s1 out s' E ⟨F,j'⟩ st' a2 po)
noncomputable def BT (X:Cx)(G:Gh)(fr:Bool)(i:Nat)(st:Stmt)(f:Zd->M D):Prop:=∃te,PS X st (λE σ H=>te σ H λy H1=>E.nx (σ.set i (some y)) H1)/\Va G fr te f
theorem YG {pos:Pos}(hN:X.N.Nodup)(hi:X.N[i]?=some x)(hx:WS X.env.scope x)(he:PD X G fr e f)(hs:xr e (some (.Name x pos')) pos.line X.env=pure false:=by rfl)
  (hf:X.fn x=true∨X.env.scope.names.lookup x=some .local:=by first | exact .inl rfl | exact .inr rfl | assumption):BT X G fr i (.Assign [.Name x pos'] e pos) f:=by
 obtain⟨t,p,q⟩:=he;exact⟨t,Um hN hi hx p hs hf,q⟩
noncomputable def Ya (i:Nat)(f:Zd->M D):Zd->M Out:=fun ρ=>Zm (f ρ) λd=>ZH (.nx (ρ.set i (some d)))
theorem Zgk {st:Stmt}(hp:PS X st (λE σ H=>te σ H λy H1=>E.nx (σ.set i (some y)) H1))(hy:Ba G own fr te f)(hi:i∉own):Y1 X G ob own own fr' st (Ya i f):=
 ⟨_,hp,λkn jQ H0 σ H ρ s out s' E ⟨Hf,j⟩ st e po=>by
  obtain⟨d,s1,a1,a2⟩:=Zx e;obtain⟨rfl,rfl⟩:=ZJ a2;exact hy kn jQ H0 σ Hf H ρ s d s' _ j st a1 λv Hf' H' j' e1 e2 st' r fz=>po _ H' ⟨Hf',j'.setF hi r⟩ st'⟩
theorem YZ {st:Stmt}(h:BT X G fr i st f):Y1 X G ob [] [] fr' st (Ya i f):=let ⟨_,p,q⟩:=h;Zgk p q.n (by simp)
theorem ZbY {st:Stmt}(h:BT X G fr i st f)(hi:i∉own:=by decide):Y1 X G ob own own fr' st (Ya i (fun ρ=>f (YH own ρ))):=let ⟨_,p,q⟩:=h;Zgk p q.a hi
noncomputable def UC (i:Nat)(f:Zd->M D):Zd->M Out:=fun ρ=>Zm (f ρ) λd=>if JM d=true then ZH (.nx (ρ.set i (some d)))else ZP
theorem Zk3 {st:Stmt}(hp:PS X st (λE σ H=>te σ H λy H1=>E.nx (σ.set i (some y)) H1))(hy:Ba G own true te f)(ho:∀k,k∈own'↔k=i∨k∈own):Y1 X G ob own own' fr' st (UC i f):=
 ⟨_,hp,λkn jQ H0 σ H ρ s out s' E ⟨Hf,j⟩ st e po=>by
  obtain⟨d,s1,a1,a2⟩:=Zx e;obtain⟨ok,a3⟩:=XA a2;obtain⟨rfl,rfl⟩:=ZJ a3;exact hy kn jQ H0 σ Hf H ρ s d s' _ j st a1 λv Hf' H' j' e1 e2 st' r fz=>po _ H' (j.setOwn j' ho st e2 e1 r (fz rfl) ok) st'⟩
theorem Za1 {st:Stmt}(h:BT X G true i st f):Y1 X G ob [] [i] fr' st (UC i f):=let ⟨_,p,q⟩:=h;Zk3 p q.n (by simp)
noncomputable def Vr (i j:Nat)(fs:Zd->M (List D)):Zd->M Out:=fun ρ=>Zm (fs ρ) λds=>match ds with | [a,b]=>if (Xg a&&Xg b)=true then ZH (.nx ((ρ.set i (some a)).set j (some b)))else ZP | _=>ZP
theorem Zdd (hc:X.calm=true)(hN:X.N.Nodup)(hi:X.N[i]?=some x)(hj:X.N[j]?=some y)(hij:i≠j)(oi:i∉own)(oj:j∉own)
  (hx:X.env.scope.names.lookup x=some .local) (hy:X.env.scope.names.lookup y=some .local) (ha:Wz X G [a,b] fs)
  (hw:swappedStores [.Tuple [.Name x px,.Name y py] kt pt] (.Tuple [a,b] k2 pt2) X.env=pure (some [x,y]))
  (hs:swapsWithSole [.Tuple [.Name x px,.Name y py] kt pt] (.Tuple [a,b] k2 pt2) pos.line X.env=pure false:=by rfl) :
  Y1 X G ob own own fr (.Assign [.Tuple [.Name x px,.Name y py] kt pt] (.Tuple [a,b] k2 pt2) pos) (Vr i j fs):=by
 obtain⟨t,p,q⟩:=ha;refine⟨_,ZoU hc hN hi hj hij hx hy p hw hs,λkn jQ H0 σ H ρ s out s' E ⟨Hf,j'⟩ st e po=>?_⟩;obtain⟨ds,s1,a1,a2⟩:=Zx e;refine q σ _ H ρ s ds s1 _ VX j'.envB st a1 λvs Hf' H' g st' r=>?_
 match ds,a2,r with
 | [d1,d2],a2,r=>
  obtain⟨c,a3⟩:=XA a2;obtain⟨rfl,rfl⟩:=ZJ a3;obtain⟨c1,c2⟩:=yJ.mp c;obtain⟨v1,r1,rfl,q1,q2⟩:=jc.mp r;obtain⟨v2,r2,rfl,q3,q4⟩:=jc.mp q2;rw[Zi.nil_iff.mp q4];obtain⟨F,jF,fF,f1,f2⟩:=j'.growB g;exact⟨v1,v2,rfl,po _ H' ⟨F,(jF.setF oi (f1 _ _ c1 q1)).setF oj (f1 _ _ c2 q3)⟩ st'⟩
 | [],a2,_=>cases a2
 | [_],a2,_=>cases a2
 | _::_::_::_,a2,_=>cases a2
inductive Sets (G:Gh)(Hf:Hp)(ok:Nat->Prop):St->Zd->St->Zd->Prop
 | nil {σ ρ}:Sets G Hf ok σ ρ σ ρ
 | cons {σ ρ σ' ρ'} {i:Nat} {d:D} {v:V}:ok i->Zl G Hf d v->Sets G Hf ok (σ.set i (some v)) (ρ.set i (some d)) σ' ρ'->Sets G Hf ok σ ρ σ' ρ'
noncomputable def Vy (X:Cx)(G:Gh)(tg:Expr)(ok:Nat->Prop)(τ:D->Zd->Option Zd):Prop:=
 ∃g,PG X tg g/\∀(x:V) (σ:St) (Hf H:Hp) (d:D) (ρ ρ':Zd) (Q:St->Hp->Prop),ZA G Hf H->Zl G Hf d x->τ d ρ=some ρ'->(∀σ',Sets G Hf ok σ ρ σ' ρ'->Q σ' H)->g x σ H Q
noncomputable def Zy (i:Nat):D->Zd->Option Zd:=λd ρ=>some (ρ.set i (some d))
theorem Xp (hN:X.N.Nodup)(hi:X.N[i]?=some x)(hx:WS X.env.scope x)(oi:ok i)(hf:X.fn x=true∨X.env.scope.names.lookup x=some .local:=by first | exact .inl rfl | exact .inr rfl | assumption):Vy X G (.Name x pos) ok (Zy i):=
 ⟨_,Wp hN hi hx hf,λx σ Hf H d ρ ρ' Q e r q k=>by
  cases q
  exact k _ (.cons oi r .nil)⟩
noncomputable def Ws (i j:Nat):D->Zd->Option Zd:=λd ρ=>match d with | .tup [a,b]=>some ((ρ.set i (some a)).set j (some b)) | _=>none
theorem Za2 {pos px py:Pos}{k:Nat}(hc:X.calm=true)(hN:X.N.Nodup)(hi:X.N[i]?=some x)(hj:X.N[j]?=some y)(hx:WS X.env.scope x)(hy:WS X.env.scope y)(oi:ok i)(oj:ok j)
  (hfx:X.fn x=true∨X.env.scope.names.lookup x=some .local:=by first | exact .inl rfl | exact .inr rfl | assumption) (hfy:X.fn y=true∨X.env.scope.names.lookup y=some .local:=by first | exact .inl rfl | exact .inr rfl | assumption)
  (hn:(assignEach [.Name x px,.Name y py] X.env).length=2:=by rfl) (hst:(assignEach [.Name x px,.Name y py] X.env).findIdx? (·.1)=none:=by rfl)
  (hp:BX X [.Name x px,.Name y py] (BH (Ut i) (BH (Ut j) gNil))):Vy X G (.Tuple [.Name x px,.Name y py] k pos) ok (Ws i j):=
 ⟨_,ZkA hc hp hn hst,λx σ Hf H d ρ ρ' Q e r q k=>by
  match d,q,r with
  | .tup [a,b],q,r=>
   cases q
   obtain⟨ad,vs,rfl,n,h,rl⟩:=jd.mp r;obtain⟨v1,r1,rfl,q1,q2⟩:=jc.mp rl;obtain⟨v2,r2,rfl,q3,q4⟩:=jc.mp q2;have:=Zi.nil_iff.mp q4;subst this;exact⟨ad,_,rfl,Z5.of (e _ _ n h),rfl,v1,_,rfl,v2,_,rfl,rfl,k _ (.cons oi q1 (.cons oj q3 .nil))⟩⟩
theorem Sets.jf (h:Sets G Hf (λi=>i∉own) σ ρ σ' ρ'):Jf G own kn jQ H0 σ Hf H ρ->Jf G own kn jQ H0 σ' Hf H ρ':=by
 induction h with
 | nil=>simp
 | cons o r _ ih=>exact λj=>ih (j.setF o r)
noncomputable def UD (G:Gh)(J:It)(Hf':Hp)(ds:List D):Prop:=
 ∀(i:Nat) (jX H2:Hp) (s:Pn),ZA G Hf' jX->ZA G jX H2->G.st s H2->
  (∀d,ds[i]?=some d->J.go i H2/\∀x H3,J.yld i H2 x H3->∃Hf3,Gr G jX H2 Hf3 H3/\G.st s H3/\Zl G Hf3 d x)/\(i=ds.length->J.stop i H2)
noncomputable def Xw (X:Cx)(G:Gh)(tg iter:Expr)(f:Zd->M (List D)):Prop:=
 ∃wi,PI X tg iter wi/\∀(σ:St) (Hf H:Hp) (ρ:Zd) (s:Pn) (ds:List D) (s':Pn) (R:It->Hp->Prop),ZA G Hf H->Yt G Hf σ ρ->G.st s H->f ρ s=some (ds,s')->
  (∀J Hf' H',Gr G Hf H Hf' H'->G.st s' H'->UD G J Hf' ds->R J H')->wi σ H R
theorem UD.range {lo:Int}(e:ds=(qe n).map λ(i:Nat)=>D.int (lo+i)):UD G (Itr lo n) Hf ds:=λi jX H2 s e1 e2 st=>by
 subst e;refine⟨λd q=>?_,λq=>by show n<=i;rw[q];simp⟩;have hi:i<n:=by
  have:=(qH.mp q).1;simp_all
 have hd:d=.int (lo+i):=by
  simp_all
 subst hd;refine⟨hi,λx H3 y=>?_⟩;obtain⟨y1,y2⟩:=y;subst y1 y2;exact⟨jX,.refl e2,st,ja.mpr rfl⟩
theorem UD.list {K:qd}(nf:¬G.fp a)(h:Hf a=some (.lst vs))(r:Zi G Hf ds vs):UD G (Itl K a) Hf ds:=λi jX H2 s e1 e2 st=>by
 have h2:ZT K H2 a vs:=ZT.of (e2 _ _ nf (e1 _ _ nf h));refine⟨λd q=>?_,λq=>⟨vs,h2,by rw[q,r.length];simp⟩⟩;obtain⟨v,q1,q2⟩:=r.get q;refine⟨⟨vs,v,h2,q1⟩,λx H3 ⟨y1,y2⟩=>?_⟩;subst y1;have e:=y2 vs h2;rw[q1]at e;cases e;exact⟨jX,.refl e2,st,q2.ext e1⟩
theorem UD.tup {K:qd}(nf:¬G.fp a)(h:Hf a=some (.tup vs))(r:Zi G Hf ds vs):UD G (Itt K a) Hf ds:=λi jX H2 s e1 e2 st=>by
 have h2:Z5 K H2 a vs:=Z5.of (e2 _ _ nf (e1 _ _ nf h));refine⟨λd q=>?_,λq=>⟨vs,h2,by rw[q,r.length];simp⟩⟩;obtain⟨v,q1,q2⟩:=r.get q;refine⟨⟨vs,v,h2,q1⟩,λx H3 ⟨y1,y2⟩=>?_⟩;subst y1;have e:=y2 vs h2;rw[q1]at e;cases e;exact⟨jX,.refl e2,st,q2.ext e1⟩
noncomputable def Ye (lo:Int)(n:Nat):List D:=(qe n).map λ(i:Nat)=>D.int (lo+i)
noncomputable def Yn (f:Zd->M D):Zd->M (List D):=fun ρ=>Zm (f ρ) λd=>match d with | .int j=>if -(2 ^ 62)<=j/\j<2 ^ 62 then ZH (Ye 0 j.toNat)else ZP | _=>ZP
theorem WU (hg:Gl X "range")(hm:X.mg "range" = none)(ha:PD X G r1 a f)(hs:xh [a] X.env=[(false,eval a X.env)]:=by rfl):Xw X G tg (.Call (.Name "range" p) [a] [] pos) (Yn f):=by
 obtain⟨t,pa,qa⟩:=ha.drop;refine⟨_,ZeH hg hm (XB pa X7 (by rw[hs];rfl)) hs,fun σ Hf H ρ s ds s' R e1 e2 e3 e4 k=>?_⟩;obtain⟨d,s1,a1,a2⟩:=Zx e4
 cases d with
 | int j=>
  obtain⟨c,a3⟩:=XA a2;obtain⟨rfl,rfl⟩:=ZJ a3;refine qa σ Hf H ρ s _ _ _ e1 e2 e3 a1 λv jU H1 g st r=>?_;rw[ja.mp r];exact⟨j,rfl,c.1,c.2,k _ jU H1 g st (.range rfl)⟩
 | _=>cases a2
noncomputable def VY (f g:Zd->M D):Zd->M (List D):=fun ρ=>Zm (f ρ) λd=>Zm (g ρ) λe=>match d,e with | .int i,.int j=>if -(2 ^ 62)<=i/\i<2 ^ 62/\-(2 ^ 62)<=j/\j<2 ^ 62 then ZH (Ye i (j-i).toNat)else ZP | _,_=>ZP
noncomputable def Y0 (f:Zd->M D):Zd->M (List D):=fun ρ=>Zm (f ρ) λd=>match d with | .lst ds=>ZH ds | _=>ZP
noncomputable def Y2 (f:Zd->M D):Zd->M (List D):=fun ρ=>Zm (f ρ) λd=>match d with | .tup ds=>ZH ds | _=>ZP
theorem VE (hl:PD X G r1 l f):Xw X G tg l (Y0 f):=by
 obtain⟨t,pa,qa⟩:=hl.drop;refine⟨_,ZmV pa,fun σ Hf H ρ s ds s' R e1 e2 e3 e4 k=>?_⟩;obtain⟨d,s1,a1,a2⟩:=Zx e4
 cases d with
 | lst es=>
  obtain⟨rfl,rfl⟩:=ZJ a2;refine qa σ Hf H ρ s _ _ _ e1 e2 e3 a1 λv jU H1 g st r=>?_;obtain⟨a,vs,rfl,nf,h,rl⟩:=jb.mp r;exact⟨a,rfl,⟨vs,ZT.of (g.fh _ _ nf h)⟩,k _ jU H1 g st (.list nf h rl)⟩
 | _=>cases a2
theorem VZ (hl:PD X G r1 l f):Xw X G tg l (Y2 f):=by
 obtain⟨t,pa,qa⟩:=hl.drop;refine⟨_,ZoW pa,fun σ Hf H ρ s ds s' R e1 e2 e3 e4 k=>?_⟩;obtain⟨d,s1,a1,a2⟩:=Zx e4
 cases d with
 | tup es=>
  obtain⟨rfl,rfl⟩:=ZJ a2;refine qa σ Hf H ρ s _ _ _ e1 e2 e3 a1 λv jU H1 g st r=>?_;obtain⟨a,vs,rfl,nf,h,rl⟩:=jd.mp r;exact⟨a,rfl,⟨vs,Z5.of (g.fh _ _ nf h)⟩,k _ jU H1 g st (.tup nf h rl)⟩
 | _=>cases a2
noncomputable def Wu (τ:D->Zd->Option Zd)(body:Zd->M Out):List D->Zd->M Out
 | [],ρ=>ZH (.nx ρ)
 | d::ds,ρ=>Zm (YV (τ d ρ)) fun ρ1=>Zm (body ρ1) λo=>match o with | .nx ρ2=>Wu τ body ds ρ2 | .ct ρ2=>Wu τ body ds ρ2 | .bk ρ2=>ZH (.nx ρ2) | .rt d=>ZH (.rt d)
noncomputable def Yv (fi:Zd->M (List D))(τ:D->Zd->Option Zd)(body:Zd->M Out):Zd->M Out:=fun ρ=>Zm (fi ρ) λds=>Wu τ body ds ρ
noncomputable def PDIJ (X:Cx)(G:Gh)(own:List Nat)(tg iter:Expr)(f:Zd->M (List D)):Prop:=
 ∃wi,PI X tg iter wi/\∀(kn jQ H0:Hp) (σ:St) (Hf H:Hp) (ρ:Zd) (s:Pn) (ds:List D) (s':Pn) (R:It->Hp->Prop),Jf G own kn jQ H0 σ Hf H ρ->G.st s H->f ρ s=some (ds,s')->
  (∀J Hf' H',Jf G own kn jQ H0 σ Hf' H' ρ->ZA G Hf Hf'->G.st s' H'->UD G J Hf' ds->R J H')->wi σ H R
theorem Xw.a (h:Xw X G tg iter fi):PDIJ X G own tg iter (fun ρ=>fi (YH own ρ)):=by
 obtain⟨wi,p,q⟩:=h;exact⟨wi,p,λkn jQ H0 σ Hf H ρ s ds s' R j st e k=>q σ Hf H _ s ds s' R j.gr.fh j.envA st e λJ Hf' H' g st' it=>k J Hf' H' (j.grow g) g.ff st' it⟩
theorem Xw.n (h:Xw X G tg iter fi):PDIJ X G [] tg iter fi:=by
 obtain⟨wi,p,q⟩:=h.a;exact⟨wi,p,λkn jQ H0 σ Hf H ρ s ds s' R j st e k=>q kn jQ H0 σ Hf H ρ s ds s' R j st (by show fi (YH [] ρ) s=_;rw[ZbX];exact e) k⟩
theorem US (hg:Gl X "range")(hm:X.mg "range" = none)(ha:PD X G r1 a f)(hs:xh [a] X.env=[(false,eval a X.env)]:=by rfl):PDIJ X G own tg (.Call (.Name "range" p) [a] [] pos) (Yn f):=by
 obtain⟨t,pa,qa⟩:=ha.drop;refine⟨_,ZeH hg hm (XB pa X7 (by rw[hs];rfl)) hs,λkn jQ H0 σ Hf H ρ s ds s' R j st e4 k=>?_⟩;obtain⟨d,s1,a1,a2⟩:=Zx e4
 cases d with
 | int i=>
  obtain⟨c,a3⟩:=XA a2;obtain⟨rfl,rfl⟩:=ZJ a3;refine qa σ _ H ρ s _ _ _ VX j.envB st a1 λv jU H1 g st r=>?_;obtain⟨F,j',fF,q1,q2⟩:=j.growB g;rw[ja.mp r];exact⟨i,rfl,c.1,c.2,k _ F H1 j' fF st (.range rfl)⟩
 | _=>cases a2
theorem Zaz {tg:Expr}{p pos:Pos}(hg:Gl X "range")(hm:X.mg "range" = none)(ha:PD X G r1 a f)(hb:PD X G r2 b f2)
  (hs:xh [a,b] X.env=[(false,eval a X.env),(false,eval b X.env)]:=by rfl) (hs2:xh [b] X.env=[(false,eval b X.env)]:=by rfl):PDIJ X G own tg (.Call (.Name "range" p) [a,b] [] pos) (VY f f2):=by
 obtain⟨t,pa,qa⟩:=ha.drop;obtain⟨u,pb,qb⟩:=hb.drop;refine⟨_,Zjj hg hm (XB pa (XB pb X7 (by rw[hs2];rfl)) (by rw[hs,hs2])) hs hs2,λkn jQ H0 σ Hf H ρ s ds s' R j st e4 k=>?_⟩;obtain⟨d,s1,a1,a2⟩:=Zx e4;obtain⟨d2,s2,a3,a4⟩:=Zx a2
 match d,d2,a4,a1,a3 with
 | .int i,.int l,a4,a1,a3=>
  obtain⟨c,a5⟩:=XA a4;obtain⟨rfl,rfl⟩:=ZJ a5;refine qa σ _ H ρ s _ _ _ VX j.envB st a1 λv jU H1 g st r=>?_;refine qb σ jU H1 ρ s1 _ _ _ g.fh (j.envB.ext g.ff) st a3 λv2 jX H2 g2 jZ r2=>?_;obtain⟨F,j',fF,q1,q2⟩:=j.growB (g.trans g2);rw[ja.mp r,ja.mp r2];exact⟨i,l,rfl,c,k _ F H2 j' fF jZ (.range rfl)⟩
theorem Jf.weak {kn:Hp}(j:Jf G own kn' jQ H0 σ Hf H ρ)(e:ZA G kn kn'):Jf G own kn jQ H0 σ Hf H ρ:=⟨j.len,e.trans j.kn,j.gr,j.fz,j.ow,j.ne⟩
theorem Xq (hp:PassesOwn (xB X.prog X.w) X.A X.env X.xe)(hc:X.calm=true)(hi:PDIJ X G own tg iter fi)(hg:Vy X G tg (λi=>i∉own) τ)(hb:X1 X G own own own fr body g)
  (hs:∀x,foldedSetIterable iter X.env x=pure x:=by intro _;rfl):Y1 X G ob own own fr (.For tg iter body [] pos) (Yv fi τ g):=by
 obtain⟨wi,pi,qi⟩:=hi;obtain⟨gt,pg,qg⟩:=hg;obtain⟨tb,pb,qb⟩:=hb;refine⟨_,ZkC hp hc pi pg pb hs,λkn jQ H0 σ H ρ s out s' E ⟨Hf,j⟩ st e po=>?_⟩;obtain⟨ds,s1,a1,a2⟩:=Zx e;refine qi kn jQ H0 σ Hf H ρ s ds s1 _ j st a1 λJt jU H1 j1 e1 jV it=>?_;refine⟨λi m σ2 H2=>∃ρ2 s2,J G own jU jQ H0 σ2 H2 ρ2/\G.st s2 H2/\Wu τ g (ds.drop i) ρ2 s2=some (out,s')/\i<=ds.length/\m=ds.length-i,⟨_,ρ,s1,⟨jU,⟨j1.len,.refl _ _,j1.gr,j1.fz,j1.ow,j1.ne⟩⟩,jV,a2,zv _,rfl⟩,?_⟩;rintro i m σ2 H2 ⟨ρ2,s2,⟨jX,j2⟩,jZ,eq2,hle,rfl⟩;obtain⟨i1,i2⟩:=it i jX H2 s2 j2.kn j2.gr.fh jZ;by_cases hlt:i<ds.length
 ·have hd:ds.drop i=ds[i]::ds.drop (i+1):=yb hlt
  rw[hd]at eq2;obtain⟨ρ3,s3,b1,b2⟩:=Zx eq2;obtain⟨b1',e3⟩:=Wo b1;subst e3;obtain⟨o,s4,b3,b4⟩:=Zx b2;obtain⟨go,yl⟩:=i1 ds[i] (by simp[hlt]);refine .inr ⟨go,fun σ' H'=>∃ρ5 s5,J G own jU jQ H0 σ' H' ρ5/\G.st s5 H'/\Wu τ g (ds.drop (i+1)) ρ5 s5=some (out,s'),fun σ' H' ⟨ρ5,s5,j5,st5,q5⟩=>⟨_,by omega,ρ5,s5,j5,st5,q5,hlt,rfl⟩,λx H3 y3=>?_⟩;obtain⟨Hf3,g3,st3,r3⟩:=yl x H3 y3;have j3:=j2.grow g3;refine qg x σ2 Hf3 H3 ds[i] ρ2 ρ3 _ g3.fh r3 b1' fun σ3 sets=>?_;have j4:=sets.jf j3;refine qb jU jQ H0 σ3 H3 ρ3 s3 o s4 _ ⟨Hf3,j4⟩ st3 b3 ?_
  cases o with
  | nx ρ5=>exact fun σ5 H5 j5 st5=>⟨ρ5,s4,j5,st5,b4⟩
  | ct ρ5=>exact fun σ5 H5 j5 st5=>⟨ρ5,s4,j5,st5,b4⟩
  | bk ρ5=>
   obtain⟨rfl,rfl⟩:=ZJ b4;exact fun σ5 H5 ⟨Hf5,j5⟩ st5=>po σ5 H5 ⟨Hf5,j5.weak (j.kn.trans e1)⟩ st5
  | rt d=>
   obtain⟨rfl,rfl⟩:=ZJ b4;exact po
 ·have hd:ds.drop i=[]:=qaw.mpr (by omega)
  rw[hd]at eq2;obtain⟨rfl,rfl⟩:=ZJ eq2;exact .inl ⟨i2 (by omega),po σ2 H2 ⟨jX,j2.weak (j.kn.trans e1)⟩ jZ⟩
end
noncomputable def runB (n k:Nat)(g:Zd->M Out):List D->M D:=λds=>if ds.length=k then Zm (g (ds.map some++qp (n-k) none)) λo=>match o with | .rt d=>ZH d | .nx _=>ZH .non | _=>ZP else ZP
theorem YY {K:qd}{st:Stmt}
  (F:Fun K x qual st f fd) (S:FnScope N ps (ZF st))
  (hb:∀(cdv:Value) (A:xE) (outer:List Env) (s:Shared) (H:Hp) (E:XK),Room k (A.deeper (envOfC qual (ZF st) s.heap.objs.size f cdv))->∀G,GG G->X1 (Vp ZR P w K mg base N qual (ZF st) f cdv A outer s H E).nox G [] [] own fr (XV st) g) :
  FnOk P w K mg base ZR (k+1) f fd ps (Yp ps.length fr GG (runB N.length ps.length g)):=by
 refine F.ok S (λvs H Q E h=>?_) λcdv A outer s H vs Q E hr h=>?_
 ·obtain⟨G,Hf,ds,pn,d,pn',_,e,_⟩:=h
  exact e
 ·obtain⟨G,Hf,ds,pn,d,pn',hG,el,e1,r,st',eF,k'⟩:=h
  obtain⟨t,p,q⟩:=hb cdv A outer s H E hr G hG;refine⟨t,p,?_⟩;obtain⟨hl,a0⟩:=XA eF;obtain⟨o,s1,a1,a2⟩:=Zx a0;have hpl:ps.length<=N.length:=by have:=congrArg qb9 S.pre;rw[yk]at this;omega
  have j0:Jf G [] Hf Hf H (L2.start N vs) Hf H (ds.map some++qp (N.length-ps.length) none):=by
   refine⟨?_,.refl _ _,.refl e1,λi d n e=>?_,λi d m e=>?_,λi j a di dj mi mj n e=>?_⟩
   ·unfold L2.start;simp;omega
   ·have hi:i<ds.length:=by
     by_cases hi:i<ds.length
     ·exact hi
     ·rw[zM (by simpa using hi),zS]at e
      split at e <;> cases e
    have e':ds[i]?=some d:=by
     rw[za (by simpa using hi),qI]at e
     cases q:ds[i]? with
     | none=>rw[q]at e;cases e
     | some c=>rw[q]at e;simp at e;rw[e]
    obtain⟨v,h1,h2⟩:=r.get e';refine⟨v,?_,h2⟩;unfold L2.start;rw[za (by simp;rw[<-r.length];exact hi),qI,h1];rfl
   ·exact absurd m (by simp)
   ·exact absurd mi (by simp)
  refine q Hf Hf H (L2.start N vs) H _ pn o s1 _ ⟨Hf,j0⟩ st' a1 ?_
  cases o with
  | rt c=>
   obtain⟨rfl,rfl⟩:=ZJ a2;exact λv Hf' H' g' jZ r2 fz=>k' v Hf' H' g' jZ r2 fz
  | nx ρ'=>
   obtain⟨rfl,rfl⟩:=ZJ a2;exact fun σ' H' ⟨Hf',j'⟩ jZ=>k' .non Hf' H' j'.gr jZ (jg.mpr rfl) λ_=>.scal λz=>z
  | bk ρ'=>cases a2
  | ct ρ'=>cases a2
noncomputable def BZ (G:Gh)(fr:Bool)(f:Zd->M D):TE:=fun σ H Q=>∃(Hf:Hp) (ρ:Zd) (s:Pn) (d:D) (s':Pn),ZA G Hf H/\Yt G Hf σ ρ/\G.st s H/\f ρ s=some (d,s')/\
 ∀v Hf' H',Gr G Hf H Hf' H'->G.st s' H'->Zl G Hf' d v->(fr=true->YM G H Hf' d v)->Q v H'
noncomputable def Jc (G:Gh)(f:Zd->M Bool):TT:=fun σ H Q=>∃(Hf:Hp) (ρ:Zd) (s:Pn) (b:Bool) (s':Pn),ZA G Hf H/\Yt G Hf σ ρ/\G.st s H/\f ρ s=some (b,s')/\
 ∀Hf' H',Gr G Hf H Hf' H'->G.st s' H'->Q b H'
noncomputable def gOf (G:Gh)(ok:Nat->Prop)(τ:D->Zd->Option Zd):TG:=λx σ H Q=>∃(Hf:Hp) (d:D) (ρ ρ':Zd),ZA G Hf H/\Zl G Hf d x/\τ d ρ=some ρ'/\∀σ',Sets G Hf ok σ ρ σ' ρ'->Q σ' H
section
variable {X:Cx}{G:Gh}{own:List Nat}{fr:Bool}{f:Zd->M D}
theorem PD.canon (h:PD X G fr e f):PE X e (BZ G fr f):=by
 obtain⟨t,p,q⟩:=h;exact λjM s σ H Q I ⟨Hf,ρ,pn,d,pn',a1,a2,a3,a4,k⟩=>p jM s σ H Q I (q σ Hf H ρ pn d pn' Q a1 a2 a3 a4 k)
theorem XQ.canon {f:Zd->M Bool}(h:XQ X G e f):PT X e (Jc G f):=by
 obtain⟨t,p,q⟩:=h;exact λjM s σ H Q I ⟨Hf,ρ,pn,d,pn',a1,a2,a3,a4,k⟩=>p jM s σ H Q I (q σ Hf H ρ pn d pn' Q a1 a2 a3 a4 k)
theorem Vy.canon (h:Vy X G tg ok τ):PG X tg (gOf G ok τ):=by
 obtain⟨t,p,q⟩:=h;exact λjM s σ H v u Q I r ⟨Hf,d,ρ,ρ',a1,a2,a3,k⟩=>p jM s σ H v u Q I r (q v σ Hf H d ρ ρ' Q a1 a2 a3 k)
noncomputable def Wg (src:List (Option Nat))(ρ:Zd):Zd:=src.map λo=>o.bind λj=>(ρ[j]?).bind id
theorem ZhC (h:Yt G Hf σ ρ):Yt G Hf (V4 src σ) (Wg src ρ):=λi d e=>by
 unfold Wg at e;rw[qI]at e
 cases q:src[i]? with
 | none=>simp_all
 | some o=>
  rw[q]at e
  cases o with
  | none=>simp at e
  | some j=>
   have hj:ρ[j]?=some (some d):=by
    cases e2:ρ[j]? with
    | none=>simp_all
    | some o2=>simp_all
   obtain⟨v,h1,h2⟩:=h j d hj;unfold V4;simp_all
theorem Sets.len (h:Sets G Hf ok σ ρ σ' ρ'):(σ.length=ρ.length->σ'.length=ρ'.length)/\σ'.length=σ.length:=by
 induction h with
 | nil=>simp
 | cons _ _ _ ih=>simp_all
theorem Sets.env (h:Sets G Hf ok σ ρ σ' ρ'):σ.length=ρ.length->Yt G Hf σ ρ->Yt G Hf σ' ρ':=by
 induction h with
 | nil=>simp
 | @cons σ ρ σ' ρ' i d v o r _ ih=>
  intro hl he;refine ih (by simp[hl]) λk c e=>?_;by_cases h:i=k
  ·subst h
   have hk:i < ρ.length:=by
    have:=(qH.mp e).1;simp_all
   simp_all
  ·rw[qD h]at e⊢
   exact he k c e
theorem Sets.envOld (h:Sets G Hf ok σ ρ σ' ρ')(h0:∀i d,ok i->ρ0[i]?≠some (some d)):Yt G Hf σ ρ0->Yt G Hf σ' ρ0:=by
 induction h with
 | nil=>simp
 | @cons σ ρ σ' ρ' i d v o r _ ih=>
  intro he;refine ih λk c e=>?_;have hne:i≠k:=λz=>h0 k c (z▸o) e;rw[qD hne];exact he k c e
noncomputable def U7 (τ:D->Zd->Option Zd)(ft:Zd->M Bool)(fe:Zd->M D)(ρ:Zd):List D->M (List D)
 | []=>ZH []
 | d::ds=>Zm (YV (τ d ρ)) fun ρ1=>Zm (ft ρ1) λb=>if b=true then Zm (fe ρ1) λc=>Zm (U7 τ ft fe ρ ds) λr=>ZH (c::r)else U7 τ ft fe ρ ds
noncomputable def Z3 (src:List (Option Nat))(fi:Zd->M (List D))(τ:D->Zd->Option Zd)(ft:Zd->M Bool)(fe:Zd->M D):Zd->M D:=fun ρ=>
 Zm (fi ρ) λds=>if ds.length<=xg then Zm (U7 τ ft fe (Wg src ρ) ds) λr=>ZH (.lst r)else ZP
noncomputable def Yo:Zd->M Bool:=λ_=>ZH true
theorem Zgl
  (qi:∀(σ:St) (Hf H:Hp) (ρ:Zd) (s:Pn) (ds:List D) (s':Pn) (R:It->Hp->Prop),ZA G Hf H->Yt G Hf σ ρ->G.st s H->fi ρ s=some (ds,s')->
   (∀J Hf' H',Gr G Hf H Hf' H'->G.st s' H'->UD G J Hf' ds->R J H')->wi σ H R) :
  Va G true (ZkY src wi (gOf G (λi=>src[i]?=some none) τ) (Jc G ft) (BZ G r1 fe)) (Z3 src fi τ ft fe):=by
 intro σ Hf H ρ s d s' Q e1 e2 e3 e4 k;obtain⟨ds,s1,a1,a2⟩:=Zx e4;obtain⟨hz,a3⟩:=XA a2;obtain⟨r,s2,a4,a5⟩:=Zx a3;obtain⟨rfl,rfl⟩:=ZJ a5;refine qi σ Hf H ρ s ds s1 _ e1 e2 e3 a1 λJt jU H1 g1 jV it=>?_;intro p hp;have nrp:=ju jV hp;have nfp:=jv nrp;have hf1p:jU p=none:=by
  cases e:jU p with
  | none=>rfl
  | some o=>rw[g1.fh p o nfp e]at hp;cases hp
 have h0:∀(i:Nat) (d:D),src[i]?=some none->(Wg src ρ)[i]?≠some (some d):=λi d e q=>by
  unfold Wg at q;rw[qI,e]at q;simp at q
 refine⟨λi m σ2 H2=>∃(jX:Hp) (s2:Pn) (vs:List V) (ke rest:List D),i<=ds.length/\m=ds.length-i/\Gr G jU H1 jX H2/\Yt G jX σ2 (Wg src ρ)/\σ2.length=(Wg src ρ).length/\G.st s2 H2/\jX p=none/\H2 p=some (.lst vs)/\Zi G jX ke vs/\ke.length<=i/\
  U7 τ ft fe (Wg src ρ) (ds.drop i) s2=some (rest,s')/\ke++rest=r,⟨_,jU,s1,[],[],r,zv _,rfl,?_,?_,?_,Gh.grow jV hp,hf1p,Z1,Zi.nil_iff.mpr rfl,qk _,a4,rfl⟩,?_⟩
 ·refine⟨λb o n e=>?_,.refl _ _,λb o n e=>?_,λb n h1 h2=>h1⟩
  ·rw[Zu (Yz e hp)];exact e
  ·rw[Zu (Yz e hf1p)];exact g1.fh b o n e
 ·exact ZhC (e2.ext g1.ff)
 ·unfold V4 Wg;simp
 ·rintro i m σ2 H2 ⟨jX,sz,vs,ke,rest,hle,rfl,g2,env2,len2,jZ,hfp2,hp2,racc,hacc,eq2,hr⟩
  obtain⟨i1,i2⟩:=it i jX H2 sz g2.ff g2.fh jZ;by_cases hlt:i<ds.length
  ·have hd:ds.drop i=ds[i]::ds.drop (i+1):=yb hlt
   rw[hd]at eq2;obtain⟨ρ3,s3,b1,b2⟩:=Zx eq2;obtain⟨b1',e3'⟩:=Wo b1;subst e3';obtain⟨bo,s4,b3,b4⟩:=Zx b2;obtain⟨go,yl⟩:=i1 ds[i] (by simp[hlt]);refine .inr ⟨go,λx H3 y3=>?_⟩;obtain⟨Hf3,g3,st3,r3⟩:=yl x H3 y3;refine⟨Hf3,ds[i],Wg src ρ,ρ3,g3.fh,r3,b1',fun σ4 sets=>?_⟩;have env2':=env2.ext g3.ff;have env4:=sets.env len2 env2';have env4':=sets.envOld h0 env2';refine⟨Hf3,ρ3,s3,bo,s4,g3.fh,env4,st3,b3,λHf5 H5 g5 st5=>?_⟩;have g25:=g3.trans g5;have hfp5:Hf5 p=none:=g25.nw p nfp hfp2 ⟨_,hp2,λ_ z=>by cases z⟩;have hp5:H5 p=some (.lst vs):=g25.hh p _ nfp hp2
   cases bo with
   | false=>
    refine Ua ⟨ds.length-(i+1),by omega,Hf5,s4,vs,ke,rest,hlt,rfl,g2.trans g25,env4'.ext g5.ff,by rw[<-len2];exact sets.len.2,st5,hfp5,hp5,racc.ext g25.ff,by omega,?_,hr⟩;exact b4
   | true=>
    have b4':Zm (fe ρ3) (λc=>Zm (U7 τ ft fe (Wg src ρ) (ds.drop (i+1))) λr=>ZH (c::r)) s4=some (rest,s'):=b4;obtain⟨c,s6,b5,b6⟩:=Zx b4';obtain⟨rr,s7,b7,b8⟩:=Zx b6;obtain⟨rfl,rfl⟩:=ZJ b8;refine Ub ⟨Hf5,ρ3,s4,c,s6,g5.fh,env4.ext g5.ff,st5,b5,λv Hf6 H6 g6 st6 r6 _=>?_⟩;have hfp6:Hf6 p=none:=g6.nw p nfp hfp5 ⟨_,hp5,λ_ z=>by cases z⟩;have hp6:H6 p=some (.lst vs):=g6.hh p _ nfp hp5;have hl:vs.length<xg:=by rw[<-racc.length];omega
    refine⟨vs,hp6,hl,ds.length-(i+1),by omega,Hf6,s6,vs ++ [v],ke ++ [c],rr,hlt,rfl,?_,(env4'.ext g5.ff).ext g6.ff,by rw[<-len2];exact sets.len.2,?_,hfp6,Z1,(racc.ext (g25.ff.trans g6.ff)).append (.one r6),by simp;omega,b7,by rw[<-hr];simp⟩
    ·have gg:=(g2.trans g25).trans g6
     refine⟨λb o n e=>?_,gg.ff,λb o n e=>?_,gg.nw⟩
     ·rw[Zu (Yz e hp)];exact gg.hh b o n e
     ·rw[Zu (Yz e hfp6)];exact gg.fh b o n e
    ·refine G.mono _ _ _ st6 (λb o rb e=>?_) (λb φ e=>?_) λb φ e=>?_
     ·have:b≠p:=λz=>nrp (z▸rb)
      rw[Zu this];exact e
     ·have:b≠p:=λz=>by rw[z,hp6]at e;cases e
      rw[Zu this];exact e
     ·have:b≠p:=λz=>by rw[z,hp6]at e;cases e
      rw[Zu this];exact e
  ·have hd:ds.drop i=[]:=qaw.mpr (by omega)
   rw[hd]at eq2;obtain⟨rfl,rfl⟩:=ZJ eq2;refine .inl ⟨i2 (by omega),?_⟩;rw[zq]at hr;subst hr;refine k (.ref p) (Zp jX p (.lst vs)) H2 (g1.trans ⟨g2.hh,λb o n e=>?_,λb o n e=>?_,λb n h1 h2=>?_⟩) jZ (jb.mpr ⟨p,vs,rfl,nfp,Z1,racc.ext λb o n e=>?_⟩) λ_ a ea _=>?_
   ·rw[Zu (Yz (g2.ff b o n e) hfp2)];exact g2.ff b o n e
   ·by_cases hb:b=p
    ·subst hb;rw[Z1]at e;rw[hp2];exact e
    ·rw[Zu hb]at e;exact g2.fh b o n e
   ·have:b≠p:=λz=>h2.no (z▸hp)
    rw[Zu this];exact g2.nw b n h1 h2
   ·rw[Zu (Yz e hfp2)];exact e
   ·cases ea
    refine⟨?_,λds' ed=>?_⟩
    ·cases q:H p with
     | none=>rfl
     | some o=>rw[g1.hh p o nfp q]at hp;cases hp
    ·cases ed
     exact⟨vs,jX,Z1,hfp2,λb o n e=>by rw[Zu (Yz e hfp2)];exact e,racc⟩
theorem WI:Uc X [] (Jc G Yo):=λjM s σ H Q I ⟨Hf,ρ,pn,b,pn',a1,a2,a3,a4,k⟩=>by
 obtain⟨rfl,rfl⟩:=ZJ a4;exact ZkW jM s σ H Q I (k Hf H (.refl a1) a3)
theorem JY (h:XQ X G c ft):Uc X [c] (Jc G ft):=ZkX h.canon
theorem Jf.put {kn:Hp}(j:Jf G own kn jQ H0 σ Hf H ρ)(hi:i∈own)(e:ρ[i]?=some (some d))(sa:σ[i]?=some (some (.ref a)))
  (new:Up G Hf (Zp H a o') a d'):Jf G own kn jQ H0 σ Hf (Zp H a o') (ρ.set i (some d')):=by
 obtain⟨a',h1,h2,h3,h4,h5⟩:=j.ow i d hi e;rw[sa]at h1;cases h1;have il:i < ρ.length:=(qH.mp e).1;refine⟨by simp[j.len],j.kn,⟨λb o n q=>?_,j.gr.ff,λb o n q=>?_,j.gr.nw⟩,λk c n q=>?_,λk c m q=>?_,λk l b dk dl mk ml n ek el sk sl=>?_⟩
 ·rw[Zu (Yz q h4)];exact j.gr.hh b o n q
 ·rw[Zu (Yz q h3)];exact j.gr.fh b o n q
 ·have hne:i≠k:=λz=>n (z▸hi)
  rw[qD hne]at q;exact j.fz k c n q
 ·by_cases hk:i=k
  ·subst hk
   rw[qU il]at q
   cases q
   exact⟨a,sa,h2,h3,h4,new⟩
  ·rw[qD hk]at q
   obtain⟨b,g1,g2,g3,g4,g5⟩:=j.ow k c m q;have hab:b≠a:=λz=>j.ne i k a d c hi m hk e q sa (z▸g1);exact⟨b,g1,g2,g3,g4,g5.keep (.refl _ _) λo z=>by rw[Zu hab];exact z⟩
 ·have ek':∃d,ρ[k]?=some (some d):=by
   by_cases hk:i=k
   ·exact⟨d,hk▸e⟩
   ·simp_all
  have el':∃d,ρ[l]?=some (some d):=by
   by_cases hl:i=l
   ·exact⟨d,hl▸e⟩
   ·simp_all
  obtain⟨_,ek'⟩:=ek';obtain⟨_,el'⟩:=el';exact j.ne k l b _ _ mk ml n ek' el' sk sl
theorem Ziy (j:Jf G own kn jQ H0 σ Hf H ρ)(hi:i∈own)(e:ρ[i]?=some (some (.lst ds))) :
  ∃a vs,σ[i]?=some (some (.ref a))/\¬G.rd a/\H a=some (.lst vs)/\Zi G Hf ds vs:=by
 obtain⟨a,h1,h2,h3,h4,vs,h5,h6⟩:=j.ow i _ hi e;exact⟨a,vs,h1,h2,h5,h6⟩
theorem Zft {ρ:Zd}{i:Nat}(h:(ρ[i]?).bind id=some d):ρ[i]?=some (some d):=by
 cases q:ρ[i]? with
 | none=>simp_all
 | some o=>simp_all
theorem jy (st:G.st s H)(h:¬G.rd a)
  (hx:(∀φ,H a≠some (.ext φ))/\∀vs,H a≠some (.tup vs):=by constructor <;> (intro φ z;first | (have z2:=z.symm.trans (by assumption:_=some (L2.HO.lst _));cases z2) | (have z2:=z.symm.trans (by assumption:_=some (L2.HO.dK _));cases z2) | (have z2:=z.symm.trans (by assumption:_=some (L2.HO.dT _));cases z2))):G.st s (Zp H a o):=G.mono _ _ _ st (λb u rb e=>by
 have:b≠a:=λz=>h (z▸rb);rw[Zu this];exact e) (λb φ e=>by
 have:b≠a:=λz=>hx.1 φ (z▸e);rw[Zu this];exact e) λb φ e=>by
 have:b≠a:=λz=>hx.2 φ (z▸e);rw[Zu this];exact e
noncomputable def UE (i:Nat)(f:Zd->M D):Zd->M Out:=fun ρ=>Zm (f ρ) λd=>match (ρ[i]?).bind id with
 | some (.lst ds)=>if ds.length<xg then ZH (.nx (ρ.set i (some (.lst (ds ++ [d])))))else ZP
 | _=>ZP
theorem Zni (hi:i∈own)(hy:Ba G own r1 te f) :
  Dos G ob own own fr (JV (BY X.K "list" Bv (Yf i) (Uv te V9))) (UE i f):=λkn jQ H0 σ H ρ s out s' E ⟨Hf,j⟩ st e po=>by
 obtain⟨d,s1,a1,a2⟩:=Zx e
 cases hb:(ρ[i]?).bind id with
 | none=>rw[hb]at a2;cases a2
 | some c=>
  rw[hb]at a2
  cases c with
  | lst ds=>
   have a2':=a2;obtain⟨c2,a3⟩:=XA a2';obtain⟨rfl,rfl⟩:=ZJ a3;have ei:=Zft hb;obtain⟨a,vs,h1,h2,h3,h4⟩:=Ziy j hi ei;refine⟨_,h1,.inl ⟨rfl,vs,ZT.of h3⟩,?_⟩;refine hy kn jQ H0 σ Hf H ρ s d s' _ j st a1 λv Hf' H' j' e1 e2 st' r fz=>?_;obtain⟨a',vs',h1',h2',h3',h4'⟩:=Ziy j' hi ei;rw[h1]at h1';cases h1';refine⟨a,vs',v,rfl,rfl,h3',by rw[<-h4'.length];exact c2,?_⟩;exact po σ _ ⟨Hf',j'.put hi ei h1 ⟨vs' ++ [v],Z1,h4'.append (.one r)⟩⟩ (jy st' h2)
  | _=>cases a2
theorem ZaJ {pos p2 p3:Pos}(hv:PE X (.Name x p1) (Yf i))(p:PE X e te)
  (hbase:xq (.Name x p1) "append" X.env (eval (.Name x p1) X.env)=eval (.Name x p1) X.env:=by rfl)
  (hfew:((backTo p3 (xh [e] X.env)).all (λx=>!x.1)&&(xp p3 (xi [] X.env)).all (λx=>x.1.isSome)
   && decide ([e].length+([]:List Keyword).length+(if ([]:List Keyword).isEmpty then 0 else 1)<30))=true:=by rfl)
  (hline:(p2.endLine==p3.line)=true:=by rfl) (hs:xh [e] X.env=(false,eval e X.env)::xh [] X.env:=by rfl)
  (hsw:xr (.Call (.Attribute (.Name x p1) "append" p2) [e] [] p3) none pos.line X.env=pure false:=by rfl) :
  PS X (.Expr (.Call (.Attribute (.Name x p1) "append" p2) [e] [] p3) pos) (JV (BY X.K "list" Bv (Yf i) (Uv te V9))):=
 ZbT (Zix yq yY yZ Zbl hv (XB p X7 hs) hbase hfew hline hs rfl) hsw
section
variable {i:Nat}{x:Str}{e:Expr}{pos p1 p2 p3:Pos}{r1:Bool}{ob:List Nat}{st:Stmt}
theorem ZbZ (hi:i∈own)(he:PD X G r1 e f)(hp:∀te,PE X e te->PS X st (JV (BY X.K "list" Bv (Yf i) (Uv te V9)))):Y1 X G ob own own fr st (UE i (fun ρ=>f (YH own ρ))):=by
 obtain⟨t,p,q⟩:=he;exact⟨_,hp t p,Zni hi (Va.a q)⟩
end
end
section
variable {X:Cx}{G:Gh}
noncomputable def dI (C:Int->Int->Bool)(g:Int->Int->D):D->D->Option D
 | .int i,.int j=>if C i j=true then some (g i j)else none
 | _,_=>none
theorem Zfu (h:dI C g d e=some c):∃i j,d=.int i/\e=.int j/\C i j=true/\c=g i j:=by
 match d,e,h with
 | .int i,.int j,h=>
  have h':(if C i j=true then some (g i j)else none)=some c:=h;simp_all
theorem BI {g:Int->Int->Int}(h:Yj X f (rI C λi j=>.int (g i j)))(hc:∀i j,Cb i j=true->C i j):Y4 X G f (dI Cb λi j=>.int (g i j)):=
 ⟨_,h,λHf H s x y d e c Q e1 st rx ry q k=>by
  obtain⟨i,j,rfl,rfl,hcb,rfl⟩:=Zfu q;exact⟨i,j,ja.mp rx,ja.mp ry,hc i j hcb,k _ Hf H (.refl e1) st (ja.mpr rfl) (.scal λz=>z)⟩⟩
theorem Zpb {g:Int->Int->Int}(h:Yj X f (VT λi j=>.int (g i j))):Y4 X G f (dI (λ_ _=>true) λi j=>.int (g i j)):=
 ⟨_,h,λHf H s x y d e c Q e1 st rx ry q k=>by
  obtain⟨i,j,rfl,rfl,hcb,rfl⟩:=Zfu q;exact⟨i,j,ja.mp rx,ja.mp ry,k _ Hf H (.refl e1) st (ja.mpr rfl) (.scal λz=>z)⟩⟩
theorem ZhD {g:Int->Int->Bool}(h:Yj X f (VT λi j=>.bl (g i j))):Y4 X G f (dI (λ_ _=>true) λi j=>.bl (g i j)):=
 ⟨_,h,λHf H s x y d e c Q e1 st rx ry q k=>by
  obtain⟨i,j,rfl,rfl,hcb,rfl⟩:=Zfu q;exact⟨i,j,ja.mp rx,ja.mp ry,k _ Hf H (.refl e1) st (je.mpr rfl) (.scal λz=>z)⟩⟩
noncomputable def XD:=dI (λ_ _=>true) λi j=>.int (i-j)
noncomputable def JZ (i j:Int):Bool:=(decide (-(2 ^ 64)<i)&&decide (i<2 ^ 64))||(decide (-(2 ^ 64)<j)&&decide (j<2 ^ 64))
noncomputable def UF:=dI JZ λi j=>.int (i*j)
noncomputable def Ud:=dI (λ_ j=>decide (0<j)) λi j=>.int (i % j)
noncomputable def dPow:=dI (λi j=>decide (0<=j)&&decide (j<=1000000)&&decide (i.natAbs<2 ^ 64)) λi j=>.int (i ^ j.toNat)
theorem Bw:Y4 X G (binaryOp .Sub) XD:=Zpb ZoX
theorem UY:Y4 X G (binaryOp .Mult) UF:=BI Zhq λi j h=>by
 simp only[JZ,qbr,qB,decide_eq_true_eq]at h;exact h
theorem Zb0:Y4 X G (binaryOp .Mod) Ud:=BI Zfm λi j h=>by simp_all
theorem Znj:Y4 X G (binaryOp .Pow) dPow:=BI ZoY λi j h=>by
 simp at h;exact⟨h.1.1,h.1.2,h.2⟩
noncomputable def UM:=dI (λ_ _=>true) λi j=>.bl (decide (i<=j))
noncomputable def Vz:=dI (λ_ _=>true) λi j=>.bl (decide (j<i))
noncomputable def Jm:=dI (λ_ _=>true) λi j=>.bl (decide (j<=i))
theorem Zk4:Y4 X G (xk .LtE) UM:=ZhD Zp8
theorem Zfv:Y4 X G (xk .Gt) Vz:=ZhD Zok
theorem Zk5:Y4 X G (xk .GtE) Jm:=ZhD Zp9
noncomputable def Yb:List D->Option (List Int)
 | []=>some []
 | .int i::ds=>(Yb ds).map (i :: ·)
 | _::_=>none
theorem UU:∀{ds:List D} {ns:List Int},Yb ds=some ns->ds=ns.map D.int
 | [],ns,h=>by simp[Yb]at h;subst h;rfl
 | .int i::ds,ns,h=>by
  cases e:Yb ds with
  | none=>simp[Yb,e]at h
  | some ms=>simp[Yb,e]at h;subst h;simp[UU e]
 | .non::_,_,h=>by simp[Yb]at h
 | .bl _::_,_,h=>by simp[Yb]at h
 | .str _::_,_,h=>by simp[Yb]at h
 | .tup _::_,_,h=>by simp[Yb]at h
 | .lst _::_,_,h=>by simp[Yb]at h
 | .dk _::_,_,h=>by simp[Yb]at h
 | .dt _::_,_,h=>by simp[Yb]at h
 | .du _::_,_,h=>by simp[Yb]at h
 | .df _::_,_,h=>by simp[Yb]at h
 | .pen::_,_,h=>by simp[Yb]at h
 | .ty _::_,_,h=>by simp[Yb]at h
theorem Zao (ns:List Int):Yb (ns.map D.int)=some ns:=by
 induction ns with
 | nil=>rfl
 | cons n ns ih=>simp[Yb,ih]
theorem jp:∀{ns:List Int} {vs:List V},Zi G H (ns.map D.int) vs->vs=ns.map V.int
 | [],vs,h=>Zi.nil_iff.mp h
 | n::ns,vs,h=>by
  obtain⟨v,r,rfl,h1,h2⟩:=jc.mp h;rw[ja.mp h1,jp h2];rfl
noncomputable def XR:D->D->Option D
 | .int i,.int j=>some (.bl (decide (i<j)))
 | .tup a,.tup b=>match Yb a,Yb b with | some ns,some ms=>some (.bl (HT.lexLt ns ms)) | _,_=>none
 | _,_=>none
theorem JN (hu:X.A.units<cLine):Y4 X G (xk .Lt) XR:=
 ⟨_,ZkE.or (Zo5 hu),λHf H s x y d e c Q e1 st rx ry q k=>by
  match d,e,q,rx,ry with
  | .int i,.int j,q,rx,ry=>
   cases q
   exact .inl ⟨i,j,ja.mp rx,ja.mp ry,k _ Hf H (.refl e1) st (je.mpr rfl) (.scal λz=>z)⟩
  | .tup a,.tup b,q,rx,ry=>
   have q:(match Yb a,Yb b with | some ns,some ms=>some (D.bl (HT.lexLt ns ms)) | _,_=>none)=some c:=q
   cases ea:Yb a with
   | none=>simp_all
   | some ns=>
    cases eb:Yb b with
    | none=>simp_all
    | some ms=>
     rw[ea,eb]at q
     cases q
     rw[UU ea]at rx;rw[UU eb]at ry;obtain⟨p,vs,rfl,np,hp,rp⟩:=jd.mp rx;obtain⟨p2,vs2,rfl,np2,hp2,rp2⟩:=jd.mp ry;rw[jp rp]at hp;rw[jp rp2]at hp2;exact .inr ⟨p,p2,ns,ms,rfl,rfl,Z5.of (e1 _ _ np hp),Z5.of (e1 _ _ np2 hp2),k _ Hf H (.refl e1) st (je.mpr rfl) (.scal λz=>z)⟩⟩
theorem Znk:Yj X (binaryOp .Add) (λx y H Q=>∃a b ys,x=.ref a/\y=.ref b/\Z5 X.K H a []/\Z5 X.K H b ys/\Q (.ref b) H):=by
 intro jM s σ H x y v u Q I rx ry h;obtain⟨a,b,ys,rfl,rfl,ha,hb,q⟩:=h
 cases rx
 cases ry
 obtain⟨jP,r1,p1,_⟩:=I.tuple ha;obtain⟨kf,r2,p2,_⟩:=I.tuple hb;have e0:jP=[]:=by cases r1;rfl
 subst e0;obtain⟨⟨cls,dd,data,sl⟩,ho,hc,n,hd⟩:=id p1;obtain⟨⟨cls2,dd2,data2,sl2⟩,ho2,hc2,n2,hd2⟩:=id p2;subst hc hd hc2 hd2;exact concat_meets ⟨_,ho,rfl⟩ ⟨_,ho2,rfl⟩ noFill_tuple_add seq_tuple_add qag qaa (yW _ _)
   (tuple_addW0 a b ([]:List Value).toArray kf.toArray n n2 dd dd2 sl sl2 rfl) ⟨ho,ho2,⟨.ref b,H,I,rfl,q⟩⟩
noncomputable def Yr:D->D->Option D
 | .int i,.int j=>some (.int (i+j))
 | .tup a,.tup b=>if a.length+b.length<=xg then some (.tup (a++b))else none
 | .lst a,.lst b=>if a.length+b.length<=xg then some (.lst (a++b))else none
 | _,_=>none
theorem Xr:Y4 X G (binaryOp .Add) Yr:=
 ⟨_,Zhp.or (Zo8.or (Zm9.or Znk)),λHf H s x y d e c Q e1 st rx ry q k=>by
  match d,e,q,rx,ry with
  | .int i,.int j,q,rx,ry=>
   cases q
   exact .inl ⟨i,j,ja.mp rx,ja.mp ry,k _ Hf H (.refl e1) st (ja.mpr rfl) (.scal λz=>z)⟩
  | .lst a,.lst b,q,rx,ry=>
   have q:(if a.length+b.length<=xg then some (D.lst (a++b))else none)=some c:=q;split at q
   ·rename_i hz
    cases q
    obtain⟨p,vs,rfl,np,hp,rp⟩:=jb.mp rx;obtain⟨p2,vs2,rfl,np2,hp2,rp2⟩:=jb.mp ry;refine .inr (.inl ⟨p,p2,vs,vs2,rfl,rfl,e1 _ _ np hp,e1 _ _ np2 hp2,by rw[<-rp.length,<-rp2.length];exact hz,λl hl=>?_⟩);have nf:=Gh.nofp st hl;have g2:=Gr.new (o:=.lst (vs++vs2)) e1 hl nf;have rr:=rp.append rp2;exact k (.ref l) _ _ g2 (Gh.grow st hl) (jb.mpr ⟨l,_,rfl,nf,Z1,rr.ext g2.ff⟩) (YM.mk e1 hl nf rr)
   ·cases q
  | .tup a,.tup b,q,rx,ry=>
   have q:(if a.length+b.length<=xg then some (D.tup (a++b))else none)=some c:=q;split at q
   ·rename_i hz
    cases q
    obtain⟨p,vs,rfl,np,hp,rp⟩:=jd.mp rx;obtain⟨p2,vs2,rfl,np2,hp2,rp2⟩:=jd.mp ry;by_cases hv:vs=[]
    ·subst hv
     have ea:a=[]:=qab.mp (by rw[rp.length];rfl);subst ea;exact .inr (.inr (.inr ⟨p,p2,vs2,rfl,rfl,Z5.of (e1 _ _ np hp),Z5.of (e1 _ _ np2 hp2),k _ Hf H (.refl e1) st ry (.scal λz=>z)⟩))
    ·refine .inr (.inr (.inl ⟨p,p2,vs,vs2,rfl,rfl,Z5.of (e1 _ _ np hp),Z5.of (e1 _ _ np2 hp2),hv,by rw[<-rp.length,<-rp2.length];exact hz,λz=>?_,λ_ l hl=>?_⟩))
     ·subst z
      have eb:=qab.mp (by rw[rp2.length];rfl);subst eb;rw[zq]at k;exact k _ Hf H (.refl e1) st rx (.scal λz=>z)
     ·have nf:=Gh.nofp st hl
      have g2:=Gr.new (o:=.tup (vs++vs2)) e1 hl nf;exact k (.ref l) _ _ g2 (Gh.grow st hl) (jd.mpr ⟨l,_,rfl,nf,Z1,(rp.append rp2).ext g2.ff⟩) (.scal λz=>z)
   ·cases q⟩
noncomputable def Zh:D->D->Option D
 | .lst ds,.int i=>Xu ds i
 | .tup ds,.int i=>Xu ds i
 | _,_=>none
theorem Zfw (r:Zi G Hf ds vs)(h:Xu ds i=some c):∃v,Xu vs i=some v/\Zl G Hf c v:=by
 unfold Xu at h⊢;rw[<-r.length]
 cases e:Wy ds.length i with
 | none=>simp_all
 | some j=>
  rw[e]at h;obtain⟨v,h1,h2⟩:=r.get h;exact⟨v,h1,h2⟩
theorem ZL:IxD X G Zh:=
 ⟨_,WX.or Zo6,λHf H s x y d e c Q e1 st rx ry q k=>by
  match d,e,q,rx,ry with
  | .lst ds,.int i,q,rx,ry=>
   obtain⟨p,vs,rfl,np,hp,rp⟩:=jb.mp rx;obtain⟨v,h1,h2⟩:=Zfw rp q;exact .inl ⟨p,vs,i,v,rfl,ja.mp ry,ZT.of (e1 _ _ np hp),h1,k v h2⟩
  | .tup ds,.int i,q,rx,ry=>
   obtain⟨p,vs,rfl,np,hp,rp⟩:=jd.mp rx;obtain⟨v,h1,h2⟩:=Zfw rp q;exact .inr ⟨p,vs,i,v,rfl,ja.mp ry,Z5.of (e1 _ _ np hp),h1,k v h2⟩⟩
theorem jm (h:Zi G H [d] xs):∃v,xs=[v]/\Zl G H d v:=by
 obtain⟨v,r,rfl,h1,h2⟩:=jc.mp h;rw[Zi.nil_iff.mp h2];exact⟨v,rfl,h1⟩
theorem jo (h:Zi G H [d,e] xs):∃v w,xs=[v,w]/\Zl G H d v/\Zl G H e w:=by
 obtain⟨v,r,rfl,h1,h2⟩:=jc.mp h;obtain⟨w,rfl,h3⟩:=jm h2;exact⟨v,w,rfl,h1,h3⟩
noncomputable def Yw:List D->Option D
 | [.lst ds]=>some (.int ds.length)
 | [.tup ds]=>some (.int ds.length)
 | _=>none
theorem ZhE:Vl X G (.builtin "len") Yw:=
 ⟨_,B9,λHf H s xs ds c Q e1 st r q k=>by
  match ds,q,r with
  | [.lst es],q,r=>
   cases q
   obtain⟨v,rfl,rv⟩:=jm r;obtain⟨p,vs,rfl,np,hp,rp⟩:=jb.mp rv;exact⟨p,vs,rfl,.inl (ZT.of (e1 _ _ np hp)),k _ Hf H (.refl e1) st (ja.mpr (by rw[rp.length])) (.scal λz=>z)⟩
  | [.tup es],q,r=>
   cases q
   obtain⟨v,rfl,rv⟩:=jm r;obtain⟨p,vs,rfl,np,hp,rp⟩:=jd.mp rv;exact⟨p,vs,rfl,.inr (Z5.of (e1 _ _ np hp)),k _ Hf H (.refl e1) st (ja.mpr (by rw[rp.length])) (.scal λz=>z)⟩⟩
noncomputable def U2:List D->Option D
 | [.lst ds]=>some (.tup ds)
 | [.tup ds]=>some (.tup ds)
 | _=>none
theorem Zal:Vl X G (.type "tuple") U2:=
 ⟨_,Zes,λHf H s xs ds c Q e1 st r q k=>by
  match ds,q,r with
  | [.lst es],q,r=>
   cases q
   obtain⟨v,rfl,rv⟩:=jm r;obtain⟨p,vs,rfl,np,hp,rp⟩:=jb.mp rv;refine⟨p,vs,rfl,.inl ⟨ZT.of (e1 _ _ np hp),λl hl=>?_⟩⟩;have nf:=Gh.nofp st hl;have g2:=Gr.new (o:=.tup vs) e1 hl nf;exact k (.ref l) _ _ g2 (Gh.grow st hl) (jd.mpr ⟨l,_,rfl,nf,Z1,rp.ext g2.ff⟩) (.scal λz=>z)
  | [.tup es],q,r=>
   cases q
   obtain⟨v,rfl,rv⟩:=jm r;obtain⟨p,vs,rfl,np,hp,rp⟩:=jd.mp rv;exact⟨p,vs,rfl,.inr ⟨Z5.of (e1 _ _ np hp),k _ Hf H (.refl e1) st rv (.scal λz=>z)⟩⟩⟩
noncomputable def BJ:List D->Option D
 | [.int i,.int j]=>some (.int (if j > i then j else i))
 | _=>none
noncomputable def J0:List D->Option D
 | [.int i,.int j]=>some (.int (if j<i then j else i))
 | _=>none
theorem ZdD (hc:X.calm=true):Vl X G (.builtin "max") BJ:=
 ⟨_,Zjl hc,λHf H s xs ds c Q e1 st r q k=>by
  match ds,q,r with
  | [.int i,.int j],q,r=>
   cases q
   obtain⟨v,w,rfl,rv,rw'⟩:=jo r;rw[ja.mp rv,ja.mp rw'];exact⟨i,j,rfl,k _ Hf H (.refl e1) st (ja.mpr rfl) (.scal λz=>z)⟩⟩
theorem ZdE (hc:X.calm=true):Vl X G (.builtin "min") J0:=
 ⟨_,Zjm hc,λHf H s xs ds c Q e1 st r q k=>by
  match ds,q,r with
  | [.int i,.int j],q,r=>
   cases q
   obtain⟨v,w,rfl,rv,rw'⟩:=jo r;rw[ja.mp rv,ja.mp rw'];exact⟨i,j,rfl,k _ Hf H (.refl e1) st (ja.mpr rfl) (.scal λz=>z)⟩⟩
noncomputable def Y8:List D->Option (List Bool)
 | []=>some []
 | .bl b::ds=>(Y8 ds).map (b :: ·)
 | _::_=>none
theorem ZbD:∀{ds:List D} {ns:List Bool},Y8 ds=some ns->ds=ns.map D.bl
 | [],ns,h=>by simp[Y8]at h;subst h;rfl
 | .bl i::ds,ns,h=>by
  cases e:Y8 ds with
  | none=>simp[Y8,e]at h
  | some ms=>simp[Y8,e]at h;subst h;simp[ZbD e]
 | .non::_,_,h=>by simp[Y8]at h
 | .int _::_,_,h=>by simp[Y8]at h
 | .str _::_,_,h=>by simp[Y8]at h
 | .tup _::_,_,h=>by simp[Y8]at h
 | .lst _::_,_,h=>by simp[Y8]at h
 | .dk _::_,_,h=>by simp[Y8]at h
 | .dt _::_,_,h=>by simp[Y8]at h
 | .du _::_,_,h=>by simp[Y8]at h
 | .df _::_,_,h=>by simp[Y8]at h
 | .pen::_,_,h=>by simp[Y8]at h
 | .ty _::_,_,h=>by simp[Y8]at h
theorem ZcQ (ns:List Bool):Y8 (ns.map D.bl)=some ns:=by
 induction ns with
 | nil=>rfl
 | cons n ns ih=>simp[Y8,ih]
theorem jw:∀{ns:List Bool} {vs:List V},Zi G H (ns.map D.bl) vs->vs=ns.map V.bl
 | [],vs,h=>Zi.nil_iff.mp h
 | n::ns,vs,h=>by
  obtain⟨v,r,rfl,h1,h2⟩:=jc.mp h;rw[je.mp h1,jw h2];rfl
theorem ZdF:∀{bs:List Bool} {us:List Value},ZG (bs.map V.bl) us->us=bs.map zh
 | [],_,.nil=>rfl
 | b::bs,_,.cons r t=>by
  cases (show _=zh b from r)
  rw[ZdF t];rfl
theorem ZdG {hc:X.calm=true}{σ:St}{bs:List Bool}{Q:xF}(fin:Bool)(I:Inv X jM σ H s)(h:H p=some (.lst (bs.map V.bl)))
  (fn:(Nat->Bool)->List Nat->Bool) (hq:∀s',Inv X jM σ H s'->Q (.bool (fn (λi=>bs.getD i false) (qe bs.length))) s') :
  xf (xB X.prog X.w) X.A.in1 (pyIter (.ref p)) (λit s₂=>∃I fp wr n P St tr,it=.ref I/\Walks X.prog X.w X.A.in1 I fp wr n P St/\St 0 s₂.heap/\TruthOf X.prog X.w X.A.in1 P tr/\
   ∀h' tk,(∀b o,b∉wr->s₂.heap.get? b=some o->h'.get? b=some o)->Q (.bool (fn tr (qe n))) { s₂ with heap:=h',toks:=tk }) E s:=by
 obtain⟨jP,rv,pl,hz⟩:=I.list (ZT.of h);have eu:=ZdF rv;subst eu;refine wpAny_pyIter_list pl.isList ?_;have hne:p≠s.heap.objs.size:=qL (by
  obtain⟨o,ho,_⟩:=pl.isList;exact qz ho)
 refine⟨s.heap.objs.size,_,_,_,_,_,λi=>bs.getD i false,rfl,Walks.list (A:=X.A.in1) (I.ok.hd hc) s.heap.objs.size p hne _,⟨⟨_,qE _ rfl,rfl,rfl⟩,pl.isList.at λo e=>qj _ e⟩,?_,?_⟩
 ·intro i v s' Q' E' hP hQ'
  have hv:v=.bool (bs.getD i false):=by
   cases q:bs[i]? with
   | none=>simp_all
   | some b=>simp_all
  subst hv;exact wpAny_truthy_bool hQ'
 ·intro h' tk hk
  have:(qaD zh bs).toArray.size=bs.length:=by simp
  rw[this];refine hq _ (I.kept λb o e=>hk b o ?_ (qj _ e));have:=qL (qz e);simp_all
theorem Zk6 (bs:List Bool):(qe bs.length).all (λi=>bs.getD i false)=bs.all id:=by
 induction bs with
 | nil=>rfl
 | cons b bs ih=>
  rw[qW,zV,yM,y4];show(b&&(qe bs.length).all λi=>bs.getD i false)=_;rw[ih];rfl
theorem Zk7 (bs:List Bool):(qe bs.length).any (λi=>bs.getD i false)=bs.any id:=by
 induction bs with
 | nil=>rfl
 | cons b bs ih=>
  rw[qW,zV,yL,List.any_map];show(b||(qe bs.length).any λi=>bs.getD i false)=_;rw[ih];rfl
theorem Zju (hc:X.calm=true):WH X (.builtin "all") (λxs H Q=>∃(p:Addr) (bs:List Bool),xs=[.ref p]/\H p=some (.lst (bs.map V.bl))/\Q (.bl (bs.all id)) H):=by
 intro jM s σ H xs us Q I r h;obtain⟨p,bs,rfl,hp,q⟩:=h;obtain⟨u,rfl,ru⟩:=VM r
 cases ru
 refine call_all_walk (ZdG (hc:=hc) true I hp (λt l=>l.all t) λs' I'=>⟨.bl (bs.all id),H,I',?_,q⟩);show zh _=_;rw[Zk6]
theorem Zjv (hc:X.calm=true):WH X (.builtin "any") (λxs H Q=>∃(p:Addr) (bs:List Bool),xs=[.ref p]/\H p=some (.lst (bs.map V.bl))/\Q (.bl (bs.any id)) H):=by
 intro jM s σ H xs us Q I r h;obtain⟨p,bs,rfl,hp,q⟩:=h;obtain⟨u,rfl,ru⟩:=VM r
 cases ru
 refine call_any_walk (ZdG (hc:=hc) true I hp (λt l=>l.any t) λs' I'=>⟨.bl (bs.any id),H,I',?_,q⟩);show zh _=_;rw[Zk7]
noncomputable def dAll:List D->Option D
 | [.lst ds]=>(Y8 ds).map λbs=>.bl (bs.all id)
 | _=>none
noncomputable def dAny:List D->Option D
 | [.lst ds]=>(Y8 ds).map λbs=>.bl (bs.any id)
 | _=>none
theorem Zjw (hc:X.calm=true):Vl X G (.builtin "all") dAll:=
 ⟨_,Zju hc,λHf H s xs ds c Q e1 st r q k=>by
  match ds,q,r with
  | [.lst es],q,r=>
   obtain⟨v,rfl,rv⟩:=jm r;obtain⟨p,vs,rfl,np,hp,rp⟩:=jb.mp rv
   cases e:Y8 es with
   | none=>simp[dAll,e]at q
   | some bs=>
    simp[dAll,e]at q;subst q;rw[ZbD e]at rp;rw[jw rp]at hp;exact⟨p,bs,rfl,e1 _ _ np hp,k _ Hf H (.refl e1) st (je.mpr rfl) (.scal λz=>z)⟩⟩
theorem Zjx (hc:X.calm=true):Vl X G (.builtin "any") dAny:=
 ⟨_,Zjv hc,λHf H s xs ds c Q e1 st r q k=>by
  match ds,q,r with
  | [.lst es],q,r=>
   obtain⟨v,rfl,rv⟩:=jm r;obtain⟨p,vs,rfl,np,hp,rp⟩:=jb.mp rv
   cases e:Y8 es with
   | none=>simp[dAny,e]at q
   | some bs=>
    simp[dAny,e]at q;subst q;rw[ZbD e]at rp;rw[jw rp]at hp;exact⟨p,bs,rfl,e1 _ _ np hp,k _ Hf H (.refl e1) st (je.mpr rfl) (.scal λz=>z)⟩⟩
theorem V5 {pos:Pos}(hg:Gl X x)(hm:X.mg x=none)(hv:xj x=some (.type n))(hn:x≠"__name__":=by decide)(hd:(x==("__debug__" : Str))=false:=by decide):PD X G true (.Name x pos) (dC (.ty n)):=by
 refine⟨_,ZmT (v:=.ty n) hg hm hv rfl hn hd,fun σ Hf H ρ s d s' Q e1 e2 e3 e4 k=>?_⟩;obtain⟨rfl,rfl⟩:=ZJ e4;exact k _ Hf H (.refl e1) e3 (jr.mpr rfl) λ_=>.scal λz=>z
noncomputable def Zfx:D->Option String
 | .non=>some "NoneType"
 | .bl _=>some "bool"
 | .int _=>some "int"
 | .str _=>some "str"
 | .tup _=>some "tuple"
 | .lst _=>some "list"
 | .dk _=>some "dict"
 | .dt _=>none
 | .du _=>none
 | .df _=>none
 | _=>none
noncomputable def Zgm:List String:=["int","bool","str","tuple","list","dict"]
noncomputable def Ys:List D->Option D
 | [d,.ty T]=>match Zfx d with
  | some n=>if Zgm.contains T then some (.bl (n==T||(n == "bool" && T == "int")))else none
  | none=>none
 | _=>none
theorem Znl (K:qd):∀n∈["NoneType","bool","int","str","tuple","list","dict"],∀T∈Zgm,PySem.W.kitOne K (.type n) (.type T)=some (n==T||(n == "bool" && T == "int")):=by
 intro n hn T hT;simp only[Zgm,qN,List.not_mem_nil,or_false]at hn hT;rcases hn with rfl | rfl | rfl | rfl | rfl | rfl | rfl <;> rcases hT with rfl | rfl | rfl | rfl | rfl | rfl <;> rfl
theorem Zjy (e1:ZA G Hf H)(r:Zl G Hf d v)(h:Zfx d=some n):TyOf X.K H v (.type n)/\n∈["NoneType","bool","int","str","tuple","list","dict"]:=by
 cases d with
 | non=>cases h;rw[jg.mp r];exact⟨.non,by decide⟩
 | bl b=>cases h;rw[je.mp r];exact⟨.bl b,by decide⟩
 | int b=>cases h;rw[ja.mp r];exact⟨.int b,by decide⟩
 | str b=>cases h;rw[jh.mp r];exact⟨.str b,by decide⟩
 | tup ds=>cases h;obtain⟨p,vs,rfl,np,hp,rp⟩:=jd.mp r;exact⟨.tup (e1 _ _ np hp),by decide⟩
 | lst ds=>cases h;obtain⟨p,vs,rfl,np,hp,rp⟩:=jb.mp r;exact⟨.lst (e1 _ _ np hp),by decide⟩
 | dk ds=>cases h;obtain⟨p,rfl,np,hp⟩:=ji.mp r;exact⟨.dK (e1 _ _ np hp),by decide⟩
 | dt ds=>cases h
 | du ds=>cases h
 | df ds=>cases h
 | pen=>cases h
 | ty _=>cases h
 | clo _ _=>cases h
theorem Zjz:WH X (.builtin "isinstance") (λxs H Q=>∃x n T,xs=[x,.ty T]/\TyOf X.K H x (.type n)/\n∈["NoneType","bool","int","str","tuple","list","dict"]/\T∈Zgm/\Q (.bl (n==T||(n == "bool" && T == "int"))) H):=by
 intro jM s σ H xs us Q I r h;obtain⟨x,n,T,rfl,ty,hn,hT,q⟩:=h;obtain⟨u,w',rfl,ru,rw'⟩:=ZkF r
 cases (show w'=qbE T from rw')
 exact Zjp I ru ty (Znl X.K n hn T hT) λtk=>⟨.bl _,H,I.tok tk,rfl,q⟩
theorem VW:Vl X G (.builtin "isinstance") Ys:=
 ⟨_,Zjz,λHf H s xs ds c Q e1 st r q k=>by
  match ds,q,r with
  | [d,.ty T],q,r=>
   obtain⟨v,w,rfl,rv,rw'⟩:=jo r;rw[jr.mp rw'];have q:(match Zfx d with | some n=>if Zgm.contains T then some (D.bl (n==T||(n == "bool" && T == "int")))else none | none=>none)=some c:=q
   cases e:Zfx d with
   | none=>simp_all
   | some n=>
    rw[e]at q;simp only at q;split at q
    ·cases q
     obtain⟨t1,t2⟩:=Zjy e1 rv e;exact⟨v,n,T,rfl,t1,t2,by simp_all,k _ Hf H (.refl e1) st (je.mpr rfl) (.scal λz=>z)⟩
    ·cases q⟩
end
mutual
noncomputable def Zs:D->Bool
 | .non=>true
 | .bl _=>true
 | .int _=>true
 | .str _=>true
 | .tup ds=>YW ds
 | .lst ds=>YW ds
 | _=>false
noncomputable def YW:List D->Bool
 | []=>true
 | d::ds=>Zs d&&YW ds
end
mutual
noncomputable def ZX:D->Nat
 | .tup ds=>Xh ds+1
 | .lst ds=>Xh ds+1
 | _=>0
noncomputable def Xh:List D->Nat
 | []=>0
 | d::ds=>max (ZX d) (Xh ds)
end
theorem JF:∀{ds:List D} {d:D},d∈ds->ZX d<=Xh ds
 | e::ds,d,h=>by
  rcases qN.mp h with rfl | h
  ·simp only[Xh];omega
  ·have:=JF h
   simp only[Xh];omega
theorem JA:∀{ds:List D} {d:D},YW ds=true->d∈ds->Zs d=true
 | e::ds,d,n,h=>by
  have n':=by simpa[YW]using n
  rcases qN.mp h with rfl | h
  ·exact n'.1
  ·exact JA n'.2 h
mutual
noncomputable def ZO:D->D->Bool
 | .non,.non=>true
 | .bl a,.bl b=>a==b
 | .bl a,.int i=>(if a then 1 else 0)==i
 | .int i,.bl b=>i==(if b then 1 else 0)
 | .int i,.int j=>i==j
 | .str x,.str y=>x==y
 | .tup a,.tup b=>XM a b
 | .lst a,.lst b=>XM a b
 | _,_=>false
noncomputable def XM:List D->List D->Bool
 | [],[]=>true
 | a::as,b::bs=>ZO a b&&XM as bs
 | _,_=>false
end
mutual
theorem ZdH:∀d:D,Zs d=true->ZO d d=true
 | .non,_=>by simp[ZO]
 | .bl _,_=>by simp[ZO]
 | .int _,_=>by simp[ZO]
 | .str _,_=>by simp[ZO]
 | .tup ds,h=>by simp only[ZO];exact Zcz ds (by simpa[Zs]using h)
 | .lst ds,h=>by simp only[ZO];exact Zcz ds (by simpa[Zs]using h)
 | .dk _,h=>by simp[Zs]at h
 | .dt _,h=>by simp[Zs]at h
 | .du _,h=>by simp[Zs]at h
 | .df _,h=>by simp[Zs]at h
 | .pen,h=>by simp[Zs]at h
 | .ty _,h=>by simp[Zs]at h
 | .clo _ _,h=>by simp[Zs]at h
theorem Zcz:∀ds:List D,YW ds=true->XM ds ds=true
 | [],_=>by simp[XM]
 | d::ds,h=>by
  have n':Zs d=true/\YW ds=true:=by simpa[YW]using h
  simp only[XM,ZdH d n'.1,Zcz ds n'.2,qbQ]
end
theorem ZdI:∀{a b:List D},XM a b=true->a.length=b.length
 | [],[],_=>rfl
 | a::as,b::bs,h=>by
  have:=by simpa[XM]using h
  simp[ZdI this.2]
 | [],_::_,h=>by simp[XM]at h
 | _::_,[],h=>by simp[XM]at h
theorem ZbE:∀(a b:List D),a.length=b.length->(qe a.length).all (λj=>ZO (a.getD j .non) (b.getD j .non))=XM a b
 | [],[],_=>rfl
 | a::as,b::bs,h=>by
  have h':=by simpa using h
  rw[qW,zV,yM,y4,XM,<-ZbE as bs h'];rfl
 | [],_::_,h=>by simp at h
 | _::_,[],h=>by simp at h
theorem Zgn:∀(a b:List D),((qe (min a.length b.length)).all (λj=>ZO (a.getD j .non) (b.getD j .non))&&a.length==b.length)=XM a b:=λa b=>by
 by_cases h:a.length=b.length
 ·rw[<-ZbE a b h,h];simp
 ·have:XM a b=false:=by
   cases e:XM a b with
   | false=>rfl
   | true=>exact absurd (ZdI e) h
  simp_all
mutual
theorem Zl.inj {G:Gh}{H:Hp}:∀{d e:D} {v:V},Zs d=true->Zs e=true->Zl G H d v->Zl G H e v->d=e
 | .non,e,v,_,pe,h,h'=>by
  rw[jg.mp h]at h'
  cases e <;> first | rfl | (simp[Zs]at pe;done) | (simp[Zl]at h')
 | .bl b,e,v,_,pe,h,h'=>by
  rw[je.mp h]at h'
  cases e <;> first | (simp[Zs]at pe;done) | (simp[Zl]at h';rw[h']) | (simp[Zl]at h')
 | .int b,e,v,_,pe,h,h'=>by
  rw[ja.mp h]at h'
  cases e <;> first | (simp[Zs]at pe;done) | (simp[Zl]at h';rw[h']) | (simp[Zl]at h')
 | .str b,e,v,_,pe,h,h'=>by
  rw[jh.mp h]at h'
  cases e <;> first | (simp[Zs]at pe;done) | (simp[Zl]at h';rw[h']) | (simp[Zl]at h')
 | .tup ds,e,v,pd,pe,h,h'=>by
  obtain⟨a,vs,rfl,n,q,r⟩:=jd.mp h
  cases e with
  | tup es=>
   obtain⟨a',vs',e',n',q',r'⟩:=jd.mp h'
   cases e'
   rw[q]at q';cases q';rw[Zi.inj (by simpa[Zs]using pd) (by simpa[Zs]using pe) r r']
  | lst es=>
   obtain⟨a',vs',e',n',q',r'⟩:=jb.mp h'
   cases e'
   rw[q]at q';cases q'
  | _=>first | (simp[Zl]at h';done) | (simp[Zs]at pe;done)
 | .lst ds,e,v,pd,pe,h,h'=>by
  obtain⟨a,vs,rfl,n,q,r⟩:=jb.mp h
  cases e with
  | lst es=>
   obtain⟨a',vs',e',n',q',r'⟩:=jb.mp h'
   cases e'
   rw[q]at q';cases q';rw[Zi.inj (by simpa[Zs]using pd) (by simpa[Zs]using pe) r r']
  | tup es=>
   obtain⟨a',vs',e',n',q',r'⟩:=jd.mp h'
   cases e'
   rw[q]at q';cases q'
  | _=>first | (simp[Zl]at h';done) | (simp[Zs]at pe;done)
 | .dk _,_,_,pd,_,_,_=>by simp[Zs]at pd
 | .dt _,_,_,pd,_,_,_=>by simp[Zs]at pd
 | .du _,_,_,pd,_,_,_=>by simp[Zs]at pd
 | .df _,_,_,pd,_,_,_=>by simp[Zs]at pd
 | .pen,_,_,pd,_,_,_=>by simp[Zs]at pd
 | .ty _,_,_,pd,_,_,_=>by simp[Zs]at pd
 | .clo _ _,_,_,pd,_,_,_=>by simp[Zs]at pd
theorem Zi.inj {G:Gh}{H:Hp}:∀{ds es:List D} {vs:List V},YW ds=true->YW es=true->Zi G H ds vs->Zi G H es vs->ds=es
 | [],es,vs,_,pe,h,h'=>by
  rw[Zi.nil_iff.mp h]at h'
  cases es with
  | nil=>rfl
  | cons e es=>obtain⟨v,r,e1,_⟩:=jc.mp h';cases e1
 | d::ds,es,vs,pd,pe,h,h'=>by
  obtain⟨v,r,rfl,r1,r2⟩:=jc.mp h;have pd':Zs d=true/\YW ds=true:=by simpa[YW]using pd
  cases es with
  | nil=>have:=Zi.nil_iff.mp h';cases this
  | cons e es=>
   obtain⟨v',r',e1,r1',r2'⟩:=jc.mp h'
   cases e1
   have pe':Zs e=true/\YW es=true:=by simpa[YW]using pe
   rw[Zl.inj pd'.1 pe'.1 r1 r1',Zi.inj pd'.2 pe'.2 r2 r2']
end
section
variable {X:Cx}{G:Gh}{jM:Qb}{σ:St}{Hf H:Hp}{s:Shared}
theorem Zbm (A:xE):A.in1.units=A.units+1:=rfl
theorem Zde (r:Zi G Hf ds vs)(rv:ZG vs us)(h:j<us.toArray.size):∃v,Zl G Hf (ds.getD j .non) v/\ZN v us.toArray[j]/\ds.getD j .non∈ds:=by
 have hl:j<ds.length:=by rw[r.length,rv.length];omega
 have e:ds[j]?=some (ds.getD j .non):=by simp[hl]
 obtain⟨v,h1,h2⟩:=r.get e;obtain⟨u,h3,h4⟩:=rv.get h1;refine⟨v,h2,?_,?_⟩
 ·have:us.toArray[j]=u:=by
   have h':j<us.length:=by omega
   simp_all
  simp_all
 ·simp[hl]
theorem Zk8 (I:Inv X jM σ H s)(e1:ZA G Hf H):∀(n:Nat) (A:xE) (d e:D) (x y:V) (u v:Value),ZX d<=n->ZX e<=n->A.units+n+1<cLine->Zs d=true->Zs e=true->Zl G Hf d x->Zl G Hf e y->ZN x u->ZN y v->
  yI A s u v (ZO d e)/\qbM A s u v (ZO d e)/\qa8 A s u v (!ZO d e):=by
 intro n
 induction n with
 | zero=>
  intro A d e x y u v hd he hu pd pe rd re ru rv;have hu':A.units<cLine:=by omega
  cases d with
  | tup ds=>simp[ZX]at hd
  | lst ds=>simp[ZX]at hd
  | dk _=>simp[Zs]at pd
  | dt _=>simp[Zs]at pd
  | du _=>simp[Zs]at pd
  | df _=>simp[Zs]at pd
  | pen=>simp[Zs]at pd
  | ty _=>simp[Zs]at pd
  | clo _ _=>simp[Zs]at pd
  | non=>
   rw[jg.mp rd]at ru
   cases (show u=zk from ru)
   cases e with
   | tup ds=>simp[ZX]at he
   | lst ds=>simp[ZX]at he
   | dk _=>simp[Zs]at pe
   | dt _=>simp[Zs]at pe
   | du _=>simp[Zs]at pe
   | df _=>simp[Zs]at pe
   | pen=>simp[Zs]at pe
   | ty _=>simp[Zs]at pe
   | clo _ _=>simp[Zs]at pe
   | non=>rw[jg.mp re]at rv;cases (show v=zk from rv);simp only[ZO];exact⟨.same _,.none_none,.none_none⟩
   | bl b=>rw[je.mp re]at rv;cases (show v=zh b from rv);simp only[ZO];exact⟨.none_bool b,.none_bool b,.none_bool b⟩
   | int b=>rw[ja.mp re]at rv;obtain⟨t,rfl⟩:=rv;simp only[ZO];exact⟨.none_int b t,.none_int b t,.none_int b t⟩
   | str b=>rw[jh.mp re]at rv;obtain⟨t,rfl⟩:=rv;simp only[ZO];exact⟨.none_str b t,.none_str b t,.none_str b t⟩
  | bl a=>
   rw[je.mp rd]at ru
   cases (show u=zh a from ru)
   cases e with
   | tup ds=>simp[ZX]at he
   | lst ds=>simp[ZX]at he
   | dk _=>simp[Zs]at pe
   | dt _=>simp[Zs]at pe
   | du _=>simp[Zs]at pe
   | df _=>simp[Zs]at pe
   | pen=>simp[Zs]at pe
   | ty _=>simp[Zs]at pe
   | clo _ _=>simp[Zs]at pe
   | non=>rw[jg.mp re]at rv;cases (show v=zk from rv);simp only[ZO];exact⟨.bool_none a,.bool_none a,.bool_none a⟩
   | bl b=>rw[je.mp re]at rv;cases (show v=zh b from rv);simp only[ZO];exact⟨.bool_bool a b,.bool_bool a b,.bool_bool a b⟩
   | int b=>rw[ja.mp re]at rv;obtain⟨t,rfl⟩:=rv;simp only[ZO];exact⟨.bool_int a b t,.bool_int a b t,.bool_int a b t⟩
   | str b=>rw[jh.mp re]at rv;obtain⟨t,rfl⟩:=rv;simp only[ZO];exact⟨.bool_str a b t,.bool_str a b t,.bool_str a b t⟩
  | int a=>
   rw[ja.mp rd]at ru;obtain⟨ta,rfl⟩:=ru
   cases e with
   | tup ds=>simp[ZX]at he
   | lst ds=>simp[ZX]at he
   | dk _=>simp[Zs]at pe
   | dt _=>simp[Zs]at pe
   | du _=>simp[Zs]at pe
   | df _=>simp[Zs]at pe
   | pen=>simp[Zs]at pe
   | ty _=>simp[Zs]at pe
   | clo _ _=>simp[Zs]at pe
   | non=>rw[jg.mp re]at rv;cases (show v=zk from rv);simp only[ZO];exact⟨.int_none a ta,.int_none a ta,.int_none a ta⟩
   | bl b=>rw[je.mp re]at rv;cases (show v=zh b from rv);simp only[ZO];exact⟨.int_bool a ta b,.int_bool a ta b,.int_bool a ta b⟩
   | int b=>rw[ja.mp re]at rv;obtain⟨t,rfl⟩:=rv;simp only[ZO];exact⟨.int_int a ta b t,.int_int a ta b t,.int_int a ta b t⟩
   | str b=>rw[jh.mp re]at rv;obtain⟨t,rfl⟩:=rv;simp only[ZO];exact⟨.int_str a ta b t,.int_str a ta b t,.int_str a ta b t⟩
  | str a=>
   rw[jh.mp rd]at ru;obtain⟨ta,rfl⟩:=ru
   cases e with
   | tup ds=>simp[ZX]at he
   | lst ds=>simp[ZX]at he
   | dk _=>simp[Zs]at pe
   | dt _=>simp[Zs]at pe
   | du _=>simp[Zs]at pe
   | df _=>simp[Zs]at pe
   | pen=>simp[Zs]at pe
   | ty _=>simp[Zs]at pe
   | clo _ _=>simp[Zs]at pe
   | non=>rw[jg.mp re]at rv;cases (show v=zk from rv);simp only[ZO];exact⟨.str_none a ta,.str_none a ta,.str_none a ta⟩
   | bl b=>rw[je.mp re]at rv;cases (show v=zh b from rv);simp only[ZO];exact⟨.str_bool a ta b,.str_bool a ta b,.str_bool a ta b⟩
   | int b=>rw[ja.mp re]at rv;obtain⟨t,rfl⟩:=rv;simp only[ZO];exact⟨.str_int a ta b t,.str_int a ta b t,.str_int a ta b t⟩
   | str b=>rw[jh.mp re]at rv;obtain⟨t,rfl⟩:=rv;simp only[ZO];exact⟨.str_str a ta b t,.str_str a ta b t,.str_str a ta b t⟩
 | succ n ih=>
  intro A d e x y u v hd he hu pd pe rd re ru rv;have hu':A.units<cLine:=by omega
  by_cases hs:ZX d<=n/\ZX e<=n
  ·exact ih A d e x y u v hs.1 hs.2 (by omega) pd pe rd re ru rv
  -- two refs
  have same:∀{l b:Addr},x=.ref l->y=.ref b->l=b->ZO d e=true:=λex ey el=>by
   subst ex ey el;have:=Zl.inj pd pe rd re;subst this;exact ZdH d pd
  cases d with
  | dk _=>simp[Zs]at pd
  | dt _=>simp[Zs]at pd
  | du _=>simp[Zs]at pd
  | df _=>simp[Zs]at pd
  | pen=>simp[Zs]at pd
  | ty _=>simp[Zs]at pd
  | clo _ _=>simp[Zs]at pd
  | tup ds=>
   obtain⟨l,vs,rfl,nl,hl,rl⟩:=jd.mp rd
   cases (show u=qC l from ru)
   obtain⟨jP,rits,pits,_⟩:=I.tuple (Z5.of (K:=X.K) (e1 _ _ nl hl));have il:s.heap.IsTuple l jP.toArray:=pits
   cases e with
   | dk _=>simp[Zs]at pe
   | dt _=>simp[Zs]at pe
   | du _=>simp[Zs]at pe
   | df _=>simp[Zs]at pe
   | pen=>simp[Zs]at pe
   | ty _=>simp[Zs]at pe
   | clo _ _=>simp[Zs]at pe
   | non=>rw[jg.mp re]at rv;cases (show v=zk from rv);simp only[ZO];exact⟨.tuple_none il hu',.tuple_none il hu',.tuple_none il hu'⟩
   | bl b=>rw[je.mp re]at rv;cases (show v=zh b from rv);simp only[ZO];exact⟨.tuple_bool b il hu',.tuple_bool b il hu',.tuple_bool b il hu'⟩
   | int b=>rw[ja.mp re]at rv;obtain⟨t,rfl⟩:=rv;simp only[ZO];exact⟨.tuple_int b t il hu',.tuple_int b t il hu',.tuple_int b t il hu'⟩
   | str b=>rw[jh.mp re]at rv;obtain⟨t,rfl⟩:=rv;simp only[ZO];exact⟨.tuple_str b t il hu',.tuple_str b t il hu',.tuple_str b t il hu'⟩
   | lst es=>
    obtain⟨b,ws,rfl,nb,hb,rb⟩:=jb.mp re
    cases (show v=qC b from rv)
    obtain⟨kf,kq,j7,_⟩:=I.list (ZT.of (K:=X.K) (e1 _ _ nb hb));simp only[ZO];exact⟨.tuple_list il j7.isList hu',.tuple_list il j7.isList hu',.tuple_list il j7.isList hu'⟩
   | tup es=>
    obtain⟨b,ws,rfl,nb,hb,rb⟩:=jd.mp re
    cases (show v=qC b from rv)
    obtain⟨kf,kq,j7,_⟩:=I.tuple (Z5.of (K:=X.K) (e1 _ _ nb hb));have ib:s.heap.IsTuple b kf.toArray:=j7;have hit:∀j (h1:j<jP.toArray.size) (h2:j<kf.toArray.size),yI A.in1 s jP.toArray[j] kf.toArray[j] ((λj=>ZO (ds.getD j .non) (es.getD j .non)) j):=λj h1 h2=>by
     obtain⟨v1,a1,a2,a3⟩:=Zde rl rits h1;obtain⟨v2,b1,b2,b3⟩:=Zde rb kq h2;exact(ih A.in1 _ _ v1 v2 _ _ (qu (JF a3) (by simp[ZX]at hd;omega)) (qu (JF b3) (by simp[ZX]at he;omega)) (by rw[Zbm];omega)
      (JA (by simpa[Zs]using pd) a3) (JA (by simpa[Zs]using pe) b3) a1 b1 a2 b2).1
    have sz1:jP.toArray.size=ds.length:=by rw[rl.length,rits.length];simp
    have sz2:kf.toArray.size=es.length:=by rw[rb.length,kq.length];simp
    have rc:=qbM.tuples (e:=λj=>ZO (ds.getD j .non) (es.getD j .non)) il ib hu' hit;have rn:=qa8.tuples (e:=λj=>ZO (ds.getD j .non) (es.getD j .non)) il ib hu' hit;rw[sz1,sz2,Zgn]at rc rn;simp only[ZO];refine⟨?_,rc,rn⟩;by_cases hlb:l=b
    ·have q:=same rfl rfl hlb
     simp only[ZO]at q;subst hlb;rw[q];exact .same _
    ·exact .of_refs hlb rc
  | lst ds=>
   obtain⟨l,vs,rfl,nl,hl,rl⟩:=jb.mp rd
   cases (show u=qC l from ru)
   obtain⟨jP,rits,pits,_⟩:=I.list (ZT.of (K:=X.K) (e1 _ _ nl hl));have il:=pits.isList
   cases e with
   | dk _=>simp[Zs]at pe
   | dt _=>simp[Zs]at pe
   | du _=>simp[Zs]at pe
   | df _=>simp[Zs]at pe
   | pen=>simp[Zs]at pe
   | ty _=>simp[Zs]at pe
   | clo _ _=>simp[Zs]at pe
   | non=>rw[jg.mp re]at rv;cases (show v=zk from rv);simp only[ZO];exact⟨.list_none il hu',.list_none il hu',.list_none il hu'⟩
   | bl b=>rw[je.mp re]at rv;cases (show v=zh b from rv);simp only[ZO];exact⟨.list_bool b il hu',.list_bool b il hu',.list_bool b il hu'⟩
   | int b=>rw[ja.mp re]at rv;obtain⟨t,rfl⟩:=rv;simp only[ZO];exact⟨.list_int b t il hu',.list_int b t il hu',.list_int b t il hu'⟩
   | str b=>rw[jh.mp re]at rv;obtain⟨t,rfl⟩:=rv;simp only[ZO];exact⟨.list_str b t il hu',.list_str b t il hu',.list_str b t il hu'⟩
   | tup es=>
    obtain⟨b,ws,rfl,nb,hb,rb⟩:=jd.mp re
    cases (show v=qC b from rv)
    obtain⟨kf,kq,j7,_⟩:=I.tuple (Z5.of (K:=X.K) (e1 _ _ nb hb));have ib:s.heap.IsTuple b kf.toArray:=j7;simp only[ZO];exact⟨.list_tuple il ib hu',.list_tuple il ib hu',.list_tuple il ib hu'⟩
   | lst es=>
    obtain⟨b,ws,rfl,nb,hb,rb⟩:=jb.mp re
    cases (show v=qC b from rv)
    obtain⟨kf,kq,j7,_⟩:=I.list (ZT.of (K:=X.K) (e1 _ _ nb hb));have ib:=j7.isList;have hit:∀j (h1:j<jP.toArray.size) (h2:j<kf.toArray.size),yI A.in1 s jP.toArray[j] kf.toArray[j] ((λj=>ZO (ds.getD j .non) (es.getD j .non)) j):=λj h1 h2=>by
     obtain⟨v1,a1,a2,a3⟩:=Zde rl rits h1;obtain⟨v2,b1,b2,b3⟩:=Zde rb kq h2;exact(ih A.in1 _ _ v1 v2 _ _ (qu (JF a3) (by simp[ZX]at hd;omega)) (qu (JF b3) (by simp[ZX]at he;omega)) (by rw[Zbm];omega)
      (JA (by simpa[Zs]using pd) a3) (JA (by simpa[Zs]using pe) b3) a1 b1 a2 b2).1
    have sz1:jP.toArray.size=ds.length:=by rw[rl.length,rits.length];simp
    have sz2:kf.toArray.size=es.length:=by rw[rb.length,kq.length];simp
    have key:qbM A s (.ref l) (.ref b) (XM ds es)/\qa8 A s (.ref l) (.ref b) (!XM ds es):=by
     by_cases hsz:ds.length=es.length
     ·have rc:=qbM.lists (e:=λj=>ZO (ds.getD j .non) (es.getD j .non)) il ib (by rw[sz1,sz2];exact hsz) hu' hit
      have rn:=qa8.lists (e:=λj=>ZO (ds.getD j .non) (es.getD j .non)) il ib (by rw[sz1,sz2];exact hsz) hu' hit;rw[sz1,ZbE ds es hsz]at rc rn;exact⟨rc,rn⟩
     ·have hne:(jP.toArray.size != kf.toArray.size)=true:=by rw[sz1,sz2];simpa using hsz
      have hf:XM ds es=false:=by
       cases e:XM ds es with
       | false=>rfl
       | true=>exact absurd (ZdI e) hsz
      rw[hf];exact⟨.lists_lengths il ib hne hu',.lists_lengths il ib hne hu'⟩
    simp only[ZO];refine⟨?_,key.1,key.2⟩;by_cases hlb:l=b
    ·have q:=same rfl rfl hlb
     simp only[ZO]at q;subst hlb;rw[q];exact .same _
    ·exact .of_refs hlb key.1
  | non=>
   rw[jg.mp rd]at ru
   cases (show u=zk from ru)
   cases e with
   | tup es=>
    obtain⟨b,ws,rfl,nb,hb,rb⟩:=jd.mp re
    cases (show v=qC b from rv)
    obtain⟨kf,kq,j7,_⟩:=I.tuple (Z5.of (K:=X.K) (e1 _ _ nb hb));have ib:s.heap.IsTuple b kf.toArray:=j7;simp only[ZO];exact⟨.none_tuple ib hu',.none_tuple ib hu',.none_tuple ib hu'⟩
   | lst es=>
    obtain⟨b,ws,rfl,nb,hb,rb⟩:=jb.mp re
    cases (show v=qC b from rv)
    obtain⟨kf,kq,j7,_⟩:=I.list (ZT.of (K:=X.K) (e1 _ _ nb hb));have ib:=j7.isList;simp only[ZO];exact⟨.none_list ib hu',.none_list ib hu',.none_list ib hu'⟩
   | _=>simp[ZX]at hs
  | bl a=>
   rw[je.mp rd]at ru
   cases (show u=zh a from ru)
   cases e with
   | tup es=>
    obtain⟨b,ws,rfl,nb,hb,rb⟩:=jd.mp re
    cases (show v=qC b from rv)
    obtain⟨kf,kq,j7,_⟩:=I.tuple (Z5.of (K:=X.K) (e1 _ _ nb hb));have ib:s.heap.IsTuple b kf.toArray:=j7;simp only[ZO];exact⟨.bool_tuple a ib hu',.bool_tuple a ib hu',.bool_tuple a ib hu'⟩
   | lst es=>
    obtain⟨b,ws,rfl,nb,hb,rb⟩:=jb.mp re
    cases (show v=qC b from rv)
    obtain⟨kf,kq,j7,_⟩:=I.list (ZT.of (K:=X.K) (e1 _ _ nb hb));have ib:=j7.isList;simp only[ZO];exact⟨.bool_list a ib hu',.bool_list a ib hu',.bool_list a ib hu'⟩
   | _=>simp[ZX]at hs
  | int a=>
   rw[ja.mp rd]at ru;obtain⟨ta,rfl⟩:=ru
   cases e with
   | tup es=>
    obtain⟨b,ws,rfl,nb,hb,rb⟩:=jd.mp re
    cases (show v=qC b from rv)
    obtain⟨kf,kq,j7,_⟩:=I.tuple (Z5.of (K:=X.K) (e1 _ _ nb hb));have ib:s.heap.IsTuple b kf.toArray:=j7;simp only[ZO];exact⟨.int_tuple a ta ib hu',.int_tuple a ta ib hu',.int_tuple a ta ib hu'⟩
   | lst es=>
    obtain⟨b,ws,rfl,nb,hb,rb⟩:=jb.mp re
    cases (show v=qC b from rv)
    obtain⟨kf,kq,j7,_⟩:=I.list (ZT.of (K:=X.K) (e1 _ _ nb hb));have ib:=j7.isList;simp only[ZO];exact⟨.int_list a ta ib hu',.int_list a ta ib hu',.int_list a ta ib hu'⟩
   | _=>simp[ZX]at hs
  | str a=>
   rw[jh.mp rd]at ru;obtain⟨ta,rfl⟩:=ru
   cases e with
   | tup es=>
    obtain⟨b,ws,rfl,nb,hb,rb⟩:=jd.mp re
    cases (show v=qC b from rv)
    obtain⟨kf,kq,j7,_⟩:=I.tuple (Z5.of (K:=X.K) (e1 _ _ nb hb));have ib:s.heap.IsTuple b kf.toArray:=j7;simp only[ZO];exact⟨.str_tuple a ta ib hu',.str_tuple a ta ib hu',.str_tuple a ta ib hu'⟩
   | lst es=>
    obtain⟨b,ws,rfl,nb,hb,rb⟩:=jb.mp re
    cases (show v=qC b from rv)
    obtain⟨kf,kq,j7,_⟩:=I.list (ZT.of (K:=X.K) (e1 _ _ nb hb));have ib:=j7.isList;simp only[ZO];exact⟨.str_list a ta ib hu',.str_list a ta ib hu',.str_list a ta ib hu'⟩
   | _=>simp[ZX]at hs
end
section
variable {X:Cx}{G:Gh}
noncomputable def Jd (d e:D):Bool:=Zs d&&Zs e&&decide (ZX d<=60)&&decide (ZX e<=60)
theorem ZeR (h:Jd d e=true):Zs d=true/\Zs e=true/\ZX d<=60/\ZX e<=60:=by
 simp only[Jd]at h;simp_all
noncomputable def YD (d e:D):Option D:=if Jd d e=true then some (.bl (ZO d e))else none
noncomputable def Y3 (d e:D):Option D:=if Jd d e=true then some (.bl (!ZO d e))else none
noncomputable def rEqD (G:Gh)(neg:Bool):R2:=λx y H Q=>∃Hf d e,ZA G Hf H/\Jd d e=true/\Zl G Hf d x/\Zl G Hf e y/\Q (.bl (if neg then !ZO d e else ZO d e)) H
theorem Zpc (hu:X.A.units+64<cLine):Yj X (xk .Eq) (rEqD G false):=by
 intro jM s σ H x y v u Q I rx ry h;obtain⟨Hf,d,e,e1,ok,rd,re,q⟩:=h;obtain⟨o1,o2,o3,o4⟩:=ZeR ok;exact(Zk8 I e1 60 X.A d e x y v u o3 o4 (by omega) o1 o2 rd re rx ry).2.1 _ _ _ _ ⟨.bl (ZO d e),H,I,rfl,q⟩
theorem Zpd (hu:X.A.units+64<cLine):Yj X (xk .NotEq) (rEqD G true):=by
 intro jM s σ H x y v u Q I rx ry h;obtain⟨Hf,d,e,e1,ok,rd,re,q⟩:=h;obtain⟨o1,o2,o3,o4⟩:=ZeR ok;exact(Zk8 I e1 60 X.A d e x y v u o3 o4 (by omega) o1 o2 rd re rx ry).2.2 _ _ _ _ ⟨.bl (!ZO d e),H,I,rfl,q⟩
theorem VI (hu:X.A.units+64<cLine):Y4 X G (xk .Eq) YD:=
 ⟨_,Zpc hu,λHf H s x y d e c Q e1 st rx ry q k=>by
  unfold YD at q;split at q
  ·rename_i ok
   cases q
   exact⟨Hf,d,e,e1,ok,rx,ry,k _ Hf H (.refl e1) st (je.mpr rfl) (.scal λz=>z)⟩
  ·cases q⟩
theorem U3 (hu:X.A.units+64<cLine):Y4 X G (xk .NotEq) Y3:=
 ⟨_,Zpd hu,λHf H s x y d e c Q e1 st rx ry q k=>by
  unfold Y3 at q;split at q
  ·rename_i ok
   cases q
   exact⟨Hf,d,e,e1,ok,rx,ry,k _ Hf H (.refl e1) st (je.mpr rfl) (.scal λz=>z)⟩
  ·cases q⟩
noncomputable def Xi (x:D)(ds:List D):Bool:=Zs x&&YW ds&&decide (ZX x<=60)&&decide (Xh ds<=60)
noncomputable def Xx (x:D)(ds:List D):Bool:=ds.any λd=>ZO d x
theorem ZjA (h:Xi x ds=true):Zs x=true/\YW ds=true/\ZX x<=60/\Xh ds<=60:=by
 simp only[Xi]at h;simp_all
open Classical in
noncomputable def Bb (G:Gh)(Hf:Hp)(x:D)(u:Value):Bool:=if h:∃d v,Zs d=true/\Zl G Hf d v/\ZN v u then ZO h.choose x else false
theorem Ziz (pd:Zs d=true)(r:Zl G Hf d v)(ru:ZN v u):Bb G Hf x u=ZO d x:=by
 have h:∃d v,Zs d=true/\Zl G Hf d v/\ZN v u:=⟨d,v,pd,r,ru⟩;unfold Bb;rw[dif_pos h];obtain⟨v',p',r',ru'⟩:=h.choose_spec;have ev:=ZN.inj ru' ru;subst ev;rw[Zl.inj p' pd r' r]
theorem Zgo:∀{ds:List D} {vs:List V} {us:List Value},YW ds=true->Zi G Hf ds vs->ZG vs us->us.any (Bb G Hf x)=Xx x ds
 | [],vs,us,_,r,rv=>by
  rw[Zi.nil_iff.mp r]at rv
  cases rv
  rfl
 | d::ds,vs,us,p,r,rv=>by
  obtain⟨v,rr,rfl,r1,r2⟩:=jc.mp r;have p':=by simpa[YW]using p
  cases rv with
  | cons a b=>
   rw[yL,Ziz p'.1 r1 a,Zgo p'.2 r2 b];rfl
theorem Zgp:∀{ds:List D} {vs:List V} {us:List Value} {u:Value},Zi G Hf ds vs->ZG vs us->u∈us->∃d v,d∈ds/\Zl G Hf d v/\ZN v u
 | [],vs,us,u,r,rv,m=>by
  rw[Zi.nil_iff.mp r]at rv
  cases rv
  simp at m
 | d::ds,vs,us,u,r,rv,m=>by
  obtain⟨v,rr,rfl,r1,r2⟩:=jc.mp r
  cases rv with
  | cons a b=>
   rcases qN.mp m with e | m
   ·subst e;exact⟨d,v,by simp,r1,a⟩
   ·obtain⟨d',v',m',h1,h2⟩:=Zgp r2 b m
    exact⟨d',v',by simp[m'],h1,h2⟩
noncomputable def rInD (G:Gh)(neg:Bool):R2:=λx y H Q=>∃Hf d ds,ZA G Hf H/\Xi d ds=true/\Zl G Hf d x/\(Zl G Hf (.lst ds) y∨Zl G Hf (.tup ds) y)/\Q (.bl (if neg then !Xx d ds else Xx d ds)) H
theorem Zdf {σ:St}(hu:X.A.units+64<cLine)(I:Inv X jM σ H s)(e1:ZA G Hf H)(ok:Xi d ds=true)(rd:Zl G Hf d x)(rx:ZN x v)
  (rl:Zi G Hf ds vs) (rv:ZG vs jP):(∀y,y∈jP.toArray->yI X.A.in1 s y v (Bb G Hf d y))/\jP.toArray.any (Bb G Hf d)=Xx d ds:=by
 obtain⟨o1,o2,o3,o4⟩:=ZjA ok;refine⟨λy hy=>?_,?_⟩
 ·obtain⟨c,w,m,h1,h2⟩:=Zgp rl rv (by simpa using hy)
  rw[Ziz (JA o2 m) h1 h2];exact(Zk8 I e1 60 X.A.in1 c d w x y v (qu (JF m) o4) o3 (by grind) (JA o2 m) o1 h1 rd h2 rx).1
 ·rw[show jP.toArray.any (Bb G Hf d)=jP.any (Bb G Hf d) by simp,Zgo o2 rl rv]
theorem Zpe (hu:X.A.units+64<cLine):Yj X (xk .In) (rInD G false):=by
 intro jM s σ H x y v u Q I rx ry h;obtain⟨Hf,d,ds,e1,ok,rd,hl,q⟩:=h;rcases hl with hl | hl
 ·obtain⟨p,vs,rfl,np,hp,rp⟩:=jb.mp hl
  cases (show u=qC p from ry)
  obtain⟨jP,rv,pl,hz⟩:=I.list (ZT.of (e1 _ _ np hp));obtain⟨c1,c2⟩:=Zdf hu I e1 ok rd rx rp rv;refine SeqAt.in_listAt _ pl.isList c1 ⟨.bl _,H,I,rfl,?_⟩;rw[c2];exact q
 ·obtain⟨p,vs,rfl,np,hp,rp⟩:=jd.mp hl
  cases (show u=qC p from ry)
  obtain⟨jP,rv,pl,hz⟩:=I.tuple (Z5.of (e1 _ _ np hp));obtain⟨c1,c2⟩:=Zdf hu I e1 ok rd rx rp rv;refine SeqAt.in_tupleAt _ pl c1 ⟨.bl _,H,I,rfl,?_⟩;rw[c2];exact q
theorem ZeS (hu:X.A.units+64<cLine):Yj X (xk .NotIn) (rInD G true):=by
 intro jM s σ H x y v u Q I rx ry h;obtain⟨Hf,d,ds,e1,ok,rd,hl,q⟩:=h;rcases hl with hl | hl
 ·obtain⟨p,vs,rfl,np,hp,rp⟩:=jb.mp hl
  cases (show u=qC p from ry)
  obtain⟨jP,rv,pl,hz⟩:=I.list (ZT.of (e1 _ _ np hp));obtain⟨c1,c2⟩:=Zdf hu I e1 ok rd rx rp rv;refine SeqAt.notIn_listAt _ pl.isList c1 ⟨.bl _,H,I,rfl,?_⟩;rw[c2];exact q
 ·obtain⟨p,vs,rfl,np,hp,rp⟩:=jd.mp hl
  cases (show u=qC p from ry)
  obtain⟨jP,rv,pl,hz⟩:=I.tuple (Z5.of (e1 _ _ np hp));obtain⟨c1,c2⟩:=Zdf hu I e1 ok rd rx rp rv;refine SeqAt.notIn_tupleAt _ pl c1 ⟨.bl _,H,I,rfl,?_⟩;rw[c2];exact q
mutual
noncomputable def VQ:D->PyData
 | .bl b=>.bool b
 | .int i=>.int i
 | .str x=>.str x
 | .tup ds=>.tuple (Uw ds)
 | .lst ds=>.list (Uw ds)
 | _=>.none
noncomputable def Uw:List D->List PyData
 | []=>[]
 | d::ds=>VQ d::Uw ds
end
end
theorem ZjB:typeLookup (.type "list") "keys" = pure none:=by rfl
theorem ZaA:entryFor table "dict.update.loop" = some Builtin.«dict.update.loop»:=entryFor_of_tree (by kernel_rfl)
theorem Zab:plainId "dict.update.loop" = true:=by decide +kernel
theorem ZbF {prog:xD}{w:World}{A:xE}{E:xF}{s:Shared}{a:Addr}{o:Obj}{xs:Array Value}{k:Nat}{Q:Option Value->Shared->Prop}
  (hx:s.heap.get? a=some o) (hc:o.cls=.type "list") (hdat:o.data=.seq xs k) (hd:o.dict=none) (hA:A.handled=none)
  (h:∀h' tk,(∀b o,s.heap.get? b=some o->h'.get? b=some o)->Q none { s with heap:=h',toks:=tk }) :
  xf (xB prog w) A (getAttr? (.ref a) "keys") Q E s:=by
 have hmiss:=ZjB;have hname:(["__module__","__name__","__qualname__","__doc__","__annotations__"]:List Str).contains ("keys" : Str)=false:=by decide +kernel
 have hsz:("keys" : Str).length+100<=xg:=by decide +kernel
 obtain⟨c,dct,dat,sl⟩:=o;simp only at hc hdat hd;subst hc hdat hd;obtain⟨hp,g,d,tk,os⟩:=s;have hT:∀tk',(⟨hp,g,d,tk',os⟩:Shared).TypeIs (.ref a) "list":=λ_=>⟨_,hx,rfl⟩;have f1:=sub_AttributeError;have f3:=y6.lookup;have f4:=y6.bind (.ref a);have f5:=am_list_getattr_none;unfold getAttr? getAttrBy?;refine xa ?_;refine wpAny_mkText ?_;refine xa (wpAny_attempt ?_);unfold getAttrBy
 repeat (any_goals (first | assumption | exact hT _ | ((with_reducible show xf _ _ (call (Value.builtin "list.__getattribute__") _ _) _ _ _);refine call_meets y6 (hT _) am_entry_list_getattribute (F.args_list_getattribute_2 _ _) (meets_getattribute_miss_list a xs k sl "keys" _ hmiss hname hsz) ⟨hx,hA,λh' tk' e hx'=>?_⟩) | wp_step))
 obtain⟨t',u',he⟩:=hx'.there;have hTe:∀tk',(⟨h',g,d,tk',os⟩:Shared).TypeIs (.ref e) "AttributeError":=λ_=>⟨_,he,rfl⟩;have fin:∀tk',xf (xB prog w) A (do
   let b<-isInstance (.ref e) (.type "AttributeError")
   if b=true then pure none else throw (.ref e)) Q E ⟨h',g,d,tk',os⟩:=λtk'=>by
  refine xa (wpAny_isInstance (hTe _) f1 ?_);simp only[if_true];exact xb (h h' tk' hx'.of.keeps)
 show xf _ _ (getattributeRaised _ _ _ _ _ _ _) _ _ _;unfold getattributeRaised
 repeat (any_goals (first | assumption | exact fin _ | wp_step))
section
variable {X:Cx}{jM:Qb}{σ:St}{H:Hp}{s:Shared}{A:xE}{E:xF}{a:Addr}{y v:V}{u r:Value}
theorem ZjC (hu:A.units<cLine)(I:Inv X jM σ H s)(g:UB H a y v H')(ry:ZN y u)(rv:ZN v r)(h:∀s',Inv X jM σ H' s'->Q () s') :
  xf (xB X.prog X.w) A (dictSet a u r) Q E s:=by
 rcases g with⟨kvs,k,e,ey,l,eH⟩ | ⟨kvs,k,b,e,ey,eb,l,eH⟩
 ·subst ey eH
  obtain⟨z,hd,vs,rel,dd⟩:=Zon I.hok e;have hz:vs.length<=xg:=by rw[<-rel.length];exact z
  have hl:(Y5 kvs k v).length<=xg:=by have:=Bl kvs k v;omega
  refine wpAny_dictSet_pairs (hsz:=hz) (Zgg ry) dd λh' dd' hs=>h _ ?_;have he:∃q,h'.get? a=some q:=let ⟨q,_,_,hq,_⟩:=dd';⟨q,hq⟩;exact Zdc I (by rw[e];exact zL) hs he (ZkS hl hd (rel.put k rv) dd')
 ·subst ey eH
  cases (show u=qC b from ry)
  obtain⟨z,hd,xs,rel,dd⟩:=Zoo I.hok e;have hz:xs.length<=xg:=by rw[<-yK rel];exact z
  have hl:(Y5 kvs k v).length<=xg:=by have:=Bl kvs k v;omega
  refine wpAny_dictSet_heap hu (ZdA I.hok eb) dd λh' dd' hs=>h _ ?_;obtain⟨q,es,ep,hq,h2,h3,h4,_,h5⟩:=dd';refine Zdc I (by rw[e];exact zL) hs ⟨q,hq⟩ ⟨hl,hd,_,(rel.put k eb rv).keeps λc ys ec=>?_,q,es,ep,hq,h2,h3,h4,h5⟩;rw[Zu (Zoj ec e (λz=>nomatch z))];exact ec
end
section
variable {X:Cx}{jM:Qb}{σ:St}
inductive Puts (d:Addr):Hp->List V->Hp->Prop
 | nil {H:Hp}:Puts d H [] H
 | cons {H H1 H2:Hp} {b:Addr} {k v:V} {r:List V}:H b=some (.tup [k,v])->UB H d k v H1->Puts d H1 r H2->Puts d H (.ref b::r) H2
theorem Zk9 {Q:Shared->Prop}(hA:A.handled=none)(hu:A.units+1<cLine)
  (hQ:∀s',Inv X jM σ H' s'->Q s') (hfp:∀Hx:Hp,Hx it=none->W3 X jM Hx it) :
  ∀(k i:Nat) (s:Shared) (H:Hp),vs.length-i=k->i<=vs.length->Inv X jM σ H s->H it=none->s.heap.IsListIter it l i->H l=some (.lst vs)->l≠d->(∀Hx Hy y v,UB Hx d y v Hy->Hx l=some (.lst vs)->Hy l=some (.lst vs))->Puts d H (vs.drop i) H'->
   xo (xB X.prog X.w) A (.builtin "dict.update.loop" ⟨[.ref d,.ref it,rawInt i,.none],[]⟩) (wants (λr s₂=>r=.none/\Q s₂) E) s:=by
 intro k
 induction k with
 | zero=>
  intro i s H hk hi I hit st hl hne hkeep hp;have hil:i=vs.length:=by omega
  obtain⟨jP,rv,pl,hz⟩:=I.list (ZT.of (K:=X.K) hl);refine xm ZaA ?_;rw[yc Zab _];show xf _ A.in1 (pyNext (.ref it) >>= _) _ _ s;obtain⟨f0,f1,f2,f3,f4,f5⟩:=hfp H hit;have jW:=rv.length;refine xa (wpAny_pyNext_list_end (A:=A.in1) hA st pl.isList (by simp;omega) λh' eb=>?_);have I2:Inv X jM σ H { s with heap:=h' }:=I.turned (t':=s.toks) (λb o hb e=>eb b o hb e) f0 f1 f3 f4 f5;have e0:vs.drop i=[]:=by rw[hil];simp
  rw[e0]at hp
  cases hp
  show xf _ _ (Builtin.Dict.addKeywords d [] >>= _) _ _ _;refine xa (xb ?_);exact xb ⟨rfl,hQ _ I2⟩
 | succ k ih=>
  intro i s H hk hi I hit st hl hne hkeep hp;have hlt:i<vs.length:=by omega
  obtain⟨jP,rv,pl,hz⟩:=I.list (ZT.of (K:=X.K) hl);have jW:=rv.length;refine xm ZaA ?_;rw[yc Zab _];show xf _ A.in1 (pyNext (.ref it) >>= _) _ _ s;obtain⟨f0,f1,f2,f3,f4,f5⟩:=hfp H hit;have hd:vs.drop i=vs[i]::vs.drop (i+1):=yb hlt;rw[hd]at hp;generalize hvi:vs[i]=x at hp;generalize hrest:vs.drop (i+1)=rest at hp
  cases hp with
  | @cons _ H1 _ b k0 v0 _ hb hput hrec=>
   have gx:vs[i]?=some (.ref b):=by rw[zc hlt,hvi]
   obtain⟨u,hu1,ru⟩:=rv.get gx
   cases (show u=qC b from ru)
   refine xa (wpAny_pyNext_list_item (A:=A.in1) st pl.isList (x:=.ref b) (by simpa using hu1) λh' st' sb=>?_);have I1:Inv X jM σ H { s with heap:=h' }:=I.turned (t':=s.toks) (λc o hc e=>(sb.2 c hc).trans e) f0 f1 f3 f4 f5;obtain⟨kf,rv2,pt,_⟩:=I1.tuple (Z5.of (K:=X.K) hb);obtain⟨ku,vu,e2,rk,rvv⟩:=rv2.two;subst e2;obtain⟨o,ho,hoc,n,hod⟩:=id pt;show xf _ _ (holding [qC b] _ >>= _) _ _ _;refine xa (xw ?_);refine xa (xu ?_);unfold Builtin.Dict.pairItems;refine xa (wpAny_typeOf (T:="tuple") ⟨o,ho,hoc⟩ ?_);rw[if_pos (by decide)];refine xa (xt ho hod ?_);refine xb ?_;show xf _ _ (holding [ku,vu] (dictSet d ku vu)) _ _ _;refine xw ?_;obtain⟨oi,hoi,ci,di⟩:=id st';have Ip:=I1.pinned (fp:=[it]) (λc hc=>by
    have e:c=it:=by simpa using hc
    subst e;exact hfp H hit) (λc hc=>by
    have e:c=it:=by simpa using hc
    subst e;exact⟨oi,hoi,λw z=>by rw[di]at z;cases z⟩)
   refine ZjC (by rw[Zbm];exact hu) Ip hput rk rvv λs2 I2=>?_;have pit:=I2.pin (it,oi) (qP _ (qP _ (Bo (by simp) hoi)));have ec:((i:Int)+1)=((i+1:Nat):Int):=by push_cast;rfl
   show xf _ _ (again (.builtin "dict.update.loop" ⟨[.ref d,.ref it,rawInt ((i:Int)+1),.none],[]⟩)) _ _ _;rw[ec];refine xb ⟨plainId_quiet Zab _,?_⟩;refine ih (i+1) s2 H1 (by omega) hlt I2.unpinned pit.2.1 ⟨oi,pit.1,ci,di⟩ (hkeep _ _ _ _ hput hl) hne hkeep ?_;rw[hrest];exact hrec
theorem ZhF (hc:X.calm=true)(hu:X.A.units+64<cLine)(tk:Bool):WH X (.type "dict") (λxs H Q=>∃l vs,xs=[.ref l]/\H l=some (.lst vs)/\∀p,H p=none->∃H',Puts p (Zp H p (if tk then .dT []else .dK [])) vs H'/\Q (.ref p) H'):=by
 intro jM s σ H xs us Q I r h;obtain⟨l,vs,rfl,hl,q⟩:=h;obtain⟨u,rfl,ru⟩:=VM r
 cases (show u=qC l from ru)
 obtain⟨H',puts,q'⟩:=q s.heap.objs.size (I.hok.fresh (qk _));have hA:=I.ok.hd hc;refine callType_codes (Q₁:=λobj s₁=>obj=.ref s.heap.objs.size/\s₁ = { s with heap:=s.heap.push { cls:=.type "dict",data:=.dict #[] } }) F.kt_called_dict (F.kt_typeCall_dict_1 _) F.entry_dict_init (kt_code_dict_new _ ⟨rfl,rfl⟩) ?_;rintro obj s₁ ⟨rfl,rfl⟩;have hbig:=I.big;have I1:Inv X jM σ (Zp H s.heap.objs.size (if tk then .dT []else .dK [])) { s with heap:=s.heap.push { cls:=.type "dict",data:=.dict #[] } }:=
  I.laid (t':=s.toks) (λb o e=>qj _ e) (qk _) (by
   cases tk
   ·exact ZkT s.heap hbig
   ·exact Zgh s.heap hbig)
 have hnew:(s.heap.push { cls:=.type "dict",data:=.dict #[] }).get? s.heap.objs.size=some { cls:=.type "dict",data:=.dict #[] }:=qE _ rfl;have hTd:({ s with heap:=s.heap.push { cls:=.type "dict",data:=.dict #[] } }:Shared).TypeIs (.ref s.heap.objs.size) "dict":=⟨_,hnew,rfl⟩;have hld:l≠s.heap.objs.size:=Yz hl (I.hok.fresh (qk _));have hl1:(Zp H s.heap.objs.size (if tk then HO.dT []else HO.dK [])) l=some (.lst vs):=by rw[Zu hld];exact hl
 obtain⟨zz,jP,n,rits,hlo⟩:=(show YO X.prog X.w _ _ l (.lst vs)from I1.hok l _ hl1);refine⟨hTd,F.args_dict_init_2 _ _,?_⟩;unfold Builtin.«dict.__init__»;refine xa ?_;unfold Builtin.Dict.selfAndRest;refine xa (wpAny_notOrdered_dict hTd ?_);show xf _ _ (pure (s.heap.objs.size,[qC l])) _ _ _;refine xb ?_;show xf _ _ (qbk "dict.__init__" s.heap.objs.size (.ref l) [] .none) _ _ _;unfold qbk;have hTl:({ s with heap:=s.heap.push { cls:=.type "dict",data:=.dict #[] } }:Shared).TypeIs (.ref l) "list":=⟨_,hlo,rfl⟩;refine xa (wpAny_typeOf hTl ?_);rw[if_pos (by decide)];refine xa (ZbF hlo rfl rfl rfl hA λh2 tk2 kp2=>?_);simp only[Option.isNone_none,if_true];refine xa (wpAny_rule ?_);have I2:Inv X jM σ (Zp H s.heap.objs.size (if tk then .dT []else .dK [])) { s with heap:=h2,toks:=tk2 }:=I1.kept kp2;obtain⟨its',rv',pl',hz'⟩:=I2.list (ZT.of (K:=X.K) hl1);refine xa (wpAny_pyIter_list pl'.isList ?_);refine xb ⟨plainId_quiet Zab _,?_⟩;have I3:Inv X jM σ (Zp H s.heap.objs.size (if tk then .dT []else .dK [])) { s with heap:=h2.push { cls:=.type "list_iterator",data:=.fields #[.ref l,.int 0 0] },toks:=tk2 }:=I2.kept (t':=tk2) λb o e=>qj _ e;have hfresh:(Zp H s.heap.objs.size (if tk then HO.dT []else HO.dK [])) h2.objs.size=none:=I2.hok.fresh (qk _);have hst:(h2.push { cls:=.type "list_iterator",data:=.fields #[.ref l,.int 0 0] }).IsListIter h2.objs.size l 0:=⟨_,qE _ rfl,rfl,rfl⟩;refine Zk9 (l:=l) (vs:=vs) (H':=H') (A:=X.A.in1) (jM:=jM) (σ:=σ) hA (by rw[Zbm];omega) (λs' I'=>⟨.ref s.heap.objs.size,H',I',rfl,q'⟩) (λHx hn=>I2.fpOk (qk _) hn) vs.length 0 _ _ rfl (zv _) I3 hfresh hst hl1 hld ?_ puts;intro Hx Hy y v hput hxl;rcases hput with⟨kvs,k,e,ey,l',eH⟩ | ⟨kvs,k,b,e,ey,eb,l',eH⟩
 ·subst eH;rw[Zu hld];exact hxl
 ·subst eH;rw[Zu hld];exact hxl
end
section
variable {X:Cx}{G:Gh}
noncomputable def BK:D->Option Yc
 | .int i=>some (.inl i)
 | .str x=>some (.inr x)
 | _=>none
noncomputable def Wr:List D->Option (List Yc)
 | []=>some []
 | d::ds=>match BK d,Wr ds with | some k,some ks=>some (k::ks) | _,_=>none
noncomputable def Ux:D->Option V
 | .int i=>some (.int i)
 | .bl b=>some (.bl b)
 | .str x=>some (.str x)
 | .non=>some .non
 | _=>none
theorem ZeT (h:BK d=some k)(r:Zl G H d v):v=kV k:=by
 cases d with
 | int i=>cases h;rw[ja.mp r];rfl
 | str i=>cases h;rw[jh.mp r];rfl
 | _=>cases h
theorem Zap:∀{ds:List D} {vs:List V} {ks:List Yc},Wr ds=some ks->Zi G H ds vs->vs=ks.map kV
 | [],vs,ks,h,r=>by cases h;exact Zi.nil_iff.mp r
 | d::ds,vs,ks,h,r=>by
  obtain⟨v,rr,rfl,r1,r2⟩:=jc.mp r;unfold Wr at h
  cases e1:BK d with
  | none=>simp_all
  | some k=>
   cases e2:Wr ds with
   | none=>simp_all
   | some ks'=>
    rw[e1,e2]at h
    cases h
    rw[ZeT e1 r1,Zap e2 r2];rfl
theorem ZeU (h:Ux d=some w)(r:Zl G H d v):v=w:=by
 cases d with
 | int i=>cases h;exact ja.mp r
 | str i=>cases h;exact jh.mp r
 | bl i=>cases h;exact je.mp r
 | non=>cases h;exact jg.mp r
 | _=>cases h
noncomputable def Zla:D->Option (List Yc×V)
 | .tup [.tup ks,v]=>match Wr ks,Ux v with | some k,some w=>some (k,w) | _,_=>none
 | _=>none
noncomputable def Uy:List (List Yc×V)->List D->Option (List (List Yc×V))
 | ke,[]=>some ke
 | ke,d::ds=>match Zla d with | some (k,v)=>Uy (Y5 ke k v) ds | none=>none
theorem ZhG (h:Zla d=some (k,v)):∃ks w,d=.tup [.tup ks,w]/\Wr ks=some k/\Ux w=some v:=by
 match d,h with
 | .tup [.tup ks,w],h=>
  have h':(match Wr ks,Ux w with | some k,some w=>some (k,w) | _,_=>none)=some (k,v):=h
  cases e1:Wr ks with
  | none=>simp_all
  | some k'=>
   cases e2:Ux w with
   | none=>simp_all
   | some w'=>rw[e1,e2]at h';cases h';exact⟨ks,w,rfl,e1,e2⟩
theorem Zlb (e1:ZA G Hf H)(hp:H p=none):∀{ds:List D} {vs:List V} {ke res:List (List Yc×V)},Zi G Hf ds vs->Uy ke ds=some res->ke.length+ds.length<=xg->Puts p (Zp H p (.dT ke)) vs (Zp H p (.dT res))
 | [],vs,ke,res,r,h,_=>by
  rw[Zi.nil_iff.mp r]
  cases h
  exact .nil
 | d::ds,vs,ke,res,r,h,hl=>by
  obtain⟨v,rr,rfl,r1,r2⟩:=jc.mp r;unfold Uy at h
  cases e:Zla d with
  | none=>simp_all
  | some kv=>
   obtain⟨k,w⟩:=kv;rw[e]at h;obtain⟨ks,wd,rfl,q1,q2⟩:=ZhG e;obtain⟨b,ws,rfl,nb,hb,rb⟩:=jd.mp r1;obtain⟨v1,v2,rfl,rk,rv⟩:=jo rb;obtain⟨c,cs,rfl,nc,hcx,rc⟩:=jd.mp rk;have ec:=Zap q1 rc;subst ec;have ev:=ZeU q2 rv;subst ev;have hb':=e1 _ _ nb hb;have hc':=e1 _ _ nc hcx;have ll:=Bl ke k v2;have hl':ke.length+(ds.length+1)<=xg:=by omega
   refine .cons (by rw[Zu (Yz hb' hp)];exact hb') (UB.t Z1 (by rw[Zu (Yz hc' hp)];exact hc') (by omega)) ?_;rw[Ziq];exact Zlb e1 hp r2 h (by omega)
noncomputable def Zlc:List D->Option D
 | [.lst ds]=>if ds.length<=xg then (Uy [] ds).map .dt else none
 | _=>none
theorem ZhH (hc:X.calm=true)(hu:X.A.units+64<cLine):WH X (.type "dict") (λxs H Q=>∃l vs,xs=[.ref l]/\H l=some (.lst vs)/\∀p,H p=none->∃kvs,Puts p (Zp H p (.dT [])) vs (Zp H p (.dT kvs))/\∀o,Q (.ref p) (Zp H p (.frz o (.dT kvs)))):=by
 intro jM s σ H xs us Q I r h;obtain⟨l,vs,ex,hl,hp⟩:=h;refine ZI (ZhF hc hu true jM s σ H xs us (λv H'=>∃p kvs,v=.ref p/\H'=Zp H p (.dT kvs)/\∀o,Q (.ref p) (Zp H p (.frz o (.dT kvs)))) I r ⟨l,vs,ex,hl,λp hn=>?_⟩) λu s1 ⟨v,H1,I1,r1,p,kvs,ev,eH,q⟩=>?_
 ·obtain⟨kvs,pu,q⟩:=hp p hn
  exact⟨_,pu,p,kvs,rfl,rfl,q⟩
 ·subst ev eH
  have ok:=I1.hok p (.dT kvs) Z1;obtain⟨_,_,xs',_,o,es,ep,h1,_⟩:=(show YO X.prog X.w _ s1.heap p (.dT kvs)from ok);have I2:=I1.write (o:=.frz o (.dT kvs)) (t':=s1.toks) (by rw[Z1];trivial) (.inl rfl) (λ_ _ _ e=>e) ⟨o,h1⟩ ⟨h1,ok.stay (λ_ _ _ e=>e) (λb e=>?_) λb xs e=>?_⟩
  ·rw[Ziq]at I2
   exact⟨.ref p,_,I2,r1,q o⟩
  ·have:b≠p:=λz=>by rw[z,Z1]at e;cases e
   rw[Zu this];exact e
  ·have:b≠p:=λz=>by rw[z,Z1]at e;cases e
   rw[Zu this];exact e
theorem ZhI (hc:X.calm=true)(hu:X.A.units+64<cLine):Vl X G (.type "dict") Zlc:=
 ⟨_,ZhH hc hu,λHf H s xs ds c Q e1 st r q k=>by
  match ds,q,r with
  | [.lst es],q,r=>
   have q:(if es.length<=xg then (Uy [] es).map D.dt else none)=some c:=q;split at q
   ·cases e:Uy [] es with
    | none=>simp_all
    | some res=>
     rw[e]at q
     cases q
     obtain⟨v,rfl,rv⟩:=jm r;obtain⟨l,vs,rfl,nl,hl,rl⟩:=jb.mp rv;refine⟨l,vs,rfl,e1 _ _ nl hl,λp hp=>⟨_,Zlb e1 hp rl e (by simp_all),λo=>?_⟩⟩;have nf:=Gh.nofp st hp;have g2:=Gr.new (o:=.frz o (.dT res)) e1 hp nf;exact k (.ref p) _ _ g2 (Gh.grow st hp) (jk.mpr ⟨p,o,rfl,nf,Z1⟩) λa ea _=>by simp_all
   ·cases q⟩
theorem Zpf (hu:X.A.units+1<cLine):Yj X (xk .In) (λx y H Q=>∃a o,y=.ref a/\VP H a x o/\Q (.bl o.isSome) H):=by
 intro jM s σ H x y v u Q I rx ry h;obtain⟨a,o,rfl,g,q⟩:=h
 cases (show u=qC a from ry)
 exact d_in hu I g rx λs' I'=>⟨.bl _,H,I',rfl,q⟩
theorem ZjD (hu:X.A.units+1<cLine):Yj X (xk .NotIn) (λx y H Q=>∃a o,y=.ref a/\VP H a x o/\Q (.bl (!o.isSome)) H):=by
 intro jM s σ H x y v u Q I rx ry h;obtain⟨a,o,rfl,g,q⟩:=h
 cases (show u=qC a from ry)
 exact Znb hu I g rx λs' I'=>⟨.bl _,H,I',rfl,q⟩
noncomputable def Je:D->D->Option Bool
 | x,.lst ds=>if Xi x ds=true then some (Xx x ds)else none
 | x,.tup ds=>if Xi x ds=true then some (Xx x ds)else none
 | .tup ks,.dt kvs=>(Wr ks).map λk=>(YX kvs k).isSome
 | .tup ks,.du kvs=>(Wr ks).map λk=>(YX kvs k).isSome
 | x,.dk kvs=>(BK x).map λk=>(YX kvs k).isSome
 | _,_=>none
noncomputable def YR (x y:D):Option D:=(Je x y).map .bl
noncomputable def U4 (x y:D):Option D:=(Je x y).map λb=>.bl (!b)
theorem ZeV (e1:ZA G Hf H)(rx:Zl G Hf d x)(ry:Zl G Hf e y)(h:Je d e=some b) :
  (∃ds,Xi d ds=true/\(Zl G Hf (.lst ds) y∨Zl G Hf (.tup ds) y)/\b=Xx d ds)∨∃a o,y=.ref a/\VP H a x o/\b=o.isSome:=by
 cases e with
 | lst ds=>
  have h:(if Xi d ds=true then some (Xx d ds)else none)=some b:=by cases d <;> exact h
  split at h
  ·rename_i ok;cases h;exact .inl ⟨ds,ok,.inl ry,rfl⟩
  ·cases h
 | tup ds=>
  have h:(if Xi d ds=true then some (Xx d ds)else none)=some b:=by cases d <;> exact h
  split at h
  ·rename_i ok;cases h;exact .inl ⟨ds,ok,.inr ry,rfl⟩
  ·cases h
 | dt kvs=>
  obtain⟨a,o,rfl,na,ha⟩:=jk.mp ry
  cases d with
  | tup ks=>
   have h:(Wr ks).map (λk=>(YX kvs k).isSome)=some b:=h
   cases q:Wr ks with
   | none=>rw[q]at h;cases h
   | some k=>
    rw[q]at h;cases h;obtain⟨c,cs,rfl,nc,hcx,rc⟩:=jd.mp rx;have ec:=Zap q rc;subst ec;exact .inr ⟨a,_,rfl,.inr ⟨kvs,k,c,.inr ⟨o,e1 _ _ na ha⟩,rfl,e1 _ _ nc hcx,rfl⟩,rfl⟩
  | _=>cases h
 | du kvs=>
  obtain⟨a,rfl,na,ha⟩:=jl.mp ry
  cases d with
  | tup ks=>
   have h:(Wr ks).map (λk=>(YX kvs k).isSome)=some b:=h
   cases q:Wr ks with
   | none=>rw[q]at h;cases h
   | some k=>
    rw[q]at h;cases h;obtain⟨c,cs,rfl,nc,hcx,rc⟩:=jd.mp rx;have ec:=Zap q rc;subst ec;exact .inr ⟨a,_,rfl,VP.t (e1 _ _ na ha) (e1 _ _ nc hcx),rfl⟩
  | _=>cases h
 | dk kvs=>
  obtain⟨a,rfl,na,ha⟩:=ji.mp ry;have h:(BK d).map (λk=>(YX kvs k).isSome)=some b:=by cases d <;> exact h
  cases q:BK d with
  | none=>simp_all
  | some k=>
   rw[q]at h;cases h;have ek:=ZeT q rx;subst ek;exact .inr ⟨a,_,rfl,VP.k (e1 _ _ na ha),rfl⟩
 | _=>cases d <;> cases h
theorem JO (hu:X.A.units+64<cLine):Y4 X G (xk .In) YR:=
 ⟨_,(Zpe hu).or (Zpf (by omega)),λHf H s x y d e c Q e1 st rx ry q k=>by
  unfold YR at q
  cases h:Je d e with
  | none=>simp_all
  | some b=>
   rw[h]at q;cases q;have kk:=k (.bl b) Hf H (.refl e1) st (je.mpr rfl) (.scal λz=>z);rcases ZeV e1 rx ry h with⟨ds,ok,hl,rfl⟩ | ⟨a,o,ey,g,rfl⟩
   ·exact .inl ⟨Hf,d,ds,e1,ok,rx,hl,kk⟩
   ·exact .inr ⟨a,o,ey,g,kk⟩⟩
theorem ZjE (hu:X.A.units+64<cLine):Y4 X G (xk .NotIn) U4:=
 ⟨_,(ZeS hu).or (ZjD (by omega)),λHf H s x y d e c Q e1 st rx ry q k=>by
  unfold U4 at q
  cases h:Je d e with
  | none=>simp_all
  | some b=>
   rw[h]at q;cases q;have kk:=k (.bl (!b)) Hf H (.refl e1) st (je.mpr rfl) (.scal λz=>z);rcases ZeV e1 rx ry h with⟨ds,ok,hl,rfl⟩ | ⟨a,o,ey,g,rfl⟩
   ·exact .inl ⟨Hf,d,ds,e1,ok,rx,hl,kk⟩
   ·exact .inr ⟨a,o,ey,g,kk⟩⟩
end
section
variable {X:Cx}{G:Gh}{own ob:List Nat}{fr:Bool}{f:Zd->M D}
noncomputable def Znm (ta:TA):TE:=fun σ H Q=>ta σ H λvs H1=>∃j:Int,vs=[.int j]/\∀p,H1 p=none->Q (.ref p) (Zp H1 p (.rng 0 j))
theorem ZjF (hg:Gl X "range")(hm:X.mg "range" = none)(ha:PA X [a] ta)(hs:xh [a] X.env=[(false,eval a X.env)]:=by rfl):PE X (.Call (.Name "range" p) [a] [] pos) (Znm ta):=by
 intro jM s σ H Q I h;refine Call_ (JL I hg hm boot_range (zW (ZI (ha pos jM s σ H _ I h) λus s1 ⟨vs,H1,I1,r1,q1⟩=>?_) hs rfl));obtain⟨j,e,q⟩:=q1;subst e
 cases r1 with
 | cons r rr=>
  cases rr
  obtain⟨t,rfl⟩:=r;refine call_range_1 ⟨.ref s1.heap.objs.size,Zp H1 s1.heap.objs.size (.rng 0 j),I1.laid (λb o e=>qj _ e) (qk _) ?_,rfl,q _ (I1.hok.fresh (qk _))⟩;exact⟨_,_,_,qE _ rfl⟩
theorem ZdJ:∀(ys:List Value) (lo:Int),(∀(j:Nat) v,ys[j]?=some v->∃t,v=.int (lo+j) t)->ZG ((qe ys.length).map λ(i:Nat)=>V.int (lo+i)) ys
 | [],lo,_=>.nil
 | y::ys,lo,h=>by
  obtain⟨t,e⟩:=h 0 y rfl;rw[qW,zV,qO,qw];refine .cons ⟨t,by rw[e]⟩ ?_;have q:=ZdJ ys (lo+1) λj v hv=>by
   obtain⟨t,e⟩:=h (j+1) v (by simpa using hv);exact⟨t,by rw[e];congr 1;push_cast;omega⟩
  have ee:((λ(i:Nat)=>V.int (lo+i))∘qcc)=λ(i:Nat)=>V.int (lo+1+i):=by
   funext i;show V.int (lo+(qcc i:Nat))=V.int (lo+1+i);congr 1;push_cast;omega
  rw[ee];exact q
theorem Zfy (hc:X.calm=true):WH X (.type "list") (λxs H Q=>∃r j,xs=[.ref r]/\H r=some (.rng 0 j)/\-(2 ^ 62)<=j/\j<=2 ^ 24/\∀l,H l=none->Q (.ref l) (Zp H l (.lst ((qe j.toNat).map λ(i:Nat)=>V.int (0+i))))):=by
 intro jM s σ H xs us Q I r h;obtain⟨rr,j,rfl,hr,h1,h2,q⟩:=h;obtain⟨u,rfl,ru⟩:=VM r
 cases (show u=qC rr from ru)
 obtain⟨t,u',v',hro⟩:=(show YO X.prog X.w H s.heap rr (.rng 0 j)from I.hok rr _ hr);have hn:qbj 0 j 1=((j.toNat:Nat):Int):=by rw[rangeSize_one];split <;> omega
 refine call_list_range (I.ok.hd hc) (show IsRange s.heap rr 0 j 1 t u' v' from hro) (small_one (by omega) (by omega) h1 (by omega)) hn (by omega) λh' tk acc' c' hk hS hacc=>?_;obtain⟨sz,hit⟩:=hacc;have rv:=ZdJ acc'.toList 0 λi v hv=>by
  simp_all
 have el:acc'.toList.length=j.toNat:=by omega
 rw[el]at rv;refine⟨.ref s.heap.objs.size,Zp H s.heap.objs.size (.lst ((qe j.toNat).map λ(i:Nat)=>V.int (0+i))),I.laid hk (qk _) ?_,rfl,q _ (I.hok.fresh (qk _))⟩;refine⟨?_,acc'.toList,c',rv,?_⟩
 ·rw[qf,qM]
  show j.toNat<=2 ^ 24;omega
 ·omega
noncomputable def Zaq (f:Zd->M D):Zd->M D:=fun ρ=>Zm (f ρ) λd=>match d with | .int j=>if -(2 ^ 62)<=j/\j<=2 ^ 24 then ZH (.lst (Ye 0 j.toNat))else ZP | _=>ZP
theorem ZdK (lo:Int):∀(l:List Nat),Zi G Hf (l.map λ(i:Nat)=>D.int (lo+i)) (l.map λ(i:Nat)=>V.int (lo+i))
 | []=>Zi.nil_iff.mpr rfl
 | i::l=>Zi.cons (ja.mpr rfl) (ZdK lo l)
theorem Zb1 {p1 p2 pos1 pos:Pos}(hc:X.calm=true)(hg:Gl X "range")(hm:X.mg "range" = none)(hg2:Gl X "list")(hm2:X.mg "list" = none)(hv2:xj "list" = some (.type "list"))(ha:PD X G r1 a f)
  (hs:xh [a] X.env=[(false,eval a X.env)]:=by rfl)
  (he:xh [.Call (.Name "range" p1) [a] [] pos1] X.env=(false,eval (.Call (.Name "range" p1) [a] [] pos1) X.env)::xh [] X.env:=by rfl):PD X G true (.Call (.Name "list" p2) [.Call (.Name "range" p1) [a] [] pos1] [] pos) (Zaq f):=by
 obtain⟨t,pa,qa⟩:=ha.drop;refine⟨_,ZeM (Zfy hc) hg2 hm2 hv2 (XB (ZjF hg hm (XB pa X7 (by rw[hs];rfl)) hs) X7 he) (by decide) (by decide) he rfl,fun σ Hf H ρ s d s' Q e1 e2 e3 e4 k=>?_⟩;obtain⟨dj,s1,a1,a2⟩:=Zx e4
 cases dj with
 | int j=>
  obtain⟨c,a3⟩:=XA a2;obtain⟨rfl,rfl⟩:=ZJ a3;refine qa σ Hf H ρ s _ _ _ e1 e2 e3 a1 λv jU H1 g st r=>?_;rw[ja.mp r];refine⟨j,rfl,λp hp=>⟨p,j,rfl,Z1,c.1,c.2,λl hl=>?_⟩⟩;have hlp:l≠p:=λz=>by rw[z,Z1]at hl;cases hl
  have hl1:H1 l=none:=by rw[Zu hlp]at hl;exact hl
  have jZ:G.st s' (Zp H1 p (.rng 0 j)):=Gh.grow st hp;have nf:=Gh.nofp jZ hl;have fp:jU p=none:=by
   cases q:jU p with
   | none=>rfl
   | some o=>rw[g.fh p o (Gh.nofp st hp) q]at hp;cases hp
  have gA:Gr G jU H1 jU (Zp H1 p (.rng 0 j)):=⟨λb o n q=>by rw[Zu (Yz q hp)];exact q,.refl _ _,λb o n q=>by rw[Zu (Yz q fp)];exact g.fh b o n q,λb n h1 h2=>h1⟩;have gB:=Gr.new (o:=.lst ((qe j.toNat).map λ(i:Nat)=>V.int (0+i))) gA.fh hl nf;have rr:Zi G jU (Ye 0 j.toNat) ((qe j.toNat).map λ(i:Nat)=>V.int (0+i)):=ZdK 0 _;refine k (.ref l) _ _ ((g.trans gA).trans gB) (Gh.grow jZ hl) (jb.mpr ⟨l,_,rfl,nf,Z1,rr.ext gB.ff⟩) λ_=>?_;exact jn (g.trans gA).hh (λa ea _=>by simp_all) (YM.mk gA.fh hl nf rr)
 | _=>cases a2
end
structure BlkS (X:Cx)(XN:List Str)(NS:List (Str×NameKind))(N':List Str)(src:List (Option Nat))(scope:Scope):Prop where
 xn:X.N=XN
 ns:X.env.scope.names=NS
 nocell:∀y∈scope.names,y.2≠.cell
 kind:scope.kind=.function
 names:∀y∈scope.names,y.2=.local->scope.names.lookup y.1=some .local
 len:src.length=N'.length
 free:∀y∈scope.names,y.2=.free->NS.lookup y.1=some .cell∨NS.lookup y.1=some .free
 from_:(src.zip N').all (λp=>match p.1 with | some j=>decide (XN[j]?=some p.2)&&(decide (NS.lookup p.2=some .cell)||decide (NS.lookup p.2=some .free))&&decide (scope.names.lookup p.2=some .free) | none=>true)=true
theorem Zah {env:Env}:∀{names:List (Str×NameKind)} {x:Str},names.lookup x=some .free->
  (names.map λ(n,k)=>if (k==zu&&env.scope.kind == .function&&env.kindOf n==some .cell)then (n,yN)else (n,k)).lookup x=some .cell∨
  (names.map λ(n,k)=>if (k==zu&&env.scope.kind == .function&&env.kindOf n==some .cell)then (n,yN)else (n,k)).lookup x=some .free
 | [],_,h=>by simp at h
 | (n,k)::r,x,h=>by
  have ih:=@Zah env r x;show qaG x ((if (k==zu&&env.scope.kind == .function&&env.kindOf n==some .cell)=true then (n,yN)else (n,k))::_)=_∨qaG x ((if (k==zu&&env.scope.kind == .function&&env.kindOf n==some .cell)=true then (n,yN)else (n,k))::_)=_
  cases hx:x==n with
  | true=>
   simp only[qZ,hx]at h
   cases h
   by_cases hc:(zu==zu&&env.scope.kind == .function&&env.kindOf n==some .cell)=true
   ·rw[if_pos hc];left;simp[qZ,hx]
   ·rw[if_neg hc];right;simp_all
  | false=>
   simp only[qZ,hx]at h;by_cases hc:(k==zu&&env.scope.kind == .function&&env.kindOf n==some .cell)=true
   ·rw[if_pos hc];simp only[qZ,hx];exact ih h
   ·rw[if_neg hc];simp only[qZ,hx];exact ih h
theorem Zac {env:Env}:∀{names:List (Str×NameKind)} {x:Str} {k':NameKind},(∀y∈names,y.2≠.cell)->(k'=.cell∨k'=.free)->
  (names.map λ(n,k)=>if (k==zu&&env.scope.kind == .function&&env.kindOf n==some .cell)then (n,yN)else (n,k)).lookup x=some k'->names.lookup x=some .free
 | [],_,_,_,_,h=>by simp at h
 | (n,k)::r,x,k',nc,hk,h=>by
  have ih:=@Zac env r x k' (λy hy=>nc y (qX _ hy)) hk;have h:qaG x ((if (k==zu&&env.scope.kind == .function&&env.kindOf n==some .cell)=true then (n,yN)else (n,k))::_)=_:=h
  cases hx:x==n with
  | true=>
   by_cases hc:(k==zu&&env.scope.kind == .function&&env.kindOf n==some .cell)=true
   ·have:k=.free:=by
     simp_all
    simp_all
   ·simp_all
  | false=>
   by_cases hc:(k==zu&&env.scope.kind == .function&&env.kindOf n==some .cell)=true
   ·rw[if_pos hc]at h;simp only[qZ,hx]at h⊢;exact ih h
   ·rw[if_neg hc]at h;simp only[qZ,hx]at h⊢;exact ih h
theorem Zam:∀(names:List (Str×NameKind)) (ke:List (Str×Addr)),(∀y∈names,y.2=.free->∃c,env.cells.lookup y.1=some c)->
  (∀x c,ke.lookup x=some c->env.cells.lookup x=some c)->
  ∃cl,(forIn names ke λ(p:Str×NameKind) (cs:List (Str×Addr))=>(if (p.2==zu)=true then do let a<-cellOf env p.1;pure (yy ((p.1,a)::cs))else pure (yy cs):Sem (ForInStep (List (Str×Addr)))))=pure cl/\
   (∀x c,cl.lookup x=some c->env.cells.lookup x=some c)/\(∀x c,ke.lookup x=some c->∃c',cl.lookup x=some c')/\∀y∈names,y.2=.free->∃c,cl.lookup y.1=some c
 | [],ke,_,h2=>⟨ke,by simp,h2,λx c h=>⟨c,h⟩,λy hy=>by simp at hy⟩
 | (n,k)::r,ke,h1,h2=>by
  by_cases hk:k=.free
  ·subst hk
   obtain⟨c,hc⟩:=h1 (n,.free) List.mem_cons_self rfl;have hcell:cellOf env n=pure c:=by unfold cellOf;rw[hc]
   obtain⟨cl,q1,q2,q3,q4⟩:=Zam (env:=env) r ((n,c)::ke) (λy hy=>h1 y (qX _ hy)) λx c' h=>by
    cases hx:x==n with
    | true=>
     simp only[qZ,hx]at h
     cases h
     have:x=n:=by simpa using hx
     rw[this];exact hc
    | false=>simp only[qZ,hx]at h;exact h2 x c' h
   refine⟨cl,?_,q2,λx c' h=>?_,λy hy hf=>?_⟩
   ·rw[List.forIn_cons]
    simp only[beq_self_eq_true,if_true,hcell,pure_bind];exact q1
   ·cases hx:x==n with
    | true=>exact q3 x c (by simp[qZ,hx])
    | false=>exact q3 x c' (by simp only[qZ,hx];exact h)
   ·rcases qN.mp hy with e | hy
    ·subst e;exact q3 n c (by simp[qZ])
    ·exact q4 y hy hf
  ·obtain⟨cl,q1,q2,q3,q4⟩:=Zam (env:=env) r ke (λy hy=>h1 y (qX _ hy)) h2
   refine⟨cl,?_,q2,q3,λy hy hf=>?_⟩
   ·rw[List.forIn_cons]
    simp_all
   ·rcases qN.mp hy with e | hy
    ·simp_all
    ·exact q4 y hy hf
theorem BlkS.ok (B:BlkS X XN NS N' src scope)(ok:X.Ok):∃cl,BlkOk X N' src scope cl:=by
 have hcells:∀y∈scope.names,y.2=.free->∃c,X.env.cells.lookup y.1=some c:=λy hy hf=>ok.has y.1 (by
  have:=B.free y hy hf;rw[<-B.ns]at this;exact this)
 obtain⟨cl,q1,q2,q3,q4⟩:=Zam scope.names [] hcells (λx c h=>by simp at h);refine⟨cl,?_,B.nocell,B.kind,B.names,B.len,q2,λx hx=>?_,λi j x e1 e2=>?_⟩
 ·unfold closureFor
  simp_all
 ·have hf:scope.names.lookup x=some .free:=by
   rcases hx with h | h
   ·exact Zac B.nocell (.inl rfl) h
   ·exact Zac B.nocell (.inr rfl) h
  exact q4 (x,.free) (zd hf) rfl
 ·have hm:=by
   have:(src.zip N')[i]?=some (some j,x):=by
    rw[yS];exact⟨e1,e2⟩
   exact zF this
  have q:=qS.mp B.from_ _ hm;simp at q;obtain⟨⟨p1,p2⟩,p3⟩:=q;refine⟨by rw[B.xn];exact p1,?_,Zah p3⟩;show X.env.scope.names.lookup x=_∨X.env.scope.names.lookup x=_;rw[B.ns];exact p2
section
variable {X:Cx}{G:Gh}{elt tg iter:Expr}{ifs:List Expr}{scope:Scope}{pos pos' spos:Pos}{XN:List Str}{NS:List (Str×NameKind)}{N':List Str}{src:List (Option Nat)}{fi:Zd->M (List D)}{τ:D->Zd->Option Zd}{ft:Zd->M Bool}{fe:Zd->M D}{r1:Bool}{i:Nat}{x:Str}
theorem Zld (hc:X.calm=true)(B:BlkS X XN NS N' src scope)(hi:Xw X G tg iter fi)
  (hg:∀cl jM C s H fp,Vy (YN X jM N' scope cl C s H fp) G tg (λi=>src[i]?=some none) τ) (ht:∀cl jM C s H fp,Uc (YN X jM N' scope cl C s H fp) ifs (Jc G ft)) (he:∀cl jM C s H fp,PD (YN X jM N' scope cl C s H fp) G r1 elt fe)
  (hs:∀x,foldedSetIterable iter X.env x=pure x:=by intro _;rfl):PD X G true (.ListComp elt [⟨tg,iter,ifs,0⟩] scope pos) (Z3 src fi τ ft fe):=by
 obtain⟨wi,pi,qi⟩:=hi;refine⟨_,λjM s σ H Q I h=>?_,Zgl (r1:=r1) qi⟩;obtain⟨cl,B'⟩:=B.ok I.ok;exact Zne hc B' pi (λjM C s H fp=>(hg cl jM C s H fp).canon) (ht cl) (λjM C s H fp=>(he cl jM C s H fp).canon) hs jM s σ H Q I h
theorem ZaQ (hN:X.N.Nodup)(hi':X.N[i]?=some x)(hx:WS X.env.scope x)
  (hc:X.calm=true) (B:BlkS X XN NS N' src scope) (hi:Xw X G tg iter fi)
  (hg:∀cl jM C s H fp,Vy (YN X jM N' scope cl C s H fp) G tg (λi=>src[i]?=some none) τ) (ht:∀cl jM C s H fp,Uc (YN X jM N' scope cl C s H fp) ifs (Jc G ft)) (he:∀cl jM C s H fp,PD (YN X jM N' scope cl C s H fp) G r1 elt fe)
  (hsw:xr (.ListComp elt [⟨tg,iter,ifs,0⟩] scope pos) (some (.Name x pos')) spos.line X.env=pure true:=by rfl)
  (hs:∀x,foldedSetIterable iter X.env x=pure x:=by intro _;rfl)
  (hf:X.fn x=true∨X.env.scope.names.lookup x=some .local:=by first | exact .inl rfl | exact .inr rfl | assumption) :
  BT X G true i (.Assign [.Name x pos'] (.ListComp elt [⟨tg,iter,ifs,0⟩] scope pos) spos) (Z3 src fi τ ft fe):=by
 obtain⟨wi,pi,qi⟩:=hi;refine⟨_,λjM s σ H D I h=>?_,Zgl (r1:=r1) qi⟩;obtain⟨cl,B'⟩:=B.ok I.ok;exact Znf hN hi' hx hc B' pi (λjM C s H fp=>(hg cl jM C s H fp).canon) (ht cl) (λjM C s H fp=>(he cl jM C s H fp).canon) hsw hs hf jM s σ H D I h
end
noncomputable def Yd (P:xD)(w:World)(K:qd)(mg:Str->Option Value)(base:Heap)(k:Nat)(x:Str)(n:Nat)(fr:Bool)(GG:Gh->Prop)(F:List D->M D):Prop:=
 ∃f fd ps,FnOk P w K mg base ZR k f fd ps (Yp n fr GG F)/\mg x=some (.ref f)/\zE K (.ref f)=true/\Xf K fd ps []
theorem Yd.mono {K:qd}(c:Yd P w K mg base j x n fr GG F)(h:j<=k:=by decide):Yd P w K mg base k x n fr GG F:=
 let ⟨f,fd,ps,a,b,c,d⟩:=c
 ⟨f,fd,ps,a.mono h,b,c,d⟩
theorem Zle {p pos:Pos}(c:Yd X.prog X.w X.K X.mg X.base k x n fr GG F)(hG:GG G)(hr:Room k X.A)(hg:Gl X x)
  (ha:Wz X G (e::es) fs) (hal:∀ρ s ds s',fs ρ s=some (ds,s')->ds.length=(e::es).length) (jW:(e::es).length=n:=by rfl)
  (hdb:(x==("__debug__" : Str))=false:=by decide) (he:xh (e::es) X.env=(false,eval e X.env)::xh es X.env:=by rfl) (hpl:(backTo pos (xh es X.env)).any (·.1)=false:=by rfl) :
  PD X G fr (.Call (.Name x p) (e::es) [] pos) (ZD F fs):=by
 obtain⟨f,fd,ps,a,b,c,d⟩:=c;exact Zng a hG hr hg b c d JW ha jW hal hdb he hpl
noncomputable def VR (h base:Heap)(as:List Addr):Heap:=PySem.W.hideAll h ((qe h.objs.size).filter λa=>!((base.get? a).isSome||decide (a∈as)))
theorem ZjG:(VR h base as).objs.size=h.objs.size:=qbF _ _
theorem Zgq (e:h.get? b=some o)(n:(∃u,base.get? b=some u)∨b∈as):(VR h base as).get? b=some o:=
 qbS _ e λhm=>by grind
theorem ZiA (e:(VR h base as).get? b=some o):h.get? b=some o/\((∃u,base.get? b=some u)∨b∈as):=by
 have e':=PySem.W.of_hideAll _ e;refine⟨e',?_⟩;by_cases c:((base.get? b).isSome||decide (b∈as))=true
 ·rcases Bool.or_eq_true_iff.mp c with c | c
  ·exact .inl (yj.mp c)
  ·simp_all
 ·have z:(VR h base as).get? b=none:=qbG _ (qA.mpr ⟨qR.mpr (qz e'),by grind⟩)
  grind
theorem jG {K:qd}(e:Env0 P w K mg base A outer s H)(ha:∀b∈as,H b=none)(hf:∀b∈as,b∉Wx outer) :
  Env0 P w K mg (VR s.heap base as) A outer s H:=by
 have up:∀b o,base.get? b=some o->(VR s.heap base as).get? b=some o:=λb o q=>Zgq (e.bs b o q).1 (.inl ⟨o,q⟩);refine⟨e.frames,⟨e.mod.kin.keeps up,e.mod.glob.keeps up,let ⟨mb,h1,h2⟩:=e.mod.blt;⟨mb,h1.keeps up,h2⟩,e.mod.nolimit.keeps up⟩,λb o q=>?_,qb0 ZjG,?_,e.frf,e.hok,e.bare⟩
 ·obtain⟨q1,q2⟩:=ZiA q
  refine⟨q1,?_⟩;rcases q2 with⟨u,q2⟩ | q2
  ·exact(e.bs b u q2).2
  ·exact ha b q2
 ·have all:∀l,(∀b∈Wx l,b∈Wx outer)->s.heap.FunFrames base l->s.heap.FunFrames (VR s.heap base as) l:=by
   intro l
   induction l with
   | nil=>intro _ _;trivial
   | cons env r ih=>
    intro hs hl;obtain⟨hk,⟨L,o,hf',hn,ho,hd⟩,hr⟩:=hl;have hL:=hs L (by unfold Wx;simp_all);refine⟨hk,⟨L,o,hf',?_,ho,hd⟩,ih (λb hb=>hs b (by unfold Wx;rw[qay,hf'];exact qX _ hb)) hr⟩
    cases q:(VR s.heap base as).get? L with
    | none=>rfl
    | some u=>
     rcases (ZiA q).2 with⟨u',q'⟩ | q'
     ·grind
     ·simp_all
  exact all outer (λ_ h=>h) e.funs
noncomputable def fnφ (p:Addr)(fd:xC):Heap->Prop:=λh=>∃oc od sl,h.get? p=some ⟨oc,od,.func fd,sl⟩
noncomputable def codeφ (c:Addr)(q:Str):Heap->Prop:=λh=>h.CodeRec (.ref c) q
theorem fnφ_at (ok:YC P w H h)(e:H p=some (.ext (fnφ p fd))):fnφ p fd h:=(ok p _ e).1
theorem codeφ_at (ok:YC P w H h)(e:H c=some (.ext (codeφ c q))):h.CodeRec (.ref c) q:=(ok c _ e).1
structure CloScope (N ps:List Str)(sc:Scope):Prop where
 kind:sc.kind=.function
 co:sc.isCoroutine=false
 gen:sc.isGenerator=false
 nd:N.Nodup
 pre:N.take ps.length=ps
 par:∀x∈ps,sc.names.lookup x=some .local
 nocell:∀y∈sc.names,y.2≠.cell
noncomputable def cxC (CX:UL)(P:xD)(w:World)(K:qd)(mg:Str->Option Value)(base:Heap)(N:List Str)(qual:Str)(scope:Scope)(f:Addr)(cd:Value)(cl:List (Str×Addr))(A:xE)(outer:List Env)(s:Shared)(H:Hp)(E:XK):Cx where
 prog:=P
 w:=w
 K:=K
 mg:=mg
 base:=base
 A:=A.deeper (ym qual scope s.heap.objs.size f cd cl)
 N:=N
 s₀:=s
 H₀:=H
 env:=ym qual scope s.heap.objs.size f cd cl
 outer:=outer
 stack:=ym qual scope s.heap.objs.size f cd cl::outer
 ex:=[]
 calm:=true
 fn:=λ_=>false
 pn:=[]
 xe:=λe s'=>xf (xB P w) (A.deeper (ym qual scope s.heap.objs.size f cd cl)) (leaving (ym qual scope s.heap.objs.size f cd cl) e) (λ_ s''=>CX outer H s E e s'') (λe' s''=>CX outer H s E e' s'') s'
structure CloAt (base:Heap)(cl:List (Str×Addr))(sc:Scope)(N ps:List Str)(cvs:List V):Prop where
 inj:∀x y c,cl.lookup x=some c->cl.lookup y=some c->x=y
 cell:∀x c,cl.lookup x=some c->∃v,base.IsCell c v
 has:∀x,sc.names.lookup x=some .free->∃c,cl.lookup x=some c
 cap:∀(i:Nat) (x:Str) (v:V),N[ps.length+i]?=some x->cvs[i]?=some v->sc.names.lookup x=some .free/\∃c u,cl.lookup x=some c/\base.IsCell c (some u)/\ZN v u
 len:N.length=ps.length+cvs.length
theorem Zb2 {α:Type}:∀{l:List (Str×α)} {x:Str} {u:α},(l.map (·.1)).Nodup->(x,u)∈l->l.lookup x=some u
 | [],_,_,_,h=>by simp at h
 | (y,w)::l,x,u,nd,h=>by
  rw[qO,z0]at nd;rcases qN.mp h with e | hm
  ·simp_all
  ·have hne:(x==y)=false:=by
    simp;rintro rfl;exact nd.1 (qaA (f:=(·.1)) hm)
   rw[qZ,hne];exact Zb2 nd.2 hm
theorem ZcR:∀(ps:List Str) (us:List Value),((ps.zip us).map (·.1)).Sublist ps
 | [],_=>by simp
 | _::_,[]=>by simp
 | p::ps,u::us=>by simpa using ZcR ps us
theorem ZdL {ps:List Str}{us:List Value}{i:Nat}(nd:ps.Nodup)(h1:ps[i]?=some x)(h2:us[i]?=some u):(ps.zip us).reverse.lookup x=some u:=by
 refine Zb2 ?_ ?_
 ·rw[List.map_reverse]
  refine List.pairwise_reverse.mpr ?_;exact(nd.sublist (ZcR _ _)).imp qJ
 ·rw[List.mem_reverse]
  exact zF (yS.mpr ⟨h1,h2⟩)
theorem Znn {K:qd}
  (S:CloScope N ps scope) (C:CloAt base cl scope N ps cvs) (hd:A.handled=none) (e0:Env0 P w K mg base A outer s H) (hl:vs.length=ps.length) (r:ZG vs us)
  (hns:h'.Ns s.heap.objs.size (λx=>(ps.zip us).reverse.lookup x)) (hk:∀b o,s.heap.get? b=some o->h'.get? b=some o) :
  Inv (cxC CX P w K mg base N qual scope f cd cl A outer s H E) [] (vs.map some++cvs.map some) H { s with heap:=h',toks:=tk }:=by
 have noA:∀b:Addr,b∉(cxC CX P w K mg base N qual scope f cd cl A outer s H E).ex:=λb z=>absurd (show b∈([]:List Addr)from z) (by simp);have up:∀b o,base.get? b=some o->h'.get? b=some o:=λb o q=>hk b o (e0.bs b o q).1;have cellAt:∀x c,cl.lookup x=some c->∃v,base.IsCell c v:=C.cell;refine⟨⟨e0.mod,S.kind,rfl,rfl,qk _,λy z c h1 h2=>C.inj y z c h1 h2,λy hy=>?_,λy c z _=>(by cases z),λ_=>hd,qbJ e0.frames,.inr ⟨rfl,rfl⟩,λb z=>absurd z (noA b),e0.bs,e0.bsz,λb _ _=>noA b,λb z=>absurd z (noA b),e0.funs,e0.frf⟩,
  rfl,e0.bare,Un.kept hk,⟨_,hns,λi y v h1 h2 h3=>?_⟩,λy c h=>?_,e0.hok.fresh (qk _),λy c h=>?_,λp hp=>absurd (show p∈([]:Qb)from hp) (by simp),e0.hok.kept hk,?_⟩
 ·have hy:scope.names.lookup y=some .cell∨scope.names.lookup y=some .free:=hy
  rcases hy with hy | hy
  ·exact absurd rfl (S.nocell _ (zd hy))
  ·exact C.has y hy
 ·have h1:N[i]?=some y:=h1
  by_cases hi:i<vs.length
  ·have ha:vs[i]?=some v:=by
    rw[za (by simpa using hi),qI]at h2
    cases e:vs[i]? with
    | none=>rw[e]at h2;cases h2
    | some a=>rw[e]at h2;cases h2;rfl
   obtain⟨u,hu,rv⟩:=r.get ha;have hp:ps[i]?=some y:=by
    rw[<-S.pre,qa4 (by omega)];exact h1
   have ndP:ps.Nodup:=by rw[<-S.pre];exact S.nd.sublist (qad _ _)
   exact⟨u,rv,.inl ⟨S.par y (zF hp),ZdL ndP hp hu⟩⟩
  ·rw[zM (by simpa using hi),qI,qf]at h2
   have hc:cvs[i-vs.length]?=some v:=by
    cases e:cvs[i-vs.length]? with
    | none=>simp_all
    | some a=>rw[e]at h2;simp_all
   obtain⟨q1,c,u,q2,q3,q4⟩:=C.cap (i-vs.length) y v (by simp_all) hc;exact⟨u,q4,.inr ⟨.inr q1,c,q2,q3.keeps up⟩⟩
 ·obtain⟨v,q⟩:=C.cell y c h
  exact⟨v,q.keeps up⟩
 ·obtain⟨v,o,q,_⟩:=C.cell y c h
  exact(e0.bs c o q).2
 ·show _=N.length
  rw[C.len];simp[hl]
theorem Zno {K:qd}
  (S:CloScope N ps scope) (C:CloAt base cl scope N ps cvs) (len:∀vs H Q E,sp vs H Q E->vs.length=ps.length)
  (at_:∀vs H Q E,sp vs H Q E->H f=some (.ext (fnφ f (zT name qual params body scope cl pm (.ref c') ct)))/\H c'=some (.ext (codeφ c' qual)))
  (hbody:∀(A:xE) (outer:List Env) (s:Shared) (H:Hp) (vs:List V) (Q:VK) (E:XK),Room k (A.deeper (ym qual scope s.heap.objs.size f (.ref c') cl))->sp vs H Q E->
   ∃t,PE (cxC CX P w K mg base N qual scope f (.ref c') cl A outer s H E) body t/\t (vs.map some++cvs.map some) H Q) :
  FnOk P w K mg base CX (k+1) f (zT name qual params body scope cl pm (.ref c') ct) ps sp:=by
 refine⟨len,λA outer s H args us vs Q E hr e0 hb r hsp=>?_⟩;have hl:=len _ _ _ _ hsp;obtain⟨a1,a2⟩:=at_ _ _ _ _ hsp;obtain⟨oc,od,sl,ho⟩:=fnφ_at e0.hok a1;have lim:=e0.mod.nolimit.keeps λb o e=>(e0.bs b o e).1;have hkind:∀y∈ps.zip us,scope.names.lookup y.1=some .local:=λ⟨n,v⟩ hy=>S.par n (qar hy).1;refine PySem.W.kla_callFunE hr.depth ho rfl S.co S.gen rfl (codeφ_at e0.hok a2) (hb _ _ _ _ ?_);refine wpAny_newFunctionEnv S.nocell hkind (λh' hns hsb=>?_) S.kind;have hk:=λb o e=>hsb.extBut b o (qL (qz e)) (qj _ e);refine⟨lim.keeps hk,?_⟩;obtain⟨t,ht,hq⟩:=hbody A outer s H vs Q E (hr.deeper _) hsp;refine PySem.W.kla_codeExpr (xc (ht [] _ _ H Q (Znn S C hr.hd e0 hl r hns hk) hq) (λu s' hs=>?_) λe s' hs=>hs);obtain⟨v,H',J,rv,q⟩:=hs;exact⟨v,H',J.os,J.bare,J.base,J.hok,rv,q⟩
structure Mk0 (X:Cx)(c P:Addr):Prop where
 code:X.env.code=.ref c
 hd:zU X.base c P
 bm:∃bm o,X.mg "__builtins__" = some (.ref bm)/\bm≠builtinsNs/\bm≠mainGlobals/\X.base.get? bm=some o/\o.cls=.type "module"/\o.dict=some builtinsNs/\o.data=.plain
noncomputable def Slot (P:Addr)(q:Str)(lpos:Pos)(ps:Array Value)(H Hm:Hp)(c':Addr):Prop:=
 (Hm=H/\codeAmong lpos ps.toList=some (.ref c')/\H c'=some (.ext (codeφ c' q)))∨(codeAmong lpos ps.toList=none/\H c'=none/\c'≠P/\Hm=Zp (Zp H P (.tbl (ps ++ #[rawInt lpos.line,rawInt lpos.col,.ref c']))) c' (.ext (codeφ c' q)))
noncomputable def Zqh (P:Addr)(q:Str)(lpos:Pos)(isFd:xC->Addr->Prop)(H:Hp)(R:Addr->Addr->xC->Hp->Prop):Prop:=
 ∃ps,H P=some (.tbl ps)/\TriplesOk ps.toList/\(∀cv,codeAmong lpos ps.toList=some cv->∃c',cv=.ref c'/\H c'=some (.ext (codeφ c' q)))/\
  ∀p c' fd Hm,isFd fd c'->Slot P q lpos ps H Hm c'->Hm p=none->R p c' fd (Zp Hm p (.ext (fnφ p fd)))
section
variable {X:Cx}{jM:Qb}{σ:St}{H:Hp}{s:Shared}{c P:Addr}{ps:Array Value}
theorem Mk0.bat (M:Mk0 X c P)(I:Inv X jM σ H s)(hP:H P=some (.tbl ps)):s.heap.BuiltinsAt X.mg P:=by
 obtain⟨bm,o,e1,e2,e3,e4,e5⟩:=M.bm;refine⟨bm,o,e1,e2,e3,λz=>?_,I.bk _ _ e4,e5⟩;have:=(I.bs _ _ e4).2
 grind
theorem gne (I:Inv X jM σ H s)(hP:H P=some (.tbl ps)):mainGlobals≠P:=λz=>by
 obtain⟨o,es,ep,e,_⟩:=I.mod.glob;have:=(I.bs _ _ e).2
 grind
theorem ZhJ (h1:φ h)(h2:∃o,h.get? a=some o)(h3:∀h1 h2:Heap,φ h1->(∀o,h1.get? a=some o->h2.get? a=some o)->φ h2):YO P0 w H' h a (.ext φ):=⟨h1,h2,h3⟩
theorem fnφ_keep:∀h1 h2:Heap,fnφ p fd h1->(∀o,h1.get? p=some o->h2.get? p=some o)->fnφ p fd h2:=λh1 h2 ⟨oc,od,sl,e⟩ k=>⟨oc,od,sl,k _ e⟩
theorem codeφ_keep:∀h1 h2:Heap,codeφ p q h1->(∀o,h1.get? p=some o->h2.get? p=some o)->codeφ p q h2:=λh1 h2 ⟨a,o,vs,t,e,e1,r⟩ k=>by
 cases e
 exact⟨p,o,vs,t,rfl,k _ e1,r⟩
theorem codeφ_there (x:codeφ p q h):∃o,h.get? p=some o:=by
 obtain⟨a,o,vs,t,e,e1,r⟩:=x;simp_all
theorem Znp {c':Addr}(I:Inv X jM σ H s)(hP:H P=some (.tbl ps))(hx:Heap.ExtBut P s.heap h')(hge:s.heap.objs.size<=c')(hc:h'.CodeRec (.ref c') q)(ht:h'.get? P=some (qaE (ps++more))) :
  Inv X jM σ (Zp (Zp H P (.tbl (ps++more))) c' (.ext (codeφ c' q))) { s with heap:=h',toks:=tk }/\H c'=none/\c'≠P:=by
 have hc0:H c'=none:=I.hok.fresh hge;have hcP:c'≠P:=λz=>by rw[z,hP]at hc0;cases hc0
 have old:∀{b:Addr} {u:HO},H b=some u->b≠c':=λe z=>by rw[z,hc0]at e;cases e
 have get:∀{b:Addr} {u:HO},H b=some u->b≠P->Zp (Zp H P (.tbl (ps++more))) c' (.ext (codeφ c' q)) b=some u:=λ{b u} e n=>by rw[Zu (old e),Zu n];exact e
 refine⟨I.call (g':=s.gens) (d':=s.drawn) (ch:=[]) ?_ ?_ I.bare (λb hb=>absurd hb (by simp)),hc0,hcP⟩
 ·refine⟨λb o e n _ _=>hx b o (λz=>by rw[z,hP]at n;cases n) e,λb o e n _ _=>⟨o.slots,hx b o (λz=>by rw[z,hP]at n;cases n) e⟩,λb o e n _=>?_,λb o e _=>?_,λb xs e=>get e (λz=>by rw[z,hP]at e;cases e),λb o u e=>get e (λz=>by rw[z,hP]at e;cases e),λb ps' e=>?_⟩
  ·rw[Zu (qL (qK (qz e) hge)),Zu (λz=>by rw[z,hP]at n;cases n)];exact n
  ·by_cases hb:b=P
   ·exact⟨_,hb▸ht⟩
   ·exact⟨o,hx b o hb e⟩
  ·by_cases hb:b=P
   ·subst hb
    rw[hP]at e;cases e;exact⟨more,by rw[Zu (old hP),Z1]⟩
   ·exact⟨#[],by rw[get e hb];simp⟩
 ·intro a o e
  by_cases ha:a=c'
  ·subst ha
   rw[Z1]at e;cases e;exact ZhJ hc (codeφ_there hc) codeφ_keep
  ·rw[Zu ha]at e
   by_cases hb:a=P
   ·subst hb
    rw[Z1]at e;cases e;exact ht
   ·rw[Zu hb]at e
    refine(I.hok a o e).stay (λb u hb' r=>hx b u ?_ r) (λb r=>get r (λz=>by grind)) λb xs r=>get r (λz=>by grind)
    grind
structure CloOf (X:Cx)(scope:Scope)(cl:List (Str×Addr)):Prop where
 of:∀x c,cl.lookup x=some c->X.env.cells.lookup x=some c
 has:∀y∈scope.names,y.2=.free->∃c,cl.lookup y.1=some c
theorem Znq (ok:X.Ok)(hfree:∀y∈scope.names,y.2=.free->X.env.kindOf y.1=some .cell∨X.env.kindOf y.1=some .free):∃cl,closureFor scope X.env=pure cl/\CloOf X scope cl:=by
 obtain⟨cl,q1,q2,q3,q4⟩:=Zam scope.names [] (λy hy hf=>ok.has y.1 (hfree y hy hf)) (λx c h=>by simp at h);refine⟨cl,?_,q2,q4⟩;unfold closureFor;simp_all
theorem Zpg (M:Mk0 X c P)(hq:X.env.qual ++ "<lambda>" = q)(hfree:∀y∈scope.names,y.2=.free->X.env.kindOf y.1=some .cell∨X.env.kindOf y.1=some .free)(hdef:defaultsOf params X.env=([],[]):=by rfl) :
  PE X (.Lambda params body scope lpos) (fun σ H Q=>Zqh P q lpos (λfd c'=>∃cl pm ctv,CloOf X scope cl/\fd=zT "<lambda>" q params body scope cl pm (.ref c') ctv) H λp _ _ H'=>Q (.ref p) H'):=by
 intro jM s σ H Q I ⟨ps,hP,ht,hhit,h⟩;obtain⟨cl,hcl,co⟩:=Znq I.ok hfree;have hP':=I.hok P _ hP;have hg:=I.mod.glob.keeps I.bk;have hb:=M.bat I hP;refine PySem.W.kla_eval hdef ?_;rw[hq]
 cases hc:codeAmong lpos ps.toList with
 | some cv=>
  obtain⟨c',rfl,hc'⟩:=hhit cv hc;refine PySem.W.kla_makeFunctionHit hcl I.ok.glob hg M.code (M.hd.keeps I.bk) hP' ht hc hb λctv h' tk hk hsz=>?_;refine⟨.ref h'.objs.size,Zp H h'.objs.size (.ext (fnφ _ _)),I.laid (λb u e=>qj _ (hk b u e)) hsz (ZhJ ⟨_,_,_,qE _ rfl⟩ ⟨_,qE _ rfl⟩ fnφ_keep),rfl,h _ c' _ H ⟨cl,_,_,co,rfl⟩ (.inl ⟨rfl,hc,hc'⟩) (I.hok.fresh hsz)⟩
 | none=>
  refine PySem.W.kla_makeFunction hcl I.ok.glob hg M.code (M.hd.keeps I.bk) hP' ht hc (gne I hP) hb λc' ctv h' tk hx hge hlt hrec htb=>?_;obtain⟨I1,hc0,hcP⟩:=Znp (tk:=tk) I hP hx hge hrec htb;refine⟨.ref h'.objs.size,Zp _ h'.objs.size (.ext (fnφ _ _)),I1.laid (λb u e=>qj _ e) (qk _) (ZhJ ⟨_,_,_,qE _ rfl⟩ ⟨_,qE _ rfl⟩ fnφ_keep),rfl,h _ c' _ _ ⟨cl,_,_,co,rfl⟩ (.inr ⟨hc,hc0,hcP,rfl⟩) (I1.hok.fresh (qk _))⟩
end
structure Cells (X:Cx)(σ:St)(base':Heap):Prop where
 inj:∀x y c,X.env.cells.lookup x=some c->X.env.cells.lookup y=some c->x=y
 cell:∀x c,X.env.cells.lookup x=some c->∃v,base'.IsCell c v
 has:∀x,(X.env.kindOf x=some .cell∨X.env.kindOf x=some .free)->∃c,X.env.cells.lookup x=some c
 val:∀(i:Nat) (x:Str) (v:V),X.N[i]?=some x->σ[i]?=some (some v)->X.env.kindOf x=some .cell->∃c u,X.env.cells.lookup x=some c/\base'.IsCell c (some u)/\ZN v u
section
variable {X:Cx}{jM:Qb}{σ:St}{H:Hp}{s:Shared}
noncomputable def Zgr (X:Cx):List Addr:=X.env.cells.filterMap λp=>X.env.cells.lookup p.1
theorem ZjH (e:X.env.cells.lookup x=some c):c∈Zgr X:=yU.mpr ⟨(x,c),zd e,e⟩
theorem Zgs (h:c∈Zgr X):∃x,X.env.cells.lookup x=some c:=by
 obtain⟨p,_,e⟩:=yU.mp h;exact⟨p.1,e⟩
theorem ZjI (I:Inv X jM σ H s)(hfn:∀x,X.fn x=true):Env0 X.prog X.w X.K X.mg (VR s.heap X.base (Zgr X)) X.A X.stack s H/\Cells X σ (VR s.heap X.base (Zgr X)):=by
 have cellK:∀x c v,X.env.cells.lookup x=some c->s.heap.IsCell c v->(VR s.heap X.base (Zgr X)).IsCell c v:=λx c v e ⟨o,ho,hd⟩=>⟨o,Zgq ho (.inr (ZjH e)),hd⟩;refine⟨jG I.env0 (λb hb=>?_) λb hb hf=>?_,⟨I.ok.inj,λx c e=>?_,I.ok.has,λi x v h1 h2 h3=>?_⟩⟩
 ·obtain⟨x,e⟩:=Zgs hb
  exact I.freeC x b e
 ·obtain⟨x,e⟩:=Zgs hb
  rcases qN.mp (I.stkSub b hf)with z | z
  ·exact I.cne x b e z
  ·obtain⟨_,o,ho,_⟩:=I.ok.funs.mem z
   exact absurd (qK (qz ho) (I.ok.cab x b (hfn x) e)) (z5 _)
 ·obtain⟨v,q⟩:=I.cell x c e
  exact⟨v,cellK x c v e q⟩
 ·obtain⟨m,_,hl⟩:=I.loc
  obtain⟨u,r,l⟩:=hl i x v h1 h2 (.inr (.inl h3));rcases l with⟨hk,_⟩ | ⟨_,c,hc,hcell⟩
  ·grind
  ·exact⟨c,u,hc,cellK x c _ hc hcell,r⟩
theorem Zlf {p pos:Pos}{sp:Heap->Sp}(F:∀base,FnOk X.prog X.w X.K X.mg base ZR k f fd ps (sp base))(hfn:∀x,X.fn x=true)(hr:Room k X.A)(hg:Gl X x)(hm:X.mg x=some (.ref f))(hk:zE X.K (.ref f)=true)(hb:Xf X.K fd ps [])
  (ha:PA X (e::es) t) (hdb:(x==("__debug__" : Str))=false:=by decide) (he:xh (e::es) X.env=(false,eval e X.env)::xh es X.env:=by rfl) (hpl:(backTo pos (xh es X.env)).any (·.1)=false:=by rfl) :
  PE X (.Call (.Name x p) (e::es) [] pos) (fun σ H Q=>t σ H λvs H1=>∀base',Cells X σ base'->sp base' vs H1 Q E0):=by
 intro jM s σ H Q I h;refine wpAny_Call_Name_kw (Zfk I hg hm ?_ hdb);refine yV I.ok.mod.kin hk (ZI (ha pos jM s σ H _ I h) λus s1 ⟨vs,H1,I1,r,q⟩=>⟨I1.kIn,?_⟩) he hpl;obtain⟨e0,cs⟩:=ZjI I1 hfn;have q':=q _ cs;have hl:(us ++ []).length=ps.length:=by rw[zq,<-r.length];exact(F _).len _ _ _ _ q'
 refine xA (codeAny_mono ((F _).run X.A X.stack s1 H1 ⟨us,[]⟩ us vs Q E0 hr e0 (by have:=hb s1 us I1.kIn hl;simp_all) r q') λr s' hq=>?_)
 cases r with
 | error e=>exact hq.elim
 | ok fl=>
  cases fl with
  | ret u=>exact I1.after hq
  | next=>exact zy hq
  | brk=>exact zy hq
  | cont=>exact zy hq
theorem Zlg {pos:Pos}(hf:PE X (.Name x p) (Yf i))(hr:Room k X.A)(ha:PA X (e::es) t)
  (he:xh (e::es) X.env=(false,eval e X.env)::xh es X.env:=by rfl) (hpl:(backTo pos (xh es X.env)).any (·.1)=false:=by rfl) :
  PE X (.Call (.Name x p) (e::es) [] pos) (fun σ H Q=>∃f fd ps sp,σ[i]?=some (some (.ref f))/\Xf X.K fd ps []/\FnOk X.prog X.w X.K X.mg X.base ZR k f fd ps sp/\(∀h:Heap,YC X.prog X.w H h->X.K.In h->fnφ f fd h)/\
   t σ H λvs H1=>(∀h:Heap,YC X.prog X.w H1 h->X.K.In h->fnφ f fd h)/\sp vs H1 Q E0):=by
 intro jM s σ H Q I ⟨f,fd,ps,sp,e,hb,F,h0,h⟩;refine wpAny_Call_Name_kw (ZI (hf jM s σ H (λv H'=>v=.ref f/\H'=H) I ⟨_,e,rfl,rfl⟩) λu s1 ⟨v,H1,I1,rv,ev,eH⟩=>?_);subst ev eH
 cases (show u=qC f from rv)
 have at1:∀{jM σ H s},Inv X jM σ H s->(∀h,YC X.prog X.w H h->X.K.In h->fnφ f fd h)->PySem.W.FnAt f s.heap:=λI z=>by
  obtain⟨oc,od,sl,q⟩:=z _ I.hok I.kIn;exact⟨oc,od,fd,sl,q⟩
 refine PySem.W.callWith_F (at1 I1 h0) (ZI (ha pos jM s1 σ _ _ I1 h) λus s2 ⟨vs,H2,I2,r,h2,q⟩=>⟨at1 I2 h2,?_⟩) he hpl;exact Zfn F hr hb .nil JW I2 r (by simp_all)
end
mutual
noncomputable def ZY:D->Bool
 | .tup ds=>Yh ds
 | .lst ds=>Yh ds
 | .clo _ _=>false
 | _=>true
noncomputable def Yh:List D->Bool
 | []=>true
 | d::ds=>ZY d&&Yh ds
end
mutual
theorem Zl.re {G G':Gh}{H:Hp}(hf:G'.fp=G.fp)(hp:G'.pen=G.pen):∀{d:D} {v:V},ZY d=true->Zl G H d v->Zl G' H d v
 | .non,_,_,h=>jg.mpr (jg.mp h)
 | .bl _,_,_,h=>je.mpr (je.mp h)
 | .int _,_,_,h=>ja.mpr (ja.mp h)
 | .str _,_,_,h=>jh.mpr (jh.mp h)
 | .tup ds,v,n,h=>by
  obtain⟨a,vs,e1,nf,e2,r⟩:=jd.mp h;exact jd.mpr ⟨a,vs,e1,by rw[hf];exact nf,e2,Zi.re hf hp (by simpa[ZY]using n) r⟩
 | .lst ds,v,n,h=>by
  obtain⟨a,vs,e1,nf,e2,r⟩:=jb.mp h;exact jb.mpr ⟨a,vs,e1,by rw[hf];exact nf,e2,Zi.re hf hp (by simpa[ZY]using n) r⟩
 | .dk _,_,_,h=>by
  obtain⟨a,e1,nf,e2⟩:=ji.mp h;exact ji.mpr ⟨a,e1,by rw[hf];exact nf,e2⟩
 | .dt _,_,_,h=>by
  obtain⟨a,o,e1,nf,e2⟩:=jk.mp h;exact jk.mpr ⟨a,o,e1,by rw[hf];exact nf,e2⟩
 | .du _,_,_,h=>by
  obtain⟨a,e1,nf,e2⟩:=jl.mp h;exact jl.mpr ⟨a,e1,by rw[hf];exact nf,e2⟩
 | .df _,_,_,h=>by
  obtain⟨a,o,e1,nf,e2⟩:=js.mp h;exact js.mpr ⟨a,o,e1,by rw[hf];exact nf,e2⟩
 | .pen,_,_,h=>jq.mpr ((jq.mp h).trans hp.symm)
 | .ty _,_,_,h=>jr.mpr (jr.mp h)
 | .clo _ _,_,n,_=>by simp[ZY]at n
theorem Zi.re {G G':Gh}{H:Hp}(hf:G'.fp=G.fp)(hp:G'.pen=G.pen):∀{ds:List D} {vs:List V},Yh ds=true->Zi G H ds vs->Zi G' H ds vs
 | [],_,_,h=>Zi.nil_iff.mpr (Zi.nil_iff.mp h)
 | d::ds,vs,n,h=>by
  obtain⟨v,r,e,h1,h2⟩:=jc.mp h;have n':ZY d=true/\Yh ds=true:=by simpa[Yh]using n
  exact jc.mpr ⟨v,r,e,Zl.re hf hp n'.1 h1,Zi.re hf hp n'.2 h2⟩
end
theorem Gr.re (hf:G'.fp=G.fp)(g:Gr G Hf H Hf' H'):Gr G' Hf H Hf' H':=
 ⟨λb o n=>g.hh b o (by simp_all),λb o n=>g.ff b o (by simp_all),λb o n=>g.fh b o (by simp_all),λb n=>g.nw b (by simp_all)⟩
theorem ZA.re (hf:G'.fp=G.fp)(g:ZA G H H'):ZA G' H H':=λb o n=>g b o (by simp_all)
theorem YM.re (hf:G'.fp=G.fp)(hp:G'.pen=G.pen)(n:ZY d=true)(h:YM G H Hf' d v):YM G' H Hf' d v:=λa e m=>by
 obtain⟨h1,h2⟩:=h a e m;refine⟨h1,λds ed=>?_⟩;obtain⟨vs,Hm,q1,q2,q3,q4⟩:=h2 ds ed;subst ed;exact⟨vs,Hm,q1,q2,q3.re hf,q4.re hf hp (by simpa[ZY]using n)⟩
noncomputable def spK (n:Nat)(G:Gh)(cvs:List V)(F:List D->M D):Sp:=λus H Q _=>∃(Hf:Hp) (ds cds:List D) (s:Pn) (d:D) (s':Pn),us.length=n/\ZA G Hf H/\Zi G Hf ds us/\Zi G Hf cds cvs/\G.st s H/\F (ds++cds) s=some (d,s')/\
 ∀v Hf' H',Gr G Hf H Hf' H'->G.st s' H'->Zl G Hf' d v->Q v H'
noncomputable def BU (P:xD)(w:World)(K:qd)(mg:Str->Option Value)(k n:Nat)(T:Nat->List D->M D)(base:Heap)(G:Gh):Prop:=
 ∀t v cvs,G.clo t v cvs->∃f fd ps,v=.ref f/\ps.length=n/\Xf K fd ps []/\(∀s H,G.st s H->∀h:Heap,YC P w H h->K.In h->fnφ f fd h)/\FnOk P w K mg base ZR k f fd ps (spK n G cvs (T t))
noncomputable def dApp (T:Nat->List D->M D)(i:Nat)(fs:Zd->M (List D)):Zd->M D:=fun ρ=>Zm (Za i ρ) λc=>Zm (fs ρ) λds=>match c with | .clo t cds=>T t (ds++cds) | _=>ZP
theorem ZjJ (h:Za i ρ s=some (d,s')):ρ[i]?=some (some d)/\s'=s:=by
 obtain⟨e,rfl⟩:=Wo h
 cases q:ρ[i]? with
 | none=>simp_all
 | some o=>simp_all
section
variable {X:Cx}{G:Gh}
theorem Zlh {pos:Pos}(hG:BU X.prog X.w X.K X.mg k n T X.base G)(hr:Room k X.A)(hf:PE X (.Name x p) (Yf i))(ha:Wz X G (e::es) fs)
  (hal:∀ρ s ds s',fs ρ s=some (ds,s')->ds.length=(e::es).length) (jW:(e::es).length=n:=by rfl)
  (he:xh (e::es) X.env=(false,eval e X.env)::xh es X.env:=by rfl) (hpl:(backTo pos (xh es X.env)).any (·.1)=false:=by rfl) :
  PD X G false (.Call (.Name x p) (e::es) [] pos) (dApp T i fs):=by
 obtain⟨t,pa,qa⟩:=ha;refine⟨_,Zlg hf hr pa he hpl,fun σ Hf H ρ s d s' Q e1 e2 e3 e4 k=>?_⟩;obtain⟨c,s0,b0,b1⟩:=Zx e4;obtain⟨a0,rfl⟩:=ZjJ b0;obtain⟨ds,s1,a1,a2⟩:=Zx b1
 cases c with
 | clo t cds=>
  obtain⟨v,hσ,r⟩:=e2 i _ a0;obtain⟨cvs,hc,rc⟩:=jx.mp r;obtain⟨f,fd,ps,rfl,hl,hb,hat,F⟩:=hG t v cvs hc;refine⟨f,fd,ps,_,hσ,hb,F,hat _ H e3,qa σ Hf H ρ _ ds s1 _ e1 e2 e3 a1 λvs jU H1 g1 jV r1=>⟨hat _ H1 jV,jU,ds,cds,s1,d,s',?_,g1.fh,r1,rc.ext g1.ff,jV,a2,λv jX H2 g2 jZ r2=>k v jX H2 (g1.trans g2) jZ r2 (λz=>by cases z)⟩⟩;rw[<-r1.length,hal _ _ _ _ a1];exact jW
 | _=>cases a2
end
noncomputable def UG (n:Nat)(f:Zd->M D):List D->M D:=λds=>if ds.length=n then f (ds.map some)else ZP
theorem Znr (r:Zi G Hf ds vs):Yt G Hf (vs.map some) (ds.map some):=λi d e=>by
 cases q:ds[i]? with
 | none=>simp_all
 | some d'=>
  obtain⟨v,h1,h2⟩:=r.get q;simp_all
theorem fnKE {K:qd}
  (S:CloScope N ps scope) (C:CloAt base cl scope N ps cvs) (hG:∀s H,G.st s H->H f=some (.ext (fnφ f (zT name qual params body scope cl pm (.ref c') ct)))/\H c'=some (.ext (codeφ c' qual)))
  (hb:∀(A:xE) (outer:List Env) (s:Shared) (H:Hp) (E:XK),Room k (A.deeper (ym qual scope s.heap.objs.size f (.ref c') cl))->PD (cxC ZR P w K mg base N qual scope f (.ref c') cl A outer s H E).nox G fr body fe) :
  FnOk P w K mg base ZR (k+1) f (zT name qual params body scope cl pm (.ref c') ct) ps (spK ps.length G cvs (UG N.length fe)):=by
 refine Zno S C (λvs H Q E ⟨_,_,_,_,_,_,h,_⟩=>h) (λvs H Q E ⟨_,_,_,s,_,_,_,_,_,_,st,_⟩=>hG s H st) λA outer s H vs Q E hr h=>?_;obtain⟨Hf,ds,cds,pn,d,pn',el,e1,r1,r2,st,eF,k'⟩:=h;obtain⟨t,p,q⟩:=hb A outer s H E hr;refine⟨t,p.nox,?_⟩;obtain⟨hl,a0⟩:=XA eF;have env:=Znr (r1.append r2);rw[qV]at env;exact q _ Hf H _ pn d pn' Q e1 env st a0 λv Hf' H' g st' r _=>k' v Hf' H' g st' r
structure TabG (P:Addr)(q:Str)(G:Gh):Prop where
 get:∀s H,G.st s H->∃ps,H P=some (.tbl ps)/\TriplesOk ps.toList/\∀pos cv,codeAmong pos ps.toList=some cv->∃c',cv=.ref c'/\H c'=some (.ext (codeφ c' q))/\¬G.fp c'
 fp:G.fp P
 put:∀s H ps (pos:Pos) c',G.st s H->H P=some (.tbl ps)->H c'=none->codeAmong pos ps.toList=none->G.st s (Zp (Zp H P (.tbl (ps ++ #[rawInt pos.line,rawInt pos.col,.ref c']))) c' (.ext (codeφ c' q)))
noncomputable def W5 (G:Gh)(t:Nat)(p c':Addr)(fd:xC)(q:Str)(cvs:List V):Gh where
 fp:=G.fp
 rd:=G.rd
 pen:=G.pen
 st:=λs H=>G.st s H/\H p=some (.ext (fnφ p fd))/\H c'=some (.ext (codeφ c' q))
 mono:=λs H H' ⟨h1,h2,h3⟩ k1 k2 k3=>⟨G.mono s H H' h1 k1 k2 k3,k2 _ _ h2,k2 _ _ h3⟩
 sub:=G.sub
 dom:=λs H b h=>G.dom s H b h.1
 ntp:=λs H b vs h=>G.ntp s H b vs h.1
 clo:=λt' v cs=>t'=t/\v=.ref p/\cs=cvs
noncomputable def BV (P:xD)(w:World)(K:qd)(mg:Str->Option Value)(k:Nat)(x:Str)(n:Nat)(fr:Bool)(GG:Heap->Gh->Prop)(F:List D->M D):Prop:=
 ∃f fd ps,(∀base,FnOk P w K mg base ZR k f fd ps (Yp n fr (GG base) F))/\mg x=some (.ref f)/\zE K (.ref f)=true/\Xf K fd ps []
theorem BV.mono {K:qd}(c:BV P w K mg j x n fr GG F)(h:j<=k:=by decide):BV P w K mg k x n fr GG F:=
 let ⟨f,fd,ps,a,b,c,d⟩:=c
 ⟨f,fd,ps,λbase=>(a base).mono h,b,c,d⟩
structure CapS (X:Cx)(XN:List Str)(NS:List (Str×NameKind))(N ps:List Str)(cix:List Nat)(scope:Scope):Prop where
 xn:X.N=XN
 ns:X.env.scope.names=NS
 len:N.length=ps.length+cix.length
 at_:(cix.zip (N.drop ps.length)).all (λp=>decide (XN[p.1]?=some p.2)&&decide (NS.lookup p.2=some .cell)&&decide (scope.names.lookup p.2=some .free))=true
 free:∀y∈scope.names,y.2=.free->NS.lookup y.1=some .cell∨NS.lookup y.1=some .free
theorem CapS.hfree (B:CapS X XN NS N ps cix scope):∀y∈scope.names,y.2=.free->X.env.kindOf y.1=some .cell∨X.env.kindOf y.1=some .free:=λy hy hf=>by
 have:=B.free y hy hf;rw[<-B.ns]at this;exact this
theorem CapS.cloAt (B:CapS X XN NS N ps cix scope)(cs:Cells X σ base')(co:CloOf X scope cl)(hl:cvs.length=cix.length)
  (hv:∀(i j:Nat) (v:V),cix[i]?=some j->cvs[i]?=some v->σ[j]?=some (some v)):CloAt base' cl scope N ps cvs:=by
 refine⟨λx y c h1 h2=>cs.inj x y c (co.of x c h1) (co.of y c h2),λx c h=>cs.cell x c (co.of x c h),λx h=>co.has (x,.free) (zd h) rfl,λi x v h1 h2=>?_,by rw[B.len,hl]⟩;have hi:i<cix.length:=by rw[<-hl];exact(qH.mp h2).1
 have hj:=zc hi;have hx:(N.drop ps.length)[i]?=some x:=by simp_all
 have q:=qS.mp B.at_ (cix[i],x) (zF (yS.mpr ⟨hj,hx⟩));simp at q;obtain⟨⟨q1,q2⟩,q3⟩:=q;refine⟨q3,?_⟩;obtain⟨c,u,e1,e2,e3⟩:=cs.val cix[i] x v (by rw[B.xn];exact q1) (hv i _ v hj h2) (by show X.env.scope.names.lookup x=_;rw[B.ns];exact q2);obtain⟨c2,e4⟩:=co.has (x,.free) (zd q3) rfl;have e5:=co.of x c2 e4;rw[e1]at e5;cases e5;exact⟨c,u,e4,e2,e3⟩
noncomputable def BL (ρ:Zd):List Nat->Option (List D)
 | []=>some []
 | i::r=>((ρ[i]?).bind id).bind λd=>(BL ρ r).map (d :: ·)
theorem Zgt (e:Yt G Hf σ ρ):∀{cix:List Nat} {cds:List D},BL ρ cix=some cds->∃cvs,cvs.length=cix.length/\Zi G Hf cds cvs/\∀(i j:Nat) (v:V),cix[i]?=some j->cvs[i]?=some v->σ[j]?=some (some v)
 | [],cds,h=>by cases h;exact⟨[],rfl,Zi.nil_iff.mpr rfl,λi j v h1=>by simp at h1⟩
 | a::r,cds,h=>by
  unfold BL at h
  cases q:(ρ[a]?).bind id with
  | none=>simp_all
  | some d=>
   rw[q]at h
   cases q2:BL ρ r with
   | none=>simp_all
   | some ds=>
    rw[q2]at h;cases h;obtain⟨v,h1,h2⟩:=e a d (by
     cases q3:ρ[a]? with
     | none=>simp_all
     | some o=>simp_all)
    obtain⟨cvs,l1,l2,l3⟩:=Zgt e q2;refine⟨v::cvs,by simp[l1],Zi.cons h2 l2,λi j u e1 e2=>?_⟩
    cases i with
    | zero=>simp at e1 e2;subst e1;subst e2;exact h1
    | succ i=>exact l3 i j u (by simpa using e1) (by simpa using e2)
noncomputable def dFnC (F:List D->M D)(t:Nat)(cix:List Nat)(f:Zd->M D):Zd->M D:=fun ρ=>Zm (f ρ) λd=>Zm (YV (BL ρ cix)) λcds=>if (ZY d&&Yh cds)=true then Zm (F [d,.clo t cds]) λc=>if ZY c=true then ZH c else ZP else ZP
section
variable {X:Cx}{G:Gh}{P c:Addr}{q:Str}
theorem Zns (TG:TabG P q G)(st:G.st s H)(hP:H P=some (.tbl ps))(sl:Slot P q lpos ps H Hm c'):G.st s Hm/\Hm c'=some (.ext (codeφ c' q))/\ZA G H Hm:=by
 rcases sl with⟨rfl,h1,h2⟩ | ⟨h1,h2,h3,rfl⟩
 ·exact⟨st,h2,.refl _ _⟩
 ·refine⟨TG.put s H ps lpos c' st hP h2 h1,Z1,λb o n e=>?_⟩
  rw[Zu (Yz e h2),Zu (λz=>n (by rw[z];exact TG.fp))];exact e
theorem Znt (e1:ZA G Hf H)(ex:ZA G H Hm)(hp:Hm p=none):Gr G Hf H Hf (Zp Hm p o):=by
 have hh:ZA G H (Zp Hm p o):=λb u n e=>by
  have:=ex b u n e;rw[Zu (Yz this hp)];exact this
 exact⟨hh,.refl _ _,e1.trans hh,λ_ _ h _=>h⟩
theorem Zph (hb:Xf X.K fd ps [])(hF:FnOk X.prog X.w X.K X.mg base' ZR k p fd ps (spK ps.length (W5 G t p c' fd q cvs) cvs F))(hT:T t=F) :
  BU X.prog X.w X.K X.mg k ps.length T base' (W5 G t p c' fd q cvs):=by
 rintro t' v cs ⟨rfl,rfl,rfl⟩;exact⟨p,fd,ps,rfl,rfl,hb,λs H st h ok _=>fnφ_at ok st.2.1,by simp_all⟩
variable {k kl:Nat}{x:Str}{fr frb:Bool}{F:List D->M D}{T:Nat->List D->M D}{t:Nat}{e1:Expr}{f1:Zd->M D}{r1:Bool}{params:Arguments}{scope:Scope}{lpos ppos pos:Pos}{XN N ps:List Str}{NS:List (Str×NameKind)}{cix:List Nat}
theorem ofC (n:ZY d=true)(r:Zl (W5 G t p c' fd q cvs) H d v):Zl G H d v:=Zl.re (G:=W5 G t p c' fd q cvs) (G':=G) rfl rfl n r
theorem toC (n:ZY d=true)(r:Zl G H d v):Zl (W5 G t p c' fd q cvs) H d v:=Zl.re (G:=G) (G':=W5 G t p c' fd q cvs) rfl rfl n r
theorem toCL (n:Yh d=true)(r:Zi G H d v):Zi (W5 G t p c' fd q cvs) H d v:=Zi.re (G:=G) (G':=W5 G t p c' fd q cvs) rfl rfl n r
theorem grC (g:Gr (W5 G t p c' fd q cvs) Hf H Hf' H'):Gr G Hf H Hf' H':=Gr.re (G:=W5 G t p c' fd q cvs) rfl g
theorem frC (n:ZY d=true)(h:YM (W5 G t p c' fd q cvs) H Hf' d v):YM G H Hf' d v:=YM.re (G:=W5 G t p c' fd q cvs) rfl rfl n h
theorem ZhK (M:Mk0 X c P)(TG:TabG P q G)(hW:BV X.prog X.w X.K X.mg k x 2 fr (BU X.prog X.w X.K X.mg (kl+1) ps.length T) F)(hfn:∀x,X.fn x=true)(hr:Room k X.A)(hg:Gl X x)(h1:PD X G r1 e1 f1)
  (hq:X.env.qual ++ "<lambda>" = q) (S:CloScope N ps scope) (B:CapS X XN NS N ps cix scope) (hT:T t=UG N.length fe)
  (hbind:∀(cl:List (Str×Addr)) (pm cd ct:Value) (us:List Value),us.length=ps.length->bindArgs (zT "<lambda>" q params body scope cl pm cd ct) ⟨us,[]⟩=pure (ps.zip us))
  (hb:∀(base:Heap) (f c':Addr) (cl:List (Str×Addr)) (G:Gh) (A:xE) (outer:List Env) (s:Shared) (H:Hp) (E:XK),Room kl (A.deeper (ym q scope s.heap.objs.size f (.ref c') cl))->PD (cxC ZR X.prog X.w X.K X.mg base N q scope f (.ref c') cl A outer s H E).nox G frb body fe)
  (hdef:defaultsOf params X.env=([],[]):=by rfl) (hdb:(x==("__debug__" : Str))=false:=by decide)
  (he:xh [e1,.Lambda params body scope lpos] X.env=(false,eval e1 X.env)::xh [.Lambda params body scope lpos] X.env:=by rfl) (he2:xh [Expr.Lambda params body scope lpos] X.env=(false,eval (.Lambda params body scope lpos) X.env)::xh [] X.env:=by rfl)
  (hpl:(backTo pos (xh [Expr.Lambda params body scope lpos] X.env)).any (·.1)=false:=by rfl) :
  PD X G fr (.Call (.Name x ppos) [e1,.Lambda params body scope lpos] [] pos) (dFnC F t cix f1):=by
 obtain⟨t1,p1,q1⟩:=h1.drop;obtain⟨f,fd0,ps0,FN,hm,hk,hbd⟩:=hW;refine⟨_,Zlf FN hfn hr hg hm hk hbd (XB p1 (XB (Zpg M hq B.hfree hdef) X7 he2) he) hdb he hpl,fun σ Hf H ρ s d s' Q x1 x2 x3 x4 k=>?_⟩;obtain⟨d1,s1,a1,a2⟩:=Zx x4;obtain⟨cds,s2,b3,a4⟩:=Zx a2;obtain⟨a3,rfl⟩:=Wo b3;obtain⟨hn,a5⟩:=XA a4;obtain⟨cc,s3,a6,a7⟩:=Zx a5;obtain⟨hn2,a8⟩:=XA a7;obtain⟨rfl,rfl⟩:=ZJ a8;obtain⟨hn0,hn1⟩:=yJ.mp hn;refine q1 σ Hf H ρ s d1 _ _ x1 x2 x3 a1 λv1 jU H1 g1 jV rv1=>?_;obtain⟨tp,hP,htr,hhit⟩:=TG.get _ H1 jV;refine⟨tp,hP,htr,λcv h=>let ⟨c',z1,z2,_⟩:=hhit lpos cv h;⟨c',z1,z2⟩,λp c' fd Hm ⟨cl,pm,ctv,co,efd⟩ sl hp=>?_⟩;subst efd;obtain⟨stm,hc',ex⟩:=Zns TG jV hP sl;have gr:=Znt (o:=.ext (fnφ p (zT "<lambda>" q params body scope cl pm (.ref c') ctv))) g1.fh ex hp;have hcp:c'≠p:=λz=>by rw[z,hp]at hc';cases hc'
 obtain⟨cvs,l1,l2,l3⟩:=Zgt (x2.ext g1.ff) a3;intro base' cs;have C:CloAt base' cl scope N ps cvs:=B.cloAt cs co l1 l3;refine⟨W5 G t p c' (zT "<lambda>" q params body scope cl pm (.ref c') ctv) q cvs,jU,[d1,.clo t cds],_,d,_,Zph (X:=X) (.all (hbind cl pm (.ref c') ctv)) (fnKE S C (λs H st=>st.2) λA outer s H E hr=>hb base' p c' cl _ A outer s H E hr) hT,rfl,gr.fh,?_,⟨Gh.grow stm hp,Z1,by rw[Zu hcp];exact hc'⟩,a6,λv Hf3 H3 g3 st3 r3 fz=>?_⟩
 ·refine .cons (toC hn0 rv1) (.one (jx.mpr ⟨cvs,⟨rfl,rfl,rfl⟩,toCL hn1 l2⟩))
 ·have g3':=grC g3
  have gg:=(g1.trans gr).trans g3';have rr:=ofC hn2 r3;refine k v Hf3 H3 gg st3.1 rr λz=>?_;exact jn (g1.hh.trans gr.hh) rr.nofp (frC hn2 (fz z))
end
theorem boot_len:xj "len" = some (.builtin "len"):=by rfl
theorem boot_isinstance:xj "isinstance" = some (.builtin "isinstance"):=by rfl
theorem boot_all:xj "all" = some (.builtin "all"):=by rfl
theorem boot_any:xj "any" = some (.builtin "any"):=by rfl
theorem boot_max:xj "max" = some (.builtin "max"):=by rfl
theorem boot_min:xj "min" = some (.builtin "min"):=by rfl
theorem boot_sorted:xj "sorted" = some (.builtin "sorted"):=by rfl
theorem boot_tuple:xj "tuple" = some (.type "tuple"):=by rfl
theorem boot_list:xj "list" = some (.type "list"):=by rfl
theorem boot_int:xj "int" = some (.type "int"):=by rfl
theorem boot_bool:xj "bool" = some (.type "bool"):=by rfl
theorem boot_dict:xj "dict" = some (.type "dict"):=by rfl
noncomputable abbrev Z0:Gh->Prop:=λ_=>True
noncomputable def stL (K:qd)(p sa:Addr)(tr:Bool)(s:Pn)(H:Hp):Prop:=
 ∃a h,s.1=[a,h]/\H p=some (.lst [.ref sa,.int a,.int h])/\sa≠p/\ZT K H sa (s.2.map V.int)/\(tr=true->∃o,H sa=some o)/\(tr=false->∀H':Hp,ZT K H' sa (s.2.map V.int))
noncomputable def Jg (K:qd)(p sa:Addr)(tr:Bool):Gh where
 fp:=λb=>b=p
 rd:=λb=>b=p∨(tr=true/\b=sa)
 pen:=.ref p
 st:=stL K p sa tr
 mono:=λs H H' ⟨a,h,e0,e1,ne,sq,t1,t2⟩ k _ _=>by
  refine⟨a,h,e0,k p _ (.inl rfl) e1,ne,?_,λht=>?_,t2⟩
  ·cases tr with
   | false=>exact t2 rfl H'
   | true=>
    rcases sq with(q | ⟨o,q⟩) | q
    ·exact .inl (.inl (k sa _ (.inr ⟨rfl,rfl⟩) q))
    ·exact .inl (.inr ⟨o,k sa _ (.inr ⟨rfl,rfl⟩) q⟩)
    ·exact .inr q
  ·obtain⟨o,q⟩:=t1 ht
   exact⟨o,k sa o (.inr ⟨ht,rfl⟩) q⟩
 sub:=λb h=>.inl h
 dom:=λs H b ⟨a,h,e0,e1,ne,sq,t1,t2⟩ hb=>by
  rcases hb with rfl | ⟨ht,rfl⟩
  ·exact⟨_,e1⟩
  ·exact t1 ht
 ntp:=λs H b vs ⟨a,h,e0,e1,ne,sq,t1,t2⟩ hb z=>by
  rw[hb,e1]at z;cases z
noncomputable def Ue (K:qd):Gh->Prop:=λG=>∃p sa tr,G=Jg K p sa tr
noncomputable def Zgu (ns:List Int)(a:Int):Int:=if a<ns.length then ns.getD a.toNat 0 else if 0<ns.length then ns.getD (a*7 % ns.length).toNat 0 % 1000003+a*1000003 else 0
noncomputable def VN (c a:Int):Int:=
 if 10 ^ 18<=c then c else
  let x:=(c % 2147483647*48271+a*69621+11) % 2147483629
  let y:=(x*x+48271*x+a) % 2147483587
  y*2147483579+(y*y+69621*a) % 2147483579
noncomputable def X8 (m a h:Int)(ns:List Int):Int×Int:=if h<m then (a+1,VN (Zgu ns a) a)else (a,h)
noncomputable def WP:List D->M D:=λds s=>match ds,s with
 | [.pen,.int m],([a,h],ns)=>if 0<m/\m<1073741824/\0<=a then some (.int ((X8 m a h ns).2 % m),([(X8 m a h ns).1,(X8 m a h ns).2 / m],ns))else none
 | _,_=>none
noncomputable def Vs (s:Pn):Prop:=∃a h,s.1=[a,h]/\0<=a/\0<=h
theorem Zli (c a:Int)(ha:0<=a):0<=VN c a:=by
 unfold VN
 grind
theorem Znu (ok:Vs s)(h1:0<m)(h2:m<1073741824):∃r s',WP [.pen,.int m] s=some (.int r,s')/\0<=r/\r<m/\Vs s':=by
 obtain⟨a,h,e,ha,hh⟩:=ok;obtain⟨l,ns⟩:=s;subst e;refine⟨(X8 m a h ns).2 % m,([(X8 m a h ns).1,(X8 m a h ns).2 / m],ns),?_,yT _ (by omega),yz _ h1,⟨_,_,rfl,?_,?_⟩⟩
 ·show(if 0<m/\m<1073741824/\0<=a then _ else _)=_
  simp_all
 ·unfold X8
  split
  ·omega
  ·exact ha
 ·have:0<=(X8 m a h ns).2:=by
   unfold X8;split
   ·exact Zli _ _ ha
   ·exact hh
  exact Int.ediv_nonneg this (by omega)
noncomputable def Zgv (G:Gh)(ob own own':List Nat)(fr:Bool)(g:Zd->M Out):TS:=λE σ H=>∃kn jQ H0 ρ s out s',J G own kn jQ H0 σ H ρ/\G.st s H/\g ρ s=some (out,s')/\Post G ob own' kn jQ H0 fr out s' E
noncomputable def Zqi (K:qd)(t:TA):TE:=fun σ H Q=>t σ H λxs H1=>xs.length<=xg/\∀p,H1 p=none->K.lookup p=none->Q (.ref p) (Zp H1 p (.lst xs))
theorem Znv (h:PA X es t):PE X (.List es pos) (Zqi X.K t):=by
 intro jM s σ H Q I hq;refine wpAny_List_spliced (ZI (h pos jM s σ H _ I hq) λus s1 ⟨xs,H1,I1,r,z,q⟩=>⟨by rw[<-r.length];exact z,?_⟩);have hf:=I1.hok.fresh (qk _);have hk:X.K.lookup s1.heap.objs.size=none:=by
  cases e:X.K.lookup s1.heap.objs.size with
  | none=>rfl
  | some o=>
   have:=I1.kIn _ _ e;rw[qbH (qk _)]at this;cases this
 refine⟨.ref s1.heap.objs.size,Zp H1 s1.heap.objs.size (.lst xs),I1.laid (λb u e=>qj _ e) (qk _) ?_,rfl,q _ hf hk⟩;exact⟨z,us,0,r,qE _ rfl⟩
noncomputable def Ok {α:Type}(m:M α)(s:Pn)(Q:α->Pn->Prop):Prop:=∃a s',m s=some (a,s')/\Q a s'
theorem Ok.bind {m:M α}{k:α->M β}{Q:β->Pn->Prop}(h:Ok m s λa s1=>Ok (k a) s1 Q):Ok (Zm m k) s Q:=by
 obtain⟨a,s1,e,b,s2,e2,q⟩:=h;exact⟨b,s2,by unfold Zm;simp_all,q⟩
theorem Ok.ret {a:α}{Q:α->Pn->Prop}(h:Q a s):Ok (ZH a) s Q:=⟨a,s,rfl,h⟩
theorem Ok.eq {m:M α}{a:α}{Q:α->Pn->Prop}(e:m s=some (a,s'))(h:Q a s'):Ok m s Q:=⟨a,s',e,h⟩
theorem Ok.mono {m:M α}{Q Q':α->Pn->Prop}(h:Ok m s Q)(k:∀a s',Q a s'->Q' a s'):Ok m s Q':=let ⟨a,s',e,q⟩:=h;⟨a,s',e,k a s' q⟩
theorem Ok.of {o:Option α}{a:α}{Q:α->Pn->Prop}(e:o=some a)(h:Q a s):Ok (YV o) s Q:=⟨a,s,by unfold YV;rw[e],h⟩
theorem Ok.ite {α:Type}{c:Prop}[Decidable c]{m:M α}{s:Pn}{Q:α->Pn->Prop}(hc:c)(h:Ok m s Q):Ok (if c then m else ZP) s Q:=by simp_all
section
variable {ρ:Zd}{s:Pn}{Q:Out->Pn->Prop}{f:Zd->M D}{g1 g2:Zd->M Out}
theorem Ok.seq (h:Ok (g1 ρ) s λo s1=>match o with | .nx ρ'=>Ok (g2 ρ') s1 Q | .rt d=>Q (.rt d) s1 | .bk ρ'=>Q (.bk ρ') s1 | .ct ρ'=>Q (.ct ρ') s1):Ok (Ze g1 g2 ρ) s Q:=by
 refine Ok.bind (h.mono λo s1 q=>?_)
 cases o with
 | nx ρ'=>exact q
 | rt d=>exact .ret q
 | bk ρ'=>exact .ret q
 | ct ρ'=>exact .ret q
theorem Ok.next (h:Q (.nx ρ) s):Ok (Zg ρ) s Q:=.ret h
theorem Ok.sset (h:Ok (f ρ) s λd s1=>Q (.nx (ρ.set i (some d))) s1):Ok (Ya i f ρ) s Q:=.bind (h.mono λ_ _ q=>.ret q)
theorem Ok.sown (h:Ok (f ρ) s λd s1=>JM d=true/\Q (.nx (ρ.set i (some d))) s1):Ok (UC i f ρ) s Q:=.bind (h.mono λ_ _ q=>.ite q.1 (.ret q.2))
theorem Ok.sret (h:Ok (f ρ) s λd s1=>Q (.rt d) s1):Ok (Zz f ρ) s Q:=.bind (h.mono λ_ _ q=>.ret q)
theorem Ok.sif (h:Ok (c ρ) s λb s1=>if b=true then Ok (g1 ρ) s1 Q else Ok (g2 ρ) s1 Q):Ok (ZU c g1 g2 ρ) s Q:=by
 refine .bind (h.mono λb s1 q=>?_)
 cases b with
 | true=>simp_all
 | false=>simp_all
theorem Ok.sapp (hi:(ρ[i]?).bind id=some (.lst ds))(hl:ds.length<xg)(h:Ok (f ρ) s λd s1=>Q (.nx (ρ.set i (some (.lst (ds ++ [d]))))) s1):Ok (UE i f ρ) s Q:=by
 refine .bind (h.mono λd s1 q=>?_);simp only[hi];exact .ite hl (.ret q)
theorem Ok.spar (h:Ok (fs ρ) s λds s1=>∃a b,ds=[a,b]/\Xg a=true/\Xg b=true/\Q (.nx ((ρ.set i (some a)).set j (some b))) s1):Ok (Vr i j fs ρ) s Q:=by
 refine .bind (h.mono λd s1 q=>?_);obtain⟨a,b,rfl,n1,n2,q⟩:=q;exact .ite (by simp_all) (.ret q)
theorem Ok.loop (I:Nat->Zd->Pn->Prop):∀(ds:List D) (k:Nat) (ρ:Zd) (s:Pn),I k ρ s->
  (∀i d ρ s,ds[i]?=some d->I (k+i) ρ s->∃ρ1,τ d ρ=some ρ1/\Ok (body ρ1) s λo s'=>∃ρ',o=.nx ρ'/\I (k+i+1) ρ' s')->Ok (Wu τ body ds ρ) s λo s'=>∃ρ',o=.nx ρ'/\I (k+ds.length) ρ' s'
 | [],k,ρ,s,h0,_=>.ret ⟨ρ,rfl,h0⟩
 | d::ds,k,ρ,s,h0,h=>by
  obtain⟨ρ1,e1,ok⟩:=h 0 d ρ s rfl h0;refine Ok.bind (.of e1 (.bind (ok.mono λo s' q=>?_)));obtain⟨ρ',rfl,q⟩:=q;refine(Ok.loop I ds (k+1) ρ' s' q λi d' ρ2 s2 e2 q2=>?_).mono λo s2 q2=>?_
  ·have:=h (i+1) d' ρ2 s2 (by simpa using e2) (by grind)
   rw[show k+(i+1)+1=k+1+i+1 by omega]at this;exact this
  ·rw[show k+(d::ds).length=k+1+ds.length by simp;omega]
   exact q2
theorem Ok.sfor (I:Nat->Zd->Pn->Prop)(h:Ok (fi ρ) s λds s1=>I 0 ρ s1/\(∀i d ρ s,ds[i]?=some d->I i ρ s->∃ρ1,τ d ρ=some ρ1/\Ok (body ρ1) s λo s'=>∃ρ',o=.nx ρ'/\I (i+1) ρ' s')/\
  ∀ρ' s',I ds.length ρ' s'->Q (.nx ρ') s'):Ok (Yv fi τ body ρ) s Q:=by
 refine .bind (h.mono λds s1 q=>?_);obtain⟨q0,q1,q2⟩:=q;refine(Ok.loop I ds 0 ρ s1 q0 λi d ρ s e=>?_).mono λo s' q=>?_
 ·rw[qb1];exact q1 i d ρ s e
 ·obtain⟨ρ',rfl,q⟩:=q
  simp_all
end
section
variable {ρ ρ':Zd}{s s1 s2:Pn}{f f2:Zd->M D}{g1 g2:Zd->M Out}{d e c:D}{r:Option (Out×Pn)}
theorem YL (hl:ds.length=k)(h:g (ds.map some++qp (n-k) none) s=some (.rt d,s1)):runB n k g ds s=some (d,s1):=by
 unfold runB;rw[if_pos hl];unfold Zm;rw[h];rfl
theorem XG (h:f ρ s=some (d,s1)):Zz f ρ s=some (.rt d,s1):=by unfold Zz Zm;rw[h];rfl
theorem ZM (h:g1 ρ s=some (.rt d,s1)):Ze g1 g2 ρ s=some (.rt d,s1):=by unfold Ze Zm;rw[h];rfl
theorem Z2 (h:g1 ρ s=some (.nx ρ',s1))(h2:g2 ρ' s1=r):Ze g1 g2 ρ s=r:=by unfold Ze Zm;simp_all
theorem WN (h:f ρ s=some (d,s1)):Ya i f ρ s=some (.nx (ρ.set i (some d)),s1):=by unfold Ya Zm;rw[h];rfl
theorem Zn (h1:f ρ s=some (d,s1))(h2:f2 ρ s1=some (e,s2))(h:g d e=some c):Zc g f f2 ρ s=some (c,s2):=by
 unfold Zc Zm;rw[h1];simp;rw[h2];simp;unfold YV;rw[h]
theorem YB (h1:fs ρ s=some (ds,s1))(h:g ds=some c):ZB g fs ρ s=some (c,s1):=by
 unfold ZB Zm;rw[h1];simp;unfold YV;rw[h]
theorem YA (h1:fs ρ s=some (ds,s1))(h:F ds s1=q):ZD F fs ρ s=q:=by
 unfold ZD Zm;simp_all
theorem Zk (h1:f ρ s=some (d,s1))(h2:fs ρ s1=some (ds,s2)):Zb f fs ρ s=some (d::ds,s2):=by
 unfold Zb Zm;rw[h1];simp;rw[h2];rfl
theorem Wh (h1:fs ρ s=some (ds,s1))(hl:ds.length<=xg):Z9 fs ρ s=some (.tup ds,s1):=by
 unfold Z9 Zm;rw[h1];simp;rw[if_pos hl];rfl
theorem BD (h1:fs ρ s=some (ds,s1))(hl:ds.length<=xg):X0 fs ρ s=some (.lst ds,s1):=by
 unfold X0 Zm;rw[h1];simp;rw[if_pos hl];rfl
theorem ZW (h:f ρ s=some (.bl b,s1)):Zo f ρ s=some (b,s1):=by unfold Zo Zm;rw[h];rfl
theorem XW (h:fb ρ s=some (b,s1)):Yg fb ρ s=some (!b,s1):=by unfold Yg Zm;rw[h];rfl
end
theorem ZeW (r:D->Zd)(b:D->Bool)(c:D->D):∀(ds:List D),(∀d∈ds,τ d ρ=some (r d)/\ft (r d) s=some (b d,s)/\(b d=true->fe (r d) s=some (c d,s)))->
  U7 τ ft fe ρ ds s=some ((ds.filter b).map c,s)
 | [],_=>rfl
 | d::ds,h=>by
  obtain⟨h1,h2,h3⟩:=h d (by simp);have ih:=ZeW r b c ds λd' m=>h d' (by simp[m]);unfold U7;simp only[Zm,YV,h1,h2]
  cases hb:b d with
  | true=>simp[Zm,h3 hb,ih,hb,ZH]
  | false=>simp_all
theorem ZdM (P:D->Prop)(I:Pn->Prop):∀(ds:List D) (s:Pn),I s->(∀d∈ds,∀s,I s->∃ρ1,τ d ρ=some ρ1/\Ok (fe ρ1) s λc s'=>P c/\I s')->
  Ok (U7 τ Yo fe ρ ds) s λr s'=>r.length=ds.length/\(∀c∈r,P c)/\I s'
 | [],s,hs,_=>.ret ⟨rfl,by simp,hs⟩
 | d::ds,s,hs,h=>by
  obtain⟨ρ1,e1,ok⟩:=h d (by simp) s hs;refine .bind (.of e1 (.bind (.ret ?_)));refine .bind (ok.mono λc s1 q=>.bind ((ZdM P I ds s1 q.2 λd' m=>h d' (by simp[m])).mono λr s2 q2=>.ret ⟨by simp[q2.1],?_,q2.2.2⟩));simp_all
end TF
namespace TP
open L2 TF
noncomputable def ZhL:Zd->M Out:=(Ze (UC 1 (X0 Zf))
 (Ze (Yv (Yn (ZB Yw (Zb (Za 0) Zf))) (Zy 2)
 (Ze (Yv (VY (Zc Yr (Za 2) (dC (.int 1))) (ZB Yw (Zb (Za 0) Zf))) (Zy 3)
 (Ze (UE 1 (fun ρ=>(Z9 (Zb (Zc Zh (Za 0) (Za 2)) (Zb (Zc Zh (Za 0) (Za 3)) Zf))) (YH [1] ρ)))
 Zg))
 Zg))
 (Ze (Zz (Za 1))
 Zg)))
noncomputable def Zar:List D->M D:=runB 4 1 ZhL
noncomputable def ZbG:Zd->M Out:=(Ze (Zz (Zc YR (Z9 (Zb (ZB J0 (Zb (Za 1) (Zb (Za 2) Zf))) (Zb (ZB BJ (Zb (Za 1) (Zb (Za 2) Zf))) Zf))) (Za 0)))
 Zg)
noncomputable def WM:List D->M D:=runB 3 3 ZbG
noncomputable def Zpi:Zd->M Out:=(Ze (Zz (Z3 [none,some 0,some 1] (Yn (Zc Zh (Za 0) (dC (.int 0)))) (Zy 0) (Zo (ZD WM (Zb (Zc Zh (Za 1) (dC (.int 1))) (Zb (Za 2) (Zb (Za 0) Zf))))) (Za 0)))
 Zg)
noncomputable def Uq:List D->M D:=runB 2 2 Zpi
noncomputable def Zet:Zd->M Out:=(Ze (Zz (ZB Zlc (Zb (Z3 [none] (Y2 (Zc Zh (Za 0) (dC (.int 1)))) (Zy 0) Yo (Z9 (Zb (Za 0) (Zb (dC (.bl true)) Zf)))) Zf)))
 Zg)
noncomputable def Ju:List D->M D:=runB 1 1 Zet
noncomputable def Za3:Zd->M Out:=(Ze (ZU (Zo (Zc Jm (Za 0) (Zc dPow (dC (.int 10)) (dC (.int 18)))))
 (Ze (Zz (Za 0))
 Zg)
 Zg)
 (Ze (Ya 2 (Zc Ud (Zc Yr (Zc Yr (Zc UF (Zc Ud (Za 0) (dC (.int 2147483647))) (dC (.int 48271))) (Zc UF (Za 1) (dC (.int 69621)))) (dC (.int 11))) (dC (.int 2147483629))))
 (Ze (Ya 2 (Zc Ud (Zc Yr (Zc Yr (Zc UF (Za 2) (Za 2)) (Zc UF (dC (.int 48271)) (Za 2))) (Za 1)) (dC (.int 2147483587))))
 (Ze (Zz (Zc Yr (Zc UF (Za 2) (dC (.int 2147483579))) (Zc Ud (Zc Yr (Zc UF (Za 2) (Za 2)) (Zc UF (dC (.int 69621)) (Za 1))) (dC (.int 2147483579)))))
 Zg))))
noncomputable def Jw:List D->M D:=runB 3 2 Za3
noncomputable def ZhM:Zd->M Out:=(Ze (Ya 2 (ZD WP (Zb (Za 0) (Zb (Zc Yr (Za 1) (dC (.int 1))) Zf))))
 (Ze (Vr 3 4 (Zb (ZD WP (Zb (Za 0) (Zb (dC (.int 4)) Zf))) (Zb (Zc Yr (dC (.int 1)) (ZD WP (Zb (Za 0) (Zb (dC (.int 3)) Zf)))) Zf)))
 (Ze (Ya 5 (Z3 [none,some 0] (Yn (Za 2)) (Zy 0) Yo (ZD WP (Zb (Za 1) (Zb (dC (.int 2)) Zf)))))
 (Ze (UC 6 (X0 Zf))
 (Ze (Yv (Yn (Za 2)) (Zy 7)
 (Ze (Yv (VY (Zc Yr (Za 7) (dC (.int 1))) (Za 2)) (Zy 8)
 (Ze (Ya 9 (fun ρ=>(Zc XR (ZD WP (Zb (Za 0) (Zb (dC (.int 4)) Zf))) (Za 4)) (YH [6] ρ)))
 (Ze (ZU (W4 (Zo (Zc YD (Za 3) (dC (.int 0)))) (W4 (Zo (Zc YD (Zc Zh (Za 5) (Za 7)) (dC (.int 1)))) (Zo (Zc YD (Zc Zh (Za 5) (Za 8)) (dC (.int 1))))))
 (Ze (Ya 9 (fun ρ=>(dC (.bl true)) (YH [6] ρ)))
 Zg)
 Zg)
 (Ze (ZU (Zo (Zc YD (Za 3) (dC (.int 1))))
 (Ze (Ya 9 (fun ρ=>(Ug (Zc YD (Zc XD (Za 8) (Za 7)) (dC (.int 1))) (Zc YD (Zc XD (Za 8) (Za 7)) (Zc XD (Za 2) (dC (.int 1))))) (YH [6] ρ)))
 Zg)
 Zg)
 (Ze (ZU (Zo (Za 9))
 (Ze (UE 6 (fun ρ=>(Z9 (Zb (Za 7) (Zb (Za 8) Zf))) (YH [6] ρ)))
 Zg)
 Zg)
 Zg)))))
 Zg))
 (Ze (Zz (Z9 (Zb (Za 2) (Zb (ZB U2 (Zb (Za 6) Zf)) Zf))))
 Zg))))))
noncomputable def Zas:List D->M D:=runB 10 2 ZhM
noncomputable def ZcS:Zd->M Out:=(Ze (Zz (Zc YR (Z9 (Zb (ZB J0 (Zb (Za 1) (Zb (Za 2) Zf))) (Zb (ZB BJ (Zb (Za 1) (Zb (Za 2) Zf))) Zf))) (Zc Zh (Za 0) (dC (.int 1)))))
 Zg)
noncomputable def Vc:List D->M D:=runB 3 3 ZcS
local macro_rules | `(tactic| walk_at "ev")=>`(tactic| simp[runB,Ze,Zz,Ya,Zg,ZU,Zo,Zc,ZB,Zb,Zf,Z9,X0,Za,dC,ZD,Zm,ZH,YV,Yr,XD,dI,YH,Wg,Ug,Vq,BS,W4,Yi,Yg])
noncomputable def ZQ (p:Nat×Nat):D:=.tup [.int p.1,.int p.2]
noncomputable def Zt (n:Nat)(jL:Qa):D:=.tup [.int n,.tup (jL.map ZQ)]
noncomputable def tied (jL:Qa)(a b:Nat):Bool:=decide ((min a b,max a b)∈jL)
theorem Zlj (p q:Nat×Nat):ZO (ZQ p) (ZQ q)=decide (p=q):=by
 simp only[ZQ,ZO,XM]
 grind
theorem ZjK (p:Nat×Nat)(jL:Qa):Xx (ZQ p) (jL.map ZQ)=decide (p∈jL):=by
 unfold Xx
 induction jL with
 | nil=>simp
 | cons t ts ih=>
  rw[qO,yL,ih,Zlj]
  grind
theorem ZcT:∀jL:Qa,YW (jL.map ZQ)=true
 | []=>by rfl
 | t::ts=>by simp[YW,ZQ,Zs,ZcT ts]
theorem ZdN:∀jL:Qa,Xh (jL.map ZQ)<=1
 | []=>by simp[Xh]
 | t::ts=>by
  have:=ZdN ts;simp only[qO,Xh,ZQ,ZX];omega
theorem Zlk (p:Nat×Nat):ZX (ZQ p)=1:=by rfl
theorem ZhN (p:Nat×Nat):Zs (ZQ p)=true:=by rfl
theorem ZhO (p:Nat×Nat)(jL:Qa):Xi (ZQ p) (jL.map ZQ)=true:=by
 have:=ZdN jL;simp[Xi,ZhN,ZcT,Zlk];omega
theorem ZeX (p:Nat×Nat)(jL:Qa):YR (ZQ p) (.tup (jL.map ZQ))=some (.bl (decide (p∈jL))):=by
 have:Je (ZQ p) (.tup (jL.map ZQ))=some (decide (p∈jL)):=by
  show(if Xi (ZQ p) (jL.map ZQ)=true then some (Xx (ZQ p) (jL.map ZQ))else none)=_;rw[if_pos (ZhO p jL),ZjK]
 unfold YR;simp_all
theorem V6 (x:α)(xs:List α):Xu (x::xs) 0=some x:=VF rfl
theorem V7 (x y:α)(xs:List α):Xu (x::y::xs) 1=some y:=VF rfl
theorem two_le:2<=xg:=by decide
theorem ZbH (a b:Nat):D.tup [.int (if b<a then (b:Int)else a),.int (if a<b then (b:Int)else a)]=ZQ (min a b,max a b):=by
 unfold ZQ
 grind
theorem Zgw (jL:Qa)(a b:Nat)(s:Pn):WM [.tup (jL.map ZQ),.int a,.int b] s=some (.bl (tied jL a b),s):=by
 simp[WM,ZbG,runB,Ze,Zz,Zc,ZB,Zb,Zf,Z9,Za,Zm,ZH,YV,J0,BJ,two_le,ZbH,ZeX,tied]
theorem ZcU (n:Nat)(jL:Qa)(a b:Nat)(s:Pn):Vc [Zt n jL,.int a,.int b] s=some (.bl (tied jL a b),s):=by
 simp[Vc,ZcS,runB,Ze,Zz,Zc,ZB,Zb,Zf,Z9,Za,dC,Zm,ZH,YV,J0,BJ,two_le,ZbH,Zt,Zh,V7,ZeX,tied]
theorem XX (r:D->Zd)(b:D->Bool)(c:D->D)(hi:fi ρ s=some (ds,s))(hl:ds.length<=xg)
  (h:∀d∈ds,τ d (Wg src ρ)=some (r d)/\ft (r d) s=some (b d,s)/\(b d=true->fe (r d) s=some (c d,s))):Z3 src fi τ ft fe ρ s=some (.lst ((ds.filter b).map c),s):=by
 unfold Z3;simp only[Zm,hi,hl,if_true,ZeW r b c ds h,ZH]
theorem ZjL (n:Nat)(h:n<=100000):-(2 ^ 62)<=(n:Int)/\(n:Int)<2 ^ 62:=by omega
theorem X4:xg=16777216:=by decide
theorem XU {n:Nat}(h:f ρ s=some (.int n,s))(hn:n<=100000):Yn f ρ s=some (Ye 0 n,s):=by
 unfold Yn;simp only[Zm,h];rw[if_pos (ZjL n hn)];rfl
theorem Zbn {a n:Nat}(h:f ρ s=some (.int a,s))(h2:g ρ s=some (.int n,s))(ha:a<=100000)(hn:n<=100000):VY f g ρ s=some (Ye a (n-a),s):=by
 unfold VY;simp only[Zm,h,h2];rw[if_pos (by omega),show((n:Int)-(a:Int)).toNat=n-a by omega];rfl
theorem WC (lo:Int)(n:Nat):(Ye lo n).length=n:=by simp[Ye]
theorem Jx {lo:Nat}(h:(Ye lo n)[i]?=some d):i<n/\d=.int ((lo+i:Nat):Int):=by
 have hi:=by
  have:=(qH.mp h).1;simpa[Ye]using this
 unfold Ye at h;simp_all
theorem Zat (h:d∈Ye 0 n):∃i:Nat,i<n/\d=.int (i:Int):=by
 obtain⟨i,hi,e⟩:=qm.mp h;exact⟨i,by simp_all,by simp_all⟩
theorem dRange0 (n:Nat):Ye 0 n=(qe n).map λ(i:Nat)=>D.int (i:Int):=by
 unfold Ye;simp
noncomputable def Z7:D->Nat
 | .int i=>i.toNat
 | _=>0
theorem ZcV (n:Nat)(p:Nat->Bool):((Ye 0 n).filter λd=>p (Z7 d)).map (λd=>d)=((qe n).filter p).map λ(i:Nat)=>D.int (i:Int):=by
 rw[dRange0,zQ];simp;congr 1
theorem jz {m:M α}{a:α}(h:Ok m s λb t=>b=a/\t=s'):m s=some (a,s'):=by
 obtain⟨b,t,e,rfl,rfl⟩:=h;exact e
theorem Bx (hn:n<=100000):(Ye 0 n).length<=xg:=by rw[WC,X4];omega
theorem Zpj (n:Nat)(jL:Qa)(p:Nat)(s:Pn)(hn:n<=100000):Z3 [none,some 0,some 1] (Yn (Zc Zh (Za 0) (dC (.int 0)))) (Zy 0) (Zo (ZD WM (Zb (Zc Zh (Za 1) (dC (.int 1))) (Zb (Za 2) (Zb (Za 0) Zf))))) (Za 0) [some (Zt n jL),some (.int p)] s
   = some (.lst (((qe n).filter λo=>tied jL p o).map λ(i:Nat)=>D.int (i:Int)),s):=by
 rw[<-ZcV];refine XX (λd=>[some d,some (Zt n jL),some (.int p)]) (λd=>tied jL p (Z7 d)) (λd=>d) (XU (Zn rfl rfl (by rfl)) hn) (Bx hn) ?_;intro d hd;obtain⟨i,hi,rfl⟩:=Zat hd;refine⟨rfl,ZW (YA (Zk (Zn rfl rfl (by rfl)) (Zk rfl (Zk rfl rfl))) ?_),λ_=>rfl⟩;exact Zgw jL p i s
theorem Znw (n:Nat)(jL:Qa)(p:Nat)(s:Pn)(hn:n<=100000):Uq [Zt n jL,.int p] s=some (.lst (((qe n).filter λo=>tied jL p o).map λ(i:Nat)=>D.int (i:Int)),s):=
 YL rfl (ZM (XG (Zpj n jL p s hn)))
noncomputable def BW (row:D)(ds:List D):Prop:=row=.lst ds∨row=.tup ds
theorem BW.len (h:BW row ds):Yw [row]=some (.int ds.length):=by
 rcases h with rfl | rfl <;> rfl
theorem BW.ix (h:BW row ds)(hi:i<ds.length):Zh row (.int (i:Int))=some (ds.getD i .non):=by
 have e:ds[i]?=some (ds.getD i .non):=by simp[hi]
 rcases h with rfl | rfl <;> exact VF e
noncomputable def X2 (n i:Nat):Qa:=(qe i).flatMap λa=>(qe (n-(a+1))).map λk=>(a,a+1+k)
noncomputable def Wv (n:Nat):Qa:=X2 n n
theorem Zbo (n i:Nat):X2 n (i+1)=X2 n i++(qe (n-(i+1))).map λk=>(i,i+1+k):=by
 unfold X2;rw[zR];simp
theorem Za4 (n:Nat):∀i,(X2 n i).length<=i*n
 | 0=>by simp[X2]
 | i+1=>by
  have:=Za4 n i;rw[Zbo,zC,qf,qM]
  grind
noncomputable def Jn (ds:List D)(p:Nat×Nat):D:=.tup [ds.getD p.1 .non,ds.getD p.2 .non]
theorem Zfz (n i j:Nat)(hn:n<=1000)(hi:i<n)(hj:j<=n):(X2 n i).length+j<xg:=by
 have h1:=Za4 n i;have h2:i*n<=1000*1000:=yF (by omega) hn;rw[X4];omega
theorem Zgx (row:D)(ds:List D)(h:BW row ds)(hn:ds.length<=1000)(s:Pn):Zar [row] s=some (.lst ((Wv ds.length).map (Jn ds)),s):=by
 refine YL rfl (jz ?_);refine Ok.seq (.sown (.eq (a:=.lst []) rfl ⟨rfl,?_⟩));show Ok _ s _;refine Ok.seq (.sfor (λi ρ s'=>s=s'/\∃o2 o3,ρ=[some row,some (.lst ((X2 ds.length i).map (Jn ds))),o2,o3]) (.eq (XU (YB (Zk rfl rfl) h.len) (by omega)) ⟨⟨rfl,none,none,rfl⟩,λi d ρ s' hd hI=>?_,fun ρ' s' hI=>?_⟩))
 ·obtain⟨rfl,o2,o3,rfl⟩:=hI
  obtain⟨hi,rfl⟩:=Jx hd;refine⟨_,rfl,?_⟩;refine Ok.seq (.sfor (λj ρ s'=>s=s'/\∃o3,ρ=[some row,some (.lst ((X2 ds.length i).map (Jn ds)++(qe j).map λk=>Jn ds (i,i+1+k))),some (.int ((0+i:Nat):Int)),o3]) (.eq (Zbn (a:=i+1) (Zn (d:=.int ((0+i:Nat):Int)) (e:=.int 1) (c:=.int ((i+1:Nat):Int)) rfl rfl (by simp[Yr])) (YB (Zk rfl rfl) h.len) (by omega) (by omega)) ⟨⟨rfl,o3,by simp⟩,λj d ρ s' hd hJ=>?_,fun ρ' s' hJ=>?_⟩))
  ·obtain⟨rfl,o3,rfl⟩:=hJ
   obtain⟨hj,rfl⟩:=Jx hd;refine⟨_,rfl,?_⟩;refine Ok.seq (.sapp (ds:=(X2 ds.length i).map (Jn ds)++(qe j).map λk=>Jn ds (i,i+1+k)) rfl (by simp only[zC,qf,qM];exact Zfz _ _ _ hn hi (by omega)) (.eq (Wh (Zk (Zn (d:=row) (e:=.int ((0+i:Nat):Int)) rfl rfl (by rw[qb1];exact h.ix hi)) (Zk (Zn (d:=row) (e:=.int ((i+1+j:Nat):Int)) rfl rfl (h.ix (by omega))) rfl)) two_le) ?_));refine Ok.next ⟨_,rfl,rfl,some (.int ((i+1+j:Nat):Int)),?_⟩;rw[zR,qV,<-yC];rfl
  ·obtain⟨rfl,o3',rfl⟩:=hJ
   refine Ok.next ⟨_,rfl,rfl,some (.int ((0+i:Nat):Int)),o3',?_⟩;rw[Zbo,qV,qw,WC];rfl
 ·obtain⟨rfl,o2,o3,rfl⟩:=hI
  refine Ok.seq (.sret (.eq rfl ⟨?_,rfl⟩));rw[WC];rfl
noncomputable def W6 (p:Nat×Nat):List Yc:=[.inl (p.1:Int),.inl (p.2:Int)]
theorem Zll (h:W6 p=W6 q):p=q:=by
 simp only[W6]at h
 grind
noncomputable def Xa (ke:List (List Yc×V))(jL:Qa):List (List Yc×V):=jL.foldl (λke p=>Y5 ke (W6 p) (.bl true)) ke
theorem ZeY:∀(jL:Qa) (ke:List (List Yc×V)),Uy ke (jL.map λp=>D.tup [ZQ p,.bl true])=some (Xa ke jL)
 | [],ke=>rfl
 | t::ts,ke=>by
  exact ZeY ts _
theorem Zgy (p:Nat×Nat):∀(jL:Qa) (ke:List (List Yc×V)),(YX (Xa ke jL) (W6 p)).isSome=(decide (p∈jL)||(YX ke (W6 p)).isSome)
 | [],ke=>by simp[Xa]
 | t::ts,ke=>by
  have ih:=Zgy p ts (Y5 ke (W6 t) (.bl true));have e:Xa ke (t::ts)=Xa (Y5 ke (W6 t) (.bl true)) ts:=rfl;rw[e,ih,ZkP];by_cases h:p=t
  ·simp_all
  ·have hk:=λz=>h (Zll z)
   simp_all
theorem ZeZ (n:Nat)(jL:Qa)(s:Pn)(hl:jL.length<=100000):Ju [Zt n jL] s=some (.dt (Xa [] jL),s):=by
 have hc:Z3 [none] (Y2 (Zc Zh (Za 0) (dC (.int 1)))) (Zy 0) Yo (Z9 (Zb (Za 0) (Zb (dC (.bl true)) Zf))) [some (Zt n jL)] s=some (.lst ((jL.map ZQ).map λd=>D.tup [d,.bl true]),s):=by
  have q:=XX (src:=[none]) (fi:=Y2 (Zc Zh (Za 0) (dC (.int 1)))) (τ:=Zy 0) (ft:=Yo) (fe:=Z9 (Zb (Za 0) (Zb (dC (.bl true)) Zf))) (ρ:=[some (Zt n jL)]) (s:=s) (λd=>[some d]) (λ_=>true) (λd=>D.tup [d,.bl true])
   (by rfl) (by rw[qf,X4];omega)
   (λd hd=>⟨rfl,rfl,λ_=>Wh (Zk rfl (Zk rfl rfl)) two_le⟩)
  have q2:(jL.map ZQ).filter (λ_=>true)=jL.map ZQ:=yp.mpr (by simp);rw[q,q2]
 refine YL rfl (ZM (XG (YB (Zk hc rfl) ?_)));rw[qw];show(if ((jL.map ((λd=>D.tup [d,.bl true])∘ZQ)).length<=xg)then (Uy [] _).map D.dt else none)=_;rw[if_pos (by rw[qf,X4];omega)];have e:=ZeY jL [];show(Uy [] (jL.map λp=>D.tup [ZQ p,.bl true])).map D.dt=_;rw[e];rfl
theorem Zgz (h:p∈X2 n i):p.1<i/\p.1<p.2/\p.2<n:=by
 obtain⟨a,ha,h⟩:=List.mem_flatMap.mp h;obtain⟨k,hk,rfl⟩:=qm.mp h;simp at ha hk
 grind
theorem ZjM (h:p∈Wv n):Jn (Ye 0 n) p=ZQ p:=by
 obtain⟨h1,h2,h3⟩:=Zgz h;have g:∀i,i<n->(Ye 0 n).getD i .non=.int (i:Int):=λi hi=>by
  rw[dRange0];simp[hi]
 unfold Jn ZQ;rw[g _ h1,g _ h3]
theorem ZgA (s:Pn)(hn:n<=1000):Zar [.lst (Ye 0 n)] s=some (.lst ((Wv n).map ZQ),s):=by
 rw[Zgx _ _ (.inl rfl) (by rw[WC];exact hn) s,WC];congr 3;exact qQ λp hp=>ZjM hp
theorem Zb3 {n:Nat}(h:f ρ s=some (.int n,s))(hn:n<=1000):Zaq f ρ s=some (.lst (Ye 0 n),s):=by
 unfold Zaq Zm;rw[h];show(if -(2 ^ 62)<=(n:Int)/\(n:Int)<=2 ^ 24 then ZH (D.lst (Ye 0 (n:Int).toNat))else ZP) s=_;rw[if_pos (by omega)];rfl
theorem Zlm (n:Nat)(hn:n<=1000):(Wv n).length<=1000000:=by
 have h1:=Za4 n n;have h2:=yF hn hn;unfold Wv;omega
theorem ZfA (l:Qa)(b:D->Bool)(q:Nat×Nat->Bool)(h:∀p,b (ZQ p)=q p):((l.map ZQ).filter b).map (λd=>d)=(l.filter q).map ZQ:=by
 rw[zQ,List.map_id'];congr 1;exact z8 λp _=>h p
noncomputable def nat2:D->Nat×Nat
 | .tup [a,b]=>(Z7 a,Z7 b)
 | _=>(0,0)
end TP
namespace TF
open L2
theorem Zdg:∀(l:List D),(∀d∈l,ZX d<=n)->Xh l<=n
 | [],_=>by simp[Xh]
 | d::l,h=>by
  have:=h d (by simp);have:=Zdg l λx m=>h x (by simp[m]);simp only[Xh];omega
theorem Ok.runB (hl:ds.length=k)(h:Ok (g (ds.map some++qp (n-k) none)) s λo s'=>match o with | .rt d=>Q d s' | .nx _=>Q .non s' | _=>False):Ok (runB n k g ds) s Q:=by
 unfold TF.runB;rw[if_pos hl];refine .bind (h.mono λo s' q=>?_)
 cases o with
 | rt d=>exact .ret q
 | nx ρ=>exact .ret q
 | bk ρ=>exact q.elim
 | ct ρ=>exact q.elim
theorem Ok.band (h:Ok (f ρ) s λb s1=>if b=true then Ok (g ρ) s1 Q else Q false s1):Ok (W4 f g ρ) s Q:=by
 refine .bind (h.mono λb s1 q=>?_)
 cases b with
 | true=>simp_all
 | false=>exact .ret (by simp_all)
theorem Ok.fn (h1:fs ρ s=some (ds,s1))(h:Ok (F ds) s1 Q):Ok (ZD F fs ρ) s Q:=by
 obtain⟨a,s',e,q⟩:=h;exact⟨a,s',YA h1 e,q⟩
theorem Ok.draw {m:Nat}(ok:Vs s)(h1:fs ρ s=some ([.pen,.int (m:Int)],s))(hm:0<m)(hm2:m<1073741824)(h:∀(r:Nat) s',r<m->Vs s'->Q (.int (r:Int)) s'):Ok (ZD WP fs ρ) s Q:=by
 obtain⟨r,s1,e,r0,r1,ok1⟩:=Znu ok (show 0<(m:Int) by omega) (show(m:Int)<1073741824 by omega);obtain⟨n,rfl⟩:=qbl r0;exact .fn h1 (.eq e (h n s1 (by omega) ok1))
theorem Ok.op (h:Ok (f ρ) s λd s1=>Ok (f2 ρ) s1 λe s2=>∃c,g d e=some c/\Q c s2):Ok (Zc g f f2 ρ) s Q:=
 .bind (h.mono λd s1 q=>.bind (q.mono λe s2 q=>let ⟨c,e1,q⟩:=q;.of e1 q))
theorem Ok.cons (h:Ok (f ρ) s λd s1=>Ok (fs ρ) s1 λds s2=>Q (d::ds) s2):Ok (Zb f fs ρ) s Q:=
 .bind (h.mono λd s1 q=>.bind (q.mono λe s2 q=>.ret q))
theorem Ok.nil (h:Q [] s):Ok (Zf ρ) s Q:=.ret h
theorem Ok.comp (P:D->Prop)(I:Pn->Prop)(hi:fi ρ s=some (ds,s))(hl:ds.length<=xg)(h0:I s)
  (hb:∀d∈ds,∀s,I s->∃ρ1,τ d (Wg src ρ)=some ρ1/\Ok (fe ρ1) s λc s'=>P c/\I s') (hq:∀r s',r.length=ds.length->(∀c∈r,P c)->I s'->Q (.lst r) s'):Ok (Z3 src fi τ Yo fe ρ) s Q:=by
 refine .bind (.eq hi ?_);exact .ite hl (.bind ((ZdM P I ds s h0 hb).mono λr s' q=>.ret (hq r s' q.1 q.2.1 q.2.2)))
end TF
namespace TP
open L2 TF
theorem Za5:p∈Wv n↔p.1<p.2/\p.2<n:=by
 constructor
 ·intro h;exact(Zgz h).2
 ·intro ⟨h1,h2⟩
  refine List.mem_flatMap.mpr ⟨p.1,by simp;omega,qm.mpr ⟨p.2-(p.1+1),by simp;omega,?_⟩⟩
  grind
theorem Zaf (h:(Ye 0 n)[i]?=some d):i<n/\d=.int (i:Int):=by
 have:=Jx h;simp_all
noncomputable def IsWeb (n:Nat)(jL:Qa):Prop:=jL.Sublist (Wv n)
theorem IsWeb.mem (h:IsWeb n jL)(hp:p∈jL):p.1<p.2/\p.2<n:=Za5.mp (h.subset hp)
theorem IsWeb.len (h:IsWeb n jL)(hn:n<=24):jL.length<=576:=by
 have h1:=h.length_le;have h2:=Za4 n n;have h3:=yF hn hn;unfold Wv at h1;omega
theorem IsWeb.filter (f:Nat×Nat->Bool):IsWeb n ((Wv n).filter f):=qY
theorem Vf (h:a<b):tied jL a b=decide ((a,b)∈jL):=by
 unfold tied
 grind
theorem JB (jL:Qa)(a b:Nat):tied jL a b=tied jL b a:=by
 unfold tied
 grind
theorem W7:Zh (Zt n jL) (.int 0)=some (.int n):=by rfl
theorem web1:Zh (Zt n jL) (.int 1)=some (.tup (jL.map ZQ)):=by rfl
theorem ZgB (way rate n i j:Nat)(somes:List D)(hi:i<somes.length)(hj:j<somes.length)(hs:∀c∈somes,∃k:Int,c=.int k)(x0 x1 x6:Option D)(s:Pn)(o9:Bool)
  (hg:∀b,Ok (g [x0,x1,some (.int n),some (.int way),some (.int rate),some (.lst somes),x6,some (.int i),some (.int j),some (.bl b)]) s Q) :
  Ok ((Ze (ZU (W4 (Zo (Zc YD (Za 3) (dC (.int 0)))) (W4 (Zo (Zc YD (Zc Zh (Za 5) (Za 7)) (dC (.int 1)))) (Zo (Zc YD (Zc Zh (Za 5) (Za 8)) (dC (.int 1))))))
 (Ze (Ya 9 (fun ρ=>(dC (.bl true)) (YH [6] ρ)))
 Zg)
 Zg)
 (Ze (ZU (Zo (Zc YD (Za 3) (dC (.int 1))))
 (Ze (Ya 9 (fun ρ=>(Ug (Zc YD (Zc XD (Za 8) (Za 7)) (dC (.int 1))) (Zc YD (Zc XD (Za 8) (Za 7)) (Zc XD (Za 2) (dC (.int 1))))) (YH [6] ρ)))
 Zg)
 Zg) g)) [x0,x1,some (.int n),some (.int way),some (.int rate),some (.lst somes),x6,some (.int i),some (.int j),some (.bl o9)]) s Q:=by
 have UN:∀a b:Int,YD (.int a) (.int b)=some (.bl (a==b)):=λa b=>by
  unfold YD;rw[if_pos (by simp[Jd,Zs,ZX])];simp[ZO]
 have ixs:∀k,k<somes.length->∃v:Int,Zh (.lst somes) (.int (k:Int))=some (.int v):=λk hk=>by
  obtain⟨v,hv⟩:=hs (somes[k]) (qa9 hk);exact⟨v,by rw[<-hv];exact VF (by simp[hk])⟩
 obtain⟨v1,e1⟩:=ixs i hi;obtain⟨v2,e2⟩:=ixs j hj;have last:∀b,Ok ((Ze (ZU (Zo (Zc YD (Za 3) (dC (.int 1))))
 (Ze (Ya 9 (fun ρ=>(Ug (Zc YD (Zc XD (Za 8) (Za 7)) (dC (.int 1))) (Zc YD (Zc XD (Za 8) (Za 7)) (Zc XD (Za 2) (dC (.int 1))))) (YH [6] ρ)))
 Zg)
 Zg) g) [x0,x1,some (.int n),some (.int way),some (.int rate),some (.lst somes),x6,some (.int i),some (.int j),some (.bl b)]) s Q:=by
  intro b;refine .seq (.sif (.eq (ZW (Zn (d:=.int (way:Int)) (e:=.int 1) rfl rfl (UN _ _))) ?_));split
  ·refine .seq (.sset ?_)
   refine .bind (.eq (Zn (d:=.int ((j:Int)-i)) (e:=.int 1) (Zn (d:=.int (j:Int)) (e:=.int (i:Int)) rfl rfl rfl) rfl (UN _ _)) ?_);generalize ((j:Int)-i==1)=c
   cases c with
   | true=>
    refine .ret (.next ?_);exact hg true
   | false=>
    refine .eq (Zn (d:=.int ((j:Int)-i)) (e:=.int ((n:Int)-1)) (Zn (d:=.int (j:Int)) (e:=.int (i:Int)) rfl rfl rfl) (Zn (d:=.int (n:Int)) (e:=.int 1) rfl rfl rfl) (UN _ _)) (.next ?_);exact hg _
  ·refine .next ?_
   exact hg b
 refine .seq (.sif (.band (.eq (ZW (Zn (d:=.int (way:Int)) (e:=.int 0) rfl rfl (UN _ _))) ?_)));split
 ·refine .band (.eq (ZW (Zn (d:=.int v1) (e:=.int 1) (Zn (d:=.lst somes) (e:=.int (i:Int)) rfl rfl e1) rfl (UN _ _))) ?_)
  split
  ·refine .eq (ZW (Zn (d:=.int v2) (e:=.int 1) (Zn (d:=.lst somes) (e:=.int (j:Int)) rfl rfl e2) rfl (UN _ _))) ?_
   split
   ·refine .seq (.sset (.eq (a:=.bl true) rfl ?_))
    refine .next ?_;exact last true
   ·refine .next ?_
    exact last o9
  ·refine .next ?_
   exact last o9
 ·refine .next ?_
  exact last o9
theorem Znx {l:Qa}(h:l.Sublist (X2 n i++(qe j).map λk=>(i,i+1+k)))(hn:n<=1000)(hi:i<n)(hj:j<=n):(l.map ZQ).length<xg:=by
 have h1:=h.length_le;rw[zC,qf,qM]at h1;have h2:=Zfz n i j hn hi hj
 grind
theorem Zpk (ok:Vs s)(most:Nat)(hm:most<=24):Ok (Zas [.pen,.int (most:Int)]) s λd s'=>Vs s'/\∃n jL,d=Zt n jL/\n<=most/\IsWeb n jL:=by
 refine Ok.runB rfl ?_;refine Ok.seq (.sset (.draw (m:=most+1) ok (Zk rfl (Zk (Zn (d:=.int (most:Int)) (e:=.int 1) rfl rfl rfl) rfl)) (by omega) (by omega) λn s1 hn ok1=>?_));refine Ok.seq (.spar (.cons (.draw (m:=4) ok1 (Zk rfl (Zk rfl rfl)) (by omega) (by omega) λway s2 hw ok2=>.cons (.op (.eq (a:=.int 1) rfl (.draw (m:=3) ok2 (Zk rfl (Zk rfl rfl)) (by omega) (by omega) λr s3 hr ok3=>⟨.int ((1+r:Nat):Int),by simp[Yr],.nil ⟨_,_,rfl,rfl,rfl,?_⟩⟩))))));refine Ok.seq (.sset (.comp (ds:=Ye 0 n) (λc=>∃k:Int,c=.int k) Vs (XU rfl (by omega)) (Bx (by omega)) ok3 (λd hd s ok=>⟨_,rfl,.draw (m:=2) ok (Zk rfl (Zk rfl rfl)) (by omega) (by omega) λr s' _ ok'=>⟨⟨_,rfl⟩,ok'⟩⟩) λsomes s4 hl hs ok4=>?_));rw[WC]at hl;refine Ok.seq (.sown (.eq (a:=.lst []) rfl ⟨rfl,?_⟩));refine Ok.seq (.sfor (λi ρ s'=>Vs s'/\∃(jL:Qa) (o7 o8 o9:Option D),jL.Sublist (X2 n i)/\ρ=[some .pen,some (.int (most:Int)),some (.int (n:Int)),some (.int (way:Int)),some (.int ((1+r:Nat):Int)),some (.lst somes),some (.lst (jL.map ZQ)),o7,o8,o9]) (.eq (XU rfl (by omega)) ⟨⟨ok4,[],none,none,none,List.nil_sublist _,rfl⟩,λi d ρ s' hd hI=>?_,fun ρ' s' hI=>?_⟩))
 ·obtain⟨ok5,jL,o7,o8,o9,hsub,rfl⟩:=hI
  obtain⟨hi,rfl⟩:=Zaf hd;refine⟨_,rfl,?_⟩;refine Ok.seq (.sfor (λj ρ s'=>Vs s'/\∃(jL:Qa) (o8 o9:Option D),jL.Sublist (X2 n i++(qe j).map λk=>(i,i+1+k))/\ρ=[some .pen,some (.int (most:Int)),some (.int (n:Int)),some (.int (way:Int)),some (.int ((1+r:Nat):Int)),some (.lst somes),some (.lst (jL.map ZQ)),some (.int (i:Int)),o8,o9]) (.eq (Zbn (a:=i+1) (n:=n) (Zn (d:=.int (i:Int)) (e:=.int 1) (c:=.int ((i+1:Nat):Int)) rfl rfl (by simp[Yr])) rfl (by omega) (by omega)) ⟨⟨ok5,jL,o8,o9,by simpa using hsub,rfl⟩,λj d ρ s' hd hJ=>?_,fun ρ' s' hJ=>?_⟩))
  ·obtain⟨ok6,jL,o8,o9,hsub,rfl⟩:=hJ
   obtain⟨hj,rfl⟩:=Jx hd;refine⟨_,rfl,?_⟩;refine Ok.seq (.sset (.op (.draw (m:=4) ok6 (Zk rfl (Zk rfl rfl)) (by omega) (by omega) λv s7 hv ok7=>.eq (a:=.int ((1+r:Nat):Int)) rfl ⟨_,rfl,?_⟩)));have fin:∀b,Ok (Ze (ZU (Zo (Za 9)) (Ze (UE 6 (fun ρ=>(Z9 (Zb (Za 7) (Zb (Za 8) Zf))) (YH [6] ρ))) Zg) Zg) Zg [some .pen,some (.int (most:Int)),some (.int (n:Int)),some (.int (way:Int)),some (.int ((1+r:Nat):Int)),some (.lst somes),some (.lst (jL.map ZQ)),some (.int (i:Int)),some (.int ((i+1+j:Nat):Int)),some (.bl b)]) s7
     λo s'=>∃ρ',o=.nx ρ'/\Vs s'/\∃(jL:Qa) (o8 o9:Option D),jL.Sublist (X2 n i++(qe (j+1)).map λk=>(i,i+1+k))/\ρ'=[some .pen,some (.int (most:Int)),some (.int (n:Int)),some (.int (way:Int)),some (.int ((1+r:Nat):Int)),some (.lst somes),some (.lst (jL.map ZQ)),some (.int (i:Int)),o8,o9]:=by
    intro b;refine Ok.seq (.sif (.eq (ZW rfl) ?_))
    cases b with
    | true=>
     refine .seq (.sapp (ds:=jL.map ZQ) rfl (Znx hsub (by omega) hi (by omega)) (.eq (Wh (Zk rfl (Zk rfl rfl)) two_le) ?_));refine .next (.next ⟨_,rfl,ok7,jL ++ [(i,i+1+j)],some (.int ((i+1+j:Nat):Int)),some (.bl true),?_,?_⟩)
     ·rw[zR,qV,<-yC]
      exact qba.append hsub (qba.refl _)
     ·rw[qV];rfl
    | false=>
     refine .next (.next ⟨_,rfl,ok7,jL,some (.int ((i+1+j:Nat):Int)),some (.bl false),?_,rfl⟩);rw[zR,qV,<-yC];exact hsub.trans (List.sublist_append_left _ _)
   exact ZgB way (1+r) n i (i+1+j) somes (by omega) (by omega) hs (some .pen) (some (.int (most:Int))) (some (.lst (jL.map ZQ))) s7 (decide ((v:Int)<((1+r:Nat):Int))) fin
  ·obtain⟨ok6,jL,o8',o9',hsub,rfl⟩:=hJ
   refine Ok.next ⟨_,rfl,ok6,jL,some (.int (i:Int)),o8',o9',?_,rfl⟩;rw[Zbo]
   rwa[WC]at hsub
 ·obtain⟨ok5,jL,o7,o8,o9,hsub,rfl⟩:=hI
  rw[WC]at hsub;exact Ok.seq (.sret (.eq (Wh (Zk rfl (Zk (YB (Zk rfl rfl) rfl) rfl)) two_le) ⟨ok5,n,jL,rfl,by omega,hsub⟩))
end TP
namespace HT
section
variable {prog:xD}{w:World}{A:xE}{E:xF}{s:Shared}
theorem getItem_tuple_whole {lo:Option Int}(ht:IsTup s.heap t items)(hs:s.heap.IsSliceOf sl vl vu .none)(pl:IsPart vl lo)(pu:IsPart vu hi)
  (hw:sIx items.size 0 lo=0/\sIx items.size items.size hi=items.size)
  (h:Q (.ref t) s)
  (hsz:items.size<=xg):xf (xB prog w) A (getItem (.ref t) (.ref sl)) Q E s:=by
 obtain⟨os,hos,hcs,hds⟩:=id hs;have hTs:s.TypeIs (.ref sl) "slice":=⟨os,hos,hcs⟩;unfold getItem
 try with_reducible refine xw ?_
 first | refine xa (xb ?_) | skip
 refine xa (wpAny_sequenceKey ht.typeIs (by decide) ?_);refine xa (wpAny_callSpecial?_slot (name:=qas "__getitem__") ht.typeIs zf
  (wpAny_call_entry zf ht.typeIs entry_tuple_getitem ?_ (args_tuple_getitem _ _)))
 show xf _ _ (qaR (.ref t) >>= _) _ _ s;refine xa (tupleItemsOf_ ht ?_);refine xa (wpAny_typeOf hTs ?_);rw[if_pos (by decide)];refine xa (ZaH hs pl pu ?_);have hyes:((((sIx items.size 0 lo:Nat):Int)==0&&(1:Int)==1&&(sIx items.size items.size hi-sIx items.size 0 lo)==items.size)=true):=by
  rw[hw.1,hw.2];simp
 show xf _ _ (if (((sIx items.size 0 lo:Nat):Int)==0&&(1:Int)==1&&(sIx items.size items.size hi-sIx items.size 0 lo)==items.size)=true then _ else _) _ _ s;rw[if_pos hyes];refine xa (xa (wpAny_typeOf ht.typeIs ?_));refine xb ?_;refine xa (wpAny_rule ?_)
 first
  | rfl
  | exact xa (xb (xb ⟨_,rfl,xb h⟩))
end
end HT
namespace TF
open L2
noncomputable def Zqj (K:qd):V->Option Int->Option Int->Hp->VK->Prop:=λx lo hi H Q=>∃a xs,x=.ref a/\Z5 K H a xs/\
 (HT.sIx xs.length 0 lo=0/\HT.sIx xs.length xs.length hi=xs.length)/\Q (.ref a) H
section
variable {X:Cx}{G:Gh}
theorem Zny:Jk X (Zqj X.K):=by
 intro jM s σ H x v vl vu lo hi sl Q I rx hs pl pu h;obtain⟨a,xs,rfl,hx,hw,q⟩:=h
 cases rx
 obtain⟨jP,r,ht,hz⟩:=I.tuple hx;have jW:jP.toArray.size=xs.length:=(r.length.symm);refine⟨"tuple",_,zf.lookup,ht.typeIs,?_⟩;exact HT.getItem_tuple_whole ht hs pl pu (by rw[jW];exact hw) ⟨.ref a,H,I,rfl,q⟩ (by rw[jW];exact hz)
noncomputable def Jh (ds:List D)(lo hi:Option Int):List D:=(ds.drop (HT.sIx ds.length 0 lo)).take (HT.sIx ds.length ds.length hi-HT.sIx ds.length 0 lo)
noncomputable def POD (X:Cx)(G:Gh)(e:Option Expr)(f:Zd->M (Option Int)):Prop:=
 ∃t,PO X e t/\∀(σ:St) (Hf H:Hp) (ρ:Zd) (s:Pn) (o:Option Int) (s':Pn) (Q:Option Int->Hp->Prop),ZA G Hf H->Yt G Hf σ ρ->G.st s H->f ρ s=some (o,s')->
  (∀Hf' H',Gr G Hf H Hf' H'->G.st s' H'->Q o H')->t σ H Q
noncomputable def ZgC:Zd->M (Option Int):=λ_=>ZH none
noncomputable def ZgD (f:Zd->M D):Zd->M (Option Int):=fun ρ=>Zm (f ρ) λd=>match d with | .int i=>ZH (some i) | _=>ZP
theorem Zln:POD X G none ZgC:=⟨_,Zm7,fun σ Hf H ρ s o s' Q e1 e2 e3 e4 k=>by
 obtain⟨rfl,rfl⟩:=ZJ e4;exact k Hf H (.refl e1) e3⟩
theorem Zlo (h:PD X G r1 e f):POD X G (some e) (ZgD f):=by
 obtain⟨t,p,q⟩:=h.drop;refine⟨_,Zm8 p,fun σ Hf H ρ s o s' Q e1 e2 e3 e4 k=>?_⟩;obtain⟨d,s1,a1,a2⟩:=Zx e4;refine q σ Hf H ρ s d s1 _ e1 e2 e3 a1 λv jU H1 g1 jV r1=>?_
 match d,a2,r1 with
 | .int i,a2,r1=>
  obtain⟨rfl,rfl⟩:=ZJ a2;exact⟨i,ja.mp r1,k jU H1 g1 jV⟩
noncomputable def ZdO (f:Zd->M D)(fl fh:Zd->M (Option Int)):Zd->M D:=fun ρ=>Zm (f ρ) λd=>Zm (fl ρ) λlo=>Zm (fh ρ) λhi=>match d with
 | .tup ds=>ZH (.tup (Jh ds lo hi))
 | .lst ds=>ZH (.lst (Jh ds lo hi))
 | _=>ZP
theorem ZiB (r:Zi G Hf ds vs)(lo hi:Option Int):Zi G Hf (Jh ds lo hi) (Jb vs lo hi):=by
 unfold Jh Jb;rw[r.length];exact(r.drop _).take _
theorem ZhP {lo:Option Int}(h:HT.sIx ds.length 0 lo=0/\HT.sIx ds.length ds.length hi=ds.length):Jh ds lo hi=ds:=by
 unfold Jh;simp_all
theorem Zlp {lo:Option Expr}(he:PD X G r1 e f)(hl:POD X G lo fl)(hh:POD X G hi fh):PD X G true (.Subscript e (.Slice lo hi none p2) pos) (ZdO f fl fh):=by
 obtain⟨t,p,q⟩:=he.drop;obtain⟨tl,pl,ql⟩:=hl;obtain⟨th,ph,qh⟩:=hh;refine⟨_,ZkN (Zna.or (Zo4.or Zny)) p pl ph,fun σ Hf H ρ s d s' Q e1 e2 e3 e4 k=>?_⟩;obtain⟨d0,s1,a1,a2⟩:=Zx e4;obtain⟨lo',s2,a3,a4⟩:=Zx a2;obtain⟨hi',s3,a5,a6⟩:=Zx a4;refine q σ Hf H ρ s d0 s1 _ e1 e2 e3 a1 λv jU H1 g1 jV r1=>?_;refine ql σ jU H1 ρ s1 lo' s2 _ g1.fh (e2.ext g1.ff) jV a3 λjX H2 g2 jZ=>?_;refine qh σ jX H2 ρ s2 hi' s3 _ g2.fh ((e2.ext g1.ff).ext g2.ff) jZ a5 λHf3 H3 g3 st3=>?_;have rr:=(r1.ext g2.ff).ext g3.ff;have g:=(g1.trans g2).trans g3
 match d0,a6,rr with
 | .lst ds,a6,rr=>
  obtain⟨rfl,rfl⟩:=ZJ a6;obtain⟨a,vs,rfl,na,ha,ra⟩:=jb.mp rr;refine .inl ⟨a,vs,rfl,ZT.of (g.fh _ _ na ha),λl hl=>?_⟩;have nf:=Gh.nofp st3 hl;have g2:=Gr.new (o:=.lst (Jb vs lo' hi')) g.fh hl nf;have rr:=ZiB ra lo' hi';exact k (.ref l) _ _ (g.trans g2) (Gh.grow st3 hl) (jb.mpr ⟨l,_,rfl,nf,Z1,rr.ext g2.ff⟩) λ_=>jn g.hh (λa ea _=>by cases ea;exact nf) (YM.mk g.fh hl nf rr)
 | .tup ds,a6,rr=>
  obtain⟨rfl,rfl⟩:=ZJ a6;obtain⟨a,vs,rfl,na,ha,ra⟩:=jd.mp rr;by_cases hw:HT.sIx vs.length 0 lo'=0/\HT.sIx vs.length vs.length hi'=vs.length
  ·refine .inr (.inr ⟨a,vs,rfl,Z5.of (g.fh _ _ na ha),hw,?_⟩)
   rw[<-ra.length]at hw;exact k (.ref a) _ _ g st3 (by rw[ZhP hw];exact rr) λ_=>.scal λz=>z
  ·refine .inr (.inl ⟨a,vs,rfl,Z5.of (g.fh _ _ na ha),hw,λl hl=>?_⟩)
   have nf:=Gh.nofp st3 hl;have g2:=Gr.new (o:=.tup (Jb vs lo' hi')) g.fh hl nf;exact k (.ref l) _ _ (g.trans g2) (Gh.grow st3 hl) (jd.mpr ⟨l,_,rfl,nf,Z1,(ZiB ra lo' hi').ext g2.ff⟩) λ_=>.scal λz=>z
noncomputable def PCh (X:Cx)(ops:List CmpOp)(rs:List Expr)(t:V->TT):Prop:=
 ∀(pos:Pos) (jM:Qb) (s:Shared) (σ:St) (H:Hp) (y:V) (v:Value) (Q:Bool->Hp->Prop),Inv X jM σ H s->ZN y v->t y σ H Q->xf (xB X.prog X.w) X.A (testChain pos v ops (evalEach rs X.env)) (TP X jM σ Q) X.xe s
theorem Znz (ho:Yj X (xk op) r)(hc:PE X c tc):PCh X [op] [c] (λy σ H Q=>tc σ H λz H1=>r y z H1 λw H2=>∃k,w=.bl k/\Q k H2):=by
 intro pos jM s σ H y v Q I r1 h;refine test_last (ZI (hc jM s σ H _ I h) λu s2 ⟨z,H2,I2,r2,q2⟩=>ZI (ho jM s2 σ H2 y z v u _ I2 r1 r2 q2) λd s3 ⟨z',H3,I3,r3,k,e,q3⟩=>?_);subst e
 cases r3
 exact wpAny_truthy_bool ⟨H3,I3,q3⟩
theorem Zlq (ho:Yj X (xk op) r)(hb:PE X b tb)(hr:PCh X (op'::ops) (c::rs) t) :
  PCh X (op::op'::ops) (b::c::rs) (λy σ H Q=>tb σ H λz H1=>r y z H1 λw H2=>∃k,w=.bl k/\(if k=true then t z σ H2 Q else Q false H2)):=by
 intro pos jM s σ H y v Q I r1 h;refine test_link (ZI (hb jM s σ H _ I h) λu s2 ⟨z,H2,I2,r2,q2⟩=>ZI (ho jM s2 σ H2 y z v u _ I2 r1 r2 q2) λd s3 ⟨z',H3,I3,r3,k,e,q3⟩=>?_);subst e
 cases r3
 refine wpAny_truthy_bool ?_
 cases k with
 | false=>exact ite_ff ⟨H3,I3,q3⟩
 | true=>exact ite_tt (hr pos jM s3 σ H3 z u Q I3 r2 q3)
theorem ZjN (ha:PE X a ta)(hr:PCh X (op::op'::ops) (b::c::rs) t)
  (hm:lastMarks (op::op'::ops) (b::c::rs)=false:=by with_unfolding_all rfl):PT X (.Compare a (op::op'::ops) (b::c::rs) pos) (fun σ H Q=>ta σ H λy H1=>t y σ H1 Q):=by
 intro jM s σ H Q I h;exact isTrue_chain (ZI (ha jM s σ H _ I h) λv s1 ⟨y,H1,I1,r1,q1⟩=>hr pos jM s1 σ H1 y v Q I1 r1 q1) hm
noncomputable def PDCh (X:Cx)(G:Gh)(ops:List CmpOp)(rs:List Expr)(f:D->Zd->M Bool):Prop:=
 ∃t,PCh X ops rs t/\∀(y:V) (σ:St) (Hf H:Hp) (d:D) (ρ:Zd) (s:Pn) (b:Bool) (s':Pn) (Q:Bool->Hp->Prop),ZA G Hf H->Zl G Hf d y->Yt G Hf σ ρ->G.st s H->f d ρ s=some (b,s')->
  (∀Hf' H',Gr G Hf H Hf' H'->G.st s' H'->Q b H')->t y σ H Q
noncomputable def B0 (o:Option D):M Bool:=match o with | some (.bl k)=>ZH k | _=>ZP
theorem ZgE (h:B0 o s=some (b,s')):o=some (.bl b)/\s'=s:=by
 unfold B0 at h;split at h
 ·obtain⟨rfl,rfl⟩:=ZJ h
  simp
 ·cases h
noncomputable def J3 (g:D->D->Option D)(fc:Zd->M D):D->Zd->M Bool:=λd ρ=>Zm (fc ρ) λe=>B0 (g d e)
noncomputable def J4 (g:D->D->Option D)(fb:Zd->M D)(f:D->Zd->M Bool):D->Zd->M Bool:=λd ρ=>Zm (fb ρ) λe=>Zm (B0 (g d e)) λk=>if k=true then f e ρ else ZH false
noncomputable def JP (fa:Zd->M D)(f:D->Zd->M Bool):Zd->M Bool:=fun ρ=>Zm (fa ρ) λd=>f d ρ
theorem Zlr (ho:Y4 X G (xk op) g)(hc:PD X G r1 c fc):PDCh X G [op] [c] (J3 g fc):=by
 obtain⟨r,po,qo⟩:=ho;obtain⟨tc,pc,qc⟩:=hc.drop;refine⟨_,Znz po pc,λy σ Hf H d ρ s b s' Q e1 ry e2 e3 e4 k=>?_⟩;obtain⟨e,s1,a1,a2⟩:=Zx e4;obtain⟨a3,rfl⟩:=ZgE a2;refine qc σ Hf H ρ s e _ _ e1 e2 e3 a1 λz jU H1 g1 jV r1=>?_;exact qo jU H1 _ y z d e _ _ g1.fh jV (ry.ext g1.ff) r1 a3 λv jX H2 g2 jZ r2 _=>⟨b,je.mp r2,k jX H2 (g1.trans g2) jZ⟩
theorem ZjO (ho:Y4 X G (xk op) g)(hb:PD X G r1 b fb)(hr:PDCh X G (op'::ops) (c::rs) f) :
  PDCh X G (op::op'::ops) (b::c::rs) (J4 g fb f):=by
 obtain⟨r,po,qo⟩:=ho;obtain⟨tb,pb,qb⟩:=hb.drop;obtain⟨t,pt,qt⟩:=hr;refine⟨_,Zlq po pb pt,λy σ Hf H d ρ s b' s' Q e1 ry e2 e3 e4 k=>?_⟩;obtain⟨e,s1,a1,a2⟩:=Zx e4;obtain⟨k1,s2,a3',a4⟩:=Zx a2;obtain⟨a3,rfl⟩:=ZgE a3';refine qb σ Hf H ρ s e _ _ e1 e2 e3 a1 λz jU H1 g1 jV r1=>?_;refine qo jU H1 _ y z d e _ _ g1.fh jV (ry.ext g1.ff) r1 a3 λv jX H2 g2 jZ r2 _=>⟨k1,je.mp r2,?_⟩
 cases k1 with
 | false=>
  obtain⟨rfl,rfl⟩:=ZJ a4;exact k jX H2 (g1.trans g2) jZ
 | true=>
  exact qt z σ jX H2 e ρ _ _ _ Q (g1.trans g2).fh (r1.ext g2.ff) ((e2.ext g1.ff).ext g2.ff) jZ a4 λHf3 H3 g3 st3=>k Hf3 H3 ((g1.trans g2).trans g3) st3
theorem ZjP (ha:PD X G r1 a fa)(hr:PDCh X G (op::op'::ops) (b::c::rs) f)
  (hm:lastMarks (op::op'::ops) (b::c::rs)=false:=by with_unfolding_all rfl):XQ X G (.Compare a (op::op'::ops) (b::c::rs) pos) (JP fa f):=by
 obtain⟨ta,pa,qa⟩:=ha.drop;obtain⟨t,pt,qt⟩:=hr;refine⟨_,ZjN pa pt hm,fun σ Hf H ρ s b s' Q e1 e2 e3 e4 k=>?_⟩;obtain⟨d,s1,a1,a2⟩:=Zx e4;refine qa σ Hf H ρ s d _ _ e1 e2 e3 a1 λy jU H1 g1 jV r1=>?_;exact qt y σ jU H1 d ρ s1 b s' Q g1.fh r1 (e2.ext g1.ff) jV a2 λjX H2 g2 jZ=>k jX H2 (g1.trans g2) jZ
noncomputable def Ww (τ:D->Zd->Option Zd)(f:Zd->M D):Zd->M Out:=fun ρ=>Zm (f ρ) λd=>match τ d ρ with | some ρ'=>ZH (.nx ρ') | none=>ZP
theorem ZnA {ob:List Nat}{fr:Bool}{pos:Pos}(he:PD X G r1 e f)(hg:Vy X G tg (λi=>i∉own) τ)(hs:swapsWithSole [tg] e pos.line X.env=pure false:=by rfl)(hw:swappedStores [tg] e X.env=pure none:=by rfl)
  (h1:(assignEach [tg] X.env).map (·.2)=[assign tg X.env]:=by rfl):Y1 X G ob own own fr (.Assign [tg] e pos) (Ww τ (fun ρ=>f (YH own ρ))):=by
 obtain⟨t,p,q⟩:=he;obtain⟨g,pg,qg⟩:=hg;have hy:Va G r1 t f:=q;refine⟨_,Zds p pg hs hw h1,λkn jQ H0 σ H ρ s out s' E ⟨Hf,j⟩ st e po=>?_⟩;obtain⟨d,s1,a1,a2⟩:=Zx e;refine hy.a kn jQ H0 σ Hf H ρ s d s1 _ j st a1 λv Hf' H' j' e1 e2 st' r fz=>?_
 cases eq:τ d ρ with
 | none=>rw[eq]at a2;cases a2
 | some ρ'=>
  rw[eq]at a2;obtain⟨rfl,rfl⟩:=ZJ a2;exact qg v σ Hf' H' d ρ ρ' _ j'.gr.fh r eq fun σ' hs'=>po σ' H' ⟨Hf',hs'.jf j'⟩ st'
theorem Za6 {ob:List Nat}{fr:Bool}{pos:Pos}(he:PD X G r1 e f)(hg:Vy X G tg (λi=>i∉([]:List Nat)) τ)(hs:swapsWithSole [tg] e pos.line X.env=pure false:=by rfl)(hw:swappedStores [tg] e X.env=pure none:=by rfl)
  (h1:(assignEach [tg] X.env).map (·.2)=[assign tg X.env]:=by rfl):Y1 X G ob [] [] fr (.Assign [tg] e pos) (Ww τ f):=by
 have h:=ZnA (ob:=ob) (fr:=fr) he hg hs hw h1;have e:(fun ρ=>f (YH [] ρ))=f:=by funext ρ;rw[ZbX]
 simp_all
end
open PySem.SeqAt
open AutoSeq1 (wpAny_loadPart')
theorem ZhQ (l:Addr)(items:Array Value)(n:Nat)(dd:Option Addr)(sl:Array (Option Value))(x:Int)(u:Tok)(hc0:¬((x < -(2 ^ 63):Bool)||(x≥2 ^ 63:Bool))=true)(hc1:¬(items.isEmpty||x==1)=true)(hc2:¬((x<=0:Bool)||items.isEmpty)=true)
  (hc3:¬((items.size:Int)*x > (2 ^ 63-1) / 8)) (hc4:¬qaS ((items.size:Int)*x)=true) (hsz:(qat (λx1 x2=>x1++x2) #[] (qp x.toNat items)).size<=xg) :
  Meets (Builtin.«tuple.__mul__» ⟨[.ref l,.int x u],[]⟩) (λ_ R s=>s.heap.get? l=some { cls:=.type "tuple",dict:=dd,data:=.seq items n,slots:=sl }/\R (.ok (.ret (qC s.heap.objs.size))) { s with heap:=s.heap.push { cls:=qbE "tuple",data:=Data.seq (qat (λx1 x2=>x1++x2) #[] (qp x.toNat items)) },toks:=s.toks }):=
 .of_wp λprog w A R s h=>by
  obtain⟨hp,g,d,tk,os⟩:=s;obtain⟨hl,h⟩:=h;have f1:=AutoSeq1.idx_int;have f2:=qa5;have f3:=AutoSeq1.sub_list_list;have f4:=AutoSeq1.sub_tuple_list;have f5:=AutoSeq1.sub_list_tuple;wp_walk using wpAny_loadPart' hl;rw[if_neg hc0];wp_walk using wpAny_loadPart' hl;rw[if_neg hc3];wp_walk using wpAny_loadPart' hl
  try (refine wpAny_ite_false (decide_eq_false (Nat.not_lt.mpr hsz)) ?_;wp_walk)
  exact⟨_,rfl,h⟩
theorem ZcA:fillsNumberSlot (.type "tuple") "mul" = pure false:=
 PySem.fillsNumberSlot_seq qbw.lookup (by rfl) PySem.F.slot_tuple_rmul.lookup (by rfl)
theorem ZfB:seqRepeat? (.type "tuple")=pure (some (.builtin "tuple.__mul__")):=by
 rfl
theorem ZdP (a:Int)(t:Tok)(l:Addr)(items:Array Value)(n:Nat)(dd:Option Addr)(sl:Array (Option Value)) :
  Meets (Builtin.«int.__rmul__» ⟨[.int a t,.ref l],[]⟩) (λ_ R s=>s.heap.get? l=some { cls:=.type "tuple",dict:=dd,data:=.seq items n,slots:=sl }/\R (.ok (.ret qbK)) s):=
 .of_wp λprog w A R s h=>by obtain⟨hl,h⟩:=h;wp_walk;exact⟨_,rfl,h⟩
section
variable {X:Cx}{G:Gh}
noncomputable def Zqk (K:qd):R2:=λx y H Q=>∃l k xs,x=.ref l/\y=.int k/\Z5 K H l xs/\xs≠[]/\2<=k/\k<2 ^ 62/\xs.length*k.toNat<=xg/\
 ∀p,H p=none->Q (.ref p) (Zp H p (.tup (qp k.toNat xs).flatten))
theorem ZnB:Yj X (binaryOp .Mult) (Zqk X.K):=by
 intro jM s σ H x y v u Q I rx ry h;obtain⟨l,k,xs,rfl,rfl,hH,hne,h1,h2,hz,q⟩:=h
 cases rx
 obtain⟨t,rfl⟩:=ry;obtain⟨jP,r,p1,_⟩:=I.tuple hH;obtain⟨⟨cls,dd,data,sl⟩,ho,hc,n,hd⟩:=id p1;simp only at hc hd;subst hc hd;have hl:=r.length;have hsz:jP.toArray.size=xs.length:=by rw[zm];exact hl.symm
 have hne':jP≠[]:=λz=>hne (r.nil_iff.mp z);have hemp:jP.toArray.isEmpty=false:=by cases jP with | nil=>exact absurd rfl hne' | cons a b=>rfl
 have e0:((k.toNat:Nat):Int)=k:=by omega
 have hcap:((jP.toArray.size:Int)*k)=((xs.length*k.toNat:Nat):Int):=by rw[hsz,Int.natCast_mul,e0]
 have sl2:(xg:Nat)=16777216:=sizeLine_eq;have hnew:qat (λx1 x2=>x1++x2) #[] (qp k.toNat jP.toArray)=(qp k.toNat jP).flatten.toArray:=by
  have:=Zcy jP k.toNat [];rw[List.nil_append]at this;exact this
 have hfl:(qp k.toNat jP).flatten.length<=xg:=by rw[Zfq,qa6,<-hl];exact hz
 refine wpAny_binaryOp_repeat_ref (T:="tuple") (U:="int") (by decide) ⟨_,ho,rfl⟩ (λs'=>typeIs_int s' k t) ZcA F.fills_int_mul qau ZfB F.slot_int_index.lookup
  (call_meets qau (typeIs_int s k t) F.entry_int_rmul (F.args_int_rmul_2 _ _) (ZdP k t l jP.toArray n dd sl)
   ⟨ho,rfl,⟨_,ho,rfl⟩,call_meets qbw ⟨_,ho,rfl⟩ PySem.F.entry_tuple_mul (PySem.F.args_tuple_mul_2 _ _) (ZhQ l jP.toArray n dd sl k t ?_ ?_ ?_ ?_ ?_ ?_) ⟨ho,?_⟩⟩)
 ·simp;omega
 ·rw[hemp];simp;omega
 ·rw[hemp];simp;omega
 ·rw[hcap];omega
 ·unfold qaS
  grind
 ·rw[hnew];exact hfl
 ·rw[hnew]
  exact⟨.ref s.heap.objs.size,_,I.laid (o:=.tup (qp k.toNat xs).flatten) (λb ob q=>qj _ q) (qk _) ⟨by rw[Zfq,qa6];exact hz,_,r.rep k.toNat,qbp _ _⟩,rfl,q _ (I.hok.fresh (qk _))⟩
theorem Zi.rep (r:Zi G Hf ds vs):∀k:Nat,Zi G Hf (qp k ds).flatten (qp k vs).flatten
 | 0=>Zi.nil_iff.mpr rfl
 | k+1=>by
  exact r.append (Zi.rep r k)
noncomputable def J5:D->D->Option D
 | .int i,.int j=>if JZ i j=true then some (.int (i*j))else none
 | .tup ds,.int k=>if ds≠[]/\2<=k/\k<2 ^ 62/\ds.length*k.toNat<=xg then some (.tup (qp k.toNat ds).flatten)else none
 | .lst ds,.int k=>if -(2 ^ 63)<=k/\k<2 ^ 63/\ds.length*k.toNat<=xg then some (.lst (qp k.toNat ds).flatten)else none
 | _,_=>none
theorem ZgF:Y4 X G (binaryOp .Mult) J5:=by
 obtain⟨r0,po,qo⟩:=UY (X:=X) (G:=G);refine⟨_,po.or (ZnB.or Zo9),λHf H s x y d e c Q e1 st rx ry q k=>?_⟩
 match d,e,q,rx,ry with
 | .int i,.int j,q,rx,ry=>exact .inl (qo Hf H s x y _ _ c Q e1 st rx ry q k)
 | .tup ds,.int j,q,rx,ry=>
  have q:(if ds≠[]/\2<=j/\j<2 ^ 62/\ds.length*j.toNat<=xg then some (D.tup (qp j.toNat ds).flatten)else none)=some c:=q;split at q
  ·rename_i hz
   cases q
   obtain⟨p,vs,rfl,np,hp,rp⟩:=jd.mp rx;refine .inr (.inl ⟨p,j,vs,rfl,ja.mp ry,Z5.of (e1 _ _ np hp),λz=>hz.1 (qab.mp (by rw[rp.length,z];rfl)),hz.2.1,hz.2.2.1,by rw[<-rp.length];exact hz.2.2.2,λl hl=>?_⟩);have nf:=Gh.nofp st hl;have g2:=Gr.new (o:=.tup (qp j.toNat vs).flatten) e1 hl nf;exact k (.ref l) _ _ g2 (Gh.grow st hl) (jd.mpr ⟨l,_,rfl,nf,Z1,(rp.rep _).ext g2.ff⟩) (.scal λz=>z)
  ·cases q
 | .lst ds,.int j,q,rx,ry=>
  have q:(if -(2 ^ 63)<=j/\j<2 ^ 63/\ds.length*j.toNat<=xg then some (D.lst (qp j.toNat ds).flatten)else none)=some c:=q;split at q
  ·rename_i hz
   cases q
   obtain⟨p,vs,rfl,np,hp,rp⟩:=jb.mp rx;refine .inr (.inr ⟨p,j,vs,rfl,ja.mp ry,e1 _ _ np hp,hz.1,hz.2.1,by rw[<-rp.length];exact hz.2.2,λl hl=>?_⟩);have nf:=Gh.nofp st hl;have g2:=Gr.new (o:=.lst (qp j.toNat vs).flatten) e1 hl nf;exact k (.ref l) _ _ g2 (Gh.grow st hl) (jb.mpr ⟨l,_,rfl,nf,Z1,(rp.rep _).ext g2.ff⟩) (YM.mk e1 hl nf (rp.rep _))
  ·cases q
end
end TF
namespace TF
open L2
section
variable {X:Cx}{G:Gh}
theorem Ur:PD X G true (.UnaryOp .USub (.Constant (.int i) j p) pos) (dC (.int (-i))):=by
 refine⟨_,Zp7 ZoZ Xk,fun σ Hf H ρ s d s' Q e1 e2 e3 e4 k=>?_⟩;obtain⟨rfl,rfl⟩:=ZJ e4;exact⟨i,rfl,k _ Hf H (.refl e1) e3 (ja.mpr rfl) λ_=>.scal λz=>z⟩
end
mutual
noncomputable def Yu:D->Bool
 | .non=>true
 | .bl _=>true
 | .int i=>decide (i.natAbs<10 ^ 70)
 | .str x=>x.cps.toList.all λc=>decide (c<16 ^ 8)
 | .tup ds=>WJ ds
 | .lst ds=>WJ ds
 | _=>false
noncomputable def WJ:List D->Bool
 | []=>true
 | d::ds=>Yu d&&WJ ds
end
mutual
noncomputable def XI:D->Nat
 | .str x=>x.length
 | .tup ds=>WG ds
 | .lst ds=>WG ds
 | _=>0
noncomputable def WG:List D->Nat
 | []=>0
 | d::ds=>XI d+1+WG ds
end
theorem Zls (h:n<10 ^ 70):n.log2<1920:=by
 by_cases h0:n=0
 ·simp_all
 ·exact(Nat.log2_lt h0).mpr (yE h (by decide +kernel))
theorem Zeu (h:i.natAbs<10 ^ 70):(PyData.shown (.int i)).length<=80:=by
 have e:=PySem.int_text_length_le10 (by decide) h;show(qas (toString i)).length<=80;rw[PySem.ofString_length];omega
mutual
theorem Zlt:∀d:D,Yu d=true->Zs d=true/\(VQ d).showable=true/\(VQ d).leavesShort 80=true/\(VQ d).bulk=XI d/\(VQ d).depth=ZX d
 | .non,_=>by simp[Zs,VQ,yA,zX,qah,XI,y8,ZX]
 | .bl _,_=>by simp[Zs,VQ,yA,zX,qah,XI,y8,ZX]
 | .int i,h=>by
  have h:i.natAbs<10 ^ 70:=by simpa only[Yu,decide_eq_true_eq]using h
  have h1:=Zls h;have h2:=Zeu h;simp only[Zs,VQ,yA,zX,qah,XI,y8,ZX,decide_eq_true_eq];exact⟨trivial,h1,h2,trivial,trivial⟩
 | .str x,h=>by
  have h:(x.cps.toList.all λc=>decide (c<16 ^ 8))=true:=by simpa only[Yu]using h
  simp only[Zs,VQ,yA,zX,qah,XI,y8,ZX];exact⟨trivial,trivial,h,rfl,trivial⟩
 | .tup ds,h=>by
  obtain⟨a,b,c,e,f⟩:=ZfC ds (by simpa only[Yu]using h);simp only[Zs,VQ,yA,zX,qah,XI,y8,ZX];exact⟨a,b,c,e,by rw[f]⟩
 | .lst ds,h=>by
  obtain⟨a,b,c,e,f⟩:=ZfC ds (by simpa only[Yu]using h);simp only[Zs,VQ,yA,zX,qah,XI,y8,ZX];exact⟨a,b,c,e,by rw[f]⟩
 | .dk _,h=>by simp[Yu]at h
 | .dt _,h=>by simp[Yu]at h
 | .du _,h=>by simp[Yu]at h
 | .df _,h=>by simp[Yu]at h
 | .pen,h=>by simp[Yu]at h
 | .ty _,h=>by simp[Yu]at h
 | .clo _ _,h=>by simp[Yu]at h
theorem ZfC:∀ds:List D,WJ ds=true->YW ds=true/\qaI (Uw ds)=true/\qap 80 (Uw ds)=true/\qbC (Uw ds)=WG ds/\qbs (Uw ds)=Xh ds
 | [],_=>by simp[YW,Uw,qaI,qap,qbC,WG,qbs,Xh]
 | d::ds,h=>by
  have h:Yu d=true/\WJ ds=true:=by simpa only[WJ,qB]using h
  obtain⟨a,b,c,e,f⟩:=Zlt d h.1;obtain⟨a',b',c',e',f'⟩:=ZfC ds h.2;simp only[YW,Uw,qaI,qap,qbC,WG,qbs,Xh,a,a',b,b',c,c',e,e',f,f',qbQ,and_self]
end
theorem ZfD:∀(l:List D),(∀d∈l,Yu d=true)->WJ l=true
 | [],_=>by simp[WJ]
 | d::l,h=>by simp[WJ,h d (by simp),ZfD l λx m=>h x (by simp[m])]
theorem ZcB:∀(l:List D),(∀d∈l,XI d<=n)->WG l<=(n+1)*l.length
 | [],_=>by simp[WG]
 | d::l,h=>by
  have h1:=h d (by simp);have h2:=ZcB l λx m=>h x (by simp[m]);have e:(n+1)*(l.length+1)=(n+1)*l.length+(n+1):=by rfl
  simp only[WG,qW];omega
section
variable {f g:Zd->M D}{ρ:Zd}{s s1:Pn}{a b:Bool}{r:Option (D×Pn)}
theorem Zpl (h:f ρ s=some (.bl true,s1))(h2:g ρ s1=r):Vq f g ρ s=r:=by unfold Vq Zm;simp_all
theorem Zpm (h:f ρ s=some (.bl false,s1)):Vq f g ρ s=some (.bl false,s1):=by unfold Vq Zm;rw[h];rfl
theorem ZiC (h:f ρ s=some (.bl a,s))(h2:a=true->g ρ s=some (.bl b,s)):Vq f g ρ s=some (.bl (a&&b),s):=by
 cases a with
 | false=>exact Zpm h
 | true=>exact Zpl h (h2 rfl)
theorem ZiD (h:f ρ s=some (.bl a,s1)):BS f ρ s=some (.bl (!a),s1):=by unfold BS Zm;rw[h];rfl
end
section
variable {f g:Zd->M Bool}{ρ:Zd}{s s1:Pn}{a b:Bool}{r:Option (Bool×Pn)}
theorem Zpn (h:f ρ s=some (false,s1)):W4 f g ρ s=some (false,s1):=by unfold W4 Zm;rw[h];rfl
theorem Zpo (h:f ρ s=some (true,s1))(h2:g ρ s1=r):W4 f g ρ s=r:=by unfold W4 Zm;rw[h];exact h2
theorem VO (h:f ρ s=some (true,s1)):Yi f g ρ s=some (true,s1):=by unfold Yi Zm;rw[h];rfl
theorem WQ (h:f ρ s=some (false,s1))(h2:g ρ s1=r):Yi f g ρ s=r:=by unfold Yi Zm;rw[h];exact h2
theorem ZfE (h:f ρ s=some (a,s))(h2:a=false->g ρ s=some (b,s)):Yi f g ρ s=some (a||b,s):=by
 cases a with
 | true=>exact VO h
 | false=>exact WQ h (h2 rfl)
theorem ZiE (h:f ρ s=some (a,s))(h2:a=true->g ρ s=some (b,s)):W4 f g ρ s=some (a&&b,s):=by
 cases a with
 | false=>exact Zpn h
 | true=>exact Zpo h (h2 rfl)
end
section
variable {c:Zd->M Bool}{g1 g2:Zd->M Out}{ρ:Zd}{s s1:Pn}{r:Option (Out×Pn)}
theorem XC (h:c ρ s=some (true,s1))(h2:g1 ρ s1=r):ZU c g1 g2 ρ s=r:=by unfold ZU Zm;rw[h];exact h2
theorem XZ (h:c ρ s=some (false,s1))(h2:g2 ρ s1=r):ZU c g1 g2 ρ s=r:=by unfold ZU Zm;rw[h];exact h2
end
section
variable {fa fb:Zd->M D}{f:D->Zd->M Bool}{g:D->D->Option D}{ρ:Zd}{s s1 s2:Pn}{d e:D}{k:Bool}{r:Option (Bool×Pn)}
theorem ZjQ (h:fa ρ s=some (d,s1))(h2:f d ρ s1=r):JP fa f ρ s=r:=by unfold JP Zm;simp_all
theorem Zlu (h:fb ρ s=some (e,s1))(h2:g d e=some (.bl k)):J3 g fb d ρ s=some (k,s1):=by unfold J3 Zm;rw[h];show B0 (g d e) s1=_;rw[h2];rfl
theorem Zlv (h:fb ρ s=some (e,s))(h2:g d e=some (.bl k))(h3:k=true->f e ρ s=some (b,s)):J4 g fb f d ρ s=some (k&&b,s):=by
 unfold J4 Zm;simp only[h,h2,B0,ZH]
 cases k with
 | false=>rfl
 | true=>simp[h3 rfl]
end
theorem UN (a b:Int):YD (.int a) (.int b)=some (.bl (a==b)):=by
 rfl
theorem B1 (a b:Int):Y3 (.int a) (.int b)=some (.bl (!(a==b))):=by
 rfl
theorem Bj (h:τ d ρ=some ρ1)(hb:body ρ1 s=some (.nx ρ2,s1))(h2:Wu τ body ds ρ2 s1=r):Wu τ body (d::ds) ρ s=r:=by
 unfold Wu Zm YV;simp_all
theorem ZaR (h:τ d ρ=some ρ1)(hb:body ρ1 s=some (.rt e,s1)):Wu τ body (d::ds) ρ s=some (.rt e,s1):=by
 unfold Wu Zm YV;simp only[h,hb];rfl
theorem Zlw:Wu τ body [] ρ s=some (.nx ρ,s):=rfl
theorem X5 (h:fi ρ s=some (ds,s1))(h2:Wu τ body ds ρ s1=r):Yv fi τ body ρ s=r:=by
 unfold Yv Zm;simp_all
theorem Vg (h:f ρ s=some (.tup ds,s1)):Y2 f ρ s=some (ds,s1):=by unfold Y2 Zm;rw[h];rfl
theorem VG (h:f ρ s=some (.lst ds,s1)):Y0 f ρ s=some (ds,s1):=by unfold Y0 Zm;rw[h];rfl
end TF
namespace TP
open L2 TF
noncomputable def ZgG:D->Bool
 | .non=>true | .bl _=>true | .int _=>true | .str _=>true | .tup _=>true | .lst _=>true | _=>false
theorem UT (h:Yu d=true):ZgG d=true:=by
 cases d <;> first | rfl | (simp[Yu]at h)
noncomputable def Vt:D->Bool | .tup _=>true | _=>false
noncomputable def intB:D->Bool | .int _=>true | .bl _=>true | _=>false
noncomputable def Zql:D->Bool | .bl _=>true | _=>false
noncomputable def lstB:D->Bool | .lst _=>true | _=>false
noncomputable def Zoq:D->Bool | .tup [_,_]=>true | _=>false
noncomputable def JQ:D->Bool | .int _=>true | _=>false
theorem Zbp (h:ZgG d=true):Ys [d,.ty "tuple"]=some (.bl (Vt d)):=by
 cases d <;> first | rfl | cases h
theorem ZiF (h:ZgG d=true):Ys [d,.ty "int"]=some (.bl (intB d)):=by
 cases d <;> first | rfl | cases h
theorem ZgH (h:ZgG d=true):Ys [d,.ty "bool"]=some (.bl (Zql d)):=by
 cases d <;> first | rfl | cases h
theorem Zlx (h:ZgG d=true):Ys [d,.ty "list"]=some (.bl (lstB d)):=by
 cases d <;> first | rfl | cases h
noncomputable def VJ (n:Int):D->Bool | .int i=>decide (0<=i)&&decide (i<n) | _=>false
theorem ZjR (h:VJ n d=true):∃i,d=.int i:=by
 cases d <;> first | exact⟨_,rfl⟩ | cases h
theorem JC {α:Type}(l:List α):l.filter (λ_=>true)=l:=yp.mpr (by simp)
end TP
namespace TF
open L2
section
variable {f:Zd->M D}{fs:Zd->M (List D)}{ρ:Zd}{s:Pn}
theorem Ok.sunp (h:Ok (f ρ) s λd s1=>∃ρ',τ d ρ=some ρ'/\Q (.nx ρ') s1):Ok (Ww τ f ρ) s Q:=
 .bind (h.mono λd s1 q=>by obtain⟨ρ',e,q⟩:=q;rw[e];exact .ret q)
end
theorem ZiG (h1:f ρ s=some (x,s)):Z9 (Zb f Zf) ρ s=some (.tup [x],s):=Wh (Zk h1 rfl) (by show 1<=xg;decide)
theorem ZnC (h1:f ρ s=some (x,s))(h2:g ρ s=some (y,s)):Z9 (Zb f (Zb g Zf)) ρ s=some (.tup [x,y],s):=Wh (Zk h1 (Zk h2 rfl)) TP.two_le
theorem ZiH (h1:f ρ s=some (x,s)):X0 (Zb f Zf) ρ s=some (.lst [x],s):=BD (Zk h1 rfl) (by show 1<=xg;decide)
noncomputable def Tk (k m:Nat)(d:D):Prop:=Yu d=true/\ZX d<=k/\XI d<=m
theorem Tk.mono (h:Tk k m d)(h1:k<=k')(h2:m<=m'):Tk k' m' d:=⟨h.1,qu h.2.1 h1,qu h.2.2 h2⟩
theorem Tk.int (h:i.natAbs<100000):Tk 0 0 (.int i):=by
 refine⟨?_,by simp[ZX],by simp[XI]⟩;simp only[Yu,decide_eq_true_eq];exact yE h (by simp)
theorem jK (n:Nat)(h:n<100000):Tk 0 0 (.int (n:Int)):=Tk.int (by omega)
theorem Tk.tup (h:∀d∈ds,Tk k m d):Tk (k+1) ((m+1)*ds.length) (.tup ds):=by
 refine⟨?_,?_,?_⟩
 ·exact ZfD ds λd hd=>(h d hd).1
 ·have:=Zdg ds λd hd=>(h d hd).2.1
  simp only[ZX];omega
 ·exact ZcB ds λd hd=>(h d hd).2.2
theorem Tk.lst (h:∀d∈ds,Tk k m d):Tk (k+1) ((m+1)*ds.length) (.lst ds):=by
 refine⟨?_,?_,?_⟩
 ·exact ZfD ds λd hd=>(h d hd).1
 ·have:=Zdg ds λd hd=>(h d hd).2.1
  simp only[ZX];omega
 ·exact ZcB ds λd hd=>(h d hd).2.2
theorem jJ (hx:Tk k m x)(hy:Tk k m' y):Tk (k+1) (m+m'+2) (.tup [x,y]):=by
 refine⟨?_,?_,?_⟩
 ·simp only[Yu,WJ,hx.1,hy.1,qbQ]
 ·have:=hx.2.1;have:=hy.2.1;simp only[ZX,Xh];omega
 ·have:=hx.2.2;have:=hy.2.2;simp only[XI,WG];omega
theorem Zly {GG:Gh->Prop}(h:∀G,GG G->X1 X G ob own own' fr sts g):XO X sts (λE σ H=>∃G,GG G/\Zgv G ob own own' fr g E σ H):=by
 intro jM s σ H D I ⟨G,hG,kn,jQ,H0,ρ,pn,out,pn',j,st,e,po⟩;obtain⟨t,p,q⟩:=h G hG;exact p jM s σ H D I (q kn jQ H0 σ H ρ pn out pn' D j st e po)
theorem Zpp {K:qd}(sq:ZT K H a xs)(hp:H p=none):ZT K (Zp H p o) a xs:=by
 have hne:∀u,H a=some u->a≠p:=λu e z=>by grind
 rcases sq with(q | ⟨o',q⟩) | q
 ·exact .inl (.inl (by rw[Zu (hne _ q)];exact q))
 ·exact .inl (.inr ⟨o',by rw[Zu (hne _ q)];exact q⟩)
 ·exact .inr q
noncomputable def XS (L:List (Addr×Str))(b:Addr):Prop:=∃q,(b,q)∈L
noncomputable def Zor (G0:Gh)(L:List (Addr×Str))(P:Addr)(q:Str)(H:Hp):Prop:=∃ps,H P=some (.tbl ps)/\TriplesOk ps.toList/\∀pos cv,codeAmong pos ps.toList=some cv->∃c',cv=.ref c'/\H c'=some (.ext (codeφ c' q))/\¬G0.fp c'/\¬XS L c'
noncomputable def J6 (G0:Gh)(L:List (Addr×Str)):Gh where
 fp:=λb=>G0.fp b∨XS L b
 rd:=λb=>G0.rd b∨XS L b
 pen:=G0.pen
 st:=λs H=>G0.st s H/\∀P q,(P,q)∈L->Zor G0 L P q H
 mono:=λs H H' ⟨h1,h2⟩ k1 k2 k3=>⟨G0.mono s H H' h1 (λb o r=>k1 b o (.inl r)) k2 k3,λP q m=>by
  obtain⟨ps,e,t,h⟩:=h2 P q m;refine⟨ps,k1 P _ (.inr ⟨q,m⟩) e,t,λpos cv hc=>?_⟩;obtain⟨c',z1,z2,z3⟩:=h pos cv hc;exact⟨c',z1,k2 _ _ z2,z3⟩⟩
 sub:=λb h=>h.elim (λz=>.inl (G0.sub b z)) .inr
 dom:=λs H b ⟨h1,h2⟩ hb=>by
  rcases hb with z | ⟨q,m⟩
  ·exact G0.dom s H b h1 z
  ·obtain⟨ps,e,_⟩:=h2 b q m
   exact⟨_,e⟩
 ntp:=λs H b vs ⟨h1,h2⟩ hb=>by
  rcases hb with z | ⟨q,m⟩
  ·exact G0.ntp s H b vs h1 z
  ·obtain⟨ps,e,_⟩:=h2 b q m
   rw[e];intro z;cases z
theorem Zev {pos:Pos}(l:List Value)(h:TriplesOk l)(hc:codeAmong pos' (l ++ [rawInt pos.line,rawInt pos.col,c])=some cv):codeAmong pos' l=some cv∨cv=c:=by
 fun_induction TriplesOk l with
 | case1=>
  simp only[List.nil_append,rawInt,codeAmong]at hc;simp_all
 | case2 a b d e f rest ih=>
  simp only[List.cons_append,codeAmong]at hc⊢;split at hc
  ·rename_i h1;rw[if_pos h1];exact .inl hc
  ·rename_i h1;rw[if_neg h1];exact ih h hc
 | case3=>cases h
theorem ZgI {pos:Pos}(l:List Value)(h:TriplesOk l):TriplesOk (l ++ [rawInt pos.line,rawInt pos.col,c]):=by
 fun_induction TriplesOk l with
 | case1=>simp[TriplesOk,rawInt]
 | case2 a b d e f rest ih=>exact ih h
 | case3=>cases h
noncomputable def UO (L:List (Addr×Str)):Prop:=∀P q q',(P,q)∈L->(P,q')∈L->q=q'
noncomputable def Vu (GG0:Gh->Prop)(L:List (Addr×Str))(G:Gh):Prop:=∃G0,GG0 G0/\(∀b,XS L b->¬G0.rd b)/\G=J6 G0 L
theorem ZnD (lo:UO L)(hrd:∀b,XS L b->¬G0.rd b)(m:(P,q)∈L):TabG P q (J6 G0 L):=by
 refine⟨λs H st=>?_,.inr ⟨q,m⟩,λs H ps pos c' st hP hc hn=>?_⟩
 ·obtain⟨ps,e,t,h⟩:=st.2 P q m
  refine⟨ps,e,t,λpos cv hc=>?_⟩;obtain⟨c',z1,z2,z3,z4⟩:=h pos cv hc;exact⟨c',z1,z2,λz=>z.elim z3 z4⟩
 ·have hcP:c'≠P:=λz=>by rw[z,hP]at hc;cases hc
  have notL:¬XS L c':=λ⟨q',m'⟩=>by
   obtain⟨_,e,_⟩:=st.2 c' q' m';rw[hc]at e;cases e
  have k2:∀b φ,H b=some (.ext φ)->Zp (Zp H P (.tbl (ps ++ #[rawInt pos.line,rawInt pos.col,.ref c']))) c' (.ext (codeφ c' q)) b=some (.ext φ):=λb φ e=>by
   rw[Zu (Yz e hc),Zu (λz=>by rw[z,hP]at e;cases e)];exact e
  refine⟨G0.mono s H _ st.1 (λb o r e=>?_) k2 (λb vs e=>by rw[Zu (Yz e hc),Zu (λz=>by rw[z,hP]at e;cases e)];exact e),λP' q' m'=>?_⟩
  ·rw[Zu (Yz e hc),Zu (λz=>hrd P ⟨q,m⟩ (by simp_all))];exact e
  ·by_cases hb:P'=P
   ·subst hb
    have:=lo P' q q' m m';subst this;obtain⟨ps',e,t,h⟩:=st.2 P' q m;rw[hP]at e;cases e;refine⟨_,by rw[Zu (qJ hcP),Z1],?_,λpos' cv hcv=>?_⟩
    ·rw[qbU];exact ZgI _ t
    ·rw[qbU]at hcv
     rcases Zev _ t hcv with z | z
     ·obtain⟨c2,z1,z2,z3⟩:=h pos' cv z
      exact⟨c2,z1,k2 _ _ z2,z3⟩
     ·exact⟨c',z,Z1,Gh.nofp st.1 hc,notL⟩
   ·obtain⟨ps',e,t,h⟩:=st.2 P' q' m'
    refine⟨ps',by rw[Zu (Yz e hc),Zu hb];exact e,t,λpos' cv hcv=>?_⟩;obtain⟨c2,z1,z2,z3⟩:=h pos' cv hcv;exact⟨c2,z1,k2 _ _ z2,z3⟩
noncomputable def V8 (L:List (Addr×Str))(G:Gh):Prop:=∀P q,(P,q)∈L->TabG P q G
theorem jA (lo:UO L)(h:Vu GG0 L G):V8 L G:=by
 obtain⟨G0,_,hrd,rfl⟩:=h;exact λP q m=>ZnD lo hrd m
mutual
theorem Zl.tr {G G':Gh}{H H':Hp}(h:∀a o,¬G.fp a->H a=some o->(∀ps,o≠.tbl ps)->¬G'.fp a/\H' a=some o)(hp:G'.pen=G.pen):∀{d:D} {v:V},ZY d=true->Zl G H d v->Zl G' H' d v
 | .non,_,_,r=>jg.mpr (jg.mp r)
 | .bl _,_,_,r=>je.mpr (je.mp r)
 | .int _,_,_,r=>ja.mpr (ja.mp r)
 | .str _,_,_,r=>jh.mpr (jh.mp r)
 | .tup ds,v,n,r=>by
  obtain⟨a,vs,e1,nf,e2,r⟩:=jd.mp r;obtain⟨z1,z2⟩:=h a _ nf e2 (λ_ z=>by cases z);exact jd.mpr ⟨a,vs,e1,z1,z2,Zi.tr h hp (by simpa[ZY]using n) r⟩
 | .lst ds,v,n,r=>by
  obtain⟨a,vs,e1,nf,e2,r⟩:=jb.mp r;obtain⟨z1,z2⟩:=h a _ nf e2 (λ_ z=>by cases z);exact jb.mpr ⟨a,vs,e1,z1,z2,Zi.tr h hp (by simpa[ZY]using n) r⟩
 | .dk _,_,_,r=>by
  obtain⟨a,e1,nf,e2⟩:=ji.mp r;obtain⟨z1,z2⟩:=h a _ nf e2 (λ_ z=>by cases z);exact ji.mpr ⟨a,e1,z1,z2⟩
 | .dt _,_,_,r=>by
  obtain⟨a,o,e1,nf,e2⟩:=jk.mp r;obtain⟨z1,z2⟩:=h a _ nf e2 (λ_ z=>by cases z);exact jk.mpr ⟨a,o,e1,z1,z2⟩
 | .du _,_,_,r=>by
  obtain⟨a,e1,nf,e2⟩:=jl.mp r;obtain⟨z1,z2⟩:=h a _ nf e2 (λ_ z=>by cases z);exact jl.mpr ⟨a,e1,z1,z2⟩
 | .df _,_,_,r=>by
  obtain⟨a,o,e1,nf,e2⟩:=js.mp r;obtain⟨z1,z2⟩:=h a _ nf e2 (λ_ z=>by cases z);exact js.mpr ⟨a,o,e1,z1,z2⟩
 | .pen,_,_,r=>jq.mpr ((jq.mp r).trans hp.symm)
 | .ty _,_,_,r=>jr.mpr (jr.mp r)
 | .clo _ _,_,n,_=>by simp[ZY]at n
theorem Zi.tr {G G':Gh}{H H':Hp}(h:∀a o,¬G.fp a->H a=some o->(∀ps,o≠.tbl ps)->¬G'.fp a/\H' a=some o)(hp:G'.pen=G.pen):∀{ds:List D} {vs:List V},Yh ds=true->Zi G H ds vs->Zi G' H' ds vs
 | [],_,_,r=>Zi.nil_iff.mpr (Zi.nil_iff.mp r)
 | d::ds,vs,n,r=>by
  obtain⟨v,rr,e,h1,h2⟩:=jc.mp r;have n':ZY d=true/\Yh ds=true:=by simpa[Yh]using n
  exact jc.mpr ⟨v,rr,e,Zl.tr h hp n'.1 h1,Zi.tr h hp n'.2 h2⟩
end
open Classical in
noncomputable def UH (L:List (Addr×Str))(H H2:Hp):Hp:=λb=>if XS L b then H2 b else H b
theorem ZnE (h:XS L b):UH L H H2 b=H2 b:=by unfold UH;simp_all
theorem Vd (h:¬XS L b):UH L H H2 b=H b:=by unfold UH;simp_all
theorem ZnF {K:qd}(FN:FnOk P w K mg base ZR k f fd ps (Yp n fr GG0 F))
  (hF:∀ds s d s',F ds s=some (d,s')->Yh ds=true/\ZY d=true):FnOk P w K mg base ZR k f fd ps (Yp n fr (Vu GG0 L) F):=by
 refine FN.imp λvs H Q E h=>?_;obtain⟨G,Hf,ds,s,d,s',⟨G0,hG0,hrd,rfl⟩,hl,e1,r,st,eF,k⟩:=h;obtain⟨n1,n2⟩:=hF _ _ _ _ eF;have nfp:∀b,XS L b->¬G0.fp b:=λb m z=>hrd b m (G0.sub b z);have e1':ZA G0 (UH L Hf λ_=>none) H:=λb o nb q=>by
  by_cases m:XS L b
  ·rw[ZnE m]at q;cases q
  ·rw[Vd m]at q;exact e1 b o (λz=>z.elim nb m) q
 refine⟨G0,UH L Hf λ_=>none,ds,s,d,s',hG0,hl,e1',Zi.tr (G:=J6 G0 L) (G':=G0) (λa o na q _=>?_) rfl n1 r,st.1,eF,λv Hf' H' g st' r' fz=>?_⟩
 ·have m:¬XS L a:=λz=>na (.inr z)
  exact⟨λz=>na (.inl z),by rw[Vd m];exact q⟩
 ·have tab:∀b,XS L b->∃ps,H' b=some (.tbl ps):=λb ⟨q,m⟩=>by
   obtain⟨ps,e,_⟩:=st.2 b q m;exact⟨ps,g.hh b _ (nfp b ⟨q,m⟩) e⟩
  have out:∀a o,¬G0.fp a->Hf' a=some o->(∀ps,o≠.tbl ps)->¬XS L a:=λa o na q no m=>by
   obtain⟨ps,e⟩:=tab a m;rw[g.fh a o na q]at e;exact no ps (zP e)
  have tr:∀a o,¬G0.fp a->Hf' a=some o->(∀ps,o≠.tbl ps)->¬(J6 G0 L).fp a/\UH L Hf' Hf a=some o:=λa o na q no=>by
   have m:=out a o na q no;exact⟨λz=>z.elim na m,by rw[Vd m];exact q⟩
  refine k v (UH L Hf' Hf) H' ⟨λb o nb q=>g.hh b o (λz=>nb (.inl z)) q,λb o nb q=>?_,λb o nb q=>?_,λb nb q1 q2=>?_⟩ ⟨st',λP q m=>?_⟩ (Zl.tr (G:=G0) (G':=J6 G0 L) tr rfl n2 r') λz a ea mu=>?_
  ·have m:¬XS L b:=λz=>nb (.inr z)
   rw[Vd m];exact g.ff b o (λz=>nb (.inl z)) (by rw[Vd m];exact q)
  ·have m:¬XS L b:=λz=>nb (.inr z)
   rw[Vd m]at q;exact g.fh b o (λz=>nb (.inl z)) q
  ·have m:¬XS L b:=λz=>nb (.inr z)
   rw[Vd m];exact g.nw b (λz=>nb (.inl z)) (by rw[Vd m];exact q1) q2
  ·obtain⟨ps,e,t,h⟩:=st.2 P q m
   refine⟨ps,g.hh P _ (nfp P ⟨q,m⟩) e,t,λpos cv hc=>?_⟩;obtain⟨c',z1,z2,z3,z4⟩:=h pos cv hc;exact⟨c',z1,g.hh c' _ z3 z2,z3,z4⟩
  ·obtain⟨h1,h2⟩:=fz z a ea mu
   refine⟨h1,λxs ed=>?_⟩;obtain⟨us,Hm,q1,q2,q3,q4⟩:=h2 xs ed;have na:¬XS L a:=λm=>by
    obtain⟨q,m⟩:=m;obtain⟨ps,e,_⟩:=st.2 a q m;rw[h1]at e;cases e
   refine⟨us,UH L Hm λ_=>none,by rw[Vd na];exact q1,by rw[Vd na];exact q2,λb o nb q=>?_,?_⟩
   ·have m:=λz=>nb (.inr z)
    rw[Vd m]at q⊢;exact q3 b o (λz=>nb (.inl z)) q
   ·subst ed
    refine Zi.tr (G:=G0) (G':=J6 G0 L) (λb o nb q no=>?_) rfl (by simpa[ZY]using n2) q4;have m:=out b o nb (q3 b o nb q) no;exact⟨λz=>z.elim nb m,by rw[Vd m];exact q⟩
theorem Zlz {K:qd}(c:Yd P w K mg base k x n fr GG0 F)(hF:∀ds s d s',F ds s=some (d,s')->Yh ds=true/\ZY d=true):Yd P w K mg base k x n fr (Vu GG0 L) F:=
 let ⟨f,fd,ps,a,b,c,d⟩:=c
 ⟨f,fd,ps,ZnF a hF,b,c,d⟩
theorem ZlA {ps:List Str}(hpl:ps.length<=N.length)(q:Dos G [] [] own fr t g)(e1:ZA G Hf H)(r:Zi G Hf ds vs)(st':G.st pn H)(eF:runB N.length ps.length g ds pn=some (d,pn'))
  (k':∀v Hf' H',Gr G Hf H Hf' H'->G.st pn' H'->Zl G Hf' d v->(fr=true->YM G H Hf' d v)->Q v H'):t { nx:=λ_ H'=>Q .non H',rt:=Q } (L2.start N vs) H:=by
 obtain⟨hl,a0⟩:=XA eF;obtain⟨o,s1,a1,a2⟩:=Zx a0;have j0:Jf G [] Hf Hf H (L2.start N vs) Hf H (ds.map some++qp (N.length-ps.length) none):=by
  refine⟨?_,.refl _ _,.refl e1,λi d n e=>?_,λi d m e=>absurd m (by simp),λi j a di dj mi mj n e=>absurd mi (by simp)⟩
  ·have:=r.length
   unfold L2.start;simp;omega
  ·have hi:i<ds.length:=by
    by_cases hi:i<ds.length
    ·exact hi
    ·rw[zM (by simpa using hi),zS]at e
     split at e <;> cases e
   have e':ds[i]?=some d:=by
    rw[za (by simpa using hi),qI]at e
    cases q:ds[i]? with
    | none=>rw[q]at e;cases e
    | some c=>rw[q]at e;simp at e;rw[e]
   obtain⟨v,h1,h2⟩:=r.get e';refine⟨v,?_,h2⟩;unfold L2.start;rw[za (by simp;rw[<-r.length];exact hi),qI,h1];rfl
 refine q Hf Hf H (L2.start N vs) H _ pn o s1 _ ⟨Hf,j0⟩ st' a1 ?_
 cases o with
 | rt c=>
  obtain⟨rfl,rfl⟩:=ZJ a2;exact λv Hf' H' g' jZ r2 fz=>k' v Hf' H' g' jZ r2 fz
 | nx ρ'=>
  obtain⟨rfl,rfl⟩:=ZJ a2;exact fun σ' H' ⟨Hf',j'⟩ jZ=>k' .non Hf' H' j'.gr jZ (jg.mpr rfl) λ_=>.scal λz=>z
 | bk ρ'=>cases a2
 | ct ρ'=>cases a2
theorem fnDC {K:qd}{st:Stmt}
  (F:Fun K x qual st f fd) (S:FnScope N ps (ZF st))
  (hb:∀(A:xE) (outer:List Env) (s:Shared) (H:Hp) (E:XK),Room k (A.deeper (envOfC qual (ZF st) s.heap.objs.size f fd.code))->∀G,GG G->X1 (Vp ZR P w K mg base N qual (ZF st) f fd.code A outer s H E).nox G [] [] own fr (XV st) g) :
  FnOk P w K mg base ZR (k+1) f fd ps (Yp ps.length fr GG (runB N.length ps.length g)):=by
 obtain⟨oc,od,kV,doc,pm,an,cdv,ct,osl,rfl,lk,hcd⟩:=F.ex;refine Zol lk hcd S (λvs H Q E ⟨_,_,_,_,_,_,_,e,_⟩=>e) λA outer s H vs Q E hr h=>?_;obtain⟨G,Hf,ds,pn,d,pn',hG,el,e1,r,st',eF,k'⟩:=h;obtain⟨t,p,q⟩:=hb A outer s H E hr G hG;exact⟨t,p.nox,ZlA (by have:=congrArg qb9 S.pre;grind) q e1 r st' eF k'⟩
section
variable {X:Cx}{G:Gh}{P c:Addr}{q:Str}{k kl n:Nat}{x:Str}{fr frb:Bool}{F:List D->M D}{T:Nat->List D->M D}{t:Nat}{e1:Expr}{f1:Zd->M D}{r1:Bool}{params:Arguments}{scope:Scope}{lpos ppos pos:Pos}{XN N ps:List Str}{NS:List (Str×NameKind)}{cix:List Nat}
end
noncomputable def B2 (mg:Str->Option Value)(h:Heap):Prop:=∃bm o,mg "__builtins__" = some (.ref bm)/\bm≠builtinsNs/\bm≠mainGlobals/\h.get? bm=some o/\o.cls=.type "module"/\o.dict=some builtinsNs/\o.data=.plain
theorem ZjS {K:qd}{tb:List (Addr×Addr)}
  (KX:K.In s₁.heap) (hns:s₁.heap.Ns mainGlobals mg) (hb:s₁.heap.Ns builtinsNs mb) (hbb:∀x:Str,x≠"__name__"->mb x=xj x) (hlim:s₁.heap.NoLimit) (hg:s₁.gens = #[])
  (hT:∀e∈tb,zU s₁.heap e.1 e.2/\s₁.heap.get? e.2=some (qaE #[])) (hKt:PySem.W.noTabs K=true) (hbm:B2 mg s₁.heap)
  (ha:s₁.heap.get? a=some { cls:=.type "list",data:=.seq vs.toArray }) (hi:IntsAre vs ns) (hl:ns.length<=xg) (hr:Room k callerA)
  (F:∀base:Heap,K.In base->base.Ns mainGlobals mg->(∀e∈tb,zU base e.1 e.2)->B2 mg base->FnOk P w K mg base CX k fa fd [x] sp) (hbind:∀(s:Shared) (u:Value),BindsTo s fd ⟨[u],[]⟩ [(x,u)])
  (hsp:∀H:Hp,ZT K H a (ns.map V.int)->(∀e∈tb,H e.2=some (.tbl #[]))->sp [.ref a] H (λv _=>v=.bl true) λ_ _ _=>False)
  (hCX:∀H e s',CX [] H s₁ (λ_ _ _=>False) e s'->False) :
  xo (xB P w) callerA (.call (.ref fa) ⟨[.ref a],[]⟩) (λr s'=>r=.ok (.ret (.bool true))/\OldK s₁.heap s'.heap/\s'.os=s₁.os/\AllBare s'.gens) s₁:=by
 have rv:=ZeP hi;have lenV:=hi.length;have tabne:∀e∈tb,e.2≠a:=λe he z=>by
  have:=(hT e he).2;rw[z,ha]at this;cases this
 have noK:∀e∈tb,K.lookup e.2=none:=λe he=>by
  cases q:K.lookup e.2 with
  | none=>rfl
  | some o=>
   have h2:=qS.mp hKt (e.2,o) (PySem.W.mem_of_lookupK q);have e1:=KX _ _ q;rw[(hT e he).2]at e1
   cases e1
   exact absurd (show false=true from h2) yu
 have core:∀H:Hp,(∀b u,H b=some u->(b=a/\u=.frz { cls:=.type "list",data:=.seq vs.toArray } (.lst (ns.map V.int))/\K.lookup a=none)∨(u=.tbl #[]/\∃e∈tb,e.2=b))->ZT K H a (ns.map V.int)->(∀e∈tb,H e.2=some (.tbl #[]))->
   xo (xB P w) callerA (.call (.ref fa) ⟨[.ref a],[]⟩) (λr s'=>r=.ok (.ret (.bool true))/\OldK s₁.heap s'.heap/\s'.os=s₁.os/\AllBare s'.gens) s₁:=by
  intro H hO hS hTb;have hok:YC P w H s₁.heap:=λb u e=>by
   rcases hO b u e with⟨rfl,rfl,_⟩ | ⟨rfl,e',he,rfl⟩
   ·exact⟨ha,by rw[qf];exact hl,vs,_,rv,ha⟩
   ·exact(hT e' he).2
  have base_of:∀{b:Addr} {o:Obj},s₁.heap.get? b=some o->H b=none->(hidT s₁.heap H).get? b=some o:=λe n=>Zkx e n;have noA:∀{b:Addr} {o:Obj},s₁.heap.get? b=some o->(∀vs n,o.data≠.seq vs n)->(∀vs,o.data≠.fields vs∨o.cls≠.none)->H b=none:=λ{b o} e d1 d2=>by
   cases q:H b with
   | none=>rfl
   | some u=>
    rcases hO b u q with⟨rfl,_,_⟩ | ⟨_,e',he,rfl⟩
    ·rw[ha]at e;cases e;exact absurd rfl (d1 _ _)
    ·rw[(hT e' he).2]at e;cases e
     rcases d2 #[]with z | z
     ·exact absurd rfl z
     ·exact absurd rfl z
  have nsK:∀{b:Addr} {m:Str->Option Value},s₁.heap.Ns b m->(hidT s₁.heap H).Ns b m:=λ{b m} ⟨o,es,ep,e,d,r⟩=>⟨o,es,ep,base_of e (noA e (λ_ _ z=>by rw[d]at z;cases z) λ_=>.inl λz=>by rw[d]at z;cases z),d,r⟩;have hKb:K.In (hidT s₁.heap H):=λb o e=>base_of (KX b o e) (by
   cases q:H b with
   | none=>rfl
   | some u=>
    rcases hO b u q with⟨rfl,_,z⟩ | ⟨_,e',he,rfl⟩
    ·rw[z]at e;cases e
    ·rw[noK e' he]at e;cases e)
  have hM:Mod K mg (hidT s₁.heap H):=⟨hKb,nsK hns,⟨mb,nsK hb,hbb⟩,let ⟨mc,h1,h2⟩:=hlim;⟨mc,nsK h1,h2⟩⟩;have e0:Env0 P w K mg (hidT s₁.heap H) callerA [] s₁ H:=⟨rfl,hM,λb o e=>ZmS e,qb0 (Zjg _ _),trivial,λb hb=>absurd (show b∈([]:List Addr)from hb) (by simp),hok,.of_eq hg⟩;have hCd:∀e∈tb,zU (hidT s₁.heap H) e.1 e.2:=λe he=>by
   obtain⟨o,vs',file,tf,flags,tg,inF,text,tt,e1,r1,r2,r3⟩:=(hT e he).1;exact⟨o,vs',file,tf,flags,tg,inF,text,tt,base_of e1 (noA e1 (λ_ _ z=>by rw[r2]at z;cases z) λ_=>.inr (by rw[r1];nofun)),r1,r2,r3⟩
  have hBm:B2 mg (hidT s₁.heap H):=by
   obtain⟨bm,o,e1,e2,e3,e4,e5,e6,e7⟩:=hbm;exact⟨bm,o,e1,e2,e3,base_of e4 (noA e4 (λ_ _ z=>by rw[e7]at z;cases z) λ_=>.inl λz=>by rw[e7]at z;cases z),e5,e6,e7⟩
  refine codeAny_mono ((F _ hKb (nsK hns) hCd hBm).run callerA [] s₁ H ⟨[.ref a],[]⟩ [.ref a] [.ref a] _ _ hr e0 (hbind s₁ (.ref a)) (.cons rfl .nil) (hsp H hS hTb)) λr s' h=>?_
  cases r with
  | error e=>exact(hCX H e s' h).elim
  | ok fl=>
   cases fl with
   | next=>exact zy h
   | brk=>exact zy h
   | cont=>exact zy h
   | ret u=>
    obtain⟨v,H',os,bare,un,hok',r',q⟩:=h;have q':v=.bl true:=q;subst q';obtain rfl:u=zh true:=r';refine⟨rfl,⟨λb o e=>?_,λb o e=>un.there b o e (by simp)⟩,os,bare⟩
    cases q:H b with
    | none=>exact .inl (un.keep b o e q (by intro z;exact absurd (show b∈([]:List Addr)from z) (by simp)) (by simp))
    | some u=>
     rcases hO b u q with⟨rfl,rfl,_⟩ | ⟨rfl,e',he,rfl⟩
     ·have z2:=un.frzs b _ _ q
      obtain⟨e1,_⟩:=hok b _ q;obtain⟨e2,_⟩:=hok' b _ z2;rw[e]at e1;cases e1;exact .inl e2
     ·obtain⟨more,z⟩:=un.tbls _ _ q
      have z2:s'.heap.get? e'.2=some (qaE (#[]++more)):=hok' _ _ z;have e1:=(hT e' he).2;rw[e]at e1;cases e1;exact .inr (.inl ⟨((hT e' he).1.tab (hT e' he).2).isCodeTable,rfl,#[],more,rfl,z2⟩)
 cases hk:K.lookup a with
 | some o=>
  have e:=KX a o hk;rw[ha]at e
  cases e
  refine core (λb=>open Classical in if ∃e∈tb,e.2=b then some (.tbl #[])else none) (λb u z=>?_) (.inr ⟨_,vs.toArray,_,hk,rfl,rfl,rfl,by rw[zm,lenV];exact hl,by simpa using rv⟩) (λe he=>if_pos ⟨e,he,rfl⟩);by_cases h:∃e∈tb,e.2=b
  ·rw[if_pos h]at z;cases z;exact .inr ⟨rfl,h⟩
  ·rw[if_neg h]at z;cases z
 | none=>
  refine core (λb=>open Classical in if ∃e∈tb,e.2=b then some (.tbl #[])else if b=a then some (.frz { cls:=.type "list",data:=.seq vs.toArray } (.lst (ns.map V.int)))else none) (λb u z=>?_) (.inl (.inr ⟨{ cls:=.type "list",data:=.seq vs.toArray },?_⟩)) (λe he=>if_pos ⟨e,he,rfl⟩)
  ·by_cases h:∃e∈tb,e.2=b
   ·rw[if_pos h]at z;cases z;exact .inr ⟨rfl,h⟩
   ·rw[if_neg h]at z
    by_cases hb:b=a
    ·rw[if_pos hb]at z;cases z;exact .inl ⟨hb,rfl,hk⟩
    ·simp_all
  ·show(if ∃e∈tb,e.2=a then _ else _)=_
   rw[if_neg (λ⟨e,he,z⟩=>tabne e he z),if_pos rfl]
theorem ZlB {l : PySem.W.OpenLaw}{K : Params -> qd}{CX : World -> UL}{sp : World -> Sp}{tb : List (Str × Addr × Addr)}
    (hn : l.most = some n) (hn2 : n <= xg) (hdf : d.params.defaults = []) (hr : Room k callerA)
    (hY : ∀ (w : World) (h : Heap), YP w h -> (K w.params).In h)
    (hrec : ∀ e ∈ tb, ∃ d, (recsOf q).find? (λr => r.name == e.1) = some d) (htab : ∀ w : World, ∀ e ∈ tb, PySem.W.tabIn (K w.params) e.1 = some e.2) (hno : ∀ w : World, PySem.W.noTabs (K w.params) = true)
    (F : ∀ (w : World) (mg : Str -> Option Value) (fa : Addr) (h : Heap), (K w.params).In h -> h.Ns mainGlobals mg -> mg d.name = some (.ref fa) ->
      ∃ fd : xC, (∀ (s : Shared) (u : Value), BindsTo s fd ⟨[u], []⟩ [(x, u)]) /\
        ∀ base : Heap, (K w.params).In base -> base.Ns mainGlobals mg -> (∀ e ∈ tb, zU base e.2.1 e.2.2) -> B2 mg base -> FnOk l.prog w (K w.params) mg base (CX w) k fa fd [x] (sp w))
    (hsp : ∀ (w : World) (H : Hp) (a : Addr) (ns : List Int), ns.length <= n -> ZT (K w.params) H a (ns.map V.int) -> (∀ e ∈ tb, H e.2.2 = some (.tbl #[])) -> sp w [.ref a] H (λv _ => v = .bl true) λ_ _ _ => False)
    (hCX : ∀ (w : World) (H : Hp) (s : Shared) (e : Value) (s' : Shared), CX w [] H s (λ_ _ _ => False) e s' -> False) :
    qbR q loose XP YP l.row.toRowW d [] (λf vs => qbL f vs) := by
  refine Att.attach_call hn hdf λw s₀ s₁ mg mb fa o pm cd doc a vs ns G Y ho hd hcd hmg hobj hints jW hg => ?_;have KX := hY w _ Y;obtain⟨fd, hb, hF⟩ := F w mg fa _ KX G.T.g hmg;have hT : ∀ e ∈ tb.map (·.2), zU s₁.heap e.1 e.2 /\ s₁.heap.get? e.2 = some (qaE #[]) := λe he => by
    obtain⟨e', he', rfl⟩ := qm.mp he;obtain⟨d', hd'⟩ := hrec e' he';exact PySem.W.tab_of G.T KX hd' (htab w e' he')
  exact ZjS KX G.T.g G.T.b G.T.builtins G.T.nolimit hg hT (hno w) (let ⟨bm, ob, a, b, c, d, e, f⟩ := G.T.bmain; ⟨bm, ob, a, b, (λz => by
      obtain⟨o, es, ep, e', hd', _⟩ := G.T.g
      grind), c, d, e, f⟩) hobj hints (qu jW hn2) hr
    (λbase h1 h2 h3 h4 => hF base h1 h2 (λe he => h3 e.2 (qaA he)) h4) hb (λH hS hTb => hsp w H a ns jW hS λe he => hTb e.2 (qaA he)) λH e s' => hCX w H s₁ e s'
end TF
namespace L2
section
variable {X:Cx}{jM:Qb}{σ:St}{H:Hp}{s:Shared}{h':Heap}
end
end L2
namespace TF
open L2
section
variable {X:Cx}{G:Gh}
end
section
variable {X:Cx}{G:Gh}
noncomputable def J7:D->Option Bool
 | .non=>some true
 | .pen=>none
 | .ty _=>none
 | .clo _ _=>none
 | _=>some false
noncomputable def dIsN (d e:D):Option D:=match e with | .non=>(J7 d).map .bl | _=>none
theorem Ze0 (h:J7 d=some b)(r:Zl G Hf d v):decide (v=.non)=b:=by
 cases d with
 | non=>cases h;rw[jg.mp r];rfl
 | bl _=>cases h;rw[je.mp r];rfl
 | int _=>cases h;rw[ja.mp r];rfl
 | str _=>cases h;rw[jh.mp r];rfl
 | tup _=>cases h;obtain⟨p,vs,rfl,_⟩:=jd.mp r;rfl
 | lst _=>cases h;obtain⟨p,vs,rfl,_⟩:=jb.mp r;rfl
 | dk _=>cases h;obtain⟨p,rfl,_⟩:=ji.mp r;rfl
 | dt _=>cases h;obtain⟨p,_,rfl,_⟩:=jk.mp r;rfl
 | du _=>cases h;obtain⟨p,rfl,_⟩:=jl.mp r;rfl
 | df _=>cases h;obtain⟨p,_,rfl,_⟩:=js.mp r;rfl
 | pen=>cases h
 | ty _=>cases h
 | clo _ _=>cases h
theorem ZnG:Y4 X G (xk .Is) dIsN:=
 ⟨_,Zo0,λHf H s x y d e c Q e1 st rx ry q k=>by
  cases e with
  | non=>
   have q:(J7 d).map D.bl=some c:=q
   cases hb:J7 d with
   | none=>simp_all
   | some b=>
    rw[hb]at q
    cases q
    refine⟨jg.mp ry,?_⟩;rw[Ze0 hb rx];exact k _ Hf H (.refl e1) st (je.mpr rfl) (.scal λz=>z)
  | _=>cases q⟩
end
section
variable {X:Cx}{G:Gh}
theorem ZaK:∀ns:List Int,Zi G Hf (ns.map D.int) (ns.map V.int)
 | []=>Zi.nil_iff.mpr rfl
 | n::ns=>.cons (ja.mpr rfl) (ZaK ns)
end
end TF
namespace HT
section
variable {prog:xD}{w:World}{A:xE}{E:xF}{s:Shared}
end
end HT
namespace TF
open L2
section
variable {X:Cx}{G:Gh}
end
end TF
namespace L2
open AutoSeq1 (wpAny_loadPart')
section
variable {prog:xD}{w:World}{A:xE}{E:xF}{s:Shared}
end
end L2
namespace TF
open L2
section
variable {X:Cx}{G:Gh}
end
section
variable {X:Cx}{G:Gh}
end
end TF
namespace L2
section
variable {prog:xD}{w:World}{A:xE}{E:xF}{s:Shared}
end
end L2
namespace TF
open L2
section
variable {X:Cx}{G:Gh}
end
end TF
namespace L2
end L2
namespace TF
open L2
section
variable {X:Cx}{G:Gh}
end
end TF
namespace L2
section
variable {prog:xD}{w:World}{A:xE}{E:xF}{s:Shared}{o:Obj}{es:Array DictEntry}{d it:Addr}{ep i:Nat}
end
section
variable {X:Cx}{tg:Expr}
end
end L2
namespace TF
open L2
section
variable {X:Cx}{G:Gh}
end
end TF
namespace L2
section
variable {prog:xD}{w:World}{A:xE}{E:xF}{s:Shared}{z TI TO i1 i2:Addr}{f1 f2:List Addr}{n1 n2 k:Nat}{P1 P2:Nat->Value->Prop}{S1 S2:Nat->Heap->Prop}{a b:Value}
end
section
variable {prog:xD}{w:World}{A:xE}{E:xF}{s:Shared}
end
end L2
namespace TF
open L2
section
variable {X:Cx}{G:Gh}
end
end TF
namespace TS
open PySem.W
noncomputable def YE {α:Type}(lt:Nat->Nat->Bool)(n:Nat):KasT α->(α->Prop)->Prop
 | .ret a,Q=>Q a
 | .ask i j k,Q=>i<n/\j<n/\YE lt n (k (lt i j)) Q
theorem YE.bind {f:α->KasT β}{Q:β->Prop}:∀{t:KasT α},YE lt n t (λa=>YE lt n (f a) Q)->YE lt n (t.bind f) Q
 | .ret _,h=>h
 | .ask i j k,h=>⟨h.1,h.2.1,YE.bind h.2.2⟩
theorem YE.mono {Q R:α->Prop}(hr:∀a,Q a->R a):∀{t:KasT α},YE lt n t Q->YE lt n t R
 | .ret _,h=>hr _ h
 | .ask i j k,h=>⟨h.1,h.2.1,YE.mono hr h.2.2⟩
theorem jH {Q:α->Prop}{R:α->Shared->Prop}(hc:∀i j,i<n->j<n->∀C:Bool->Shared->Prop,C (lt i j) s->cmp i j C s)(hr:∀a,Q a->R a s):∀{t:KasT α},YE lt n t Q->t.kasWp cmp R s
 | .ret _,h=>hr _ h
 | .ask i j k,h=>hc i j h.1 h.2.1 _ (jH hc hr h.2.2)
noncomputable def g (p:Array Nat)(k:Nat):Nat:=p.getD k 0
theorem g_eq (h:p[i]?=q[j]?):g p i=g q j:=by
 have e:∀(r:Array Nat) (k:Nat),g r k=(r[k]?).getD 0:=λr k=>by unfold g;simp
 rw[e,e,h]
structure Pm (n:Nat)(p:Array Nat):Prop where
 pos:0<n
 pm:p.toList.Perm (qe n)
section
variable {lt:Nat->Nat->Bool}{n:Nat}{p q:Array Nat}
theorem Pm.size (h:Pm n p):p.size=n:=by
 have:=h.pm.length_eq;simpa using this
theorem Pm.of (h:Pm n p)(e:q.Perm p):Pm n q:=⟨h.pos,(Array.perm_iff_toList_perm.mp e).trans h.pm⟩
theorem Pm.bd (h:Pm n p)(k:Nat):g p k<n:=by
 unfold g;by_cases hk:k<p.size
 ·have:p.getD k 0=p[k]:=by simp[hk]
  rw[this];have m:p[k]∈p.toList:=by simp
  have:=h.pm.mem_iff.mp m;simp_all
 ·have:p.getD k 0=0:=by simp[Array.getD,hk]
  rw[this];exact h.pos
theorem Pm.inj (h:Pm n p)(hi:i<n)(hj:j<n)(e:g p i=g p j):i=j:=by
 have hi':i<p.size:=by rw[h.size];exact hi
 have hj':j<p.size:=by rw[h.size];exact hj
 have nd:=h.pm.nodup_iff.mpr List.nodup_range;have e1:g p i=p.toList[i]'(by omega):=by unfold g;simp[hi']
 have e2:g p j=p.toList[j]'(by omega):=by unfold g;simp[hj']
 rw[e1,e2]at e;have pw:=zb.mp nd;rcases qae i j with z | z | z
 ·simp_all
 ·exact z
 ·exact absurd e.symm (pw j i (by omega) (by omega) z)
structure Ord (lt:Nat->Nat->Bool)(n:Nat):Prop where
 tr:∀a b c,lt a b=true->lt b c=true->lt a c=true
 to:∀a b,a<n->b<n->a≠b->lt a b=false->lt b a=true
noncomputable def So (lt:Nat->Nat->Bool)(p:Array Nat)(m:Nat):Prop:=∀i j,i<j->j<m->lt (g p i) (g p j)=true
noncomputable def De (lt:Nat->Nat->Bool)(p:Array Nat)(m:Nat):Prop:=∀i j,i<j->j<m->lt (g p j) (g p i)=true
theorem Pm.to (h:Pm n p)(o:Ord lt n)(hi:i<n)(hj:j<n)(hij:i≠j)(e:lt (g p i) (g p j)=false):lt (g p j) (g p i)=true:=
 o.to _ _ (h.bd i) (h.bd j) (λz=>hij (h.inj hi hj z)) e
theorem ZhR (o:Ord lt n)(h:Pm n p):∀(f k:Nat),1<=k->k+f=n->So lt p k->YE lt n (kas_asc p f k) (λm=>k<=m/\m<=n/\So lt p m/\(m<n->lt (g p m) (g p (m-1))=true))
 | 0,k,h1,h2,hs=>⟨qk _,by omega,hs,λz=>by omega⟩
 | f+1,k,h1,h2,hs=>by
  show g p k<n/\g p (k-1)<n/\YE lt n (if lt (g p k) (g p (k-1))=true then .ret k else kas_asc p f (k+1)) _;refine⟨h.bd _,h.bd _,?_⟩
  cases e:lt (g p k) (g p (k-1))with
  | true=>rw[if_pos rfl];exact⟨qk _,by omega,hs,λ_=>e⟩
  | false=>
   rw[if_neg (by simp)];have e2:=h.to o (by omega) (by omega) (by omega) e;refine YE.mono (λm ⟨a,b⟩=>⟨by omega,b⟩) (ZhR o h f (k+1) (by omega) (by omega) λi j hij hj=>?_);by_cases hjk:j<k
   ·exact hs i j hij hjk
   ·have:j=k:=by omega
    subst this;by_cases hi:i=j-1
    ·simp_all
    ·exact o.tr _ _ _ (hs i (j-1) (by omega) (by omega)) e2
theorem ZiI (o:Ord lt n)(h:Pm n p):∀(f k:Nat),1<=k->k+f=n->De lt p k->YE lt n (kas_desc f p k 0) (λr=>r.1=p/\r.2.2=0/\k<=r.2.1/\r.2.1<=n/\De lt p r.2.1)
 | 0,k,h1,h2,hs=>⟨rfl,rfl,qk _,by show k<=n;omega,hs⟩
 | f+1,k,h1,h2,hs=>by
  show g p k<n/\g p (k-1)<n/\YE lt n (if lt (g p k) (g p (k-1))=true then (if 0 > 0 then kas_desc f (kas_rev p (k-(0+1)) k) (k+1) 0 else kas_desc f p (k+1) 0)else .ask (g p (k-1)) (g p k) λd=>if d=true then .ret (p,k,0)else kas_desc f p (k+1) (0+1)) _;refine⟨h.bd _,h.bd _,?_⟩
  cases e:lt (g p k) (g p (k-1))with
  | true=>
   rw[if_pos rfl,if_neg (by omega)];refine YE.mono (λm ⟨a,b,c,d⟩=>⟨a,b,by omega,d⟩) (ZiI o h f (k+1) (by omega) (by omega) λi j hij hj=>?_);by_cases hjk:j<k
   ·exact hs i j hij hjk
   ·have:j=k:=by omega
    subst this;by_cases hi:i=j-1
    ·simp_all
    ·exact o.tr _ _ _ e (hs i (j-1) (by omega) (by omega))
  | false=>
   have e2:=h.to o (by omega) (by omega) (by omega) e;refine⟨h.bd _,h.bd _,?_⟩;rw[e2];exact⟨rfl,rfl,qk _,by show k<=n;omega,hs⟩
theorem Zos (hj:q.size=n)(hm:m<=n)(k:Nat):g (kas_rev q 0 m) k=if k<m then g q (m-1-k)else g q k:=by
 have e:=getElem?_mirror_all (xs:=q) (i:=0) (j:=m) (by omega) k;unfold kas_rev;by_cases hk:k<m
 ·rw[if_pos ⟨by omega,hk⟩]at e
  rw[if_pos hk];exact g_eq (by rw[e];simp)
 ·rw[if_neg (λz=>hk z.2)]at e
  rw[if_neg hk];exact g_eq e
theorem ZnH (o:Ord lt n)(h:Pm n p)(h1:1<=k)(h2:k<=n)(hs:De lt p k):YE lt n (kas_tail3 k n p) (λr=>1<=r.1/\r.1<=n/\Pm n r.2/\So lt r.2 r.1):=by
 have h':Pm n (kas_rev p 0 k):=h.of (mirror_perm _ _ _ _);have hs':So lt (kas_rev p 0 k) k:=λi j hij hj=>by
  rw[Zos h.size h2,Zos h.size h2,if_pos (by omega),if_pos hj];exact hs _ _ (by omega) (by omega)
 refine YE.bind (YE.mono (λm ⟨a,b,c,_⟩=>?_) (ZhR o h' (n-k) k h1 (by omega) hs'));exact⟨by omega,b,h',c⟩
theorem ZlC (o:Ord lt n)(h:Pm n p):YE lt n (kas_count n p) (λr=>1<=r.1/\r.1<=n/\Pm n r.2/\So lt r.2 r.1):=by
 have hn:=h.pos;refine YE.bind (YE.mono (λm ⟨a,b,c,d⟩=>?_) (ZhR o h (n-1) 1 (by omega) (by omega) λi j hij hj=>by omega));by_cases hm:m=n
 ·rw[if_pos (by simpa using hm)]
  exact⟨a,b,h,c⟩
 ·rw[if_neg (by simpa using hm)]
  by_cases h1:m > 1
  ·rw[if_pos h1]
   refine⟨h.bd 0,h.bd (m-1),?_⟩;have e:lt (p.getD 0 0) (p.getD (m-1) 0)=true:=c 0 (m-1) (by omega) (by omega);show YE lt n (if lt (p.getD 0 0) (p.getD (m-1) 0)=true then _ else _) _;rw[e,if_pos rfl];exact⟨a,b,h,c⟩
  ·have:m=1:=by omega
   subst this;have hd:De lt p (1+1):=λi j hij hj=>by
    grind
   refine YE.bind (YE.mono (λr ⟨r1,r2,r3,r4,r5⟩=>?_) (ZiI o h (n-(1+1)) (1+1) (by omega) (by omega) hd));rw[if_neg (by omega),r1];exact ZnH o h (by omega) r4 r5
theorem ZdQ (o:Ord lt n)(h:Pm n p)(hk:k<n)(hs:So lt p k):∀(f l r:Nat),l<=r->r<=k->r-l<=f->(∀i,i<l->lt (g p i) (g p k)=true)->(∀i,r<=i->i<k->lt (g p k) (g p i)=true)->
  YE lt n (kas_place p k f l r) (λm=>m<=k/\(∀i,i<m->lt (g p i) (g p k)=true)/\∀i,m<=i->i<k->lt (g p k) (g p i)=true)
 | 0,l,r,h1,h2,h3,ha,hb=>⟨by omega,ha,λi hi=>hb i (by omega)⟩
 | f+1,l,r,h1,h2,h3,ha,hb=>by
  show YE lt n (if l≥r then .ret l else .ask (g p k) (g p ((l+r) / 2)) λc=>if c=true then kas_place p k f l ((l+r) / 2)else kas_place p k f ((l+r) / 2+1) r) _;by_cases hlr:l≥r
  ·rw[if_pos hlr]
   exact⟨by omega,ha,λi hi=>hb i (by omega)⟩
  ·rw[if_neg hlr]
   refine⟨h.bd _,h.bd _,?_⟩;show YE lt n (if lt (g p k) (g p ((l+r) / 2))=true then kas_place p k f l ((l+r) / 2)else kas_place p k f ((l+r) / 2+1) r) _
   cases e:lt (g p k) (g p ((l+r) / 2))with
   | true=>
    rw[if_pos rfl];refine ZdQ o h hk hs f l _ (by omega) (by omega) (by omega) ha λi hi hik=>?_;by_cases hq:i=(l+r) / 2
    ·subst hq;exact e
    ·exact o.tr _ _ _ e (hs _ i (by omega) hik)
   | false=>
    have e2:=h.to o hk (by omega) (by omega) e;refine ZdQ o h hk hs f _ r (by omega) h2 (by omega) (λi hi=>?_) hb;by_cases hq:i=(l+r) / 2
    ·simp_all
    ·exact o.tr _ _ _ (hs i _ (by omega) (by omega)) e2
theorem ZlD (o:Ord lt n):∀(f k:Nat) (p:Array Nat),Pm n p->1<=k->k+f=n->So lt p k->YE lt n (kas_bin f p k) (λq=>Pm n q/\So lt q n)
 | 0,k,p,h,h1,h2,hs=>⟨h,by have:k=n:=(by omega);subst this;exact hs⟩
 | f+1,k,p,h,h1,h2,hs=>by
  refine YE.bind (YE.mono (λm ⟨a,b,c⟩=>?_) (ZdQ o h (k:=k) (by omega) hs k 0 k (by omega) (by omega) (by omega) (λi hi=>by omega) λi hi hik=>by omega));have hg:∀i,g (bubble p k (k-m)) i=if i=m then g p k else if m<i/\i<=k then g p (i-1)else g p i:=λi=>by
   have e:=getElem?_bubble (xs:=p) (src:=k) (by rw[h.size];omega) (k-m) (by omega) i;rw[show k-(k-m)=m by omega]at e;by_cases q1:i=m
   ·rw[if_pos q1]at e⊢;exact g_eq e
   ·rw[if_neg q1]at e⊢
    by_cases q2:m<i/\i<=k
    ·rw[if_pos q2]at e⊢;exact g_eq e
    ·rw[if_neg q2]at e⊢;exact g_eq e
  refine ZlD o f (k+1) _ (h.of (bubble_perm _ _ _)) (by omega) (by omega) λi j hij hj=>?_;rw[hg,hg];by_cases i1:i=m
  ·rw[if_pos i1,if_neg (by omega),if_pos (by omega)]
   exact c _ (by omega) (by omega)
  ·rw[if_neg i1]
   by_cases i2:m<i/\i<=k
   ·rw[if_pos i2,if_neg (by omega),if_pos (by omega)]
    exact hs _ _ (by omega) (by omega)
   ·rw[if_neg i2]
    by_cases j1:j=m
    ·rw[if_pos j1];exact b i (by omega)
    ·rw[if_neg j1]
     by_cases j2:m<j/\j<=k
     ·rw[if_pos j2]
      exact hs _ _ (by omega) (by omega)
     ·rw[if_neg j2]
      exact hs _ _ hij (by omega)
theorem ZnI (o:Ord lt n)(hn:0<n):YE lt n (kas_sort n) (λq=>Pm n q/\So lt q n):=by
 have h:Pm n (zI (qe n)):=⟨hn,by simp⟩;refine YE.bind (YE.mono (λr ⟨a,b,c,d⟩=>?_) (ZlC o h));by_cases hr:r.1<n
 ·rw[if_pos hr]
  have e:max r.1 1=r.1:=by omega
  rw[e];exact ZlD o _ _ _ c a (by omega) d
 ·rw[if_neg hr]
  exact⟨c,by grind⟩
end
noncomputable def X3:List Int->List Int->Bool
 | [],[]=>false
 | [],_::_=>true
 | _::_,[]=>false
 | a::as,b::bs=>if a=b then X3 as bs else decide (a<b)
theorem ZgJ:∀a,X3 a a=false
 | []=>rfl
 | a::as=>by unfold X3;rw[if_pos rfl];exact ZgJ as
theorem Zdh:∀a b c,X3 a b=true->X3 b c=true->X3 a c=true
 | [],[],_,h,_=>by cases h
 | [],_::_,[],_,h=>by cases h
 | [],_::_,_::_,_,_=>rfl
 | _::_,[],_,h,_=>by cases h
 | _::_,_::_,[],_,h=>by cases h
 | a::as,b::bs,c::cs,h1,h2=>by
  unfold X3 at h1 h2⊢;split at h1
  ·rename_i e;subst e
   split at h2
   ·rename_i e;subst e;rw[if_pos rfl];exact Zdh as bs cs h1 h2
   ·simp_all
  ·split at h2
   ·simp_all
   ·grind
theorem Zb4:∀a b,a≠b->X3 a b=false->X3 b a=true
 | [],[],n,_=>absurd rfl n
 | [],_::_,_,h=>by cases h
 | _::_,[],_,_=>rfl
 | a::as,b::bs,n,h=>by
  unfold X3 at h⊢;split at h
  ·rename_i e;subst e;rw[if_pos rfl]
   exact Zb4 as bs (λz=>n (by rw[z])) h
  ·simp at h
   grind
theorem ZdR (h:X3 a b=true):X3 b a=false:=by
 cases e:X3 b a with
 | false=>rfl
 | true=>have:=Zdh _ _ _ h e;rw[ZgJ]at this;cases this
noncomputable def WA (a b:List Int):Bool:=!X3 b a
theorem ZlE (h1:WA a b=true)(h2:WA b a=true):a=b:=by
 unfold WA at h1 h2;simp at h1 h2;by_cases e:a=b
 ·exact e
 ·rw[Zb4 a b e h2]at h1;cases h1
theorem Zpq (a b c:List Int)(h1:WA a b=true)(h2:WA b c=true):WA a c=true:=by
 unfold WA at h1 h2⊢;simp at h1 h2⊢;by_cases e1:a=b
 ·simp_all
 ·by_cases e2:b=c
  ·simp_all
  ·exact ZdR (Zdh _ _ _ (Zb4 b a (qJ e1) h1) (Zb4 c b (qJ e2) h2))
theorem Zpr (a b:List Int):(WA a b||WA b a)=true:=by
 unfold WA
 cases e:X3 b a with
 | false=>rfl
 | true=>rw[ZdR e];rfl
theorem ZdS:∀{a b:List (List Int)},a.Perm b->a.Pairwise (λx y=>WA x y=true)->b.Pairwise (λx y=>WA x y=true)->a=b
 | [],b,p,_,_=>(List.nil_perm.mp p).symm
 | x::a,[],p,_,_=>absurd p.length_eq (by simp)
 | x::a,y::b,p,ha,hb=>by
  have ha':=zN.mp ha;have hb':=zN.mp hb;have e:x=y:=by
   have h1:x∈y::b:=p.mem_iff.mp (by simp);have h2:y∈x::a:=p.mem_iff.mpr (by simp);rcases qN.mp h1 with h1 | h1
   ·exact h1
   ·rcases qN.mp h2 with h2 | h2
    ·exact h2.symm
    ·exact ZlE (ha'.1 y h2) (hb'.1 x h1)
  subst e;rw[ZdS (List.Perm.cons_inv p) ha'.2 hb'.2]
noncomputable def W2 (jY:List (List Int)):List (List Int):=jY.mergeSort WA
theorem ZbI (jY:List (List Int)):(W2 jY).Perm jY:=List.mergeSort_perm jY _
theorem ZfF (jY:List (List Int)):(W2 jY).Pairwise (λx y=>WA x y=true):=List.pairwise_mergeSort Zpq Zpr jY
theorem ZbJ (p:a.Perm jY)(h:a.Pairwise (λx y=>WA x y=true)):a=W2 jY:=ZdS (p.trans (ZbI jY).symm) h (ZfF jY)
noncomputable def Vm (h:Heap)(v:Value)(ns:List Int):Prop:=∃a xs,v=.ref a/\h.IsTuple a (zI xs)/\IntsAre xs ns
section
variable {prog:xD}{w:World}{A:xE}{E:xF}{s:Shared}
theorem Zot:∀{as bs:List Int} {xs ys:List Value} (i:Nat),IntsAre xs as->IntsAre ys bs->fin=decide (as.length<bs.length)->Q (X3 as bs) s->KatLex prog w A true fin Q (xs.zip ys) i s
 | [],[],_,_,i,.nil,.nil,e,h=>by subst e;exact kat_nil h
 | [],_::_,_,_,i,.nil,.cons _ _ _,e,h=>by subst e;exact kat_nil h
 | _::_,[],_,_,i,.cons _ _ _,.nil,e,h=>by subst e;exact kat_nil h
 | a::as,b::bs,_,_,i,.cons _ t hx,.cons _ u hy,e,h=>by
  unfold X3 at h;refine kat_cons (wpAny_eqBool_int ?_);by_cases q:a=b
  ·rw[if_pos q]at h
   rw[show(a==b)=true by simp[q]];exact kat_yes (Zot (i+1) hx hy (by rw[e];simp) h)
  ·rw[if_neg q]at h
   rw[show(a==b)=false by simp[q]];refine kat_no ?_;by_cases hi:i=0
   ·subst hi
    exact oneLt_int h
   ·rw[show(true&&i==0)=false by simp[hi]]
    exact kat_one _ _ (lt_int h)
theorem Zqm (hx:Vm s.heap x as)(hy:Vm s.heap y bs)(h:C (X3 as bs) s):xf (xB prog w) A (keyLt' (tuples' true) x y) C E s:=by
 obtain⟨a,xs,rfl,⟨o,ho,hc,n,hd⟩,ix⟩:=hx;obtain⟨b,ys,rfl,⟨o',ho',hc',n',hd'⟩,iy⟩:=hy;refine kat_lt ho hd ho' hd' ?_;have e:decide ((zI xs).size<(zI ys).size)=decide (as.length<bs.length):=by rw[zm,zm,ix.length,iy.length]
 exact Zot 0 ix iy e h
theorem ZlF:∀{vs:List Value} {jY:List (List Int)},Paired (Vm h) vs jY->(∀ns∈jY,ns≠[])->∃fs,KatTups h vs fs/\fs.length=vs.length/\∀v∈fs,∃n t,v=qaH n t
 | _,_,.nil,_=>⟨[],.nil,rfl,λ_ z=>by simp at z⟩
 | _,_,.cons hv r,hne=>by
  obtain⟨fs,h1,h2,h3⟩:=ZlF r λns' m=>hne ns' (qX _ m);obtain⟨a,xs,rfl,⟨o,ho,hc,n,hd⟩,ix⟩:=hv
  cases ix with
  | nil=>simp_all
  | cons m t r'=>
   refine⟨.int m t::fs,.cons ho hc hd (by simp) h1,by simp[h2],λv hv=>?_⟩
   grind
theorem Zps (h:Paired (Vm s.heap) vs jY)(hne:∀ns∈jY,ns≠[])(h0:0<vs.length)(q:Q (tuples' true) s):xf (xB prog w) A (keyKind' vs.toArray) Q E s:=by
 obtain⟨fs,h1,h2,h3⟩:=ZlF h hne;refine kat_kind (T:=.type "int") h1 (by omega) (λv hv=>?_) rfl ?_
 ·obtain⟨n,t,rfl⟩:=h3 v hv
  exact Looks.of_pure rfl
 ·exact q
theorem Vm.at (k:∀c o,c≠b->h.get? c=some o->h'.get? c=some o)(hb:∃o,h.get? b=some o/\o.cls=.type "list")(x:Vm h v ns):Vm h' v ns:=by
 obtain⟨a,xs,e,⟨o,ho,hc,r⟩,i⟩:=x;refine⟨a,xs,e,⟨o,k a o (λz=>?_) ho,hc,r⟩,i⟩
 grind
theorem jt {F:α->β->Prop}:∀{l:List α} {r:List β} {i:Nat} (d:α) (d':β),Paired F l r->i<l.length->F (l.getD i d) (r.getD i d')
 | _,_,i,_,_,.nil,e=>absurd e (by simp)
 | _,_,0,_,_,.cons h t,e=>h
 | _,_,i+1,d,d',.cons h t,e=>by
  have:=jt d d' t (i:=i) (by simp_all);simpa using this
theorem range_getD {α:Type}(vs:List α)(d:α):((qe vs.length).map λi=>vs.getD i d)=vs:=by
 refine List.ext_getElem (by simp) λi h1 h2=>?_;simp[h2]
theorem ZnJ (vs:List Value)(κ:SortKind):(arrOf (SortSt.mk' κ (vs.toArray.zip vs.toArray) #[] 7 none)).map (·.2)=zI ((zI (qe vs.length)).toList.map λi=>vs.getD i zk):=by
 apply Array.toList_inj.mp;rw[range_getD,Array.toList_map];show(pairsOf vs).toList.map Prod.snd=_;rw[pairsOf_toList];exact List.map_snd_zip (qk _)
theorem ZgK (ho:s.heap.get? a=some (seqObj "list" vs.toArray n))(ht:Paired (Vm s.heap) vs jY)(h64:vs.length<64)(nd:jY.Nodup)(hne:2<=vs.length->∀ns∈jY,ns≠[])
  (h:∀p:Array Nat,p.toList.Perm (qe vs.length)->(p.toList.map λi=>jY.getD i [])=W2 jY->P (.done (.ret .none)) { s with heap:=sortedHeap s.heap a vs (zI (p.toList.map λi=>vs.getD i zk)) }) :
  xf (xB prog w) A (Builtin.«list.sort» ⟨[.ref a],[]⟩) P E s:=by
 have jW:vs.length=jY.length:=yK ht;rw[list_sort_plain];have ha:a<s.heap.objs.size:=qz ho;refine xa (listItems_at ho rfl ?_);refine xa (listUpdate_at ho rfl ?_);obtain⟨e1,ho1⟩:∃e1,(s.heap.update a (zi λ_=>#[])).get? a=some (seqObj "list" #[] e1):=⟨_,get?_update_seq ho (λ_=>#[])⟩;refine xa (seqEpoch_at ho1 rfl ?_);refine xa (wpAny_newTuple ?_);refine xa (wpAny_newList ?_);refine xw ?_;have ho6:(((s.heap.update a (zi λ_=>#[])).push (seqObj "tuple" vs.toArray 0)).push (seqObj "list" #[] 0)).get? a=some (seqObj "list" #[] e1):=qj _ (qj _ ho1);have kk:∀c o,c≠a->s.heap.get? c=some o->(((s.heap.update a (zi λ_=>#[])).push (seqObj "tuple" vs.toArray 0)).push (seqObj "list" #[] 0)).get? c=some o:=λc o hc e=>qj _ (qj _ (by rw[qbV _ _ _ _ hc];exact e));have ht2:Paired (Vm (((s.heap.update a (zi λ_=>#[])).push (seqObj "tuple" vs.toArray 0)).push (seqObj "list" #[] 0))) vs jY:=L2.Paired.mapP ht λv ns x=>x.at kk ⟨_,ho,rfl⟩;show xf (xB prog w) A _ P E { s with heap:=((s.heap.update a (zi λ_=>#[])).push (seqObj "tuple" vs.toArray 0)).push (seqObj "list" #[] 0) };dsimp only;have hsz:vs.toArray.size=vs.length:=by simp
 by_cases h2:vs.toArray.size<2
 ·rw[if_pos h2,if_pos h2];refine xa (xb ?_);rw[StateT.run_pure]
  refine xa (xb ?_);dsimp only;refine xa (seqEpoch_at ho6 rfl ?_);refine xa (listUpdate_at ho6 rfl ?_ (hsz2:=by rw[Array.size_map];show(pairsOf vs).size<=_;rw[pairsOf_size,sizeLine_eq];omega));simp only[bne_self_eq_false,qaJ,if_false];have eo:(arrOf (SortSt.mk' general' (vs.toArray.zip vs.toArray) #[] 7 none)).map (·.2)=zI ((zI (qe vs.length)).toList.map λi=>vs.getD i zk):=by
   exact ZnJ vs general'
  rw[eo];refine xb (h _ (by simp) ?_)
  match jY,(by omega:jY.length<2),jW with
  | [],_,hl=>
   simp only[yR]at hl;rw[hl];exact ZbJ (by simp) (by simp)
  | [x],_,hl=>
   simp only[qW,yR]at hl;rw[hl];exact ZbJ (by simp) (by simp)
 ·rw[if_neg h2,if_neg h2]
  have h2':2<=vs.length:=by omega
  refine xa (Zps (s:={ s with heap:=((s.heap.update a (zi λ_=>#[])).push (seqObj "tuple" vs.toArray 0)).push (seqObj "list" #[] 0) }) ht2 (hne h2') (by omega) ?_)
  let lt:Nat->Nat->Bool:=λi j=>X3 (jY.getD i []) (jY.getD j [])
  have hord:Ord lt vs.length:=⟨λx y z=>Zdh _ _ _,λx y hx hy hxy=>Zb4 _ _ λz=>hxy ?_⟩
  ·have wp:=jH (s:={ s with heap:=((s.heap.update a (zi λ_=>#[])).push (seqObj "tuple" vs.toArray 0)).push (seqObj "list" #[] 0) }) (cmp:=kas_ask prog w A (tuples' true) vs) (R:=λq s'=>(Pm vs.length q/\So lt q vs.length)/\s' = { s with heap:=((s.heap.update a (zi λ_=>#[])).push (seqObj "tuple" vs.toArray 0)).push (seqObj "list" #[] 0) }) (λi j hi hj C hC=>Zqm (jt _ [] ht2 hi) (jt _ [] ht2 hj) hC) (λq hq=>⟨hq,rfl⟩) (ZnI hord (by omega))
   refine xa (xc (kat_run (ks:=vs) (vs:=vs) (Q:=λst' s'=>∃p:Array Nat,(Pm vs.length p/\So lt p vs.length)/\arrOf st'=p.map (kas_item (vs.toArray.zip vs.toArray))/\failedOf st'=none/\s' = { s with heap:=((s.heap.update a (zi λ_=>#[])).push (seqObj "tuple" vs.toArray 0)).push (seqObj "list" #[] 0) }) rfl h2' h64 (λp' st' s' a1 a2 a3 a4=>⟨p',a4.1,a2,a3,a4.2⟩) wp) ?_ λ_ _ e=>e);rintro⟨⟨⟩,st'⟩ s' ⟨p,⟨hpm,hso⟩,har,hf,rfl⟩;dsimp only;have hout:=kat_snds (ks:=vs) (vs:=vs) rfl har;have hps:p.toList.length=vs.length:=by rw[yo];exact hpm.size
   rw[hout];refine xa (seqEpoch_at ho6 rfl ?_);refine xa (listUpdate_at ho6 rfl ?_ (hsz2:=by rw[zm,qf,hps,sizeLine_eq];omega));rw[hf];simp only[bne_self_eq_false,qaJ,if_false];refine xb (h p hpm.pm (ZbJ ?_ ?_))
   ·have e:=(hpm.pm).map (λi=>jY.getD i [])
    rw[jW]at e;rw[range_getD]at e;exact e
   ·rw[zb]
    intro i j hi hj hij;have hj':j<vs.length:=by rw[qf,hps]at hj;exact hj
    have:=hso i j hij hj';have e1:g p i=p.toList[i]'(by rw[hps];omega):=by unfold g;simp[Array.getD,show i<p.size by rw[hpm.size];omega]
    have e2:g p j=p.toList[j]'(by rw[hps];omega):=by unfold g;simp[Array.getD,show j<p.size by rw[hpm.size];omega]
    rw[e1,e2]at this;rw[qbb,qbb];unfold WA;rw[ZdR this];rfl
  ·have hx':x<jY.length:=by omega
   have hy':y<jY.length:=by omega
   have e1:jY.getD x []=jY[x]:=by simp[hx']
   have e2:jY.getD y []=jY[y]:=by simp[hy']
   rw[e1,e2]at z;have pw:=zb.mp nd;rcases qae x y with q | q | q
   ·exact absurd z (pw x y hx' hy' q)
   ·exact q
   ·exact absurd z.symm (pw y x hy' hx' q)
end
section
variable {prog:xD}{w:World}{A:xE}{E:xF}{s:Shared}
theorem ZlG (hl:s.heap.IsList l vs.toArray)(ht:Paired (Vm s.heap) vs jY)(h64:vs.length<64)(nd:jY.Nodup)(hne:2<=vs.length->∀ns∈jY,ns≠[])
  (h:∀p:Array Nat,p.toList.Perm (qe vs.length)->(p.toList.map λi=>jY.getD i [])=W2 jY->Q (.ref (s.heap.objs.size+1)) { s with heap:=sortedAll s.heap vs (zI (p.toList.map λi=>vs.getD i zk)) }):xf (xB prog w) A (call (.builtin "sorted") [.ref l]) Q E s:=by
 refine Calls.call_function_entry kind_sorted plain_sorted entry_sorted (args_sorted1 _) ?_;unfold Builtin.«sorted»;refine xa (m:=checkCount "sorted" 1 1 _) (xb ?_);refine xa (collect_list hl ?_ (by rw[sizeLine_eq];omega));refine xa (wpAny_newList ?_);have z1:((s.heap.push (seqObj "list" #[] 0)).update s.heap.objs.size (zi (· ++ vs.toArray))).objs.size=s.heap.objs.size+1:=by rw[Heap.size_update,size_push']
 have g1:(((s.heap.push (seqObj "list" #[] 0)).update s.heap.objs.size (zi (· ++ vs.toArray))).push (seqObj "list" vs.toArray 0)).get? (s.heap.objs.size+1)=some (seqObj "list" vs.toArray 0):=by rw[<-z1];exact qE _ rfl
 have kp:∀c o,c≠s.heap.objs.size->s.heap.get? c=some o->(((s.heap.push (seqObj "list" #[] 0)).update s.heap.objs.size (zi (· ++ vs.toArray))).push (seqObj "list" vs.toArray 0)).get? c=some o:=λc o hc e=>qj _ (by rw[qbV _ _ _ _ hc];exact qj _ e);have ht2:Paired (Vm (((s.heap.push (seqObj "list" #[] 0)).update s.heap.objs.size (zi (· ++ vs.toArray))).push (seqObj "list" vs.toArray 0))) vs jY:=L2.Paired.mapP ht λv ns ⟨a,xs,e,⟨o,ho,r⟩,i⟩=>⟨a,xs,e,⟨o,kp a o (qL (qz ho)) ho,r⟩,i⟩;rw[z1];refine xa (xw (wpAny_call_entry slot_list_sort ⟨_,g1,rfl⟩ entry_list_sort (ZgK g1 ht2 h64 nd hne λp a1 a2=>⟨_,rfl,?_⟩) (args_list_sort _)));exact xb ⟨_,rfl,h p a1 a2⟩
end
theorem Paired.pick {F:α->β->Prop}{l:List α}{r:List β}(d:α)(d':β)(h:Paired F l r):∀(ix:List Nat),(∀i∈ix,i<l.length)->Paired F (ix.map λi=>l.getD i d) (ix.map λi=>r.getD i d')
 | [],_=>.nil
 | i::ix,hb=>.cons (jt d d' h (hb i (by simp))) (Paired.pick d d' h ix λj m=>hb j (qX _ m))
end TS
namespace TF
open L2 TS
section
variable {X:Cx}{G:Gh}
theorem Ze1 {σ:St}(I:Inv X jM σ H s)(hT:∀v ns,T v ns->∃a,v=.ref a/\Z5 X.K H a (ns.map V.int)):∀{vs:List V} {jP:List Value} {jY:List (List Int)},ZG vs jP->Paired T vs jY->Paired (Vm s.heap) jP jY
 | _,_,_,.nil,.nil=>.nil
 | _,_,_,.cons r rr,.cons t tt=>by
  refine .cons ?_ (Ze1 I hT rr tt);obtain⟨a,rfl,hq⟩:=hT _ _ t
  cases r
  obtain⟨xs,rv,pl,hz⟩:=I.tuple hq;exact⟨a,xs,rfl,show s.heap.IsTuple a xs.toArray from pl,Zan rv⟩
theorem ZgL:WH X (.builtin "sorted") (λxs H Q=>∃(p:Addr) (vs:List V) (jY:List (List Int)) (T:V->List Int->Prop),xs=[.ref p]/\ZT X.K H p vs/\(∀v ns,T v ns->∃a,v=.ref a/\Z5 X.K H a (ns.map V.int))/\Paired T vs jY/\
  jY.length<64/\jY.Nodup/\(2<=jY.length->∀ns∈jY,ns≠[])/\∀l vs',Paired T vs' (W2 jY)->H l=none->Q (.ref l) (Zp H l (.lst vs'))):=by
 intro jM s σ H xs us Q I r h;obtain⟨p,vs,jY,T,rfl,hp,hT,pT,h64,nd,hne,q⟩:=h;obtain⟨u,rfl,ru⟩:=VM r
 cases ru
 obtain⟨jP,rv,pl,hz⟩:=I.list hp;have hl:=rv.length;have hl2:vs.length=jY.length:=yK pT;refine ZlG pl.isList (Ze1 I hT rv pT) (by omega) nd (λz=>hne (by omega)) λpm a1 a2=>?_;obtain⟨e,he⟩:=sortedAll_at s.heap jP (zI (pm.toList.map λi=>jP.getD i zk));have hle:s.heap.objs.size<=s.heap.objs.size+1:=Nat.le_succ _;have hb:∀i∈pm.toList,i<jP.length:=λi m=>by
  have:=a1.mem_iff.mp m;simp_all
 have pv:ZG (pm.toList.map λi=>vs.getD i V.non) (pm.toList.map λi=>jP.getD i zk):=TS.Paired.pick _ _ rv _ λi m=>by rw[hl];exact hb i m
 have pt:Paired T (pm.toList.map λi=>vs.getD i V.non) (pm.toList.map λi=>jY.getD i []):=TS.Paired.pick _ _ pT _ λi m=>by rw[hl];exact hb i m
 rw[a2]at pt;refine⟨.ref (s.heap.objs.size+1),_,I.laid (o:=.lst (pm.toList.map λi=>vs.getD i V.non)) (λ_ _=>sortedAll_old) hle ⟨?_,_,e,pv,he⟩,rfl,q _ _ pt (I.hok.fresh hle)⟩;have:=a1.length_eq
 grind
noncomputable def Wc (ns:List Int):D:=.tup (ns.map .int)
noncomputable def V1:List D->Option (List (List Int))
 | []=>some []
 | .tup ds::r=>match Yb ds,V1 r with | some ns,some jY=>some (ns::jY) | _,_=>none
 | _::_=>none
theorem ZdT:∀jY:List (List Int),V1 (jY.map Wc)=some jY
 | []=>rfl
 | ns::jY=>by
  show(match Yb (ns.map D.int),V1 (jY.map Wc)with | some ns,some jY=>some (ns::jY) | _,_=>none)=_;rw[Zao,ZdT jY]
theorem Ze2:∀{ds:List D} {jY:List (List Int)},V1 ds=some jY->ds=jY.map Wc
 | [],jY,h=>by
  cases h;rfl
 | d::r,jY,h=>by
  cases d with
  | tup ds=>
   have h:(match Yb ds,V1 r with | some ns,some jY=>some (ns::jY) | _,_=>none)=some jY:=h
   cases e1:Yb ds with
   | none=>simp_all
   | some ns=>
    cases e2:V1 r with
    | none=>simp_all
    | some ms=>
     rw[e1,e2]at h;cases h;rw[qO,<-Ze2 e2];unfold Wc;rw[<-UU e1]
  | _=>cases h
noncomputable def U5 (jY:List (List Int)):Prop:=jY.length<64/\jY.Nodup/\(2<=jY.length->∀ns∈jY,ns≠[])
noncomputable instance (jY:List (List Int)):Decidable (U5 jY):=by unfold U5;infer_instance
noncomputable def Zdi:List D->Option D
 | [.lst ds]=>match V1 ds with | some jY=>if U5 jY then some (.lst ((W2 jY).map Wc))else none | none=>none
 | _=>none
theorem Ze3:∀{jY:List (List Int)} {vs:List V},Zi G Hf (jY.map Wc) vs->Paired (λv ns=>Zl G Hf (Wc ns) v) vs jY
 | [],vs,h=>by
  rw[Zi.nil_iff.mp h];exact .nil
 | ns::jY,vs,h=>by
  obtain⟨v,r,rfl,h1,h2⟩:=jc.mp h;exact .cons h1 (Ze3 h2)
theorem Ze4:∀{jY:List (List Int)} {vs:List V},Paired (λv ns=>Zl G Hf (Wc ns) v) vs jY->Zi G Hf (jY.map Wc) vs
 | _,_,.nil=>Zi.nil_iff.mpr rfl
 | _,_,.cons h t=>.cons h (Ze4 t)
theorem Zew:Vl X G (.builtin "sorted") Zdi:=
 ⟨_,ZgL,λHf H s xs ds c Q e1 st r q k=>by
  match ds,q,r with
  | [.lst es],q,r=>
   have q:(match V1 es with | some jY=>if U5 jY then some (D.lst ((W2 jY).map Wc))else none | none=>none)=some c:=q
   cases he:V1 es with
   | none=>rw[he]at q;cases q
   | some jY=>
    rw[he]at q;have q:(if U5 jY then some (D.lst ((W2 jY).map Wc))else none)=some c:=q;split at q
    ·rename_i ok
     cases q
     obtain⟨v,rfl,rv⟩:=jm r;obtain⟨p,vs,rfl,np,hp,rp⟩:=jb.mp rv;rw[Ze2 he]at rp;refine⟨p,vs,jY,λv ns=>Zl G Hf (Wc ns) v,rfl,ZT.of (e1 _ _ np hp),λv ns h=>?_,Ze3 rp,ok.1,ok.2.1,ok.2.2,λl vs' pt hl=>?_⟩
     ·obtain⟨a,us,rfl,na,ha,ra⟩:=jd.mp h
      rw[jp ra]at ha;exact⟨a,rfl,Z5.of (e1 _ _ na ha)⟩
     ·have nf:=Gh.nofp st hl
      have g2:=Gr.new (o:=.lst vs') e1 hl nf;have rl:=Ze4 pt;exact k (.ref l) _ _ g2 (Gh.grow st hl) (jb.mpr ⟨l,_,rfl,nf,Z1,rl.ext g2.ff⟩) (YM.mk e1 hl nf rl)
    ·cases q⟩
end
end TF
namespace TF
open L2
section
variable {X:Cx}{G:Gh}{own:List Nat}{fr:Bool}
end
section
variable {X:Cx}{G:Gh}
end
section
variable {X:Cx}{G:Gh}{ob:List Nat}{fr:Bool}
end
section
variable {X:Cx}{G:Gh}{ob own:List Nat}{fr:Bool}
noncomputable def BE (c:Zd->M Bool)(g:Zd->M Out):Nat->Zd->M Out
 | 0,_=>ZP
 | n+1,ρ=>Zm (c ρ) λb=>if b=true then Zm (g ρ) λo=>match o with | .nx ρ2=>BE c g n ρ2 | .ct ρ2=>BE c g n ρ2 | .bk ρ2=>ZH (.nx ρ2) | .rt d=>ZH (.rt d)else ZH (.nx ρ)
noncomputable def ZlH (n:Nat)(c:Zd->M Bool)(g:Zd->M Out):Zd->M Out:=BE c g n
theorem ZjT (hp:PassesOwn (xB X.prog X.w) X.A X.env X.xe)(hc:XQ X G c fc)(hb:X1 X G own own own fr body g):Y1 X G ob own own fr (.While c body [] pos) (ZlH n fc g):=by
 obtain⟨tc,pc,qc⟩:=hc;obtain⟨tb,pb,qb⟩:=hb;refine⟨_,Zga hp pc pb,λkn jQ H0 σ H ρ s out s' E ⟨Hf,j⟩ st e po=>?_⟩;refine⟨λm σ2 H2=>∃ρ2 s2,J G own kn jQ H0 σ2 H2 ρ2/\G.st s2 H2/\BE fc g m ρ2 s2=some (out,s'),⟨n,ρ,s,⟨Hf,j⟩,st,e⟩,?_⟩;rintro m σ2 H2 ⟨ρ2,s2,⟨jX,j2⟩,jZ,eq2⟩
 cases m with
 | zero=>cases eq2
 | succ m=>
  obtain⟨b,s3,a1,a2⟩:=Zx eq2;refine qc σ2 _ H2 ρ2 s2 b s3 _ VX j2.envB jZ a1 λHf' H' g' st'=>?_;obtain⟨F,j',fF,q1,q2⟩:=j2.growB g'
  cases b with
  | false=>
   obtain⟨rfl,rfl⟩:=ZJ a2;exact Ua (po σ2 H' ⟨F,j'⟩ st')
  | true=>
   rw[if_pos rfl]at a2;obtain⟨o,s4,b3,b4⟩:=Zx a2;refine Ub ⟨fun σ' H'=>∃ρ5 s5,J G own kn jQ H0 σ' H' ρ5/\G.st s5 H'/\BE fc g m ρ5 s5=some (out,s'),fun σ' H' h=>⟨m,yg m,h⟩,?_⟩;refine qb kn jQ H0 σ2 H' ρ2 s3 o s4 _ ⟨F,j'⟩ st' b3 ?_
   cases o with
   | nx ρ5=>exact fun σ5 H5 j5 st5=>⟨ρ5,s4,j5,st5,b4⟩
   | ct ρ5=>exact fun σ5 H5 j5 st5=>⟨ρ5,s4,j5,st5,b4⟩
   | bk ρ5=>
    obtain⟨rfl,rfl⟩:=ZJ b4;exact fun σ5 H5 j5 st5=>po σ5 H5 j5 st5
   | rt d=>
    obtain⟨rfl,rfl⟩:=ZJ b4;exact po
end
section
variable {X:Cx}{G:Gh}{ob own:List Nat}{fr:Bool}
noncomputable def minI (n:Int)(r:List Int):Int:=r.foldl min n
theorem ZnK (r:List Int):∀n,minI n r<=n/\∀a∈r,minI n r<=a:=by
 induction r with
 | nil=>intro n;exact⟨qca _,by simp⟩
 | cons b r ih=>
  intro n;obtain⟨h1,h2⟩:=ih (min n b);refine⟨?_,λa ha=>?_⟩
  ·show minI (min n b) r<=n;omega
  ·show minI (min n b) r<=a
   grind
theorem ZlI (r:List Int):∀n,minI n r∈n::r:=by
 induction r with
 | nil=>simp[minI]
 | cons b r ih=>
  intro n;show minI (min n b) r∈n::b::r
  grind
theorem min_uniq {M:Int}(h1:M∈n::r)(h2:∀a∈n::r,M<=a):M=minI n r:=by
 obtain⟨g1,g2⟩:=ZnK r n;have g3:=h2 _ (ZlI r n)
 grind
noncomputable def Zpt (K:qd):V->List V->Hp->VK->Prop:=λx vs H Q=>∃(p:Addr) (ns:List Int) (k:Int),x=.ref p/\vs=[.int k]/\ZT K H p (ns.map V.int)/\k∈ns/\Q (.int (ns.idxOf k:Nat)) H
theorem ZlJ : MtR X "list.index" (Zpt X.K) := by
  intro jM s σ H x xs v us Q I rx rv h;obtain⟨p, ns, k, rfl, rfl, hp, hk, q⟩ := h
  cases rx
  obtain⟨u, rfl, t, rfl⟩ := VM rv;obtain⟨jP, r2, pl, hz⟩ := I.list hp;have hi : IntsAre jP ns := Zan r2;obtain⟨⟨c0, d0, dat, sl0⟩, hob, hcl, n0, hdat⟩ := id pl.isList;simp only at hcl hdat;subst hcl hdat;have l1 := hi.length;have l2 : ns.idxOf k < ns.length := by rw[qbc]; exact hk
  have l3 : ns.length <= xg := by simpa using hz
  have l4 := Zdv;have go := SeqAt.list_indexAt p jP.toArray n0 d0 sl0 (.int k t) (isInt k) (ns.idxOf k) (by simpa[l1] using l2) (by omega)
    (by show isInt k jP[ns.idxOf k] = true
        rw[isInt_at k hi (ns.idxOf k) (by omega) l2]; simp)
    (λj hjs hlt => by
        show isInt k jP[j] = false;rw[isInt_at k hi j (by omega) (by omega)]; exact ne_of_lt_idxOf hlt _)
  refine call_meets qbm ⟨_, hob, rfl⟩ PySem.F.entry_list_index (PySem.F.args_list_index_2 _ _) go ⟨hob, λy hy => (eq_isInt k t hi y (by simp_all)).at _ _, ?_⟩;exact⟨.int (ns.idxOf k : Nat), H, I.tok _, ⟨_, rfl⟩, q⟩
noncomputable def Zpu:D->D->Option D
 | .lst ds,.int k=>(Yb ds).bind λns=>if k∈ns then some (.int (ns.idxOf k:Nat))else none
 | _,_=>none
end
section
variable {X:Cx}{G:Gh}{ob own:List Nat}{fr:Bool}
noncomputable def Zou (d e:D):Option D:=match e with | .non=>(J7 d).map λb=>.bl (!b) | _=>none
theorem ZlK:Y4 X G (xk .IsNot) Zou:=
 ⟨_,ZmY,λHf H s x y d e c Q e1 st rx ry q k=>by
  cases e with
  | non=>
   have q:(J7 d).map (λb=>D.bl (!b))=some c:=q
   cases hb:J7 d with
   | none=>simp_all
   | some b=>
    rw[hb]at q
    cases q
    refine⟨jg.mp ry,?_⟩;rw[Ze0 hb rx];exact k _ Hf H (.refl e1) st (je.mpr rfl) (.scal λz=>z)
  | _=>cases q⟩
theorem ZlL:PD X G true (.Dict [] [] pos) (dC (.du [])):=by
 refine⟨_,ZkU,fun σ Hf H ρ s d s' Q e1 e2 e3 e4 k=>?_⟩;obtain⟨rfl,rfl⟩:=ZJ e4;intro p hp;have nf:=Gh.nofp e3 hp;have g2:=Gr.new (o:=.dT []) e1 hp nf;exact k (.ref p) _ _ g2 (Gh.grow e3 hp) (jl.mpr ⟨p,rfl,nf,Z1⟩) λ_ a ea _=>by simp_all
noncomputable def keyT:D->Option (List Yc)
 | .tup ks=>Wr ks
 | _=>none
noncomputable def ZgM (i:Nat)(fx fv:Zd->M D):Zd->M Out:=fun ρ=>Zm (fv ρ) λv=>Zm (fx ρ) λx=>match (ρ[i]?).bind id with
 | some (.du kvs)=>match keyT x,Ux v with | some k,some w=>if kvs.length<xg then ZH (.nx (ρ.set i (some (.du (Y5 kvs k w)))))else ZP | _,_=>ZP
 | _=>ZP
theorem ZjU (hu:X.A.units+1<cLine)(hi:i∈own)(hn:PE X (.Name x p1) (Yf i))(px:PE X ex tx)(yx:Ba G own r1 tx fx)(pv':PE X ev tv)(yv:Ba G own r2 tv fv)
  (hs:xr ev (some (.Subscript (.Name x p1) ex p2)) pos.line X.env=pure false) :
  Y1 X G ob own own fr (.Assign [.Subscript (.Name x p1) ex p2] ev pos) (ZgM i fx fv):=by
 refine⟨_,Znc hu hn px pv' hs,λkn jQ H0 σ H ρ s out s' E ⟨Hf,j⟩ st e po=>?_⟩;obtain⟨v,s1,a1,a2⟩:=Zx e;obtain⟨xx,s2,a3,a4⟩:=Zx a2;refine yv kn jQ H0 σ Hf H ρ s v s1 _ j st a1 λw jU H1 j1 e1 e2 jV r1 _=>?_
 cases hb:(ρ[i]?).bind id with
 | none=>rw[hb]at a4;cases a4
 | some c=>
  rw[hb]at a4
  cases c with
  | du kvs=>
   have a4':(match keyT xx,Ux v with | some k,some w=>if kvs.length<xg then ZH (Out.nx (ρ.set i (some (.du (Y5 kvs k w)))))else ZP | _,_=>ZP) s2=some (out,s'):=a4
   cases hk:keyT xx with
   | none=>rw[hk]at a4';cases a4'
   | some k=>
    cases hw:Ux v with
    | none=>rw[hk,hw]at a4';cases a4'
    | some w'=>
     rw[hk,hw]at a4';obtain⟨hl,a5⟩:=XA a4';obtain⟨rfl,rfl⟩:=ZJ a5;have ei:=Zft hb;obtain⟨a,h1,h2,h3,h4,h5⟩:=j1.ow i _ hi ei;refine⟨_,h1,?_⟩;refine yx kn jQ H0 σ jU H1 ρ s1 _ _ _ j1 jV a3 λw2 jX H2 j2 e3 e4 jZ r2 _=>?_;obtain⟨a',h1',h2',h3',h4',h5'⟩:=j2.ow i _ hi ei;rw[h1]at h1';cases h1';have ew:=ZeU hw r1;subst ew
     match xx,hk,r2 with
     | .tup ks,hk,r2=>
      obtain⟨q,vs,rfl,nq,hq,rq⟩:=jd.mp r2;have ey:=Zap (show Wr ks=some k from hk) rq;subst ey;refine⟨a,_,rfl,UB.t (show H2 a=some (.dT kvs)from h5') (j2.gr.fh _ _ nq hq) (by omega),?_⟩;exact po σ _ ⟨jX,j2.put hi ei h1 (show Zp H2 a (.dT (Y5 kvs k w)) a=some (.dT (Y5 kvs k w))from Z1)⟩ (jy jZ h2)
  | _=>cases a4
theorem ZhS (hu:X.A.units+1<cLine)(hi:i∈own)(hn:PE X (.Name x p1) (Yf i))(hx:PD X G r1 ex fx)(hv:PD X G r2 ev fv)
  (hs:xr ev (some (.Subscript (.Name x p1) ex p2)) pos.line X.env=pure false:=by rfl) :
  Y1 X G ob own own fr (.Assign [.Subscript (.Name x p1) ex p2] ev pos) (ZgM i (fun ρ=>fx (YH own ρ)) (fun ρ=>fv (YH own ρ))):=by
 obtain⟨tv,pv',qv⟩:=hv;obtain⟨tx,px,qx⟩:=hx;have yv:Va G r2 tv fv:=qv;have yx:Va G r1 tx fx:=qx;exact ZjU hu hi hn px yx.a pv' yv.a hs
end
end TF
namespace HT
section
variable {prog:xD}{w:World}{A:xE}{E:xF}{s:Shared}
end
end HT
namespace TF
open L2
section
variable {X:Cx}{G:Gh}
end
end TF
namespace HT
section
variable {prog:xD}{w:World}{A:xE}{R:Result->Shared->Prop}{I:Addr}{fp wr:List Addr}{n:Nat}{P:Nat->Value->Prop}{St:Nat->Heap->Prop}
end
section
variable {prog:xD}{w:World}{A:xE}{E:xF}{s:Shared}
end
section
variable {prog:xD}{w:World}{A:xE}{R:Result->Shared->Prop}{I:Addr}{fp wr:List Addr}{n:Nat}{P:Nat->Value->Prop}{St:Nat->Heap->Prop}
theorem ZjV (kw:List (Str×Value))(W:Walks prog w A.in1 I fp wr n P St)(bt:Nat->Nat->Bool)(hcmp:CmpOf prog w A.in1 .Lt P bt)(S:Addr)(hSf:S∉fp):∀(k j:Nat) (s:Shared) (vb:Value) (c:Nat),n-(j+1)=k->j+1<=n->St (j+1) s.heap->P (argBest bt j) vb->s.heap.get? S=some { cls:=.type "list",dict:=none,data:=.seq #[vb,vb] c,slots:=#[] }->
  (∀v h' tk,P (argBest bt (n-1)) v->(∀b o,b∉wr->b≠S->s.heap.get? b=some o->h'.get? b=some o)->R (.ok (.ret v)) { s with heap:=h',toks:=tk })->xo (xB prog w) A (.builtin "min.loop" ⟨[.ref I,.none,.ref S],kw⟩) R s:=by
 have hSw:S∉wr:=λh=>hSf (W.sub _ h);have hname:(toString "min" ++ toString ".loop" : String) = "min.loop":=by decide
 intro k
 induction k with
 | zero=>
  intro j s vb c hk hj hst hPb hS hR;have hin:j+1=n:=by omega
  refine xm qai ?_;rw[yc zx _];show xf _ A.in1 (seqItems? (.ref S) >>= _) _ _ s;refine xa (xt hS rfl ?_);show xf _ A.in1 (tryCatch (pyNext (.ref I)) _ >>= _) _ _ s;refine xa (xu (W.done s _ _ (hin▸hst) λh' tk hk'=>?_));have hS':=hk' S _ hSw hS;show xf _ A.in1 (updateSeq S (λ_=>#[]) >>= _) _ _ _;refine xa ?_;refine xz hS' rfl (xa (xy (xb ?_)));refine hR vb _ tk (by rw[<-hin];exact hPb) λb o hbw hbS e=>(zw _ _ (qJ hbS)).trans (hk' b o hbw e)
 | succ k ih=>
  intro j s vb c hk hj hst hPb hS hR;have hlt:j+1<n:=by omega
  refine xm qai ?_;rw[yc zx _];show xf _ A.in1 (seqItems? (.ref S) >>= _) _ _ s;refine xa (xt hS rfl ?_);show xf _ A.in1 (tryCatch (pyNext (.ref I)) _ >>= _) _ _ s;refine xa (xu (W.item (j+1) s _ _ hlt hst λv h' tk hP hst' hk'=>?_));have hS':=hk' S _ hSw hS;show xf _ A.in1 (tryCatch (holding [v,v] (richCompare .Lt v vb >>= _)) _ >>= _) _ _ _;refine xa (xu (xw (xa (hcmp (j+1) (argBest bt j) v vb _ _ _ hP hPb ?_))));refine xa (xw (wpAny_truthy_bool ?_));refine xa (xy (xb ?_))
  cases hb:bt (j+1) (argBest bt j)with
  | true=>
   simp only[if_true];refine xa ?_;refine xz hS' rfl (xa (xy ?_));rw[hname];refine xb ⟨plainId_quiet zx _,ih (j+1) _ v _ (by omega) hlt (W.frame _ _ _ hst' λb hbf o e=>?_) (by simp only[argBest,hb,if_true];exact hP) (qao _ hS' rfl) λv' h'' tk'' hP' hk''=>?_⟩
   ·exact(zw _ _ (λh:S=b=>hSf (by rw[h];exact hbf))).trans e
   ·exact hR v' h'' tk'' hP' λb o hbw hbS e=>hk'' b o hbw hbS ((zw _ _ (qJ hbS)).trans (hk' b o hbw e))
  | false=>
   simp only[qaJ,if_false];refine xa (xy ?_);rw[hname];refine xb ⟨plainId_quiet zx _,ih (j+1) _ vb c (by omega) hlt hst' (by simp only[argBest,hb];exact hPb) hS' λv' h'' tk'' hP' hk''=>?_⟩;exact hR v' h'' tk'' hP' λb o hbw hbS e=>hk'' b o hbw hbS (hk' b o hbw e)
theorem ZhT (d:Value)(W:Walks prog w A.in1 I fp wr n P St)(bt:Nat->Nat->Bool)(hcmp:CmpOf prog w A.in1 .Lt P bt)(S:Addr)(hSf:S∉fp)(hst:St 0 s.heap)(hS:s.heap.get? S=some { cls:=.type "list",dict:=none,data:=.seq #[] c,slots:=#[] })
  (hR:0<n->∀v h' tk,P (argBest bt (n-1)) v->(∀b o,b∉wr->b≠S->s.heap.get? b=some o->h'.get? b=some o)->R (.ok (.ret v)) { s with heap:=h',toks:=tk })
  (hD:n=0->∀h' tk,(∀b o,b∉wr->b≠S->s.heap.get? b=some o->h'.get? b=some o)->R (.ok (.ret d)) { s with heap:=h',toks:=tk }):xo (xB prog w) A (.builtin "min.loop" ⟨[.ref I,.none,.ref S],[("default",d)]⟩) R s:=by
 have hSw:S∉wr:=λh=>hSf (W.sub _ h);have hname:(toString "min" ++ toString ".loop" : String) = "min.loop":=by decide
 refine xm qai ?_;rw[yc zx _];show xf _ A.in1 (seqItems? (.ref S) >>= _) _ _ s;refine xa (xt hS rfl ?_);show xf _ A.in1 (tryCatch (pyNext (.ref I)) _ >>= _) _ _ s;by_cases hn:0<n
 ·refine xa (xu (W.item 0 s _ _ hn hst λv h' tk hP hst' hk'=>?_));have hS':=hk' S _ hSw hS
  show xf _ A.in1 (updateSeq S (λ_=>#[v,v]) >>= _) _ _ _;refine xa ?_;refine xz hS' rfl ?_;rw[hname];refine xb ⟨plainId_quiet zx _,ZjV _ W bt hcmp S hSf _ 0 _ v _ rfl hn (W.frame _ _ _ hst' λb hbf o e=>?_) hP (qao _ hS' rfl) λv' h'' tk'' hP' hk''=>?_⟩
  ·exact(zw _ _ (λh:S=b=>hSf (by rw[h];exact hbf))).trans e
  ·exact hR hn v' h'' tk'' hP' λb o hbw hbS e=>hk'' b o hbw hbS ((zw _ _ (qJ hbS)).trans (hk' b o hbw e))
 ·have h0:n=0:=by omega
  refine xa (xu (W.done s _ _ (by rw[h0];exact hst) λh' tk hk'=>?_));show xf _ A.in1 (do rule _;ret d) _ _ _;refine xa (wpAny_rule (xb ?_));exact hD h0 h' tk λb o hbw hbS e=>hk' b o hbw e
end
section
variable {prog:xD}{w:World}{A:xE}{E:xF}{s:Shared}
theorem ZjW (x d:Value):argsOk "min" ⟨[x],[("default",d)]⟩:=by rfl
theorem minD_walk (h:xf (xB prog w) A.in1 (pyIter x) (λit s₂=>∃I fp wr n P St bt,it=.ref I/\Walks prog w A.in1 I fp wr n P St/\St 0 s₂.heap/\(∀b∈fp,b<s₂.heap.objs.size)/\CmpOf prog w A.in1 .Lt P bt/\
   (0<n->∀v h' tk,P (argBest bt (n-1)) v->(∀b o,b∉wr->s₂.heap.get? b=some o->h'.get? b=some o)->Q v { s₂ with heap:=h',toks:=tk })/\(n=0->∀h' tk,(∀b o,b∉wr->s₂.heap.get? b=some o->h'.get? b=some o)->Q d { s₂ with heap:=h',toks:=tk })) E s) :
  xf (xB prog w) A (call (.builtin "min") [x] [("default",d)]) Q E s:=by
 have hname:(toString "min" ++ toString ".loop" : String) = "min.loop":=by decide
 refine xA (codeAny_call_builtin PySem.F.plain_min PySem.F.entry_min ?_);simp only[checkBuiltinCall,PySem.F.kind_min];suffices hgo:xf (xB prog w) A.in1 (Builtin.«min» ⟨[x],[("default",d)]⟩) (λfin s'=>match fin with | .done f=>(match (Except.ok f:Result)with | .ok (.ret v)=>Q v s' | .ok _=>False | .error e=>E e s') | .again c'=>c'.quiet=true/\xo (xB prog w) A c' (λr s'=>match r with | .ok (.ret v)=>Q v s' | .ok _=>False | .error e=>E e s') s') E s by
  cases hsig:Manifest.signature? "min" with
  | none=>exact xb hgo
  | some sig=>
   have ha:=ZjW x d;simp only[argsOk,hsig]at ha;have h2:Bind.checkArgs "min" sig ⟨[x],[("default",d)]⟩=pure ():=ha;show xf _ A.in1 (Bind.checkArgs "min" sig ⟨[x],[("default",d)]⟩) _ _ s;rw[h2];exact xb hgo
 show xf _ A.in1 (qaK "min" ["key","default"] 0 ⟨[],[("default",d)]⟩ >>= _) _ _ s;refine xa (wpAny_of_eq (show qaK "min" ["key","default"] 0 ⟨[],[("default",d)]⟩=pure [none,some d]from rfl) ?_);refine xa (xb ?_);refine xa (xc h (λit s₂ h₂=>?_) λ_ _ e=>e);obtain⟨I,fp,wr,n,P,St,bt,rfl,W,hst,hfp,hcmp,hQ,hQ0⟩:=h₂;refine xa (xl ?_);have hSf:s₂.heap.objs.size∉fp:=λhm=>z5 _ (hfp _ hm);rw[hname];refine xb ⟨plainId_quiet zx _,ZhT d W bt hcmp s₂.heap.objs.size hSf (W.frame _ _ _ hst λb _ o e=>qj _ e) (qE _ rfl) (λhn v h' tk hP hk=>?_) λhn h' tk hk=>?_⟩
 ·exact hQ hn v h' tk hP λb o hbw e=>hk b o hbw (qL (qz e)) (qj _ e)
 ·exact hQ0 hn h' tk λb o hbw e=>hk b o hbw (qL (qz e)) (qj _ e)
end
end HT
namespace L2
section
variable {X:Cx}
theorem Zex {id:String}:PySem.W.Looks M h (keeperOf (.builtin id)) Keeper.machine:=λA Q E s _ q=>by
 exact xb q
noncomputable def ZlM (X:Cx)(id:String)(nm:Str)(r:List V->List V->Hp->VK->Prop):Prop:=
 ∀(jM:Qb) (s:Shared) (σ:St) (H:Hp) (xs ys:List V) (us vs:List Value) (Q:VK),Inv X jM σ H s->ZG xs us->ZG ys vs->r xs ys H Q->xf (xB X.prog X.w) X.A (call (.builtin id) us ([nm].zip vs)) (EP X jM σ Q) X.xe s
noncomputable def tCK (r:List V->List V->Hp->VK->Prop)(ta tb:TE):TE:=fun σ H Q=>Uv ta V9 σ H λxs H1=>Uv tb V9 σ H1 λys H2=>r xs ys H2 Q
theorem ZjX {id:String}{p pos kpos:Pos}(hc:ZlM X id nm r)(hg:Gl X x)(hm:X.mg x=none)(hv:xj x=some (.builtin id))(ha:PE X e ta)(hb:PE X d tb)
  (hn:x≠"__name__":=by decide) (hdb:(x==("__debug__" : Str))=false:=by decide) (he:xh [e] X.env=(false,eval e X.env)::xh [] X.env:=by rfl)
  (hall:(xp pos (xi [⟨some nm,d,kpos⟩] X.env)).all (·.1.isSome)=true:=by rfl) (hks:(xp pos (xi [⟨some nm,d,kpos⟩] X.env)).filterMap (·.1)=[nm]:=by rfl)
  (hpl:((backTo pos (xh [e] X.env)).any (·.1)||(xp pos (xi [⟨some nm,d,kpos⟩] X.env)).any (·.1.isNone))=false:=by rfl):PE X (.Call (.Name x p) [e] [⟨some nm,d,kpos⟩] pos) (tCK r ta tb):=by
 intro jM s σ H Q I h;refine wpAny_Call_Name_kw (JL I hg hm hv ?_ hn hdb);refine PySem.W.callWith_of (P:=λ_=>True) hpl (λh _=>⟨Keeper.machine,.inr (.inl rfl),Zex⟩) (evalArgs_kw2 hall (ZI ((XB ha X7 he) pos jM s σ H _ I h) λus s1 ⟨vs,H1,I1,rv,q1⟩=>?_) he);refine ZI ((Zm5 hb Zo2) pos jM s1 σ H1 _ I1 q1) λws s2 ⟨zs,H2,I2,rz,q2⟩=>?_;refine⟨trivial,?_⟩;exact hc jM s2 σ H2 vs zs us ws Q I2 rv rz q2
end
end L2
namespace TF
open L2
section
variable {X:Cx}{G:Gh}
end
end TF
namespace TS
open L2
section
variable {prog:xD}{w:World}{A:xE}{E:xF}{s:Shared}
end
end TS
namespace TF
open L2 TS
section
variable {X:Cx}{G:Gh}
end
end TF
namespace TP2
open L2 TF TP
noncomputable def g_all_near:Zd->M Out:=(Ze (Zz (Z3 [none,some 0] (Yn (Zc Zh (Za 0) (dC (.int 0)))) (Zy 0) Yo (ZD Uq (Zb (Za 1) (Zb (Za 0) Zf)))))
 Zg)
noncomputable def F_all_near:List D->M D:=runB 1 1 g_all_near
noncomputable def Zey:Zd->M Out:=(Ze (Zz (ZB dAll (Zb (Z3 [none,some 0,some 1] (Y2 (Za 2)) (Zy 0) Yo (Zc YR (Za 0) (Zc Zh (Za 1) (Za 2)))) Zf)))
 Zg)
noncomputable def UR:List D->M D:=runB 3 3 Zey
noncomputable def ZgN:Zd->M Out:=(Ze (Ya 1 (X0 (Zb (Z9 Zf) Zf)))
 (Ze (Yv (Yn (ZB Yw (Zb (Za 0) Zf))) (Zy 2)
 (Ze (Ya 1 (Zc Yr (Za 1) (Z3 [none,some 2,some 0] (Y0 (Za 1)) (Zy 0) (Zo (ZD UR (Zb (Za 2) (Zb (Za 1) (Zb (Za 0) Zf))))) (Zc Yr (Za 0) (Z9 (Zb (Za 1) Zf))))))
 Zg))
 (Ze (Zz (Za 1))
 Zg)))
noncomputable def Bm:List D->M D:=runB 3 1 ZgN
end TP2
namespace TP3
open L2 TF TP
open TP2
noncomputable def ZjY:Zd->M Out:=(Ze (Zz (BS (ZB dAny (Zb (Z3 [none,some 0,some 1] (Yn (ZB Yw (Zb (Za 0) Zf))) (Zy 0) Yo (ZD UR (Zb (Za 1) (Zb (Za 0) (Zb (Za 2) Zf))))) Zf))))
 Zg)
noncomputable def Bp:List D->M D:=runB 2 2 ZjY
noncomputable def g_full_knots:Zd->M Out:=(Ze (Ya 1 (ZD F_all_near (Zb (Za 0) Zf)))
 (Ze (Zz (ZB Zdi (Zb (Z3 [none,some 1] (Y0 (ZD Bm (Zb (Za 1) Zf))) (Zy 0) (Zo (ZD Bp (Zb (Za 1) (Zb (Za 0) Zf)))) (Za 0)) Zf)))
 Zg))
noncomputable def F_full_knots:List D->M D:=runB 2 1 g_full_knots
noncomputable def ZfG:Zd->M Out:=(Ze (UC 1 (dC (.du [])))
 (Ze (Yv (fun ρ=>(Y2 (Zc Zh (Za 0) (dC (.int 1)))) (YH [1] ρ)) (Zy 2)
 (Ze (ZgM 1 (fun ρ=>(Za 2) (YH [1] ρ)) (fun ρ=>(dC (.bl true)) (YH [1] ρ)))
 Zg))
 (Ze (Ya 3 (fun ρ=>(X0 (Zb (Z9 Zf) Zf)) (YH [1] ρ)))
 (Ze (Yv (Yn (Zc Zh (Za 0) (dC (.int 0)))) (Zy 4)
 (Ze (UC 5 (X0 Zf))
 (Ze (Yv (fun ρ=>(Y0 (Za 3)) (YH [5] ρ)) (Zy 6)
 (Ze (ZU (Zo (Zc U4 (dC (.bl false)) (Z3 [none,some 4,some 1] (Y2 (Za 6)) (Zy 0) Yo (Zc YR (Z9 (Zb (Za 0) (Zb (Za 1) Zf))) (Za 2)))))
 (Ze (UE 5 (fun ρ=>(Zc Yr (Za 6) (Z9 (Zb (Za 4) Zf))) (YH [5] ρ)))
 Zg)
 Zg)
 Zg))
 (Ze (Ya 3 (Zc Yr (Za 3) (Za 5)))
 Zg))))
 (Ze (Zz (Za 3))
 Zg)))))
noncomputable def Bk:List D->M D:=runB 7 1 ZfG
end TP3
namespace TQ
open L2 TF TQ
open TP
open TP2
open TP3
noncomputable def ZjZ:Zd->M Out:=(Ze (Zz (Vq (Zc XR (Zc Zh (Za 0) (dC (.int 0))) (Zc Zh (Za 1) (dC (.int 1)))) (Zc XR (Zc Zh (Za 1) (dC (.int 0))) (Zc Zh (Za 0) (dC (.int 1))))))
 Zg)
noncomputable def Zj0:List D->M D:=runB 2 2 ZjZ
noncomputable def Zb5:Zd->M Out:=(Ze (Zz (Ug (Zc YD (Za 1) (Za 2)) (ZD WM (Zb (Za 0) (Zb (Za 1) (Zb (Za 2) Zf))))))
 Zg)
noncomputable def ZaB:List D->M D:=runB 3 3 Zb5
noncomputable def ZfH:List D->M D:=runB 4 4 (Ze (ZU (Zo (Zc YD (Zc Zh (Za 0) (dC (.int 0))) (Zc Zh (Za 1) (dC (.int 0)))))
 (Ze (Zz (ZD WM (Zb (Zc Zh (Za 2) (Zc Zh (Za 0) (dC (.int 0)))) (Zb (Zc Zh (Za 0) (dC (.int 1))) (Zb (Zc Zh (Za 1) (dC (.int 1))) Zf)))))
 Zg)
 Zg)
 (Ze (Zz (ZD WM (Zb (Za 3) (Zb (Zc Zh (Za 0) (dC (.int 0))) (Zb (Zc Zh (Za 1) (dC (.int 0))) Zf)))))
 Zg))
noncomputable def Zb6:List D->M D:=UG 3 (BS (ZD WM (Zb (Za 2) (Zb (Za 0) (Zb (Za 1) Zf)))))
noncomputable def ZdU:List D->M D:=runB 4 4 (Ze (Zz (Vq (ZD ZaB (Zb (Za 2) (Zb (Zc Zh (Za 0) (dC (.int 0))) (Zb (Zc Zh (Za 1) (dC (.int 0))) Zf)))) (ZD ZaB (Zb (Za 3) (Zb (Zc Zh (Za 0) (dC (.int 1))) (Zb (Zc Zh (Za 1) (dC (.int 1))) Zf))))))
 Zg)
noncomputable def Zbu:List D->M D:=UG 3 (ZD WM (Zb (Za 2) (Zb (Za 0) (Zb (Za 1) Zf))))
noncomputable def ZbK:List D->M D:=UG 3 (Ug (Zc YR (Z9 (Zb (Za 0) (Zb (Za 1) Zf))) (Za 2)) (Zc YR (Z9 (Zb (Za 1) (Zb (Za 0) Zf))) (Za 2)))
noncomputable def ZdV:List D->M D:=UG 3 (Zc Y3 (Zc Ud (Za 0) (Za 2)) (Zc Ud (Za 1) (Za 2)))
noncomputable def Zb7:List D->M D:=UG 4 (Zc YR (ZB J0 (Zb (Zc XD (Za 1) (Za 0)) (Zb (Zc Yr (Zc XD (Za 2) (Za 1)) (Za 0)) Zf))) (Za 3))
noncomputable def Tl:Nat->List D->M D
 | 0=>Zb6
 | 1=>Zbu
 | 2=>Zj0
 | 3=>ZfH
 | 4=>ZdU
 | 5=>ZbK
 | 6=>ZdV
 | 7=>Zb7
 | _=>λ_=>ZP
noncomputable def ZgO:Zd->M Out:=(Ze (Ya 2 (ZD Zar (Zb (Zaq (ZB Yw (Zb (Za 0) Zf))) Zf)))
 (Ze (Zz (Z9 (Zb (ZB Yw (Zb (Za 0) Zf)) (Zb (ZB U2 (Zb (Z3 [none,some 1,some 0] (Y0 (Za 2)) (Zy 0) (Zo (dApp Tl 1 (Zb (Zc Zh (Za 2) (Zc Zh (Za 0) (dC (.int 0)))) (Zb (Zc Zh (Za 2) (Zc Zh (Za 0) (dC (.int 1)))) Zf)))) (Za 0)) Zf)) Zf))))
 Zg))
noncomputable def Zag:List D->M D:=runB 3 2 ZgO
noncomputable def ZlN:Zd->M Out:=(Ze (Ya 1 (ZD Ju (Zb (Za 0) Zf)))
 (Ze (Zz (dFnC Zag 0 [1] (Zaq (Zc Zh (Za 0) (dC (.int 0))))))
 Zg))
noncomputable def Bt:List D->M D:=runB 2 1 ZlN
end TQ
namespace TF
open L2
noncomputable def ZhU (K:qd)(L:List (Addr×Str)):Sp:=λvs H Q _=>∃(a:Addr) (ns:List Int),vs=[.ref a]/\ZT K H a (ns.map V.int)/\ns.length<=63/\(∀P q,(P,q)∈L->H P=some (.tbl #[]))/\∀H',Q (.bl true) H'
theorem ZhV {L:List (Addr×Str)}{tb:List (Str×Addr×Addr)}{H:Hp}(h:∀P q,(P,q)∈L->∃x c,(x,c,P)∈tb)(hT:∀e∈tb,H e.2.2=some (.tbl #[])):∀P q,(P,q)∈L->H P=some (.tbl #[]):=λP q m=>by
 obtain⟨x,c,z⟩:=h P q m;exact hT _ z
theorem Zqn (h:∀P q,(P,q)∈L->H P=some (.tbl #[])):∀P q,(P,q)∈L->Zor G0 L P q H:=λP q m=>⟨#[],h P q m,trivial,λpos cv hc=>by cases hc⟩
theorem ZlO {K:qd}{N:List Str}(sq:ZT K H a (ns.map V.int))(hTb:∀P q,(P,q)∈L->H P=some (.tbl #[]))(hp:H p=none)(hk:K.lookup p=none)(hQ:∀H',Q (.bl true) H')
  (hg:g (none::some .pen::qp n none) ([0,0],ns)=some (.rt (.bl true),s')) :
  ∃G,Vu (Ue K) L G/\Zgv G [] [] [] false g { nx:=λ_ H'=>Q .non H',rt:=Q } (some (.ref a)::some (.ref p)::qp n none) (Zp H p (.lst [.ref a,.int 0,.int 0])):=by
 have main:∀tr:Bool,(tr=true->∃o,H a=some o/\∀ps,o≠.tbl ps)->(tr=false->∀H':Hp,ZT K H' a (ns.map V.int))->a≠p->∃G,Vu (Ue K) L G/\Zgv G [] [] [] false g { nx:=λ_ H'=>Q .non H',rt:=Q } (some (.ref a)::some (.ref p)::qp n none) (Zp H p (.lst [.ref a,.int 0,.int 0])):=by
  intro tr t1 t2 ne;refine⟨J6 (Jg K p a tr) L,⟨Jg K p a tr,⟨p,a,tr,rfl⟩,λb ⟨q,mb⟩ hb=>?_,rfl⟩,λ_=>none,λ_=>none,Zp H p (.lst [.ref a,.int 0,.int 0]),none::some .pen::qp n none,([0,0],ns),_,s',⟨λ_=>none,⟨by simp,.refl _ _,.refl (λb o _ e=>by cases e),λi d _ e=>?_,λi d m=>by simp at m,λi j b di dj m=>by simp at m⟩⟩,⟨⟨0,0,rfl,Z1,ne,?_,λht=>?_,t2⟩,Zqn λP q z=>?_⟩,hg,λv Hf' H' g st r _=>?_⟩
  ·have e:=hTb b q mb
   rcases hb with rfl | ⟨ht,rfl⟩
   ·rw[hp]at e;cases e
   ·obtain⟨o,z1,z2⟩:=t1 ht
    rw[e]at z1;cases z1;exact z2 _ rfl
  ·match i,e with
   | 0,e=>cases e
   | 1,e=>cases e;exact⟨_,rfl,jq.mpr rfl⟩
   | i+2,e=>
    have e':(qp n (none:Option D))[i]?=some (some d):=e;rw[zS]at e';split at e' <;> cases e'
  ·exact Zpp sq hp
  ·obtain⟨o,q,_⟩:=t1 ht
   exact⟨o,by rw[Zu ne];exact q⟩
  ·rw[Zu (Yz (hTb P q z) hp)];exact hTb P q z
  ·rw[je.mp r]
   exact hQ H'
 have hne:∀o,H a=some o->a≠p:=λo e z=>by grind
 rcases sq with(q | ⟨o,q⟩) | q
 ·exact main true (λ_=>⟨_,q,λ_ z=>by cases z⟩) (λz=>by cases z) (hne _ q)
 ·exact main true (λ_=>⟨_,q,λ_ z=>by cases z⟩) (λz=>by cases z) (hne _ q)
 ·by_cases e:a=p
  ·obtain⟨o,_,_,q1,_⟩:=q
   rw[e,hk]at q1;cases q1
  ·exact main false (λz=>by cases z) (λ_ H'=>.inr q) e
theorem lok_nd:∀{L:List (Addr×Str)},(L.map (·.1)).Nodup->UO L
 | [],_=>λP q q' h=>by simp at h
 | (a,b)::L,nd=>λP q q' h1 h2=>by
  rw[qO,z0]at nd;rcases qN.mp h1 with e1 | m1
  ·grind
  ·rcases qN.mp h2 with e2 | m2
   ·grind
   ·exact lok_nd nd.2 P q q' m1 m2
theorem ZlP:∀ds s d s',WP ds s=some (d,s')->Yh ds=true/\ZY d=true:=λds s d s' h=>by
 unfold WP at h;split at h
 ·split at h
  ·cases h;exact⟨rfl,rfl⟩
  ·cases h
 ·cases h
end TF
namespace TT
section
variable {M:Model}{A:xE}{E:xF}{s:Shared}
end
section
variable (rk:Keyed->Int)
variable {rk}{a b out:Array Keyed}{ia ib:Nat}
end
section
variable {M:Model}{A:xE}{E:xF}{s:Shared}
variable {rk:Keyed->Int}{κ:SortKind}{In:Keyed->Prop}
end
section
variable (rk:Keyed->Int)
variable {rk}{a b out:Array Keyed}{na nb:Nat}
end
section
variable {M:Model}{A:xE}{E:xF}{s:Shared}{rk:Keyed->Int}{κ:SortKind}{In:Keyed->Prop}
end
section
variable {M:Model}{A:xE}{E:xF}{s:Shared}{rk:Keyed->Int}{κ:SortKind}{In:Keyed->Prop}
end
section
variable (rk:Keyed->Int)
end
section
variable {rk:Keyed->Int}
end
section
variable {M:Model}{A:xE}{E:xF}{s:Shared}{rk:Keyed->Int}{κ:SortKind}{In:Keyed->Prop}
end
section
variable {M:Model}{A:xE}{E:xF}{s:Shared}{rk:Keyed->Int}{κ:SortKind}{In:Keyed->Prop}
end
section
variable {M:Model}{A:xE}{E:xF}{s:Shared}{rk:Keyed->Int}{κ:SortKind}{In:Keyed->Prop}{a₀:List Keyed}
end
section
variable {M:Model}{A:xE}{E:xF}{s:Shared}{rk:Keyed->Int}{κ:SortKind}{In:Keyed->Prop}{a₀:List Keyed}
end
open L2 TS
section
variable {prog:xD}{w:World}{A:xE}{E:xF}{s:Shared}
end
end TT
namespace TF
open L2
section
variable {X:Cx}{G:Gh}
noncomputable def Zov (i j l:Nat):D->Zd->Option Zd:=λd ρ=>match d with | .tup [a,b,c]=>some (((ρ.set i (some a)).set j (some b)).set l (some c)) | _=>none
theorem ZlQ {i j l:Nat}{pos:Pos}{k:Nat}(hc:X.calm=true)(oi:ok i)(oj:ok j)(ol:ok l)
  (hn:(assignEach [.Name x px,.Name y py,.Name z pz] X.env).length=3:=by rfl) (hst:(assignEach [.Name x px,.Name y py,.Name z pz] X.env).findIdx? (·.1)=none:=by rfl)
  (hp:BX X [.Name x px,.Name y py,.Name z pz] (BH (Ut i) (BH (Ut j) (BH (Ut l) gNil)))):Vy X G (.Tuple [.Name x px,.Name y py,.Name z pz] k pos) ok (Zov i j l):=
 ⟨_,ZkA hc hp hn hst,λx σ Hf H d ρ ρ' Q e r q k=>by
  match d,q,r with
  | .tup [a,b,c],q,r=>
   cases q
   obtain⟨ad,vs,rfl,n,h,rl⟩:=jd.mp r;obtain⟨v1,r1,rfl,q1,q2⟩:=jc.mp rl;obtain⟨v2,r2,rfl,q3,q4⟩:=jc.mp q2;obtain⟨v3,r3,rfl,q5,q6⟩:=jc.mp q4;have:=Zi.nil_iff.mp q6;subst this;exact⟨ad,_,rfl,Z5.of (e _ _ n h),rfl,v1,_,rfl,v2,_,rfl,v3,_,rfl,rfl,k _ (.cons oi q1 (.cons oj q3 (.cons ol q5 .nil)))⟩⟩
end
end TF
namespace L2
section
variable {X:Cx}{tg:Expr}
end
end L2
namespace TF
open L2
section
variable {X:Cx}{G:Gh}{ob own:List Nat}{fr:Bool}
end
open Sem (wp)
section
variable {prog:xD}{w:World}{A:xE}{E:xF}{s:Shared}
end
variable {X:Cx}{G:Gh}{f:Zd->M D}
end TF
namespace HT
section
variable {prog:xD}{w:World}
variable {A:xE}{E:xF}{s:Shared}
end
namespace FS
end FS
section
variable {prog:xD}{w:World}{A:xE}{E:xF}{s:Shared}
end
end HT
namespace HT
section
variable {prog:xD}{w:World}{A:xE}{E:xF}{s:Shared}
variable {a:Addr}{o:Obj}{es:Array (Int×Value)}{ep:Nat}{t:SetTable}
namespace FS
end FS
end
end HT
namespace HT
section
variable {prog:xD}{w:World}{A:xE}{E:xF}{s:Shared}
variable {a:Addr}{o:Obj}{es:Array (Int×Value)}{ep:Nat}{t:SetTable}
end
section
variable {prog:xD}{w:World}{A:xE}{E:xF}{s:Shared}
variable {a:Addr}{o:Obj}{es:Array (Int×Value)}{ep:Nat}{t:SetTable}
end
end HT
namespace TF
open L2
section
variable {X:Cx}{G:Gh}
end
section
variable {X:Cx}{G:Gh}{ob own:List Nat}{fr:Bool}{f:Zd->M D}
end
end TF
namespace TT
open L2 TS
section
variable {prog:xD}{w:World}{A:xE}{E:xF}{s:Shared}
end
end TT
namespace TS
open L2
section
variable {prog:xD}{w:World}{A:xE}{E:xF}{s:Shared}
end
end TS
namespace TF
open L2 TS
section
variable {X:Cx}{G:Gh}
end
end TF
namespace TF
open L2 TT
section
variable {X:Cx}{G:Gh}
end
end TF
namespace TQ
open L2 TF TQ
open TP
open TP2
open TP3
end TQ
namespace TF
open L2
section
variable {X:Cx}{G:Gh}{f g:Zd->M D}
end
end TF
namespace TQ
open L2 TF
end TQ
namespace TF
open L2
section
variable {X:Cx}{G:Gh}
end
section
variable {X:Cx}{G:Gh}
end
open PySem.SeqAt
open AutoSeq1 (wpAny_loadPart')
section
variable {X:Cx}{G:Gh}
end
end TF
namespace TQ
open L2 TF TQ
open TP
open TP2 hiding g_all_near F_all_near
open TP3 hiding g_full_knots F_full_knots
noncomputable def g_all_near:Zd->M Out:=(Ze (Ya 1 (Z9 (Zb (Zc Zh (Za 0) (dC (.int 0))) (Zb (ZD Ju (Zb (Za 0) Zf)) Zf))))
 (Ze (Zz (Z3 [none,some 1] (Yn (Zc Zh (Za 0) (dC (.int 0)))) (Zy 0) Yo (ZD Uq (Zb (Za 1) (Zb (Za 0) Zf)))))
 Zg))
noncomputable def F_all_near:List D->M D:=runB 2 1 g_all_near
noncomputable def g_full_knots:Zd->M Out:=(Ze (Ya 1 (ZD F_all_near (Zb (Za 0) Zf)))
 (Ze (Zz (ZB Zdi (Zb (Z3 [none,some 1] (Y0 (ZD Bm (Zb (Za 1) Zf))) (Zy 0) (Zo (ZD Bp (Zb (Za 1) (Zb (Za 0) Zf)))) (Za 0)) Zf)))
 Zg))
noncomputable def F_full_knots:List D->M D:=runB 2 1 g_full_knots
end TQ
namespace TF
open L2
section
variable {X:Cx}{G:Gh}
end
section
variable {X:Cx}{G:Gh}
end
section
variable {X:Cx}{G:Gh}
end
end TF
namespace TS
open PySem.W
section
variable {lt:Nat->Nat->Bool}{n:Nat}{p q:Array Nat}
end
end TS
namespace TF
open L2 TS PySem.W
section
variable {X:Cx}{jM:Qb}{σ:St}{H:Hp}{s:Shared}
end
section
variable {prog:xD}{w:World}{A:xE}{E:xF}{s:Shared}
end
section
variable {X:Cx}{jM:Qb}{σ:St}{H:Hp}{s:Shared}
end
end TF
namespace TF
open L2 TS
section
variable {X:Cx}
end
section
variable {X:Cx}{G:Gh}{σ:St}
end
section
variable {X:Cx}{G:Gh}{P c:Addr}{q:Str}{kl:Nat}{frb:Bool}{e1:Expr}{f1:Zd->M D}{r1:Bool}{params:Arguments}{scope:Scope}{lpos ppos pos kpos:Pos}{XN N ps:List Str}{NS:List (Str×NameKind)}{cix:List Nat}{body:Expr}{fe:Zd->M D}
end
end TF
namespace TQ
open L2 TF TQ
open TP
open TP2 hiding g_all_near F_all_near
open TP3 hiding g_full_knots F_full_knots
end TQ
namespace TF
open L2
section
variable {X:Cx}{G:Gh}
end
section
variable {X:Cx}{G:Gh}
end
section
variable {X:Cx}{G:Gh}
end
end TF
namespace TQ
open L2 TF TQ
open TP
open TP2 hiding g_all_near F_all_near
open TP3 hiding g_full_knots F_full_knots
end TQ
namespace TF
open L2
section
variable {X:Cx}
end
section
variable {X:Cx}
end
section
variable {X:Cx}
end
section
variable {X:Cx}
end
section
variable {X:Cx}
end
noncomputable def Zow:Gh where
 fp:=λ_=>False
 rd:=λ_=>False
 pen:=.non
 st:=λ_ _=>True
 mono:=λ_ _ _ _ _ _ _=>trivial
 sub:=λ_ h=>h
 dom:=λ_ _ _ _ h=>h.elim
 ntp:=λ_ _ _ _ _ h=>h.elim
section
variable {X:Cx}
end
section
variable {X:Cx}
end
structure TAd where
 a:Addr
 C:Addr
 dx:Addr
 l:Addr
structure TVs where
 n:Int
 r:Addr
 c:Int
 hs:List Int
noncomputable def U8 (k:TAd)(q:TVs):List (Str×V):=[("n",.int q.n),("rows",.ref q.r),("holders",.ref k.l),("scale",.int q.c)]
noncomputable def Zq (G0:Gh)(k:TAd)(q:TVs):Gh where
 fp:=λb=>G0.fp b∨b=k.a∨b=k.l
 rd:=λb=>G0.rd b∨b=k.a∨b=k.l
 pen:=G0.pen
 st:=λs H=>G0.st s H/\H k.a=some (.ins k.C k.dx (U8 k q))/\H k.l=some (.lst (q.hs.map V.int))
 mono:=λs H H' ⟨h1,h2,h3⟩ k1 k2 k3=>⟨G0.mono s H H' h1 (λb o r=>k1 b o (.inl r)) k2 k3,k1 _ _ (.inr (.inl rfl)) h2,k1 _ _ (.inr (.inr rfl)) h3⟩
 sub:=λb h=>h.elim (λz=>.inl (G0.sub b z)) .inr
 dom:=λs H b ⟨h1,h2,h3⟩ hb=>by
  rcases hb with hb | rfl | rfl
  ·exact G0.dom s H b h1 hb
  ·exact⟨_,h2⟩
  ·exact⟨_,h3⟩
 ntp:=λs H b vs ⟨h1,h2,h3⟩ hb z=>by
  rcases hb with hb | rfl | rfl
  ·exact G0.ntp s H b vs h1 hb z
  ·rw[h2]at z;cases z
  ·rw[h3]at z;cases z
 clo:=λt v vs=>t=0/\v=.ref k.a/\vs=.int q.n :: .ref q.r :: .int q.c::q.hs.map V.int
noncomputable def YK (i:Nat)(g:List D->Option D):Zd->M D:=fun ρ=>Zm (Za i ρ) λd=>match d with | .clo 0 ds=>YV (g ds) | _=>ZP
theorem ZaL (e:YK i g ρ s=some (d,s')):s'=s/\∃ds,(ρ[i]?).bind id=some (.clo 0 ds)/\g ds=some d:=by
 obtain⟨d0,s1,a1,a2⟩:=Zx e;obtain⟨b1,rfl⟩:=Wo a1
 match d0,a2 with
 | .clo 0 ds,a2=>
  obtain⟨c3,rfl⟩:=Wo a2;exact⟨rfl,ds,b1,c3⟩
section
variable {X:Cx}
theorem WZ {i:Nat}{k:TAd}{q:TVs}{ds:List D}(e2:Yt (Zq G0 k q) Hf σ ρ)(h:(ρ[i]?).bind id=some (.clo 0 ds)) :
  σ[i]?=some (some (.ref k.a))/\Zi (Zq G0 k q) Hf ds (.int q.n :: .ref q.r :: .int q.c::q.hs.map V.int):=by
 have e':ρ[i]?=some (some (.clo 0 ds)):=by
  cases z:ρ[i]? with
  | none=>simp_all
  | some o=>simp_all
 obtain⟨v,h1,h2⟩:=e2 i _ e';obtain⟨vs,c,r⟩:=(show ∃vs,(Zq G0 k q).clo 0 v vs/\Zi (Zq G0 k q) Hf ds vs by exact h2);rw[c.2.2]at r;rw[h1,c.2.1];simp_all
theorem X6 {i j:Nat}{k:TAd}{q:TVs}{f:Str}(hv:PE X (.Name x p) (Yf i))(c:Cls X.K k.C)(na:Xl X.K k.C f)(hj:(U8 k q).lookup f=(V.int q.n :: .ref q.r :: .int q.c::q.hs.map V.int)[j]?:=by rfl)(hb:xq (.Name x p) f X.env (eval (.Name x p) X.env)=eval (.Name x p) X.env:=by rfl) :
  PD X (Zq G0 k q) false (.Attribute (.Name x p) f pos) (YK i λds=>ds[j]?):=by
 refine⟨_,U0 hv hb,fun σ Hf H ρ s d s' Q e1 e2 e3 e4 kk=>?_⟩;obtain⟨rfl,ds,b1,b2⟩:=ZaL e4;obtain⟨h1,h2⟩:=WZ e2 b1;obtain⟨v,h3,h4⟩:=Zi.get h2 b2;exact⟨_,h1,k.a,k.C,k.dx,_,v,rfl,e3.2.1,c,na,hj.trans h3,kk v Hf H (.refl e1) e3 h4 λz=>by cases z⟩
noncomputable def J8 (g:List Int->Option D):List D->Option D:=λds=>match ds with | _::_::_::hs=>(Yb hs).bind g | _=>none
theorem ZdW:∀{a b:List Int},a.map V.int=b.map V.int->a=b
 | [],[],_=>rfl
 | [],_::_,e=>by cases e
 | _::_,[],e=>by cases e
 | x::a,y::b,e=>by
  simp at e;rw[e.1,ZdW e.2]
theorem Zbq {k:TAd}{q:TVs}{ds:List D}(r:Zi (Zq G0 k q) Hf ds (.int q.n :: .ref q.r :: .int q.c::q.hs.map V.int))(e:J8 g ds=some d):g q.hs=some d:=by
 match ds,e,r with
 | _::_::_::hs,e,r=>
  obtain⟨_,_,e1,_,r⟩:=jc.mp r
  cases e1
  obtain⟨_,_,e1,_,r⟩:=jc.mp r
  cases e1
  obtain⟨_,_,e1,_,r⟩:=jc.mp r
  cases e1
  have e:(Yb hs).bind g=some d:=e
  cases hi:Yb hs with
  | none=>simp_all
  | some ns=>
   rw[hi]at e;rw[UU hi]at r;rw[ZdW (jp r)];exact e
theorem ZhW {i:Nat}{k:TAd}{q:TVs}{p pos p1 p2:Pos}(hm:X.mg "len" = none)(hv:PE X (.Name x p1) (Yf i))(c:Cls X.K k.C)(na:Xl X.K k.C "holders")(hg:Gl X "len":=by rfl)(hb:xq (.Name x p1) "holders" X.env (eval (.Name x p1) X.env)=eval (.Name x p1) X.env:=by rfl)
  (he:xh [.Attribute (.Name x p1) "holders" p2] X.env=(false,eval (.Attribute (.Name x p1) "holders" p2) X.env)::xh [] X.env:=by rfl) (hpl:(backTo pos (xh [] X.env)).any (·.1)=false:=by rfl) :
  PD X (Zq G0 k q) true (.Call (.Name "len" p) [.Attribute (.Name x p1) "holders" p2] [] pos) (YK i (J8 λns=>some (.int ns.length))):=by
 refine⟨_,Za0 B9 hg hm boot_len (XB (U0 hv hb) X7 he) (by decide) (by decide) he hpl,fun σ Hf H ρ s d s' Q e1 e2 e3 e4 kk=>?_⟩;obtain⟨rfl,ds,b1,b2⟩:=ZaL e4;obtain⟨h1,h2⟩:=WZ e2 b1;have h3:=Zbq h2 b2
 cases h3
 exact⟨_,h1,k.a,k.C,k.dx,_,.ref k.l,rfl,e3.2.1,c,na,rfl,k.l,_,rfl,.inl (ZT.of e3.2.2),kk _ Hf H (.refl e1) e3 (ja.mpr (by simp)) λ_=>.scal λz=>z⟩
noncomputable def Zb8 (i:Nat)(f:Zd->M D):Zd->M D:=fun ρ=>Zm (f ρ) λy=>YK i (J8 λns=>Zh (.lst (ns.map D.int)) y) ρ
theorem Ze5 {i:Nat}{k:TAd}{q:TVs}{p p1 pos:Pos}(hv:PE X (.Name x p) (Yf i))(c:Cls X.K k.C)(na:Xl X.K k.C "holders")(he:PD X (Zq G0 k q) r1 e f)(hb:xq (.Name x p) "holders" X.env (eval (.Name x p) X.env)=eval (.Name x p) X.env:=by rfl)(hs:Zfo e:=by intro _ _;rfl) :
  PD X (Zq G0 k q) true (.Subscript (.Attribute (.Name x p) "holders" p1) e pos) (Zb8 i f):=by
 obtain⟨te,pe,ye⟩:=he.drop;refine⟨_,W1 WX (U0 hv hb) pe hs,fun σ Hf H ρ s d s' Q e1 e2 e3 e4 kk=>?_⟩;obtain⟨y,s1,a1,a2⟩:=Zx e4;obtain⟨rfl,ds,b1,b2⟩:=ZaL a2;obtain⟨h1,h2⟩:=WZ e2 b1;have h3:=Zbq h2 b2;refine⟨_,h1,k.a,k.C,k.dx,_,.ref k.l,rfl,e3.2.1,c,na,rfl,?_⟩;refine ye σ Hf H ρ s y _ _ e1 e2 e3 a1 λv jU H1 g1 jV r=>?_
 match y,h3,r with
 | .int z,h3,r=>
  obtain⟨u,h4,h5⟩:=Zfw (ZaK q.hs) h3;refine⟨k.l,_,z,u,rfl,ja.mp r,ZT.of jV.2.2,h4,?_⟩;refine kk u jU H1 g1 jV h5 λ_=>.scal λm=>?_;have h6:Xu (q.hs.map D.int) z=some d:=h3;unfold Xu at h6
  cases hx:Wy q.hs.length z with
  | none=>simp_all
  | some w=>
   simp[hx]at h6;obtain⟨_,w2,_,rfl⟩:=h6;exact m
noncomputable def Zb9 (i:Nat)(f:Zd->M D):Zd->M D:=fun ρ=>Zm (f ρ) λy=>match y with | .int z=>YK i (J8 λns=>U4 (.int z) (.lst (ns.map D.int))) ρ | _=>ZP
theorem Zj1 {H:Hp}{l:Addr}{ns:List Int}(h:H l=some (.lst (ns.map V.int))):Zl Zow H (.lst (ns.map D.int)) (.ref l):=jb.mpr ⟨l,_,rfl,λz=>z,h,ZaK ns⟩
theorem ZhX {i:Nat}{k:TAd}{q:TVs}(c:Cls X.K k.C)(na:Xl X.K k.C "holders")(ye:Va (Zq G0 k q) fr te f) :
  Va (Zq G0 k q) true (WK (rInD Zow true) te (tFld X.K (Yf i) "holders")) (Zb9 i f):=fun σ Hf H ρ s d s' Q e1 e2 e3 e4 kk=>by
 obtain⟨y,s1,a1,a2⟩:=Zx e4
 match y,a1,a2 with
 | .int z,a1,a2=>
  obtain⟨rfl,ds,b1,b2⟩:=ZaL a2;obtain⟨h1,h2⟩:=WZ e2 b1;have h3:=Zbq h2 b2;refine ye σ Hf H ρ s _ _ _ e1 e2 e3 a1 λv jU H1 g1 jV r _=>?_;refine⟨_,h1,k.a,k.C,k.dx,_,.ref k.l,rfl,jV.2.1,c,na,rfl,?_⟩;have h3:(if Xi (.int z) (q.hs.map D.int)=true then some (Xx (.int z) (q.hs.map D.int))else none).map (λb=>D.bl (!b))=some d:=h3;split at h3
  ·rename_i ok
   cases h3
   exact⟨H1,.int z,q.hs.map D.int,.refl _ _,ok,ja.mpr (ja.mp r),.inl (Zj1 jV.2.2),kk _ jU H1 g1 jV (je.mpr rfl) λ_=>.scal λz=>z⟩
  ·cases h3
theorem ZhY {i:Nat}{k:TAd}{q:TVs}{p p2 pos:Pos}(hu:X.A.units+64<cLine)(he:PD X (Zq G0 k q) r1 e f)(hv:PE X (.Name x p) (Yf i))(c:Cls X.K k.C)(na:Xl X.K k.C "holders")
  (hb:xq (.Name x p) "holders" X.env (eval (.Name x p) X.env)=eval (.Name x p) X.env:=by rfl) (hm:behindInMarks .NotIn (.Attribute (.Name x p) "holders" p2)=false:=by rfl) :
  XQ X (Zq G0 k q) (.Compare e [.NotIn] [.Attribute (.Name x p) "holders" p2] pos) (Zo (Zb9 i f)):=by
 obtain⟨te,pe,ye⟩:=he;exact⟨_,ZbU (ZeS hu) pe (U0 hv hb) hm,fun σ Hf H ρ s b s' Q e1 e2 e3 e4 kk=>ZhX c na ye σ Hf H ρ s (.bl b) s' _ e1 e2 e3 (ZdC e4) λv Hf' H' g1 g2 g3 fz=>⟨b,je.mp g3,kk Hf' H' g1 g2⟩⟩
noncomputable def Zdj (i:Nat)(f:Zd->M D):Zd->M D:=fun ρ=>Zm (f ρ) λy=>YK i (J8 λns=>Zpu (.lst (ns.map D.int)) y) ρ
theorem Zj2 {i:Nat}{k:TAd}{q:TVs}{p p1 ap cp:Pos}(hv:PE X (.Name x p) (Yf i))(c:Cls X.K k.C)(na:Xl X.K k.C "holders")(he:PD X (Zq G0 k q) r2 e fe)(hb:xq (.Name x p) "holders" X.env (eval (.Name x p) X.env)=eval (.Name x p) X.env:=by rfl)
  (hbase:xq (.Attribute (.Name x p) "holders" p1) "index" X.env (eval (.Attribute (.Name x p) "holders" p1) X.env)=eval (.Attribute (.Name x p) "holders" p1) X.env:=by rfl)
  (hfew:((backTo cp (xh [e] X.env)).all (λx=>!x.1)&&(xp cp (xi [] X.env)).all (λx=>x.1.isSome)
   && decide ([e].length+([]:List Keyword).length+(if ([]:List Keyword).isEmpty then 0 else 1)<30))=true:=by rfl)
  (hline:(ap.endLine==cp.line)=true:=by rfl) (hs:xh [e] X.env=(false,eval e X.env)::xh [] X.env:=by rfl) :
  PD X (Zq G0 k q) true (.Call (.Attribute (.Attribute (.Name x p) "holders" p1) "index" ap) [e] [] cp) (Zdj i fe):=by
 obtain⟨te,pe,ye⟩:=he.drop;refine⟨_,Zix yq qbm PySem.F.type_list_index ZlJ (U0 hv hb) (XB pe X7 hs) hbase hfew hline hs rfl,fun σ Hf H ρ s d s' Q e1 e2 e3 e4 kk=>?_⟩;obtain⟨y,s1,a1,a2⟩:=Zx e4;obtain⟨rfl,ds,b1,b2⟩:=ZaL a2;obtain⟨h1,h2⟩:=WZ e2 b1;have h3:=Zbq h2 b2;refine⟨_,h1,k.a,k.C,k.dx,_,.ref k.l,rfl,e3.2.1,c,na,rfl,.inl ⟨rfl,_,ZT.of e3.2.2⟩,?_⟩;refine ye σ Hf H ρ s y _ _ e1 e2 e3 a1 λv jU H1 g1 jV r=>?_
 match y,h3,r with
 | .int z,h3,r=>
  have h3:((Yb (q.hs.map D.int)).bind λns=>if z∈ns then some (D.int (ns.idxOf z:Nat))else none)=some d:=h3;rw[Zao]at h3;have h3:(if z∈q.hs then some (D.int (q.hs.idxOf z:Nat))else none)=some d:=h3;split at h3
  ·rename_i hmem
   cases h3
   rw[ja.mp r];exact⟨k.l,q.hs,z,rfl,rfl,ZT.of jV.2.2,hmem,kk _ jU H1 g1 jV (ja.mpr rfl) λ_=>.scal λz=>z⟩
  ·cases h3
end
noncomputable def U6 (ρ:Zd):Bool:=ρ.all λo=>match o with | some d=>ZY d | none=>true
theorem ZcC {i:Nat}(h:U6 ρ=true)(e:ρ[i]?=some (some d)):ZY d=true:=by
 have:=qS.mp h _ (zF e);exact this
section
variable {X:Cx}{G:Gh}{ob:List Nat}{fr:Bool}
end
end TF
namespace L2
section
variable {P:xD}{w:World}
section
variable {K:qd}{mg:Str->Option Value}{base:Heap}{N:List Str}{qual:Str}{scope:Scope}{f:Addr}{cd:Value}{A:xE}{outer:List Env}{s₀:Shared}{H₀:Hp}{E:XK}
variable {jM:Qb}{σ:St}{H H':Hp}{s s':Shared}{x:Addr}{cls a0:Value}{B h:Heap}
end
end
section
variable {P:xD}{w:World}{K:qd}{mg:Str->Option Value}{base:Heap}{N:List Str}{qual:Str}{scope:Scope}{f:Addr}{cd:Value}{A:xE}{outer:List Env}{s₀:Shared}{H₀:Hp}{E:XK}
end
open PySem.Builtin PySem.Builtin.Getset_descriptor PySem.Builtin.ObjectAttr PySem.Calls PySem.W
section
variable {prog:xD}{w:World}{A:xE}{E:xF}{s:Shared}{K:Frag}{x D:Addr}
end
end L2
namespace L2
open PySem.Calls
section
variable {X:Cx}{jM:Qb}{σ:St}{H H':Hp}{s s':Shared}{v:Value}
end
section
variable {X:Cx}
end
end L2
namespace TF
open PySem.Calls L2
section
variable {X:Cx}
end
section
variable {X:Cx}{G:Gh}{own own2:List Nat}{Ex:Hp->Prop}
end
end TF
namespace TF
open L2
section
variable {X:Cx}{G:Gh}
theorem va (i:Nat){pos:Pos}(hN:X.N[i]?=some x:=by rfl)(hv:Vis X.env.scope x:=by first | exact qy rfl | exact z7 (qy rfl) | exact z7 (z7 rfl))(hd:(x==("__debug__" : Str))=false:=by decide)(hcd:(x==("__classdict__" : Str))=false:=by decide):PD X G false (.Name x pos) (Za i):=Zhz i (pv i hN hv hd hcd)
theorem bk (XN:List Str)(NS:List (Str×NameKind))(N':List Str)(src:List (Option Nat)){scope:Scope}(a:X.N=XN:=by rfl)(b:X.env.scope.names=NS:=by rfl)(c:∀y∈scope.names,y.2≠.cell:=by decide +kernel)(d:scope.kind=.function:=by rfl)(e:∀y∈scope.names,y.2=.local->scope.names.lookup y.1=some .local:=by decide +kernel)(f:src.length=N'.length:=by rfl)(g:∀y∈scope.names,y.2=.free->NS.lookup y.1=some .cell∨NS.lookup y.1=some .free:=by decide +kernel)
  (h:(src.zip N').all (λp=>match p.1 with | some j=>decide (XN[j]?=some p.2)&&(decide (NS.lookup p.2=some .cell)||decide (NS.lookup p.2=some .free))&&decide (scope.names.lookup p.2=some .free) | none=>true)=true:=by decide +kernel):BlkS X XN NS N' src scope:=⟨a,b,c,d,e,f,g,h⟩
theorem YI {N P:List Str}{sc:Scope}(a:sc.kind=.function:=by rfl)(b:sc.isCoroutine=false:=by rfl)(c:sc.isGenerator=false:=by rfl)(d:N.Nodup:=by decide +kernel)(e:N.take P.length=P:=by rfl)(f:∀x∈P,sc.names.lookup x=some .local∨sc.names.lookup x=some .cell:=by decide +kernel)(g:∀y∈sc.names,y.2≠.free:=by decide +kernel):FnScope N P sc:=⟨a,b,c,d,e,f,g⟩
end
section
variable {X:Cx}{G:Gh}{elt tg iter:Expr}{ifs:List Expr}{scope:Scope}{pos pos' spos:Pos}{XN:List Str}{NS:List (Str×NameKind)}{N':List Str}{src:List (Option Nat)}{fi:Zd->M (List D)}{τ:D->Zd->Option Zd}{ft:Zd->M Bool}{fe:Zd->M D}{r1:Bool}{i:Nat}{x:Str}
theorem Xy {cl:_}{jM:_}{C:_}{s:_}{H:_}{fp:_}{ok:Nat->Prop}(nd:N'.Nodup:=by decide +kernel)(hi:N'[i]?=some x:=by rfl)(hx:WS (YN X jM N' scope cl C s H fp).env.scope x:=by exact qy rfl)(oi:ok i:=by rfl)(hf:(YN X jM N' scope cl C s H fp).fn x=true∨(YN X jM N' scope cl C s H fp).env.scope.names.lookup x=some .local:=by first | exact .inl rfl | exact .inr rfl | assumption):Vy (YN X jM N' scope cl C s H fp) G (.Name x pos) ok (Zy i):=Xp nd hi hx oi hf
theorem X9 (B:BlkS X XN NS N' src scope)(hi:Xw X G tg iter fi)
  (hg:∀{cl jM C s H fp},Vy (YN X jM N' scope cl C s H fp) G tg (λi=>src[i]?=some none) τ) (ht:∀{cl jM C s H fp},Uc (YN X jM N' scope cl C s H fp) ifs (Jc G ft)) (he:∀{cl jM C s H fp},PD (YN X jM N' scope cl C s H fp) G r1 elt fe)
  (hc:X.calm=true:=by rfl) (hs:∀x,foldedSetIterable iter X.env x=pure x:=by intro _;rfl):PD X G true (.ListComp elt [⟨tg,iter,ifs,0⟩] scope pos) (Z3 src fi τ ft fe):=Zld hc B hi (λ_ _ _ _ _ _=>hg) (λ_ _ _ _ _ _=>ht) (λ_ _ _ _ _ _=>he) hs
end
theorem Yx {p pos:Pos}(c:Yd X.prog X.w X.K X.mg X.base k x n fr GG F)(hG:GG G)(hr:Room k X.A)
  (ha:Wz X G (e::es) fs) (hg:Gl X x:=by rfl) (hal:∀ρ s ds s',fs ρ s=some (ds,s')->ds.length=(e::es).length:=by first | exact YF WD | exact YF (YF WD) | exact YF (YF (YF WD)) | exact YF (YF (YF (YF WD))) | exact YF (YF (YF (YF (YF WD)))) | exact YF (YF (YF (YF (YF (YF WD)))))) (jW:(e::es).length=n:=by rfl)
  (hdb:(x==("__debug__" : Str))=false:=by decide) (he:xh (e::es) X.env=(false,eval e X.env)::xh es X.env:=by rfl) (hpl:(backTo pos (xh es X.env)).any (·.1)=false:=by rfl) :
  PD X G fr (.Call (.Name x p) (e::es) [] pos) (ZD F fs):=Zle c hG hr hg ha hal jW hdb he hpl
section
variable {X:Cx}{G:Gh}{ob own own':List Nat}{fr:Bool}
theorem Zw {st:Stmt}(h:Y1 X G ob own [] fr st g1)(h2:X1 X G ob [] own' fr sts g2):X1 X G ob own own' fr (st::sts) (Ze g1 g2):=YS h h2
theorem ZV (hs:∀k,k∈own'->k∈([]:List Nat):=by decide):X1 X G ob [] own' fr [] Zg:=Yq hs
theorem XT (hc:XQ X G c fc)(ha:X1 X G ob own [] fr a g1)(hb:X1 X G ob own [] fr b g2):Y1 X G ob own [] fr (.If c a b pos) (ZU fc g1 g2):=BC hc ha hb
theorem WB {p pos:Pos}(hm:X.mg "len" = none)(ha:Wz X G [e] f)(hg:Gl X "len":=by rfl)(h1:xh [e] X.env=(false,eval e X.env)::xh [] X.env:=by rfl)(h2:(backTo pos (xh [] X.env)).any (·.1)=false:=by rfl):PD X G true (.Call (.Name "len" p) [e] [] pos) (ZB Yw f):=XF ZhE hg hm boot_len ha (he:=h1)
end
theorem ux1 {α:Type}(us:List α)(e:us.length=1):∃a,us=[a]:=by
 cases us with | nil=>cases e | cons a r=>simp_all
theorem ux2 {α:Type}(us:List α)(e:us.length=2):∃a b,us=[a,b]:=by
 cases us with | nil=>cases e | cons a r=>obtain⟨b,rfl⟩:=ux1 r (qcc.inj e);exact⟨a,b,rfl⟩
theorem ux3 {α:Type}(us:List α)(e:us.length=3):∃a b c,us=[a,b,c]:=by
 cases us with | nil=>cases e | cons a r=>obtain⟨b,c,rfl⟩:=ux2 r (qcc.inj e);exact⟨a,b,c,rfl⟩
noncomputable def IsC (K:qd)(x:Str)(st:Stmt)(c:Addr):Prop:=∃(f:Addr) (fd:xC),qbd K mainGlobals x=some (some (.ref f))/\Fun K x x st f fd/\fd.code=.ref c
noncomputable def fnO (x:Str)(st:Stmt)(pm:Value)(c:Addr):Obj:=⟨.type "function",none,.func (zt x x (WE st) (XV st) (ZF st) .none .none .none pm none (.ref c) .none),#[]⟩
noncomputable def cdO (x:Str)(t:Nat)(ln ac:Int)(a:Addr)(tx k:Nat)(v:Bool):Obj:=
 ⟨.type "code",none,.fields #[.str x t,.str x (t+1),.str "/claim/cut.py" (t+2),.int ln 0,.int ac 0,.int 0 0,.int 0 0,.int 3 0,.ref a,.bool true,.int tx 0,.ref (a+1),.none,
  (match v with | true=>.ref (a+2) | false=>.none),(match v with | true=>.ref (a+3) | false=>.none),.ref (match v with | true=>a+4 | false=>a+2),.int k 0,.int ln 0,.str "/claim/cut.py" (k+1)],#[]⟩
structure DRow where
 x:Str
 i:Nat
 t:Nat
 ln:Int
 ac:Int
 a:Addr
 k:Nat
 v:Bool
 pm:Str
 pt:Nat
noncomputable def DRow.c (r:DRow):Addr:=match r.v with | true=>r.a+5 | false=>r.a+3
noncomputable def dE (P:Params)(x:Str)(t:Nat)(v:Value):DictEntry:=⟨PyData.keyHash P x,.str x t,v⟩
noncomputable abbrev nE (x:Str)(t:Nat)(a:Addr):Str×Nat×Addr:=(x,t,a)
noncomputable abbrev dR (x:Str)(i t:Nat)(ln ac:Int)(a:Addr)(k:Nat)(v:Bool)(pm:Str)(pt:Nat):DRow:=⟨x,i,t,ln,ac,a,k,v,pm,pt⟩
noncomputable def dRs (P:Params)(l:List (Str×Nat×Addr)):List DictEntry:=l.map λe=>dE P e.1 e.2.1 (.ref e.2.2)
noncomputable def Zqo (top:Nat->Stmt)(tx:Nat)(m:List DictEntry)(n:Nat)(rs:List DRow):qd:=
 (mainNs,⟨.type "dict",none,.dict m.toArray n,#[]⟩)::rs.flatMap λr=>[(r.c,cdO r.x r.t r.ln r.ac r.a tx r.k r.v),(r.c+1,fnO r.x (top r.i) (.str r.pm r.pt) r.c)]
theorem Zqp {K:qd}{x:Str}{st:Stmt}{pm:Value}{c f:Addr}(a:qbd K mainGlobals x=some (some (.ref f)))(l:K.lookup f=some (fnO x st pm c))(cd:yD K (.ref c) x=true):IsC K x st c:=
 ⟨f,_,a,ZkV l cd (by unfold zE;dsimp only;rw[l];rfl),rfl⟩
noncomputable def Zpv:Stmt->Pos
 | .FunctionDef _ _ _ _ _ _ _ _ _ p=>p
 | _=>⟨0,0,0,0⟩
noncomputable abbrev ZhZ (st:Stmt):DefRec:=⟨"law",WE st,XV st,ZF st,Zpv st⟩
theorem head_of {l:PySem.W.OpenLaw}{q:xD}{K:Params->qd}{as:List Addr}{e:∀P,as=(K P).map (·.1)}{N:Nat}{st:Stmt}(said:l.wellSaid=true)
  (left:PySem.W.LeftO l.prog q [] (λs=>PySem.W.xlAt q [] s&&PySem.W.recOk l.row.records s) (yt K as e).obs (yt K as e).val N)
  (hdef:PySem.W.defOf q l.row.name=some (ZhZ st,[])) (hp:l.row.prog.theDef l.row.name=some (WE st,XV st,ZF st))
  (hk:PySem.W.kwWritten? (WE st).kwonlyargs (WE st).kw_defaults=some [])
  (ok:(PySem.W.chainsOk q&&PySem.W.opensWell l.row.prog&&(PySem.W.frees l.row.toRowW&&l.row.within.isEmpty))=true) (hb:l.row.prog.bare) (hw:l.row.toRowW.promised) (hwr:(!l.row.writes||l.row.records.isEmpty)=true)
  (call:qbR q [] (PySem.W.XL q []) (yt K as e).says l.row.toRowW (ZhZ st) [] λf vs=>qbL f vs):l.Holds:=
 PySem.W.holds_law said λsd=>PySem.W.holds_open left (yt K as e).of (yt K as e).keeps (λs z=>PySem.W.xl_of s (yJ.mp z).1) PySem.W.XL.keeps hdef hp hk (λs z=>PySem.W.recFacts_of (yJ.mp z).2) hwr sd ok hb hw call
noncomputable def AtR (K:qd)(mg:Str->Option Value)(top:Nat->Stmt)(r:DRow):Prop:=∃(f:Addr) (fd:xC),Fun K r.x r.x (top r.i) f fd/\mg r.x=some (.ref f)/\fd.code=.ref r.c
noncomputable def Zox (K:qd)(top:Nat->Stmt)(r:DRow):Prop:=qbd K mainGlobals r.x=some (some (.ref (r.c+1)))/\K.lookup (r.c+1)=some (fnO r.x (top r.i) (.str r.pm r.pt) r.c)/\yD K (.ref r.c) r.x=true
noncomputable def ZfI (K:qd)(top:Nat->Stmt):List DRow->Prop
 | []=>True
 | r::l=>Zox K top r/\ZfI K top l
theorem ZgP {K:qd}{top:Nat->Stmt}:∀{l:List DRow} {j:Nat} {r:DRow},ZfI K top l->l[j]?=some r->Zox K top r
 | _::_,0,_,h,e=>by cases e;exact h.1
 | _::l,j+1,_,h,e=>ZgP h.2 e
theorem Zpw {K:qd}{h:Heap}{mg:Str->Option Value}{top:Nat->Stmt}{l:List DRow}(ok:ZfI K top l)(X:K.In h)(G:h.Ns mainGlobals mg)(j:Nat){r:DRow}(e:l[j]?=some r:=by rfl):AtR K mg top r:=by
 obtain⟨a,b,c⟩:=ZgP ok e;obtain⟨f,fd,a,F,d⟩:=Zqp a b c;exact⟨f,fd,F,PySem.W.mg_of X G a,d⟩
theorem bdc {K:qd}{x:Str}{st:Stmt}{f:Addr}{fd:xC}(ps:List Str)(F:Fun K x x st f fd)
  (h:∀(kV doc pm:Value) (an:Option Addr) (cdv ct:Value) (us:List Value),us.length=ps.length->bindArgs (zt x x (WE st) (XV st) (ZF st) .none kV doc pm an cdv ct) ⟨us,[]⟩=pure (ps.zip us):=by
   intro _ _ _ _ _ _ us hl
   first
    | (obtain⟨_,rfl⟩:=TF.ux1 us hl;rfl)
    | (obtain⟨_,_,rfl⟩:=TF.ux2 us hl;rfl)
    | (obtain⟨_,_,_,rfl⟩:=TF.ux3 us hl;rfl)
    | (obtain⟨_,_,_,_,rfl⟩:=TF.ux4 us hl;rfl)
    | (obtain⟨_,_,_,_,_,rfl⟩:=TF.ux5 us hl;rfl)
    | (obtain⟨_,_,_,_,_,_,rfl⟩:=TF.ux6 us hl;rfl)
    | (obtain⟨_,_,_,_,_,_,_,rfl⟩:=TF.ux7 us hl;rfl)
    | (obtain rfl:=TF.ux0 us hl;rfl)):Xf K fd ps []:=F.binds h
theorem mkc {P:xD}{w:World}{K:qd}{mg:Str->Option Value}(base:Heap){x:Str}{st:Stmt}{f:Addr}{fd:xC}{k n:Nat}{ps:List Str}{fr:Bool}{GG:Gh->Prop}{F9:List D->M D}(F:Fun K x x st f fd)(m:mg x=some (.ref f))(ok:FnOk P w K mg base ZR k f fd ps (Yp n fr GG F9))
  (h:∀(kV doc pm:Value) (an:Option Addr) (cdv ct:Value) (us:List Value),us.length=ps.length->bindArgs (zt x x (WE st) (XV st) (ZF st) .none kV doc pm an cdv ct) ⟨us,[]⟩=pure (ps.zip us):=by
   intro _ _ _ _ _ _ us hl
   first
    | (obtain⟨_,rfl⟩:=TF.ux1 us hl;rfl)
    | (obtain⟨_,_,rfl⟩:=TF.ux2 us hl;rfl)
    | (obtain⟨_,_,_,rfl⟩:=TF.ux3 us hl;rfl)
    | (obtain⟨_,_,_,_,rfl⟩:=TF.ux4 us hl;rfl)
    | (obtain⟨_,_,_,_,_,rfl⟩:=TF.ux5 us hl;rfl)
    | (obtain⟨_,_,_,_,_,_,rfl⟩:=TF.ux6 us hl;rfl)
    | (obtain⟨_,_,_,_,_,_,_,rfl⟩:=TF.ux7 us hl;rfl)
    | (obtain rfl:=TF.ux0 us hl;rfl)):Yd P w K mg base k x n fr GG F9:=⟨f,fd,ps,ok,m,F.kp,F.binds h⟩
open PySem.Calls
section
variable {X:Cx}{G:Gh}{own:List Nat}{Ex:Hp->Prop}{R:Zd->M Unit}{e:Expr}{es:List Expr}
end
section
variable {P:xD}{w:World}{K:qd}{mg:Str->Option Value}{base:Heap}{N:List Str}{qual:Str}{scope:Scope}{f:Addr}{cd:Value}{A:xE}{outer:List Env}{s₀:Shared}{H₀:Hp}{E:XK}
end
noncomputable def nsO (P:Params)(l:List (Str×Nat×Value))(n:Nat):Obj:=⟨.type "dict",none,.dict (l.map λe=>dE P e.1 e.2.1 e.2.2).toArray n,#[]⟩
section
variable {X:Cx}
end
section
variable {X:Cx}{G:Gh}{own:List Nat}{Ex:Hp->Prop}
end
end TF
namespace L2
open PySem.Calls
section
variable {X:Cx}{jM:Qb}{σ:St}{H:Hp}{s:Shared}
end
end L2
namespace TF
open PySem.Calls L2
section
variable {X:Cx}{G:Gh}{ob:List Nat}{fr:Bool}
end
end TF
namespace TS
open PySem.W
section
variable {prog:xD}{w:World}{A:xE}{E:xF}{s:Shared}
end
end TS
namespace TF
open L2 TS
section
variable {X:Cx}{G:Gh}
end
end TF
namespace L2
section
variable {prog:xD}{w:World}{A:xE}{E:xF}{s:Shared}{o:Obj}{es:Array DictEntry}{d:Addr}{ep:Nat}
end
end L2
namespace TS
open PySem.W
section
variable {prog:xD}{w:World}{A:xE}{E:xF}{s:Shared}{o:Obj}{es:Array DictEntry}{d:Addr}{ep:Nat}
end
end TS
namespace TF
open L2 TS
section
variable {X:Cx}{G:Gh}
end
end TF
namespace TF
open L2
section
variable {prog:xD}{w:World}{Kt:Type}[DecidableEq Kt]{knd:HeapKind prog w Kt}{A:xE}{E:xF}{s:Shared}
end
section
variable {X:Cx}{jM:Qb}{σ:St}{H:Hp}{s:Shared}{A:xE}{E:xF}{Q:xF}
end
section
variable {X:Cx}{o e:Expr}{apos cpos:Pos}{td ty:TE}
end
noncomputable def W8 (st:Stmt)(j:Nat):Stmt:=match st with | .ClassDef _ _ _ b _ _ _ _ _ _ _=>b.getD j (.Pass ⟨0,0,0,0⟩) | _=>.Pass ⟨0,0,0,0⟩
noncomputable def Wn (P:xD)(w:World)(K:qd)(mg:Str->Option Value)(base:Heap)(C:Addr)(k:Nat)(m:Str)(n:Nat)(GG:Gh->Prop)(F:List D->M D):Prop:=
 ∃f fd ps,FnOk P w K mg base ZR k f fd ps (Yp n false GG F)/\Meth K C m f/\Xf K fd ps []
section
variable {X:Cx}
end
theorem bdm {K:qd}{st:Stmt}(ps:List Str)(F:Fun K x q st f fd)
  (h:∀(kV doc pm:Value) (an:Option Addr) (cdv ct:Value) (us:List Value),us.length=ps.length->bindArgs (zt x q (WE st) (XV st) (ZF st) .none kV doc pm an cdv ct) ⟨us,[]⟩=pure (ps.zip us):=by
   intro _ _ _ _ _ _ us hl
   first
    | (obtain⟨_,rfl⟩:=TF.ux1 us hl;rfl)
    | (obtain⟨_,_,rfl⟩:=TF.ux2 us hl;rfl)
    | (obtain⟨_,_,_,rfl⟩:=TF.ux3 us hl;rfl)):Xf K fd ps []:=F.binds h
noncomputable def fnM (x q:Str)(st:Stmt)(pm:Value)(c:Addr):Obj:=⟨.type "function",none,.func (zt x q (WE st) (XV st) (ZF st) .none .none .none pm none (.ref c) .none),#[]⟩
noncomputable def clsM (nm:Str)(C N:Addr)(t1 t2:Nat):Obj:=⟨.type "type",none,.cls { name:=nm,bases:=[.type "object"],mro:=[.ref C,.type "object"],ns:=N,qualname:=nm },#[none,none,some (.str nm t1),some (.str nm t2),some (.builtin "object.__new__"),some (.bool true)]⟩
theorem Bg {K:qd}(base:Heap){st:Stmt}(F:Fun K x q st f fd)(m:Meth K C x f)(ok:FnOk P w K mg base ZR k f fd ps (Yp n false GG F9))(b:Xf K fd ps []):Wn P w K mg base C k x n GG F9:=⟨f,fd,ps,ok,m,b⟩
structure TCl (K:qd)(C:Addr):Prop where
 cl:Cls K C
 n:Xl K C "n"
 rows:Xl K C "rows"
 holders:Xl K C "holders"
 scale:Xl K C "scale"
noncomputable def VA (G0:Gh)(k:TAd):Prop:=¬G0.rd k.a/\¬G0.rd k.l
noncomputable def GT (C:Addr)(G:Gh):Prop:=∃(G0:Gh) (k:TAd) (q:TVs),k.C=C/\VA G0 k/\G=Zq G0 k q
noncomputable def XH (F:List D->M D)(i:Nat)(fs:Zd->M (List D)):Zd->M D:=fun ρ=>Zm (Za i ρ) λc=>match c with
 | .clo 0 hs=>Zm (fs ρ) λds=>F (.clo 0 hs::ds)
 | _=>ZP
noncomputable abbrev BM (q:TVs):List V:=.int q.n :: .ref q.r :: .int q.c::q.hs.map V.int
theorem Zl.tab {k:TAd}{q:TVs}(r:Zi (Zq G0 k q) Hf ds (BM q)):Zl (Zq G0 k q) Hf (.clo 0 ds) (.ref k.a):=by
 exact⟨_,⟨rfl,rfl,rfl⟩,r⟩
noncomputable abbrev Bc (m:Str):Prop:=m≠"n"/\m≠"rows"/\m≠"holders"/\m≠"scale"
theorem ZdX {k:TAd}{q:TVs}{m:Str}(hl:Bc m):(U8 k q).lookup m=none:=by
 obtain⟨h1,h2,h3,h4⟩:=hl;have b1:(m==("n" : Str))=false:=by simpa using h1
 have b2:(m==("rows" : Str))=false:=by simpa using h2
 have b3:(m==("holders" : Str))=false:=by simpa using h3
 have b4:(m==("scale" : Str))=false:=by simpa using h4
 unfold U8;simp only[qaG,b1,b2,b3,b4]
section
variable {X:Cx}
theorem Ze6 {i:Nat}{k:TAd}{q:TVs}{G0:Gh}{GG:Gh->Prop}{fs:Zd->M (List D)}{F:List D->M D}{t:TA}{m:Str}(hG:GG (Zq G0 k q))(hl:Bc m)
  (ya:∀(σ:St) (Hf H:Hp) (ρ:Zd) (s:Pn) (ds:List D) (s':Pn) (Q:List V->Hp->Prop),ZA (Zq G0 k q) Hf H->Yt (Zq G0 k q) Hf σ ρ->(Zq G0 k q).st s H->fs ρ s=some (ds,s')->
   (∀vs Hf' H',Gr (Zq G0 k q) Hf H Hf' H'->(Zq G0 k q).st s' H'->Zi (Zq G0 k q) Hf' ds vs->Q vs H')->t σ H Q)
  (hal:∀ρ s ds s',fs ρ s=some (ds,s')->ds.length+1=n) (E:XK) :
  Va (Zq G0 k q) fr (Zis k.C m (Yp n fr GG F) [] E (Yf i) t) (XH F i fs):=fun σ Hf H ρ s d s' Q e1 e2 e3 e4 kk=>by
 obtain⟨c0,s1,a1,a2⟩:=Zx e4;obtain⟨b1,rfl⟩:=Wo a1
 match c0,a2,b1 with
 | .clo 0 hs,a2,b1=>
  obtain⟨ds,s2,c1,c2⟩:=Zx a2;obtain⟨h1,h2⟩:=WZ e2 b1;refine⟨_,h1,k.a,k.dx,_,rfl,e3.2.1,ZdX hl,?_⟩;refine ya σ Hf H ρ _ ds s2 _ e1 e2 e3 c1 λvs Hf' H' g st' r=>?_;rw[zq];have jW:=hal _ _ _ _ c1;exact⟨Zq G0 k q,Hf',.clo 0 hs::ds,s2,d,s',hG,by rw[qW,<-r.length];exact jW,g.fh,Zi.cons (Zl.tab (h2.ext g.ff)) r,st',c2,λv jX H2 g2 jZ r2 fz=>kk v jX H2 (g.trans g2) jZ r2 λz=>jn g.hh r2.nofp (fz z)⟩
theorem pdT {i:Nat}{k:TAd}{q:TVs}{G0:Gh}{GG:Gh->Prop}{pl:Sem Bool}{j kl n:Nat}{m x:Str}{F:List D->M D}{fs:Zd->M (List D)}{e:Expr}{es:List Expr}{p apos pos:Pos}(c:Wn X.prog X.w X.K X.mg X.base k.C j m n GG F)(hG:GG (Zq G0 k q))(hr:Room kl X.A)(kc:TCl X.K k.C)(hv:PE X (.Name x p) (Yf i))
  (ha:Wz X (Zq G0 k q) (e::es) fs) (hal:∀ρ s ds s',fs ρ s=some (ds,s')->ds.length+1=n:=by intro ρ s ds s' h;first | exact congrArg (· + 1) (YF WD ρ s ds s' h) | exact congrArg (· + 1) (YF (YF WD) ρ s ds s' h) | exact congrArg (· + 1) (YF (YF (YF WD)) ρ s ds s' h)) (hjk:j<=kl:=by decide) (hl:Bc m:=by decide)
  (hst:xh (e::es) X.env=(false,eval e X.env)::xh es X.env:=by rfl) (hpl:(backTo pos (xh es X.env)).any (·.1)=false:=by rfl)
  (ht:eval (.Call (.Attribute (.Name x p) m apos) (e::es) [] pos) X.env=(do
   let ov<-eval (.Name x p) X.env
   standAt apos.atName
   let (f,first)<-holding [ov] (getMethod ov m pl)
   callWith pos f first (backTo pos (xh (e::es) X.env)) (xp pos (xi [] X.env))):=by rfl) :
  PD X (Zq G0 k q) false (.Call (.Attribute (.Name x p) m apos) (e::es) [] pos) (XH F i fs):=by
 obtain⟨f,fd,ps,FN,hm,hb⟩:=c;obtain⟨t,pa,qa⟩:=ha;exact⟨_,Zit hv kc.cl hm (FN.mono hjk) hr hb .nil JW pa hst hpl ht,Ze6 hG hl qa hal _⟩
theorem pdT0 {i:Nat}{k:TAd}{q:TVs}{G0:Gh}{GG:Gh->Prop}{pl:Sem Bool}{j kl:Nat}{m x:Str}{F:List D->M D}{p apos pos:Pos}(c:Wn X.prog X.w X.K X.mg X.base k.C j m 1 GG F)(hG:GG (Zq G0 k q))(hr:Room kl X.A)(kc:TCl X.K k.C)(hv:PE X (.Name x p) (Yf i))
  (hjk:j<=kl:=by decide) (hl:Bc m:=by decide)
  (ht:eval (.Call (.Attribute (.Name x p) m apos) [] [] pos) X.env=(do
   let ov<-eval (.Name x p) X.env
   standAt apos.atName
   let (f,first)<-holding [ov] (getMethod ov m pl)
   callWith pos f first (backTo pos (xh [] X.env)) (xp pos (xi [] X.env))):=by rfl) :
  PD X (Zq G0 k q) false (.Call (.Attribute (.Name x p) m apos) [] [] pos) (XH F i Zf):=by
 obtain⟨f,fd,ps,FN,hm,hb⟩:=c;exact⟨_,Zgc hv kc.cl hm (FN.mono hjk) hr hb .nil JW ht,Ze6 hG hl (fun σ Hf H ρ s ds s' Q e1 e2 e3 e4 kk=>by
  obtain⟨rfl,rfl⟩:=ZJ e4;exact kk [] Hf H (.refl e1) e3 (Zi.nil_iff.mpr rfl)) (fun ρ s ds s' q=>by rw[WD ρ s ds s' q]) _⟩
end
open PySem.Calls
section
variable {K:qd}{mg:Str->Option Value}{cT cN cI cL cR:Addr}{ys:List (Addr×Addr)}
end
end TF
namespace TF
open L2
section
variable {X:Cx}{G:Gh}
end
end TF
namespace TQ
open L2 TF TQ
open TP
open TP2 hiding g_all_near F_all_near
open TP3 hiding g_full_knots F_full_knots
end TQ
namespace TF
open L2
theorem ZnL (e1:ZA G Hf H)(r:Zi G Hf ds vs)(hn:N.length=ds.length+n:=by rfl):Jf G [] Hf Hf H (L2.start N vs) Hf H (ds.map some++qp n none):=by
 have hl:=r.length;refine⟨?_,.refl _ _,.refl e1,λi d n e=>?_,λi d m e=>?_,λi j a di dj mi mj n e=>?_⟩
 ·unfold L2.start;simp;omega
 ·have hi:i<ds.length:=by
   by_cases hi:i<ds.length
   ·exact hi
   ·rw[zM (by simp_all),zS]at e
    grind
  have e':ds[i]?=some d:=by
   rw[za (by simp_all)]at e;simp_all
  obtain⟨v,h1,h2⟩:=r.get e';refine⟨v,?_,h2⟩;unfold L2.start;rw[za (by simp_all),qI,h1];rfl
 ·simp_all
 ·simp_all
section
variable {X:Cx}{G:Gh}
end
noncomputable def ZlR (G0:Gh)(k:TAd)(kn jQ H0:Hp)(out:Out)(s':Pn)(E:Ends):Prop:=match out with
 | .nx ρ=>∀q σ H,J (Zq G0 k q) [] kn jQ H0 σ H ρ->(Zq G0 k q).st s' H->E.nx σ H
 | .rt d=>∀q v Hf' H',Gr (Zq G0 k q) jQ H0 Hf' H'->(Zq G0 k q).st s' H'->Zl (Zq G0 k q) Hf' d v->E.rt v H'
 | _=>False
noncomputable def DosT (G0:Gh)(k:TAd)(t:TS)(g:Zd->M Out):Prop:=
 ∀q (kn jQ H0:Hp) (σ:St) (H:Hp) (ρ:Zd) (s:Pn) (out:Out) (s':Pn) (E:Ends),J (Zq G0 k q) [] kn jQ H0 σ H ρ->(Zq G0 k q).st s H->g ρ s=some (out,s')->ZlR G0 k kn jQ H0 out s' E->t E σ H
noncomputable def PX (X:Cx)(G0:Gh)(k:TAd)(st:Stmt)(g:Zd->M Out):Prop:=∃t,PS X st t/\DosT G0 k t g
noncomputable def B3 (X:Cx)(G0:Gh)(k:TAd)(sts:List Stmt)(g:Zd->M Out):Prop:=∃t,XO X sts t/\DosT G0 k t g
section
variable {X:Cx}{G0:Gh}{k:TAd}{st:Stmt}{sts:List Stmt}{g g1 g2:Zd->M Out}
theorem ZlS {kn jQ H0:Hp}{q:TVs}{out:Out}{s':Pn}{E:Ends}(po:ZlR G0 k kn jQ H0 out s' E):Post (Zq G0 k q) [] [] kn jQ H0 false out s' E:=by
 cases out with
 | nx ρ=>exact fun σ H j st=>po q σ H j st
 | rt d=>exact λv Hf' H' g st r _=>po q v Hf' H' g st r
 | bk ρ=>exact po.elim
 | ct ρ=>exact po.elim
theorem BN (h:∀q,Y1 X (Zq G0 k q) [] [] [] false st g):PX X G0 k st g:=by
 refine⟨λE σ H=>∃q,Zgv (Zq G0 k q) [] [] [] false g E σ H,?_,λq kn jQ H0 σ H ρ s out s' E j st e po=>⟨q,kn,jQ,H0,ρ,s,out,s',j,st,e,ZlS po⟩⟩;intro jM s σ H D I ⟨q,kn,jQ,H0,ρ,pn,out,pn',j,st,e,po⟩;obtain⟨t,p,qq⟩:=h q;exact p jM s σ H D I (qq kn jQ H0 σ H ρ pn out pn' D j st e po)
theorem ZfJ:B3 X G0 k [] Zg:=by
 refine⟨_,ZbS,λq kn jQ H0 σ H ρ s out s' E j st e po=>?_⟩;obtain⟨rfl,rfl⟩:=ZJ e;exact po q σ H j st
theorem Vh (h1:PX X G0 k st g1)(h2:B3 X G0 k sts g2):B3 X G0 k (st::sts) (Ze g1 g2):=by
 obtain⟨t,p,d⟩:=h1;obtain⟨u,p2,d2⟩:=h2;refine⟨_,XE p p2,λq kn jQ H0 σ H ρ s out s' E j st e po=>?_⟩;obtain⟨o,s1,a1,a2⟩:=Zx e;refine d q kn jQ H0 σ H ρ s o s1 _ j st a1 ?_
 cases o with
 | nx ρ1=>exact λq2 σ2 H2 j2 jZ=>d2 q2 kn jQ H0 σ2 H2 ρ1 s1 out s' E j2 jZ a2 po
 | rt d0=>
  obtain⟨rfl,rfl⟩:=ZJ a2;exact λq2 v Hf' H' g st r=>po q2 v Hf' H' g st r
 | bk ρ1=>obtain⟨rfl,rfl⟩:=ZJ a2;exact po.elim
 | ct ρ1=>obtain⟨rfl,rfl⟩:=ZJ a2;exact po.elim
noncomputable def Vv (c:Zd->M Bool)(g:Zd->M Out):Nat->Zd->M Out
 | 0,_=>ZP
 | n+1,ρ=>Zm (c ρ) λb=>if b=true then Zm (g ρ) λo=>match o with | .nx ρ2=>Vv c g n ρ2 | .rt d=>ZH (.rt d) | _=>ZP else ZH (.nx ρ)
open Classical in
noncomputable def VU (c:Zd->M Bool)(g:Zd->M Out):Zd->M Out:=fun ρ s=>if h:∃n r,Vv c g n ρ s=some r then some (choose (choose_spec h))else none
theorem ZcD {c:Zd->M Bool}{g:Zd->M Out}:∀{n m:Nat} {ρ:Zd} {s:Pn} {o:Out} {s':Pn},Vv c g n ρ s=some (o,s')->n<=m->Vv c g m ρ s=some (o,s')
 | 0,m,ρ,s,o,s',h,_=>by cases h
 | n+1,0,ρ,s,o,s',h,l=>by omega
 | n+1,m+1,ρ,s,o,s',h,l=>by
  obtain⟨b,s1,a1,a2⟩:=Zx h;show Zm (c ρ) (λb=>if b=true then Zm (g ρ) λo=>match o with | .nx ρ2=>Vv c g m ρ2 | .rt d=>ZH (.rt d) | _=>ZP else ZH (.nx ρ)) s=_;unfold Zm;simp only[a1]
  cases b with
  | false=>exact a2
  | true=>
   rw[if_pos rfl]at a2⊢;obtain⟨o2,s2,a3,a4⟩:=Zx a2;simp only[a3]
   cases o2 with
   | nx ρ2=>exact ZcD a4 (by omega)
   | rt d=>exact a4
   | ct ρ2=>cases a4
   | bk ρ2=>cases a4
theorem Zpx {c:Zd->M Bool}{g:Zd->M Out}{n:Nat}{ρ:Zd}{s:Pn}{r}(h:Vv c g n ρ s=some r):VU c g ρ s=some r:=by
 unfold VU;have hx:∃n r,Vv c g n ρ s=some r:=⟨n,r,h⟩;rw[dif_pos hx];have h2:=zB (zB hx);have h3:=ZcD h2 (Nat.le_max_left _ n);have h4:=ZcD h (Nat.le_max_right (qbe hx) n);exact h3.symm.trans h4
theorem ZgQ {c:Zd->M Bool}{g:Zd->M Out}{ρ:Zd}{s:Pn}{r}(h:VU c g ρ s=some r):∃n,Vv c g n ρ s=some r:=by
 unfold VU at h;split at h
 ·grind
 ·cases h
theorem ZlT {c:Expr}{body:List Stmt}{fc:Zd->M Bool}{pos:Pos}(hp:PassesOwn (xB X.prog X.w) X.A X.env X.xe)(hc:∀q,XQ X (Zq G0 k q) c fc)(hb:B3 X G0 k body g):PX X G0 k (.While c body [] pos) (VU fc g):=by
 obtain⟨tb,pb,qb⟩:=hb;have pc:PT X c (fun σ H Q=>∃q,Jc (Zq G0 k q) fc σ H Q):=by
  intro jM s σ H Q I ⟨q,Hf,ρ,pn,b,pn',h1,h2,h3,h4,h5⟩;obtain⟨t,p,qq⟩:=hc q;exact p jM s σ H Q I (qq σ Hf H ρ pn b pn' Q h1 h2 h3 h4 h5)
 refine⟨_,Zga hp pc pb,λq kn jQ H0 σ H ρ s out s' E j st e po=>?_⟩;obtain⟨n,e⟩:=ZgQ e;refine⟨λm σ2 H2=>∃q2 ρ2 s2,J (Zq G0 k q2) [] kn jQ H0 σ2 H2 ρ2/\(Zq G0 k q2).st s2 H2/\Vv fc g m ρ2 s2=some (out,s'),⟨n,q,ρ,s,j,st,e⟩,?_⟩;rintro m σ2 H2 ⟨q2,ρ2,s2,⟨jX,j2⟩,jZ,eq2⟩
 cases m with
 | zero=>cases eq2
 | succ m=>
  obtain⟨b,s3,a1,a2⟩:=Zx eq2;have env:=by
   have:=j2.envA;rw[ZbX]at this;exact this
  refine⟨q2,jX,ρ2,s2,b,s3,j2.gr.fh,env,jZ,a1,λHf' H' g' st'=>?_⟩;have j':J (Zq G0 k q2) [] kn jQ H0 σ2 H' ρ2:=⟨Hf',j2.grow g'⟩
  cases b with
  | false=>
   obtain⟨rfl,rfl⟩:=ZJ a2;exact Ua (po q2 σ2 H' j' st')
  | true=>
   rw[if_pos rfl]at a2;obtain⟨o,s4,b3,b4⟩:=Zx a2;refine Ub ⟨fun σ' H'=>∃q5 ρ5 s5,J (Zq G0 k q5) [] kn jQ H0 σ' H' ρ5/\(Zq G0 k q5).st s5 H'/\Vv fc g m ρ5 s5=some (out,s'),fun σ' H' h=>⟨m,yg m,h⟩,?_⟩;refine qb q2 kn jQ H0 σ2 H' ρ2 s3 o s4 _ j' st' b3 ?_
   cases o with
   | nx ρ5=>exact λq5 σ5 H5 j5 st5=>⟨q5,ρ5,s4,j5,st5,b4⟩
   | rt d=>
    obtain⟨rfl,rfl⟩:=ZJ b4;exact po
   | ct ρ5=>cases b4
   | bk ρ5=>cases b4
end
noncomputable def Bd (i:Nat)(g:List D->Option (List D)):Zd->M Out:=fun ρ=>Zm (Za i ρ) λd=>match d with
 | .clo 0 ds=>match g ds with
  | some ds'=>if U6 (ρ.set i none)=true/\Yh ds'=true then ZH (.nx (ρ.set i (some (.clo 0 ds'))))else ZP
  | none=>ZP
 | _=>ZP
theorem Zbr {g:List D->Option (List D)}{ρ:Zd}(e:Bd i g ρ s=some (out,s')):s'=s/\∃ds ds',(ρ[i]?).bind id=some (.clo 0 ds)/\g ds=some ds'/\U6 (ρ.set i none)=true/\Yh ds'=true/\out=.nx (ρ.set i (some (.clo 0 ds'))):=by
 obtain⟨d0,s1,a1,a2⟩:=Zx e;obtain⟨b1,rfl⟩:=Wo a1
 match d0,a2 with
 | .clo 0 ds,a2=>
  cases hg:g ds with
  | none=>simp only[hg]at a2;cases a2
  | some ds'=>
   simp only[hg]at a2;obtain⟨⟨h1,h2⟩,a3⟩:=XA a2;obtain⟨rfl,rfl⟩:=ZJ a3;exact⟨rfl,ds,ds',b1,hg,h1,h2,rfl⟩
section
variable {G0:Gh}{k:TAd}{q q':TVs}
theorem Zl.tabq (nc:ZY d=true)(r:Zl (Zq G0 k q) Hf d v):Zl (Zq G0 k q') Hf d v:=Zl.tr (G:=Zq G0 k q) (G':=Zq G0 k q') (λa o na e _=>⟨na,e⟩) rfl nc r
theorem Zi.tabq (nc:Yh ds=true)(r:Zi (Zq G0 k q) Hf ds vs):Zi (Zq G0 k q') Hf ds vs:=Zi.tr (G:=Zq G0 k q) (G':=Zq G0 k q') (λa o na e _=>⟨na,e⟩) rfl nc r
theorem Zca {σ:St}{ρ:Zd}{i:Nat}{ds':List D}(j:Jf (Zq G0 k q) [] kn jQ H0 σ Hf H ρ)(hi:(ρ[i]?).bind id=some (.clo 0 ds))(nc:U6 (ρ.set i none)=true)(ho:∀b,¬(Zq G0 k q).fp b->H' b=H b)(r:Zi (Zq G0 k q') Hf ds' (BM q')) :
  J (Zq G0 k q') [] kn jQ H0 σ H' (ρ.set i (some (.clo 0 ds'))):=by
 have hi':ρ[i]?=some (some (.clo 0 ds)):=by
  cases z:ρ[i]? with
  | none=>simp_all
  | some o=>simp_all
 have hl:=(qH.mp hi').1;refine⟨Hf,by simp[j.len],j.kn,⟨λb o nb e=>by rw[ho b nb];exact j.gr.hh b o nb e,j.gr.ff,λb o nb e=>by rw[ho b nb];exact j.gr.fh b o nb e,j.gr.nw⟩,λm d _ e=>?_,λm d z=>by simp at z,λm d a di dj z=>by simp at z⟩;by_cases h:i=m
 ·subst h
  rw[qU hl]at e
  cases e
  refine⟨.ref k.a,?_,Zl.tab r⟩;have:=(WZ (λn d e=>j.fz n d (by simp) e) hi).1;exact this
 ·rw[qD h]at e
  obtain⟨v,q1,q2⟩:=j.fz m d (by simp) e;exact⟨v,q1,Zl.tabq (ZcC nc (by rw[qD h];exact e)) q2⟩
theorem Vn {G:Gh}(j:Jf G [] kn jQ H0 σ Hf H ρ):Yt G Hf σ ρ:=λn d e=>j.fz n d (by simp) e
theorem ZcE {ds:List D}(r:Zi (Zq G0 k q) Hf (dn::dr::dc::hs) (BM q)):Zl (Zq G0 k q) Hf dn (.int q.n)/\Zl (Zq G0 k q) Hf dr (.ref q.r)/\Zl (Zq G0 k q) Hf dc (.int q.c)/\Zi (Zq G0 k q) Hf hs (q.hs.map V.int):=by
 obtain⟨_,_,e1,r1,r⟩:=jc.mp r;obtain⟨_,_,e1,r2,r⟩:=jc.mp r;obtain⟨_,_,e1,r3,r⟩:=jc.mp r;simp_all
theorem ZfK {dn dr dc:D}{hs:List D}(h:Yh (dn::dr::dc::hs)=true):ZY dn=true/\ZY dr=true/\ZY dc=true/\Yh hs=true:=by
 simp only[Yh,qB]at h;exact h
end
noncomputable def ZiJ (i:Nat)(f:Zd->M D):Zd->M Out:=fun ρ=>Zm (f ρ) λd=>match d with
 | .lst xs=>Bd i (λds=>match ds with | n::_::c::hs=>some (n :: .lst xs::c::hs) | _=>none) ρ
 | _=>ZP
noncomputable def ZfL (i:Nat)(f:Zd->M D):Zd->M Out:=fun ρ=>Zm (f ρ) λd=>match d with
 | .int z=>Bd i (λds=>match ds with | n::r::_::hs=>some (n::r :: .int z::hs) | _=>none) ρ
 | _=>ZP
noncomputable def ZiK (i:Nat)(fx fv:Zd->M D):Zd->M Out:=fun ρ=>Zm (fv ρ) λv=>Zm (fx ρ) λx=>match v,x with
 | .int z,.int y=>Bd i (λds=>match ds with | n::r::c::hs=>(Yb hs).bind λns=>(Wy ns.length y).map λj=>n::r::c::(ns.set j z).map D.int | _=>none) ρ
 | _,_=>ZP
section
variable {X:Cx}{G0:Gh}{k:TAd}
theorem ZnM {i:Nat}{x:Str}{e:Expr}{f:Zd->M D}{p p1 pos:Pos}(hrd:VA G0 k)(hal:k.a≠k.l)(he:∀q,PD X (Zq G0 k q) r1 e f)(hv:PE X (.Name x p) (Yf i))(c:Cls X.K k.C)(na:Xl X.K k.C "rows")
  (hs:xr e (some (.Attribute (.Name x p) "rows" p1)) pos.line X.env=pure false:=by rfl):PX X G0 k (.Assign [.Attribute (.Name x p) "rows" p1] e pos) (ZiJ i f):=by
 have pe:PE X e (fun σ H Q=>∃q,BZ (Zq G0 k q) r1 f σ H Q):=by
  intro jM s σ H Q I ⟨q,Hf,ρ,pn,d,pn',h1,h2,h3,h4,h5⟩;obtain⟨t,pp,qq⟩:=he q;exact pp jM s σ H Q I (qq σ Hf H ρ pn d pn' Q h1 h2 h3 h4 h5)
 refine⟨_,BB hv pe hs,λq kn jQ H0 σ H ρ s out s' E ⟨Hf,j⟩ st e4 po=>?_⟩;obtain⟨d,s1,a1,a2⟩:=Zx e4
 match d,a1,a2 with
 | .lst xs,a1,a2=>
  obtain⟨rfl,ds,ds',b1,b2,b3,b4,rfl⟩:=Zbr a2
  match ds,b2,b1 with
  | dn::dr::dc::hs,b2,b1=>
   cases b2
   refine⟨q,Hf,ρ,s,_,_,j.gr.fh,Vn j,st,a1,λv jU H1 g1 jV r1 _=>?_⟩;have j1:=j.grow g1;obtain⟨h1,h2⟩:=WZ (Vn j1) b1;obtain⟨r',vs,rfl,nr,hr,rr⟩:=jb.mp r1;refine⟨_,h1,k.a,k.C,k.dx,_,rfl,jV.2.1,c,na,by show 4<1000;decide,?_⟩;obtain⟨p1,p2,p3,p4⟩:=ZcE (ds:=[]) h2;obtain⟨n1,n2,n3,n4⟩:=ZfK b4
   let q':={ q with r:=r' }
   have ho:∀b,¬(Zq G0 k q).fp b->Zp H1 k.a (.ins k.C k.dx (YQ "rows" (.ref r') (U8 k q))) b=H1 b:=λb nb=>Zu λz=>nb (.inr (.inl z));refine po q' σ _ (Zca j1 b1 b3 ho (Zi.cons (Zl.tabq n1 p1) (Zi.cons (Zl.tabq n2 r1) (Zi.cons (Zl.tabq n3 p3) (Zi.tabq n4 p4))))) ⟨?_,by rw[Z1];rfl,by rw[Zu (qJ hal)];exact jV.2.2⟩;refine G0.mono _ H1 _ jV.1 (λb o rb eb=>?_) (λb φ eb=>?_) λb vs eb=>?_
   ·rw[Zu (show b≠k.a from λz=>hrd.1 (z▸rb))];exact eb
   ·rw[Zu (show b≠k.a from λz=>by rw[z,jV.2.1]at eb;cases eb)];exact eb
   ·rw[Zu (show b≠k.a from λz=>by rw[z,jV.2.1]at eb;cases eb)];exact eb
theorem ZlU {i:Nat}{x:Str}{e:Expr}{f:Zd->M D}{p p1 pos:Pos}(hrd:VA G0 k)(hal:k.a≠k.l)(he:∀q,PD X (Zq G0 k q) r1 e f)(hv:PE X (.Name x p) (Yf i))(c:Cls X.K k.C)(na:Xl X.K k.C "scale")
  (hs:xr e (some (.Attribute (.Name x p) "scale" p1)) pos.line X.env=pure false:=by rfl):PX X G0 k (.Assign [.Attribute (.Name x p) "scale" p1] e pos) (ZfL i f):=by
 have pe:PE X e (fun σ H Q=>∃q,BZ (Zq G0 k q) r1 f σ H Q):=by
  intro jM s σ H Q I ⟨q,Hf,ρ,pn,d,pn',h1,h2,h3,h4,h5⟩;obtain⟨t,pp,qq⟩:=he q;exact pp jM s σ H Q I (qq σ Hf H ρ pn d pn' Q h1 h2 h3 h4 h5)
 refine⟨_,BB hv pe hs,λq kn jQ H0 σ H ρ s out s' E ⟨Hf,j⟩ st e4 po=>?_⟩;obtain⟨d,s1,a1,a2⟩:=Zx e4
 match d,a1,a2 with
 | .int z,a1,a2=>
  obtain⟨rfl,ds,ds',b1,b2,b3,b4,rfl⟩:=Zbr a2
  match ds,b2,b1 with
  | dn::dr::dc::hs,b2,b1=>
   cases b2
   refine⟨q,Hf,ρ,s,_,_,j.gr.fh,Vn j,st,a1,λv jU H1 g1 jV r1 _=>?_⟩;have j1:=j.grow g1;obtain⟨h1,h2⟩:=WZ (Vn j1) b1
   cases ja.mp r1
   refine⟨_,h1,k.a,k.C,k.dx,_,rfl,jV.2.1,c,na,by show 4<1000;decide,?_⟩;obtain⟨p1,p2,p3,p4⟩:=ZcE (ds:=[]) h2;obtain⟨n1,n2,n3,n4⟩:=ZfK b4
   let q':={ q with c:=z }
   have ho:∀b,¬(Zq G0 k q).fp b->Zp H1 k.a (.ins k.C k.dx (YQ "scale" (.int z) (U8 k q))) b=H1 b:=λb nb=>Zu λz=>nb (.inr (.inl z));refine po q' σ _ (Zca j1 b1 b3 ho (Zi.cons (Zl.tabq n1 p1) (Zi.cons (Zl.tabq n2 p2) (Zi.cons (ja.mpr rfl) (Zi.tabq n4 p4))))) ⟨?_,by rw[Z1];rfl,by rw[Zu (qJ hal)];exact jV.2.2⟩;refine G0.mono _ H1 _ jV.1 (λb o rb eb=>?_) (λb φ eb=>?_) λb vs eb=>?_
   ·rw[Zu (show b≠k.a from λz=>hrd.1 (z▸rb))];exact eb
   ·rw[Zu (show b≠k.a from λz=>by rw[z,jV.2.1]at eb;cases eb)];exact eb
   ·rw[Zu (show b≠k.a from λz=>by rw[z,jV.2.1]at eb;cases eb)];exact eb
end
section
variable {X:Cx}{G0:Gh}{k:TAd}
theorem ZlV {e:Expr}{f:Zd->M D}(he:∀q,PD X (Zq G0 k q) r1 e f):PE X e (fun σ H Q=>∃q,BZ (Zq G0 k q) r1 f σ H Q):=by
 intro jM s σ H Q I ⟨q,Hf,ρ,pn,d,pn',h1,h2,h3,h4,h5⟩;obtain⟨t,pp,qq⟩:=he q;exact pp jM s σ H Q I (qq σ Hf H ρ pn d pn' Q h1 h2 h3 h4 h5)
theorem ZnN {i:Nat}{x:Str}{ex ev:Expr}{fx fv:Zd->M D}{p p1 p2 pos:Pos}(hrd:VA G0 k)(hal:k.a≠k.l)(hx:∀q,PD X (Zq G0 k q) r1 ex fx)(hv:∀q,PD X (Zq G0 k q) r2 ev fv)(hn:PE X (.Name x p) (Yf i))(c:Cls X.K k.C)(na:Xl X.K k.C "holders")
  (hb:xq (.Name x p) "holders" X.env (eval (.Name x p) X.env)=eval (.Name x p) X.env:=by rfl)
  (hs:swapsWithSole [.Subscript (.Attribute (.Name x p) "holders" p1) ex p2] ev pos.line X.env=pure false:=by rfl) (hw:swappedStores [.Subscript (.Attribute (.Name x p) "holders" p1) ex p2] ev X.env=pure none:=by rfl)
  (h1:(assignEach [.Subscript (.Attribute (.Name x p) "holders" p1) ex p2] X.env).map (·.2)=[assign (.Subscript (.Attribute (.Name x p) "holders" p1) ex p2) X.env]:=by rfl)
  (ha:∀v,assign (.Subscript (.Attribute (.Name x p) "holders" p1) ex p2) X.env v=(do
   let ov<-holding [v] (eval (.Attribute (.Name x p) "holders" p1) X.env)
   let iv<-holding [v,ov] (eval ex X.env)
   standAt p2
   holding [v,ov,iv] (setItem ov iv v)
   release [v,ov,iv] []):=by intro _;rfl):PX X G0 k (.Assign [.Subscript (.Attribute (.Name x p) "holders" p1) ex p2] ev pos) (ZiK i fx fv):=by
 refine⟨_,Zds (ZlV hv) (Zfl (U0 hn hb) (ZlV hx) ZbV ha) hs hw h1,λq kn jQ H0 σ H ρ s out s' E ⟨Hf,j⟩ st e4 po=>?_⟩;obtain⟨v,s1,a1,a2⟩:=Zx e4;obtain⟨y,s2,a3,a4⟩:=Zx a2
 match v,y,a1,a3,a4 with
 | .int z,.int y,a1,a3,a4=>
  obtain⟨rfl,ds,ds',b1,b2,b3,b4,rfl⟩:=Zbr a4
  match ds,b2,b1 with
  | dn::dr::dc::hs,b2,b1=>
   refine⟨q,Hf,ρ,s,_,_,j.gr.fh,Vn j,st,a1,λw jU H1 g1 jV r1 _=>?_⟩;have j1:=j.grow g1;obtain⟨h1,_⟩:=WZ (Vn j1) b1
   cases ja.mp r1
   refine⟨_,h1,k.a,k.C,k.dx,_,.ref k.l,rfl,jV.2.1,c,na,rfl,?_⟩;refine⟨q,jU,ρ,s1,_,_,g1.fh,Vn j1,jV,a3,λw2 jX H2 g2 jZ r2 _=>?_⟩;have j2:=j1.grow g2;obtain⟨_,h2⟩:=WZ (Vn j2) b1;rw[ja.mp r2];obtain⟨p1,p2,p3,p4⟩:=ZcE (ds:=[]) h2;have b2:((Yb hs).bind λns=>(Wy ns.length y).map λj=>dn::dr::dc::(ns.set j z).map D.int)=some ds':=b2
   cases hi:Yb hs with
   | none=>rw[hi]at b2;cases b2
   | some ns=>
    rw[hi]at b2;have b2:((Wy ns.length y).map λj=>dn::dr::dc::(ns.set j z).map D.int)=some ds':=b2;have en:q.hs=ns:=by
     rw[UU hi]at p4;exact ZdW (jp p4)
    cases hj:Wy ns.length y with
    | none=>rw[hj]at b2;cases b2
    | some jj=>
     rw[hj]at b2
     cases b2
     obtain⟨n1,n2,n3,n4⟩:=ZfK b4;refine⟨k.l,_,y,jj,rfl,rfl,jZ.2.2,by rw[qf,en];exact hj,?_⟩
     let q':TVs:={ q with hs:=ns.set jj z }
     have ho:∀b,¬(Zq G0 k q).fp b->Zp H2 k.l (.lst ((q.hs.map V.int).set jj (.int z))) b=H2 b:=λb nb=>Zu λz=>nb (.inr (.inr z));refine po q' σ _ (Zca (q':=q') j2 b1 b3 ho (Zi.cons (Zl.tabq n1 p1) (Zi.cons (Zl.tabq n2 p2) (Zi.cons (Zl.tabq n3 p3) (ZaK _))))) ⟨?_,by rw[Zu hal];exact jZ.2.1,by rw[Z1,en,<-List.map_set]⟩;refine G0.mono _ H2 _ jZ.1 (λb o rb eb=>?_) (λb φ eb=>?_) λb vs eb=>?_
     ·rw[Zu (show b≠k.l from λz=>hrd.2 (z▸rb))];exact eb
     ·rw[Zu (show b≠k.l from λz=>by rw[z,jZ.2.2]at eb;cases eb)];exact eb
     ·rw[Zu (show b≠k.l from λz=>by rw[z,jZ.2.2]at eb;cases eb)];exact eb
end
noncomputable def spTm (n:Nat)(C:Addr)(F:List D->M D):Sp:=λvs H Q _=>∃(G0:Gh) (k:TAd) (q:TVs) (Hf:Hp) (ds:List D) (s:Pn) (ds':List D) (s':Pn),k.C=C/\VA G0 k/\k.a≠k.l/\vs.length=n/\ZA (Zq G0 k q) Hf H/\Zi (Zq G0 k q) Hf ds vs/\(Zq G0 k q).st s H/\F ds s=some (.clo 0 ds',s')/\
 ∀q' Hf' H',Gr (Zq G0 k q) Hf H Hf' H'->(Zq G0 k q').st s' H'->Zi (Zq G0 k q') Hf' ds' (BM q')->Q .non H'
noncomputable def runT (n kk:Nat)(g:Zd->M Out):List D->M D:=λds=>if ds.length=kk then Zm (g (ds.map some++qp (n-kk) none)) λo=>match o with
 | .nx ρ=>YV ((ρ[0]?).bind id)
 | _=>ZP else ZP
theorem fnT {P:xD}{w:World}{K:qd}{mg:Str->Option Value}{base:Heap}{x qual:Str}{st:Stmt}{f C:Addr}{fd:xC}{N ps:List Str}{g:Zd->M Out}{lv:Nat}(F:Fun K x qual st f fd)(S:FnScope N ps (ZF st))(hN:ps.length<=N.length:=by decide)(h0:ps.length≠0:=by decide)
  (h:∀(cdv:Value) (A:xE) (outer:List Env) (s:Shared) (H:Hp) (E:XK),Room lv (A.deeper (envOfC qual (ZF st) s.heap.objs.size f cdv))->∀(G0:Gh) (k:TAd),k.C=C->VA G0 k->k.a≠k.l->B3 (Vp ZR P w K mg base N qual (ZF st) f cdv A outer s H E).nox G0 k (XV st) g) :
  FnOk P w K mg base ZR (lv+1) f fd ps (spTm ps.length C (runT N.length ps.length g)):=by
 refine F.ok S (λvs H Q E h=>?_) λcdv A outer s0 H vs Q E hr hh=>?_
 ·obtain⟨G0,k,q,Hf,ds,s,ds',s',_,_,_,e,_⟩:=h
  exact e
 ·obtain⟨G0,k,q,Hf,ds,s,ds',s',hC,hrd,hal,el,e1,r,st,eF,kk⟩:=hh
  obtain⟨t,p,d⟩:=h cdv A outer s0 H E hr G0 k hC hrd hal;refine⟨t,p,?_⟩;obtain⟨hd,eF⟩:=XA eF;obtain⟨o,s1,a1,a2⟩:=Zx eF;have j0:J (Zq G0 k q) [] Hf Hf H (L2.start N vs) H (ds.map some++qp (N.length-ps.length) none):=⟨Hf,ZnL e1 r (by omega)⟩
  cases o with
  | nx ρ=>
   obtain⟨a3,rfl⟩:=Wo a2;refine d q Hf Hf H _ H _ s _ _ _ j0 st a1 λq' σ' H' ⟨Hf',j'⟩ st'=>?_;obtain⟨h1,h2⟩:=WZ (Vn j') a3;exact kk q' Hf' H' ⟨j'.gr.hh,j'.gr.ff,j'.gr.fh,j'.gr.nw⟩ st' h2
  | rt d0=>cases a2
  | bk ρ=>cases a2
  | ct ρ=>cases a2
noncomputable def BO (P:xD)(w:World)(K:qd)(mg:Str->Option Value)(base:Heap)(C:Addr)(k:Nat)(m:Str)(n:Nat)(F:List D->M D):Prop:=
 ∃f fd ps,FnOk P w K mg base ZR k f fd ps (spTm n C F)/\Meth K C m f/\Xf K fd ps []
noncomputable def VV (F:List D->M D)(i:Nat)(fs:Zd->M (List D)):Zd->M Out:=fun ρ=>Zm (Za i ρ) λc=>match c with
 | .clo 0 hs=>Zm (fs ρ) λds=>Zm (F (.clo 0 hs::ds)) λd=>match d with
  | .clo 0 hs'=>Bd i (λ_=>some hs') ρ
  | _=>ZP
 | _=>ZP
section
variable {X:Cx}{G0:Gh}{k:TAd}
theorem ZiL {i n:Nat}{fs:Zd->M (List D)}{F:List D->M D}{t:TA}{m:Str}{E0:XK}(hrd:VA G0 k)(hal:k.a≠k.l)(hl:Bc m)
  (ya:∀q (σ:St) (Hf H:Hp) (ρ:Zd) (s:Pn) (ds:List D) (s':Pn) (Q:List V->Hp->Prop),ZA (Zq G0 k q) Hf H->Yt (Zq G0 k q) Hf σ ρ->(Zq G0 k q).st s H->fs ρ s=some (ds,s')->
   (∀vs Hf' H',Gr (Zq G0 k q) Hf H Hf' H'->(Zq G0 k q).st s' H'->Zi (Zq G0 k q) Hf' ds vs->Q vs H')->t σ H Q)
  (jW:∀ρ s ds s',fs ρ s=some (ds,s')->ds.length+1=n):DosT G0 k (JV (Zis k.C m (spTm n k.C F) [] E0 (Yf i) t)) (VV F i fs):=λq kn jQ H0 σ H ρ s out s' E ⟨Hf,j⟩ st e4 po=>by
 obtain⟨c0,s1,a1,a2⟩:=Zx e4;obtain⟨b1,rfl⟩:=Wo a1
 match c0,a2,b1 with
 | .clo 0 hs,a2,b1=>
  obtain⟨ds,s2,c1,c2⟩:=Zx a2;obtain⟨d,s3,c3,c4⟩:=Zx c2
  match d,c3,c4 with
  | .clo 0 hs',c3,c4=>
   obtain⟨rfl,ds0,ds',b2,b3,b4,b5,rfl⟩:=Zbr c4
   cases b3
   obtain⟨h1,h2⟩:=WZ (Vn j) b1;refine⟨_,h1,k.a,k.dx,_,rfl,st.2.1,ZdX hl,?_⟩;refine ya q σ Hf H ρ _ ds s2 _ j.gr.fh (Vn j) st c1 λvs Hf' H' g st' r=>?_;rw[zq];have hn:=jW _ _ _ _ c1;refine⟨G0,k,q,Hf',.clo 0 hs::ds,s2,hs',_,rfl,hrd,hal,by rw[qW,<-r.length];exact hn,g.fh,Zi.cons (Zl.tab (h2.ext g.ff)) r,st',c3,λq' jX H2 g2 jZ r2=>?_⟩;have j2:=(j.grow g).grow g2;exact po q' σ H2 (Zca j2 b1 b4 (λb _=>rfl) r2) jZ
theorem ZlW {i j kl:Nat}{m x:Str}{F:List D->M D}{p apos pos pos':Pos}{pl:Sem Bool}(c:BO X.prog X.w X.K X.mg X.base k.C j m 1 F)(hrd:VA G0 k)(hal:k.a≠k.l)(hr:Room kl X.A)(kc:TCl X.K k.C)(hv:PE X (.Name x p) (Yf i))(hjk:j<=kl:=by decide)(hl:Bc m:=by decide)
  (ht:eval (.Call (.Attribute (.Name x p) m apos) [] [] pos) X.env=(do
   let ov<-eval (.Name x p) X.env
   standAt apos.atName
   let (f,first)<-holding [ov] (getMethod ov m pl)
   callWith pos f first (backTo pos (xh [] X.env)) (xp pos (xi [] X.env))):=by rfl)
  (hs:xr (.Call (.Attribute (.Name x p) m apos) [] [] pos) none pos'.line X.env=pure false:=by rfl):PX X G0 k (.Expr (.Call (.Attribute (.Name x p) m apos) [] [] pos) pos') (VV F i Zf):=by
 obtain⟨f,fd,ps,FN,hm,hb⟩:=c;exact⟨_,ZbT (Zgc hv kc.cl hm (FN.mono hjk) hr hb .nil JW ht) hs,ZiL hrd hal hl (λq σ Hf H ρ s ds s' Q e1 e2 e3 e4 kk=>by
  obtain⟨rfl,rfl⟩:=ZJ e4;exact kk [] Hf H (.refl e1) e3 (Zi.nil_iff.mpr rfl)) fun ρ s ds s' q=>by rw[WD ρ s ds s' q]⟩
theorem ZnO {i j kl n:Nat}{m x:Str}{F:List D->M D}{fs:Zd->M (List D)}{e:Expr}{es:List Expr}{p apos pos pos':Pos}{pl:Sem Bool}(c:BO X.prog X.w X.K X.mg X.base k.C j m n F)(hrd:VA G0 k)(hal:k.a≠k.l)(hr:Room kl X.A)(kc:TCl X.K k.C)(hv:PE X (.Name x p) (Yf i))(ha:∀q,Wz X (Zq G0 k q) (e::es) fs)
  (jW:∀ρ s ds s',fs ρ s=some (ds,s')->ds.length+1=n:=by intro ρ s ds s' h;first | exact congrArg (· + 1) (YF WD ρ s ds s' h) | exact congrArg (· + 1) (YF (YF WD) ρ s ds s' h)) (hjk:j<=kl:=by decide) (hl:Bc m:=by decide)
  (hst:xh (e::es) X.env=(false,eval e X.env)::xh es X.env:=by rfl) (hpl:(backTo pos (xh es X.env)).any (·.1)=false:=by rfl)
  (ht:eval (.Call (.Attribute (.Name x p) m apos) (e::es) [] pos) X.env=(do
   let ov<-eval (.Name x p) X.env
   standAt apos.atName
   let (f,first)<-holding [ov] (getMethod ov m pl)
   callWith pos f first (backTo pos (xh (e::es) X.env)) (xp pos (xi [] X.env))):=by rfl)
  (hs:xr (.Call (.Attribute (.Name x p) m apos) (e::es) [] pos) none pos'.line X.env=pure false:=by rfl):PX X G0 k (.Expr (.Call (.Attribute (.Name x p) m apos) (e::es) [] pos) pos') (VV F i fs):=by
 obtain⟨f,fd,ps,FN,hm,hb⟩:=c;have pa:PA X (e::es) (fun σ H Q=>∃q Hf ρ s ds s',ZA (Zq G0 k q) Hf H/\Yt (Zq G0 k q) Hf σ ρ/\(Zq G0 k q).st s H/\fs ρ s=some (ds,s')/\∀vs Hf' H',Gr (Zq G0 k q) Hf H Hf' H'->(Zq G0 k q).st s' H'->Zi (Zq G0 k q) Hf' ds vs->Q vs H'):=by
  intro pos jM s σ H Q I ⟨q,Hf,ρ,pn,ds,pn',h1,h2,h3,h4,h5⟩;obtain⟨t,pp,qq⟩:=ha q;exact pp pos jM s σ H Q I (qq σ Hf H ρ pn ds pn' Q h1 h2 h3 h4 h5)
 exact⟨_,ZbT (Zit hv kc.cl hm (FN.mono hjk) hr hb .nil JW pa hst hpl ht) hs,ZiL hrd hal hl (λq σ Hf H ρ s ds s' Q e1 e2 e3 e4 kk=>⟨q,Hf,ρ,s,ds,s',e1,e2,e3,e4,kk⟩) jW⟩
end
noncomputable def mIni (fw fr:Zd->M D):List D->Zd->M (List D×Zd)
 | [],ρ=>ZH ([],ρ)
 | d::ds,ρ=>Zm (fw (ρ.set 4 (some d))) λw=>Zm (fr ((ρ.set 4 (some d)).set 5 (some w))) λr=>Zm (mIni fw fr ds ((ρ.set 4 (some d)).set 5 (some w))) λp=>ZH (r::p.1,p.2)
noncomputable def iniF (f1 fw fr fl fh:Zd->M D)(fi:Zd->M (List D)):D->D->M (List D):=λdn dA=>
 Zm (f1 [none,some dn,some dA,none,none,none]) λdm=>Zm (fi [none,some dn,some dA,some dm,none,none]) λis=>
 Zm (mIni fw fr is [none,some dn,some dA,some dm,none,none]) λp=>Zm (fl p.2) λlast=>Zm (fh p.2) λdh=>match dn,dh with
  | .int n,.lst hs=>match Yb hs with
   | some ns=>if Yh (p.1 ++ [last])=true/\p.1.length+1<=xg then ZH (.int n :: .lst (p.1 ++ [last]) :: .int 1::ns.map D.int)else ZP
   | none=>ZP
  | _,_=>ZP
structure IS (G:Gh)(x:Addr)(H Hf jX H2:Hp)(s2:Pn):Prop where
 hh:∀b o,b≠x->¬G.fp b->H b=some o->H2 b=some o
 ff:ZA G Hf jX
 fh:ZA G jX H2
 nw:∀b,¬G.fp b->Hf b=none->Nt (H b)->jX b=none
 st:G.st s2 H2
section
variable {G:Gh}{x:Addr}{H Hf jX H2 Hf3 H3:Hp}{s2 s3:Pn}
theorem IS.grow (i:IS G x H Hf jX H2 s2)(hx:H2 x=some o)(nx:¬G.fp x)(hN:Nt (H x))(ht:Nt (H2 x))(hf:jX x=none)(g:Gr G jX H2 Hf3 H3)(st:G.st s3 H3):IS G x H Hf Hf3 H3 s3/\H3 x=some o/\Hf3 x=none:=by
 refine⟨⟨λb o n1 n2 e=>g.hh b o n2 (i.hh b o n1 n2 e),i.ff.trans g.ff,g.fh,λb n e t=>?_,st⟩,g.hh x o nx hx,g.nw x nx hf ht⟩;by_cases e1:b=x
 ·subst e1;exact g.nw b n (i.nw b n e t) ht
 ·exact g.nw b n (i.nw b n e t) (let ⟨u,q1,q2⟩:=t;⟨u,i.hh b u e1 n q1,q2⟩)
theorem IS.put (i:IS G x H Hf jX H2 s2)(nr:¬G.rd b0)(hf:jX b0=none)(hb:b0=x∨H b0=none)(hx:(∀φ,H2 b0≠some (.ext φ))/\∀vs,H2 b0≠some (.tup vs)):IS G x H Hf jX (Zp H2 b0 o) s2:=by
 refine⟨λb u n1 n2 e=>?_,i.ff,λb u n e=>?_,i.nw,?_⟩
 ·rw[Zu λz=>?_]
  ·exact i.hh b u n1 n2 e
  ·grind
 ·rw[Zu λz=>by grind]
  exact i.fh b u n e
 ·refine G.mono _ H2 _ i.st (λb u rb e=>?_) (λb φ e=>?_) λb vs e=>?_
  ·rw[Zu (show b≠b0 from λz=>nr (z▸rb))];exact e
  ·rw[Zu (show b≠b0 from λz=>hx.1 φ (z▸e))];exact e
  ·rw[Zu (show b≠b0 from λz=>hx.2 vs (z▸e))];exact e
end
theorem WO {C dx:Addr}{fs:List (Str×V)}(h:o=some (HO.ins C dx fs)):Nt o:=⟨_,h,λvs z=>by cases z⟩
theorem Zpy {vs:List V}(h:o=some (HO.lst vs)):Nt o:=⟨_,h,λvs z=>by cases z⟩
theorem ZfM {C dx:Addr}{fs:List (Str×V)}(h:o=some (HO.ins C dx fs)):(∀φ,o≠some (.ext φ))/\∀vs,o≠some (.tup vs):=⟨fun φ z=>(by grind),fun φ z=>(by grind)⟩
theorem ZlX {vs:List V}(h:o=some (HO.lst vs)):(∀φ,o≠some (.ext φ))/\∀vs,o≠some (.tup vs):=⟨fun φ z=>(by grind),fun φ z=>(by grind)⟩
theorem ZnP (h:o=none):(∀φ,o≠some (HO.ext φ))/\∀vs,o≠some (.tup vs):=⟨fun φ z=>(by grind),fun φ z=>(by grind)⟩
theorem BP {G:Gh}{r:Addr}{refs:List V}(g:Gr G jX H2 Hf3 H3)(nr:¬G.fp r)(h:H2 r=some (.lst refs))(hf:jX r=none):H3 r=some (.lst refs)/\Hf3 r=none:=⟨g.hh r _ nr h,g.nw r nr hf (Zpy h)⟩
theorem env6 {G:Gh}{x:Addr}{n:Int}{vb vm:V}{dA dm:D}{x4 x5:Option V}{o4 o5:Option D}(rb:Zl G Hf dA vb)(rm:Zl G Hf dm vm)(h4:∀d,o4=some d->∃v,x4=some v/\Zl G Hf d v)(h5:∀d,o5=some d->∃v,x5=some v/\Zl G Hf d v) :
  Yt G Hf [some (.ref x),some (.int n),some vb,some vm,x4,x5] [none,some (.int n),some dA,some dm,o4,o5]:=λi d e=>by
 match i,e with
 | 0,e=>cases e
 | 1,e=>cases e;exact⟨_,rfl,ja.mpr rfl⟩
 | 2,e=>simp_all
 | 3,e=>simp_all
 | 4,e=>
  simp_all
 | 5,e=>
  simp_all
 | i+6,e=>simp at e
noncomputable def Zh0 (G:Gh)(C x dx:Addr)(H Hf:Hp)(ds':List D)(s':Pn)(Q:Hp->Prop):Prop:=
 ∀(q:TVs) (l:Addr) (Hf' H':Hp),H l=none->l≠x->IS G x H Hf Hf' H' s'->Hf' x=none->Hf' l=none->H' x=some (.ins C dx (U8 ⟨x,C,dx,l⟩ q))->H' l=some (.lst (q.hs.map V.int))->Zi (Zq G ⟨x,C,dx,l⟩ q) Hf' ds' (BM q)->Q H'
theorem ZlY {X:Cx}{G:Gh}{C:Addr}{e1 iter er el eh:Expr}{stw:Stmt}{f1 fw fr fl fh:Zd->M D}{fi:Zd->M (List D)}{r1 rw_ rr rl:Bool}{q1 q2 q3 q4 q5 q6 q8 q9 u1 u2 u3 u4 u5 u7 u8 u9 v1 v2 v3 v4 v5 v6 v7 v8 v9 w1 w2 w3 w4:Pos}{j9:Nat}(kc:TCl X.K C)(hN:X.N.Nodup)(h3:X.N[3]?=some ("many" : Str))(h4:X.N[4]?=some ("i" : Str))(l3:WS X.env.scope "many")(l4:WS X.env.scope "i")
  (hf3:X.fn "many" = true∨X.env.scope.names.lookup ("many" : Str)=some .local) (hf4:X.fn "i" = true∨X.env.scope.names.lookup ("i" : Str)=some .local)
  (hs:∀p,PE X (.Name "self" p) (Yf 0)) (hn:PE X (.Name "n" q2) (Yf 1)) (hp:PassesOwn (xB X.prog X.w) X.A X.env X.xe) (hcalm:X.calm=true)
  (p1:PD X G r1 e1 f1) (pi:Xw X G (.Name "i" q4) iter fi) (pw:BT X G rw_ 5 stw fw) (pr:PD X G rr er fr) (pl:PD X G rl el fl) (ph:PD X G true eh fh)
  (s1:xr e1 (some (.Name "many" q1)) u1.line X.env=pure false)
  (s2:xr (.Name "n" q2) (some (.Attribute (.Name "self" q3) "n" u2)) u3.line X.env=pure false)
  (s3:xr (.List [] q5) (some (.Attribute (.Name "self" q6) "rows" u4)) u5.line X.env=pure false)
  (s4:∀x,foldedSetIterable iter X.env x=pure x)
  (s6:xr eh (some (.Attribute (.Name "self" v1) "holders" v2)) v3.line X.env=pure false)
  (s7:xr (.Constant (.int 1) j9 v4) (some (.Attribute (.Name "self" v5) "scale" v6)) v7.line X.env=pure false)
  (ap1:∀te,PE X er te->PS X (.Expr (.Call (.Attribute (.Attribute (.Name "self" q8) "rows" u7) "append" u8) [er] [] u9) v8) (JV (BY X.K "list" Bv (tFld X.K (Yf 0) "rows") (Uv te V9))))
  (ap2:∀te,PE X el te->PS X (.Expr (.Call (.Attribute (.Attribute (.Name "self" q9) "rows" w1) "append" w2) [el] [] w3) w4) (JV (BY X.K "list" Bv (tFld X.K (Yf 0) "rows") (Uv te V9)))) :
  ∃t,XO X [.Assign [.Name "many" q1] e1 u1,.Assign [.Attribute (.Name "self" q3) "n" u2] (.Name "n" q2) u3,.Assign [.Attribute (.Name "self" q6) "rows" u4] (.List [] q5) u5,
   .For (.Name "i" q4) iter [stw,.Expr (.Call (.Attribute (.Attribute (.Name "self" q8) "rows" u7) "append" u8) [er] [] u9) v8] [] v9,
   .Expr (.Call (.Attribute (.Attribute (.Name "self" q9) "rows" w1) "append" w2) [el] [] w3) w4,.Assign [.Attribute (.Name "self" v1) "holders" v2] eh v3,.Assign [.Attribute (.Name "self" v5) "scale" v6] (.Constant (.int 1) j9 v4) v7] t/\
  ∀(x dx:Addr) (va vb:V) (dn dA:D) (H Hf:Hp) (s:Pn) (ds':List D) (s':Pn) (E:Ends),H x=some (.ins C dx [])->¬G.rd x->Hf x=none->ZA G Hf H->Zi G Hf [dn,dA] [va,vb]->G.st s H->iniF f1 fw fr fl fh fi dn dA s=some (ds',s')->Zh0 G C x dx H Hf ds' s' (λH'=>∀σ',E.nx σ' H')->
   t E [some (.ref x),some va,some vb,none,none,none] H:=by
 obtain⟨t1,a1,y1⟩:=p1;obtain⟨wi,ai,yi⟩:=pi;obtain⟨tw,aw,yw⟩:=pw;obtain⟨tr,ar,yr⟩:=pr;obtain⟨tl,al,yl⟩:=pl;obtain⟨th,ah,yh⟩:=ph;refine⟨_,XE (Um hN h3 l3 a1 s1 hf3) (XE (BB (hs _) hn s2) (XE (BB (hs _) (ZkI X7) s3) (XE (ZkC hp hcalm ai (Wp hN h4 l4 hf4) (XE aw (JE (ap1 _ ar))) s4) (XE (ap2 _ al) (XE (BB (hs _) ah s6) (JE (BB (hs _) Xk s7))))))),?_⟩;intro x dx va vb dn dA H Hf s ds' s' E hx nrx hfx e0 r0 st0 eF kk;have nfx:¬G.fp x:=λz=>nrx (G.sub x z);obtain⟨dm,s1,c1,eF⟩:=Zx eF;obtain⟨is,s2,c2,eF⟩:=Zx eF;obtain⟨pp,s3,c3,eF⟩:=Zx eF;obtain⟨last,s4,c4,eF⟩:=Zx eF;obtain⟨dh,s5,c5,eF⟩:=Zx eF
 match dn,dh,eF,c1,c2,c3,c5,r0 with
 | .int n,.lst hs,eF,c1,c2,c3,c5,r0=>
  cases hi:Yb hs with
  | none=>simp only[hi]at eF;cases eF
  | some ns=>
   simp only[hi]at eF;obtain⟨⟨nc,sz⟩,eF⟩:=XA eF;obtain⟨rfl,rfl⟩:=ZJ eF;obtain⟨u1,u2,eu,ra,rb⟩:=jo r0
   cases eu
   cases ja.mp ra
   have i0:IS G x H Hf Hf H s:=⟨λb o _ _ e=>e,.refl _ _,e0,λb _ e _=>e,st0⟩;have env0:Yt G Hf [some (.ref x),some (.int n),some vb,none,none,none] [none,some (.int n),some dA,none,none,none]:=λi d e=>by
    match i,e with
    | 0,e=>cases e
    | 1,e=>cases e;exact⟨_,rfl,ra⟩
    | 2,e=>cases e;exact⟨_,rfl,rb⟩
    | 3,e=>cases e
    | 4,e=>cases e
    | 5,e=>cases e
    | i+6,e=>simp at e
   refine y1 _ Hf H _ s dm s1 _ e0 env0 st0 c1 λvm jU H1 g1 jV rm _=>?_;obtain⟨i1,hx1,hfx1⟩:=i0.grow hx nfx (WO hx) (WO hx) hfx g1 jV;have env1:Yt G jU [some (.ref x),some (.int n),some vb,some vm,none,none] [none,some (.int n),some dA,some dm,none,none]:=λi d e=>by
    match i,e with
    | 0,e=>cases e
    | 1,e=>cases e;exact⟨_,rfl,ra.ext g1.ff⟩
    | 2,e=>cases e;exact⟨_,rfl,rb.ext g1.ff⟩
    | 3,e=>cases e;exact⟨_,rfl,rm⟩
    | 4,e=>cases e
    | 5,e=>cases e
    | i+6,e=>simp at e
   refine⟨_,rfl,_,rfl,x,C,dx,[],rfl,hx1,kc.cl,kc.n,by decide,?_⟩;have i2:IS G x H Hf jU (Zp H1 x (.ins C dx (YQ "n" (.int n) []))) s1:=i1.put nrx hfx1 (.inl rfl) (ZfM hx1);refine⟨zv _,λr hr=>?_⟩;have rx:r≠x:=λz=>by rw[z,Z1]at hr;cases hr
   have hr1:H1 r=none:=by rw[Zu rx]at hr;exact hr
   have nrr:¬G.rd r:=ju jV hr1;have hrf:jU r=none:=by
    cases z:jU r with
    | none=>rfl
    | some o=>rw[g1.fh r o (λy=>nrr (G.sub r y)) z]at hr1;cases hr1
   have hr0:H r=none:=by
    cases z:H r with
    | none=>rfl
    | some o=>rw[i1.hh r o rx (λy=>nrr (G.sub r y)) z]at hr1;cases hr1
   have i3:=i2.put (o:=.lst []) nrr hrf (.inr hr0) (ZnP hr);have hx3:Zp (Zp H1 x (.ins C dx (YQ "n" (.int n) []))) r (.lst []) x=some (.ins C dx [("n",.int n)]):=by rw[Zu (qJ rx),Z1];rfl
   refine⟨_,rfl,x,C,dx,_,rfl,hx3,kc.cl,kc.rows,by show 1<1000;decide,?_⟩;have i4:=i3.put (o:=.ins C dx (YQ "rows" (.ref r) [("n",.int n)])) nrx hfx1 (.inl rfl) (ZfM hx3);have hx4:Zp (Zp (Zp H1 x (.ins C dx (YQ "n" (.int n) []))) r (.lst [])) x (.ins C dx (YQ "rows" (.ref r) [("n",.int n)])) x=some (.ins C dx [("n",.int n),("rows",.ref r)]):=by rw[Z1];rfl
   have hr4:Zp (Zp (Zp H1 x (.ins C dx (YQ "n" (.int n) []))) r (.lst [])) x (.ins C dx (YQ "rows" (.ref r) [("n",.int n)])) r=some (.lst []):=by rw[Zu rx,Z1]
   generalize Zp (Zp (Zp H1 x (.ins C dx (YQ "n" (.int n) []))) r (.lst [])) x (.ins C dx (YQ "rows" (.ref r) [("n",.int n)]))=H4 at i4 hx4 hr4;have nfr:¬G.fp r:=λy=>nrr (G.sub r y);refine yi _ jU H4 _ s1 is s2 _ i4.fh env1 i4.st c2 λJt jX H5 g5 st5 it=>?_;obtain⟨i5,hx5,hfx5⟩:=i4.grow hx4 nfx (WO hx) (WO hx4) hfx1 g5 st5;obtain⟨hr5,hfr5⟩:=BP g5 nfr hr4 hrf;have rb5:=(rb.ext g1.ff).ext g5.ff;have rm5:=rm.ext g5.ff;refine⟨λi m σ2 H2=>∃Hf3 s0 rows refs o4 o5 x4 x5 rest,σ2=[some (.ref x),some (.int n),some vb,some vm,x4,x5]/\Yt G Hf3 σ2 [none,some (.int n),some dA,some dm,o4,o5]/\IS G x H Hf Hf3 H2 s0/\ZA G jX Hf3/\H2 x=some (.ins C dx [("n",.int n),("rows",.ref r)])/\Hf3 x=none/\H2 r=some (.lst refs)/\Hf3 r=none/\Zi G Hf3 rows refs/\mIni fw fr (is.drop i) [none,some (.int n),some dA,some dm,o4,o5] s0=some ((rest,pp.2),s3)/\rows++rest=pp.1/\i<=is.length/\m=is.length-i,
    ⟨_,jX,s2,[],[],none,none,none,none,pp.1,rfl,env6 rb5 rm5 (λd z=>by cases z) (λd z=>by cases z),i5,.refl _ _,hx5,hfx5,hr5,hfr5,Zi.nil_iff.mpr rfl,c3,rfl,zv _,rfl⟩,?_⟩
   rintro i m σ2 H2 ⟨Hf3,s0,rows,refs,o4,o5,x4,x5,rest,rfl,env3,i6,e23,hx6,hfx6,hr6,hfr6,rr6,c6,c7,hle,rfl⟩;obtain⟨it1,it2⟩:=it i Hf3 H2 s0 e23 i6.fh i6.st;have rb6:=rb5.ext e23;have rm6:=rm5.ext e23;by_cases hlt:i<is.length
   ·rw[yb hlt]at c6
    obtain⟨w,s6,d1,c6⟩:=Zx c6;obtain⟨rw',s7,d2,c6⟩:=Zx c6;obtain⟨p2,s8,d3,c6⟩:=Zx c6;obtain⟨ep,rfl⟩:=ZJ c6;obtain⟨go,yld⟩:=it1 is[i] (by simp[hlt]);refine .inr ⟨go,fun σ' H'=>∃Hf3 s0 rows refs o4 o5 x4 x5 rest,σ'=[some (.ref x),some (.int n),some vb,some vm,x4,x5]/\Yt G Hf3 σ' [none,some (.int n),some dA,some dm,o4,o5]/\IS G x H Hf Hf3 H' s0/\ZA G jX Hf3/\H' x=some (.ins C dx [("n",.int n),("rows",.ref r)])/\Hf3 x=none/\H' r=some (.lst refs)/\Hf3 r=none/\Zi G Hf3 rows refs/\mIni fw fr (is.drop (i+1)) [none,some (.int n),some dA,some dm,o4,o5] s0=some ((rest,pp.2),s3)/\rows++rest=pp.1,
     fun σ' H' ⟨Hf3,s0,rows,refs,o4,o5,x4,x5,rest,a1,a2,a3,a4,a5,a6,a7,a8,a9,b1,b2⟩=>⟨_,by omega,Hf3,s0,rows,refs,o4,o5,x4,x5,rest,a1,a2,a3,a4,a5,a6,a7,a8,a9,b1,b2,hlt,rfl⟩,λy H3 y3=>?_⟩
    obtain⟨Hf4,g4,st4,r4⟩:=yld y H3 y3;obtain⟨i7,hx7,hfx7⟩:=i6.grow hx6 nfx (WO hx) (WO hx6) hfx6 g4 st4;obtain⟨hr7,hfr7⟩:=BP g4 nfr hr6 hfr6;have env4:=env6 (x:=x) (n:=n) (x4:=some y) (x5:=x5) (o4:=some is[i]) (o5:=o5) (rb6.ext g4.ff) (rm6.ext g4.ff) (λd z=>by cases z;exact⟨y,rfl,r4⟩) (λd z=>by
     obtain⟨v,h1,h2⟩:=env3 5 d (by rw[z];rfl);exact⟨v,by simpa using h1,h2.ext g4.ff⟩)
    refine yw _ Hf4 H3 _ s0 w s6 _ g4.fh env4 st4 d1 λv5 Hf5 H5' g6 st6 r5 _=>?_;obtain⟨i8,hx8,hfx8⟩:=i7.grow hx7 nfx (WO hx) (WO hx7) hfx7 g6 st6;obtain⟨hr8,hfr8⟩:=BP g6 nfr hr7 hfr7;have env5:=env6 (x:=x) (n:=n) (x4:=some y) (x5:=some v5) (o4:=some is[i]) (o5:=some w) ((rb6.ext g4.ff).ext g6.ff) ((rm6.ext g4.ff).ext g6.ff) (λd z=>by cases z;exact⟨y,rfl,r4.ext g6.ff⟩) (λd z=>by cases z;exact⟨v5,rfl,r5⟩);refine⟨_,rfl,x,C,dx,_,.ref r,rfl,hx8,kc.cl,kc.rows,rfl,.inl ⟨rfl,_,ZT.of hr8⟩,?_⟩;refine yr _ Hf5 H5' _ s6 rw' s7 _ g6.fh env5 st6 d2 λv6 Hf6 H6 g7 st7 r6 _=>?_;obtain⟨i9,hx9,hfx9⟩:=i8.grow hx8 nfx (WO hx) (WO hx8) hfx8 g7 st7;obtain⟨hr9,hfr9⟩:=BP g7 nfr hr8 hfr8;have ln:refs.length<xg:=by
     have l1:=rr6.length;have l2:rows.length+rest.length=pp.1.length:=by rw[<-c7,zC]
     omega
    refine⟨r,refs,v6,rfl,rfl,hr9,ln,?_⟩;have i10:=i9.put (o:=.lst (refs ++ [v6])) nrr hfr9 (.inr hr0) (ZlX hr9);have e1:rest=rw'::p2.1:=(qbx ep).1;have e2:pp.2=p2.2:=(qbx ep).2;refine⟨Hf6,s7,rows ++ [rw'],refs ++ [v6],some is[i],some w,some y,some v5,p2.1,rfl,env5.ext g7.ff,i10,((e23.trans g4.ff).trans g6.ff).trans g7.ff,by rw[Zu (qJ rx)];exact hx9,hfx9,Z1,hfr9,((((rr6.ext g4.ff).ext g6.ff).ext g7.ff).append (Zi.one r6)),?_,?_⟩
    ·rw[e2];exact d3
    ·rw[<-c7,e1];simp
   ·have hd:is.drop i=[]:=qaw.mpr (by omega)
    rw[hd]at c6;obtain⟨ep,rfl⟩:=ZJ c6;have e1:rest=[]:=(qbx ep).1;have e2:pp.2=[none,some (.int n),some dA,some dm,o4,o5]:=(qbx ep).2;subst e1;rw[zq]at c7;refine .inl ⟨it2 (by omega),?_⟩;rw[e2]at c4 c5;refine⟨_,rfl,x,C,dx,_,.ref r,rfl,hx6,kc.cl,kc.rows,rfl,.inl ⟨rfl,_,ZT.of hr6⟩,?_⟩;refine yl _ Hf3 H2 _ _ last s4 _ i6.fh env3 i6.st c4 λv6 Hf6 H6 g7 st7 r6 _=>?_;obtain⟨i9,hx9,hfx9⟩:=i6.grow hx6 nfx (WO hx) (WO hx6) hfx6 g7 st7;obtain⟨hr9,hfr9⟩:=BP g7 nfr hr6 hfr6;have ln:refs.length<xg:=by
     have l1:=rr6.length;rw[c7]at l1;omega
    refine⟨r,refs,v6,rfl,rfl,hr9,ln,?_⟩;have i10:=i9.put (o:=.lst (refs ++ [v6])) nrr hfr9 (.inr hr0) (ZlX hr9);have hx10:Zp H6 r (.lst (refs ++ [v6])) x=some (.ins C dx [("n",.int n),("rows",.ref r)]):=by rw[Zu (qJ rx)];exact hx9
    have rows10:Zi G Hf6 (pp.1 ++ [last]) (refs ++ [v6]):=by rw[<-c7];exact(rr6.ext g7.ff).append (Zi.one r6)
    refine yh _ Hf6 _ _ s4 _ _ _ i10.fh (env3.ext g7.ff) i10.st c5 λv7 Hf7 H7 g8 st8 r7 fz=>?_;obtain⟨i11,hx11,hfx11⟩:=i10.grow hx10 nfx (WO hx) (WO hx10) hfx9 g8 st8;obtain⟨hr11,hfr11⟩:=BP g8 nfr Z1 hfr9;obtain⟨l,vs7,rfl,nl,hl7,rl7⟩:=jb.mp r7;have hl0:=(fz rfl l rfl trivial).1;have lx:l≠x:=λz=>by rw[z,hx10]at hl0;cases hl0
    have lr:l≠r:=λz=>by rw[z,Z1]at hl0;cases hl0
    have hl6:Hf6 l=none:=by
     cases z:Hf6 l with
     | none=>rfl
     | some o=>rw[i10.fh l o nl z]at hl0;cases hl0
    have hlH:H l=none:=by
     cases z:H l with
     | none=>rfl
     | some o=>rw[i10.hh l o lx nl z]at hl0;cases hl0
    have hf0:∀b o,¬G.fp b->H b=none->Hf b=some o->False:=λb o n1 n2 z=>by rw[e0 b o n1 z]at n2;cases n2
    rw[UU hi]at rl7;have ev7:=jp rl7;subst ev7;have hl11:=g8.fh l _ nl hl7;refine⟨_,rfl,x,C,dx,_,rfl,hx11,kc.cl,kc.holders,by show 2<1000;decide,?_⟩;have i12:=i11.put (o:=.ins C dx (YQ "holders" (.ref l) [("n",.int n),("rows",.ref r)])) nrx hfx11 (.inl rfl) (ZfM hx11);have hx12:Zp H7 x (.ins C dx (YQ "holders" (.ref l) [("n",.int n),("rows",.ref r)])) x=some (.ins C dx [("n",.int n),("rows",.ref r),("holders",.ref l)]):=by rw[Z1];rfl
    refine⟨_,rfl,x,C,dx,_,rfl,hx12,kc.cl,kc.scale,by show 3<1000;decide,?_⟩;have i13:=i12.put (o:=.ins C dx (YQ "scale" (.int 1) [("n",.int n),("rows",.ref r),("holders",.ref l)])) nrx hfx11 (.inl rfl) (ZfM hx12);have out:∀b,b≠x->Zp (Zp H7 x (.ins C dx (YQ "holders" (.ref l) [("n",.int n),("rows",.ref r)]))) x (.ins C dx (YQ "scale" (.int 1) [("n",.int n),("rows",.ref r),("holders",.ref l)])) b=H7 b:=λb hb=>by rw[Zu hb,Zu hb]
    refine kk ⟨n,r,1,ns⟩ l (λb=>if b=l then none else if b=r then some (.lst (refs ++ [v6]))else Hf7 b) _ hlH lx ⟨i13.hh,λb o n1 z=>?_,λb o n1 z=>?_,λb n1 z1 z2=>?_,i13.st⟩ ?_ ?_ ?_ ?_ ?_ _
    ·show(if b=l then none else if b=r then some (.lst (refs ++ [v6]))else Hf7 b)=some o
     rw[if_neg λq=>hf0 b o n1 (by rw[q];exact hlH) z,if_neg λq=>hf0 b o n1 (by rw[q];exact hr0) z];exact i11.ff b o n1 z
    ·have z:(if b=l then none else if b=r then some (HO.lst (refs ++ [v6]))else Hf7 b)=some o:=z
     split at z
     ·cases z
     ·split at z
      ·rename_i q
       cases z
       rw[q,out r rx];exact hr11
      ·have bx:b≠x:=λq=>by rw[q,hfx11]at z;cases z
       rw[out b bx];exact i11.fh b o n1 z
    ·show(if b=l then none else if b=r then some (.lst (refs ++ [v6]))else Hf7 b)=none
     split
     ·rfl
     ·rw[if_neg λq=>z2.no (by rw[q];exact hr0)]
      exact i11.nw b n1 z1 z2
    ·show(if x=l then none else if x=r then some (.lst (refs ++ [v6]))else Hf7 x)=none
     rw[if_neg (qJ lx),if_neg (qJ rx)];exact hfx11
    ·show(if l=l then none else _)=none
     rw[if_pos rfl]
    ·rw[Z1];rfl
    ·rw[out l lx];exact hl11
    ·refine Zi.cons (ja.mpr rfl) (Zi.cons (jb.mpr ⟨r,refs ++ [v6],rfl,?_,?_,?_⟩) (Zi.cons (ja.mpr rfl) (ZaK _)))
     ·rintro(z | z | z)
      ·exact nfr z
      ·exact rx z
      ·exact lr z.symm
     ·show(if r=l then none else if r=r then some (.lst (refs ++ [v6]))else Hf7 r)=_
      rw[if_neg (qJ lr),if_pos rfl]
     ·refine Zi.tr (G:=G) (G':=Zq G ⟨x,C,dx,l⟩ ⟨n,r,1,ns⟩) (λb o n1 z _=>?_) rfl nc rows10
      have bx:b≠x:=λq=>by rw[q,hfx9]at z;cases z
      have bl:b≠l:=λq=>by rw[q,hl6]at z;cases z
      have br:b≠r:=λq=>by rw[q,hfr9]at z;cases z
      refine⟨?_,?_⟩
      ·rintro(y | y | y)
       ·exact n1 y
       ·exact bx y
       ·exact bl y
      ·show(if b=l then none else if b=r then some (.lst (refs ++ [v6]))else Hf7 b)=some o
       rw[if_neg bl,if_neg br];exact g8.ff b o n1 z
noncomputable def Zpz (X:Cx)(G:Gh)(C:Addr)(body:List Stmt)(F:D->D->M (List D)):Prop:=∃t,XO X body t/\
 ∀(x dx:Addr) (va vb:V) (dn dA:D) (H Hf:Hp) (s:Pn) (ds':List D) (s':Pn) (E:Ends),H x=some (.ins C dx [])->¬G.rd x->Hf x=none->ZA G Hf H->Zi G Hf [dn,dA] [va,vb]->G.st s H->F dn dA s=some (ds',s')->Zh0 G C x dx H Hf ds' s' (λH'=>∀σ',E.nx σ' H')->
   t E [some (.ref x),some va,some vb,none,none,none] H
noncomputable def Zdk (GG:Gh->Prop)(C:Addr)(F:D->D->M (List D)):Sp:=λvs H Q _=>∃(G:Gh) (Hf:Hp) (dn dA:D) (va vb:V) (x dx:Addr) (s:Pn) (ds':List D) (s':Pn),GG G/\vs=[.ref x,va,vb]/\H x=some (.ins C dx [])/\¬G.rd x/\Hf x=none/\ZA G Hf H/\Zi G Hf [dn,dA] [va,vb]/\G.st s H/\F dn dA s=some (ds',s')/\Zh0 G C x dx H Hf ds' s' (λH'=>Q .non H')
theorem ZlZ {P:xD}{w:World}{K:qd}{mg:Str->Option Value}{base:Heap}{x qual a b c d e f':Str}{st:Stmt}{f C:Addr}{fd:xC}{F9:D->D->M (List D)}{GG:Gh->Prop}{lv:Nat}(F:Fun K x qual st f fd)(S:FnScope [a,b,c,d,e,f'] [a,b,c] (ZF st))
  (h:∀(cdv:Value) (A:xE) (outer:List Env) (s:Shared) (H:Hp) (E:XK),Room lv (A.deeper (envOfC qual (ZF st) s.heap.objs.size f cdv))->∀G,GG G->Zpz (Vp ZR P w K mg base [a,b,c,d,e,f'] qual (ZF st) f cdv A outer s H E).nox G C (XV st) F9) :
  FnOk P w K mg base ZR (lv+1) f fd [a,b,c] (Zdk GG C F9):=by
 refine F.ok S (λvs H Q E h=>?_) λcdv A outer s0 H vs Q E hr hh=>?_
 ·obtain⟨G,Hf,dn,dA,va,vb,x,dx,s,ds',s',_,rfl,_⟩:=h
  rfl
 ·obtain⟨G,Hf,dn,dA,va,vb,x,dx,s,ds',s',hG,rfl,h1,h2,h3,h4,h5,h6,h7,h8⟩:=hh
  obtain⟨t,p,q⟩:=h cdv A outer s0 H E hr G hG;exact⟨t,p,q x dx va vb dn dA H Hf s ds' s' _ h1 h2 h3 h4 h5 h6 h7 λq l Hf' H' b1 b2 b3 b4 b5 b6 b7 b8 σ'=>h8 q l Hf' H' b1 b2 b3 b4 b5 b6 b7 b8⟩
noncomputable def ZiM (i:Nat)(m:M Out):M Out:=λs=>match m s with
 | some (.nx ρ,s')=>if U6 (ρ.set i none)=true then some (.nx (ρ.set i none),s')else none
 | some (.rt d,s')=>if ZY d=true/\JM d=false then some (.rt d,s')else none
 | _=>none
noncomputable def Zh1 (i:Nat)(Fi:D->D->M (List D))(fs:Zd->M (List D))(g:Zd->M Out):Zd->M Out:=fun ρ=>Zm (fs ρ) λds=>match ds with
 | [dn,dA]=>Zm (Fi dn dA) λvs=>if i < ρ.length/\U6 (ρ.set i none)=true then ZiM i (g (ρ.set i (some (.clo 0 vs))))else ZP
 | _=>ZP
noncomputable def hidT (x l:Addr)(H:Hp):Hp:=λb=>if b=x∨b=l then none else H b
theorem Zcb {x l b:Addr}(h1:b≠x)(h2:b≠l):hidT x l H b=H b:=by
 unfold hidT;grind
theorem Zj3 {x l b:Addr}(h:hidT x l H b=some o):b≠x/\b≠l/\H b=some o:=by
 unfold hidT at h;simp_all
section
variable {G:Gh}{C x dx l:Addr}{q:TVs}
noncomputable abbrev Ji (H1:Hp)(x dx C:Addr):Hp:=Zp (Zp H1 dx (.own x)) x (.ins C dx [])
theorem JG (hx:H1 x=none)(hdx:H1 dx=none)(e:H1 b=some o):Ji H1 x dx C b=some o:=by
 rw[Ji,Zu (Yz e hx),Zu (Yz e hdx)];exact e
theorem ZiN (hx:H1 x=none)(hdx:H1 dx=none)(hl:Ji H1 x dx C l=none)(g0:Gr G jQ H0 jU H1)(is:IS G x (Ji H1 x dx C) jU Hf' H' s2)(hfl:Hf' l=none)(hfx:Hf' x=none)(gi:Gr (Zq G ⟨x,C,dx,l⟩ q) Hf' H' jX H2) :
  Gr G jQ H0 (hidT x l jX) H2:=by
 have step:∀b o,¬G.fp b->H1 b=some o->b≠x/\b≠l/\H' b=some o:=λb o n e=>by
  have e1:=JG (C:=C) hx hdx e;have bx:=Yz e hx;exact⟨bx,λz=>(by grind),is.hh b o bx n e1⟩
 have nt:∀b,¬G.fp b->b≠x->b≠l->¬(Zq G ⟨x,C,dx,l⟩ q).fp b:=λb n n1 n2 z=>by
  rcases z with z | z | z
  ·exact n z
  ·exact n1 z
  ·exact n2 z
 refine⟨λb o n e=>?_,λb o n e=>?_,λb o n e=>?_,λb n h1 h2=>?_⟩
 ·obtain⟨a1,a2,a3⟩:=step b o n (g0.hh b o n e)
  exact gi.hh b o (nt b n a1 a2) a3
 ·have e1:=is.ff b o n (g0.ff b o n e)
  have b1:b≠x:=λz=>by grind
  have b2:b≠l:=λz=>by grind
  rw[Zcb b1 b2];exact gi.ff b o (nt b n b1 b2) e1
 ·obtain⟨b1,b2,e⟩:=Zj3 e
  exact gi.fh b o (nt b n b1 b2) e
 ·by_cases z1:b=x
  ·unfold hidT;rw[if_pos (.inl z1)]
  ·by_cases z2:b=l
   ·unfold hidT;rw[if_pos (.inr z2)]
   ·rw[Zcb z1 z2]
    obtain⟨u,e,ntu⟩:=h2;have e1:=g0.hh b u n e;have e2:=JG (C:=C) hx hdx e1;exact gi.nw b (nt b n z1 z2) (is.nw b n (g0.nw b n h1 ⟨u,e,ntu⟩) ⟨u,e2,ntu⟩) ⟨u,is.hh b u z1 n e2,ntu⟩
theorem ZgR (nc:ZY d=true)(r:Zl (Zq G ⟨x,C,dx,l⟩ q) jX d v):Zl G (hidT x l jX) d v:=
 Zl.tr (G:=Zq G ⟨x,C,dx,l⟩ q) (λa o na e _=>⟨λz=>na (.inl z),by rw[Zcb (λz=>na (.inr (.inl z))) λz=>na (.inr (.inr z))];exact e⟩) rfl nc r
end
noncomputable def dosX (G:Gh)(k:TAd)(g:Zd->M Out):TS:=λE σ H=>∃q kn jQ H0 ρ s out s',J (Zq G k q) [] kn jQ H0 σ H ρ/\(Zq G k q).st s H/\g ρ s=some (out,s')/\ZlR G k kn jQ H0 out s' E
section
variable {X:Cx}{G:Gh}{ob:List Nat}{fr:Bool}
theorem Zj4 {g:Zd->M Out}{σ:St}{ρ:Zd}{i:Nat}{C x dx l:Addr}{q:TVs}{vs:List D}{s2 s':Pn}{out:Out}{E:Ends}(j:Jf G [] kn jQ H0 σ jU H1 ρ)(jV:G.st s1 H1)(hi:i < ρ.length)(nc:U6 (ρ.set i none)=true)
  (hx:H1 x=none) (hdx:H1 dx=none) (hl:Ji H1 x dx C l=none) (lx:l≠x) (is:IS G x (Ji H1 x dx C) jU Hf' H' s2) (hfx:Hf' x=none) (hfl:Hf' l=none) (hX:H' x=some (.ins C dx (U8 ⟨x,C,dx,l⟩ q))) (hL:H' l=some (.lst (q.hs.map V.int))) (r:Zi (Zq G ⟨x,C,dx,l⟩ q) Hf' vs (BM q))
  (hg:ZiM i (g (ρ.set i (some (.clo 0 vs)))) s2=some (out,s')) (po:Post G ob [] kn jQ H0 fr out s' E) :
  ∃k:TAd,(k.C=C/\VA G k/\k.a≠k.l)/\dosX G k g E (σ.set i (some (.ref x))) H':=by
 have hlH:H1 l=none:=by
  cases z:H1 l with
  | none=>rfl
  | some o=>rw[JG (C:=C) hx hdx z]at hl;cases hl
 have nf:∀b o,¬G.fp b->jU b=some o->b≠x/\b≠l/\Hf' b=some o:=λb o n e=>by
  have e1:=j.gr.fh b o n e;exact⟨Yz e1 hx,Yz e1 hlH,is.ff b o n e⟩
 have jj:J (Zq G ⟨x,C,dx,l⟩ q) [] Hf' Hf' H' (σ.set i (some (.ref x))) H' (ρ.set i (some (.clo 0 vs))):=by
  refine⟨Hf',by simp[j.len],.refl _ _,.refl λb o n e=>is.fh b o (λz=>n (.inl z)) e,λm d _ e=>?_,λm d z=>by simp at z,λm d a di dj z=>by simp at z⟩;by_cases h:i=m
  ·subst h
   rw[qU hi]at e
   cases e
   exact⟨.ref x,qU (by rw[j.len];exact hi),Zl.tab r⟩
  ·rw[qD h]at e⊢
   obtain⟨v,q1,q2⟩:=j.fz m d (by simp) e;refine⟨v,q1,Zl.tr (G:=G) (G':=Zq G ⟨x,C,dx,l⟩ q) (λa o na e _=>?_) rfl (ZcC nc (by rw[qD h];exact e)) q2⟩;obtain⟨a1,a2,a3⟩:=nf a o na e;refine⟨?_,a3⟩;rintro(z | z | z)
   ·exact na z
   ·exact a1 z
   ·exact a2 z
 refine⟨⟨x,C,dx,l⟩,⟨rfl,⟨ju jV hx,ju jV hlH⟩,qJ lx⟩,q,Hf',Hf',H',ρ.set i (some (.clo 0 vs)),s2,?_⟩;have knH:∀q2 jX H2,Gr (Zq G ⟨x,C,dx,l⟩ q2) Hf' H' jX H2->ZA G kn (hidT x l jX):=λq2 jX H2 gi b o nb e=>by
  obtain⟨a1,a2,a3⟩:=nf b o nb (j.kn b o nb e);rw[Zcb a1 a2];refine gi.ff b o ?_ a3;rintro(z | z | z)
  ·exact nb z
  ·exact a1 z
  ·exact a2 z
 unfold ZiM at hg
 cases hq:g (ρ.set i (some (.clo 0 vs))) s2 with
 | none=>simp only[hq]at hg;cases hg
 | some p=>
  obtain⟨o,s3⟩:=p;simp only[hq]at hg;refine⟨o,s3,jj,⟨is.st,hX,hL⟩,rfl,?_⟩
  cases o with
  | nx ρ2=>
   simp only at hg;split at hg
   ·rename_i nc2
    cases hg
    intro q2 σ2 H2 ⟨jX,j2⟩ st3;refine po σ2 H2 ⟨hidT x l jX,by simp[j2.len],knH q2 _ _ j2.gr,ZiN hx hdx hl j.gr is hfl hfx j2.gr,λm d _ e=>?_,λm d z=>by simp at z,λm d a di dj z=>by simp at z⟩ st3.1;by_cases h:i=m
    ·subst h
     rw[List.getElem?_set]at e;split at e
     ·split at e <;> cases e
     ·exact absurd rfl ‹_›
    ·have e2:=e
     rw[qD h]at e2;obtain⟨v,q1,q2'⟩:=j2.fz m d (by simp) e2;exact⟨v,q1,ZgR (ZcC nc2 e) q2'⟩
   ·cases hg
  | rt d=>
   simp only at hg;split at hg
   ·rename_i h
    cases hg
    intro q2 v jX H2 gi st3 r3;exact po v _ H2 (ZiN hx hdx hl j.gr is hfl hfx gi) st3.1 (ZgR h.1 r3) λ_=>.scal λz=>by
     cases d <;> simp_all[JX,JM]
   ·cases hg
  | bk ρ2=>simp_all
  | ct ρ2=>simp_all
theorem Zh2 {i kl:Nat}{C f:Addr}{fd:xC}{x nm:Str}{ps:List Str}{GG:Gh->Prop}{e1 e2:Expr}{fs:Zd->M (List D)}{Fi:D->D->M (List D)}{sts:List Stmt}{g:Zd->M Out}{p pos pos' apos:Pos}(hG:GG G)(M:Mk X.K C f)(F:FnOk X.prog X.w X.K X.mg X.base ZR kl f fd ps (Zdk GG C Fi))(hr:Room (kl+1) X.A)(hg:Gl X nm)(hm:X.mg nm=some (.ref C))
  (hb:Xf X.K fd ps []) (he:Wz X G [e1,e2] fs) (hN:X.N.Nodup) (hi:X.N[i]?=some x) (hx:WS X.env.scope x)
  (hrest:∀k:TAd,k.C=C->VA G k->k.a≠k.l->B3 X G k sts g)
  (hdb:(nm==("__debug__" : Str))=false:=by decide) (hst:xh [e1,e2] X.env=(false,eval e1 X.env)::xh [e2] X.env:=by rfl) (hpl:(backTo pos (xh [e2] X.env)).any (·.1)=false:=by rfl) (hs:xr (.Call (.Name nm p) [e1,e2] [] pos) (some (.Name x pos')) apos.line X.env=pure false:=by rfl)
  (hf:X.fn x=true∨X.env.scope.names.lookup x=some .local:=by first | exact .inl rfl | exact .inr rfl | assumption) :
  X1 X G ob [] [] fr (.Assign [.Name x pos'] (.Call (.Name nm p) [e1,e2] [] pos) apos::sts) (Zh1 i Fi fs g):=by
 obtain⟨te,pe,ye⟩:=he;have rest:XO X sts (λE σ H=>∃k:TAd,(k.C=C/\VA G k/\k.a≠k.l)/\dosX G k g E σ H):=by
  intro jM s σ H D I ⟨k,⟨h1,h2,h3⟩,q,kn,jQ,H0,ρ,pn,out,pn',j,st,e,po⟩;obtain⟨t,p,d⟩:=hrest k h1 h2 h3;exact p jM s σ H D I (d q kn jQ H0 σ H ρ pn out pn' D j st e po)
 refine⟨_,XE (Um hN hi hx (Zm4 M F hr hg hm hb .nil JW pe hdb hst hpl) hs hf) rest,λkn jQ H0 σ H ρ s out s' E ⟨Hf,j⟩ st e4 po=>?_⟩;obtain⟨ds,s1,a1,a2⟩:=Zx e4
 match ds,a1,a2 with
 | [dn,dA],a1,a2=>
  obtain⟨vs,s2,a3,a4⟩:=Zx a2;obtain⟨⟨hi',nc⟩,a5⟩:=XA a4;refine ye σ Hf H ρ s _ s1 _ j.gr.fh (Vn j) st a1 λws jU H1 g1 jV r=>?_;obtain⟨va,vb,rfl,ra,rb⟩:=jo r;intro x dx hx hdx ne;have hxf:∀b,H1 b=none->jU b=none:=λb hb=>by
   cases z:jU b with
   | none=>rfl
   | some o=>rw[g1.fh b o (Gh.nofp jV hb) z]at hb;cases hb
  have e1:ZA G jU (Ji H1 x dx C):=λb o nb e=>JG hx hdx (g1.fh b o nb e);have stn:G.st s1 (Ji H1 x dx C):=G.mono s1 H1 _ jV (λb o _ e=>JG hx hdx e) (λb φ e=>JG hx hdx e) λb vs e=>JG hx hdx e;refine⟨G,jU,dn,dA,va,vb,x,dx,s1,vs,s2,hG,rfl,Z1,ju jV hx,hxf x hx,e1,r,stn,a3,λq l Hf' H' b1 b2 b3 b4 b5 b6 b7 b8=>⟨rfl,?_⟩⟩;exact Zj4 (j.grow g1) jV hi' nc hx hdx b1 b2 b3 b4 b5 b6 b7 b8 a5 po
end
end TF
namespace L2
section
variable {X:Cx}
theorem Zj5:WH X (.builtin "abs") (λxs H Q=>∃i,xs=[.int i]/\Q (.int (if i<0 then -i else i)) H):=by
 intro jM s σ H xs us Q I r h;obtain⟨i,rfl,q⟩:=h;obtain⟨u,rfl,t,rfl⟩:=VM r;exact call_abs_int λu tk=>⟨.int (if i<0 then -i else i),H,I.tok _,⟨_,rfl⟩,q⟩
theorem ZgS (hc:X.calm=true):ZlM X "min" "default" (λxs ys H Q=>∃(p:Addr) (ns:List Int) (y:V),xs=[.ref p]/\ys=[y]/\ZT X.K H p (ns.map V.int)/\Q (match ns with | n::r=>.int (TF.minI n r) | []=>y) H):=by
 intro jM s σ H xs ys us vs Q I r r2 h;obtain⟨p,ns,y,rfl,rfl,hp,q⟩:=h;obtain⟨u,rfl,ru⟩:=VM r
 cases ru
 obtain⟨v,rfl,rv⟩:=VM r2;obtain⟨jP,rv2,pl,hz⟩:=I.list hp;have hi:IntsAre jP ns:=Zan rv2;obtain⟨xs,e⟩:=hi.allInts.items;have hns:ns=xs.toList.map (·.1):=by rw[<-hi.numsOf,<-nums_intItems,<-e]
 have hl:=pl.isList;rw[e]at hl;refine HT.minD_walk (iter_intList hl λs₂ e2 st hfp hlI=>?_);subst e2;refine⟨_,_,_,_,_,_,_,rfl,Walks.list (A:=X.A.in1) (I.ok.hd hc) _ p hlI (intItems xs),st,hfp,CmpOf.ints_lt (numAt xs) (λ_ _=>intItems_at),λhn v h' tk hP hk=>?_,λhn h' tk hk=>?_⟩
 ·have hkk:∀b o,s.heap.get? b=some o->h'.get? b=some o:=old_kept hk
  have hsz:0<xs.size:=by simpa[intItems]using hn
  have hn1:(intItems xs).size=xs.size:=by simp[intItems]
  rw[hn1]at hP;obtain⟨t,rfl⟩:=intItems_at hP;obtain⟨h1,h2⟩:=argBest_lt (numAt xs) (xs.size-1)
  cases ns with
  | nil=>
   have:xs.toList=[]:=List.map_eq_nil_iff.mp hns.symm;have:xs.size=0:=by rw[<-yo,this];rfl
   omega
  | cons n rr=>
   have e2:numAt xs (argBest (λi j=>decide (numAt xs i<numAt xs j)) (xs.size-1))=TF.minI n rr:=by
    refine TF.min_uniq ?_ λa ha=>?_
    ·rw[hns,numAt_eq];exact getD_mem (by rw[qf,yo];omega)
    ·rw[hns]at ha
     obtain⟨j,hj,rfl⟩:=mem_getD ha;rw[qf,yo]at hj;rw[<-numAt_eq];exact h2 j (by omega)
   rw[e2];exact⟨.int (TF.minI n rr),H,I.kept hkk,⟨_,rfl⟩,q⟩
 ·have hkk:=old_kept hk
  have h0:=by simpa[intItems]using hn
  have:ns=[]:=by
   simp_all
  subst this;exact⟨y,H,I.kept hkk,rv,q⟩
end
end L2
namespace TF
open L2
theorem boot_abs:xj "abs" = some (.builtin "abs"):=by rfl
noncomputable def dAbs:List D->Option D
 | [.int i]=>some (.int (if i<0 then -i else i))
 | _=>none
section
variable {X:Cx}{G:Gh}
theorem Ze7:Vl X G (.builtin "abs") dAbs:=
 ⟨_,Zj5,λHf H s xs ds c Q e1 st r q k=>by
  match ds,q,r with
  | [.int i],q,r=>
   cases q
   obtain⟨v,rfl,rv⟩:=jm r;rw[ja.mp rv];exact⟨i,rfl,k _ Hf H (.refl e1) st (ja.mpr rfl) (.scal λz=>z)⟩⟩
noncomputable def Xz (i:Int):Bool:=decide (i.natAbs<2 ^ 8000)
theorem ZiO {i:Int}(h:Xz i=true):i.natAbs.log2<8000:=by
 have h:=of_decide_eq_true h;by_cases z:i.natAbs=0
 ·rw[z];simp
 ·exact(Nat.log2_lt z).mpr h
theorem ZgT {i:Int}(h:Xz i=true):qbW i<=2 ^ 20:=by
 have:=ZiO h;unfold qbW;split
 ·simp
 ·omega
noncomputable def XJ:=dI (λi j=>Xz i&&Xz j) λi j=>.int (i*j)
noncomputable def ZdY:=dI (λ_ j=>decide (0<j)&&Xz j) λi j=>.int (i / j)
theorem ZnQ:Yj X (binaryOp .Mult) (rI (λi j=>Xz i=true/\Xz j=true) λi j=>.int (i*j)):=Bf λ_ _ _ _ _ _ _ hc q=>mul_int q (IntMulOk.of_bits (ZgT hc.1) (ZgT hc.2))
theorem Zl0:Yj X (binaryOp .FloorDiv) (rI (λ_ j=>0<j/\Xz j=true) λi j=>.int (i / j)):=Bf λi j _ _ _ _ _ hc q=>
 floordiv_int (by omega) (by rw[qaQ i (by omega)];exact q) (.inl (PyProof.noPylong_of_log2 (yE (ZiO hc.2) (by decide))))
theorem Ul:Y4 X G (binaryOp .Mult) XJ:=BI ZnQ λi j h=>by simpa using h
theorem ZcF:Y4 X G (binaryOp .FloorDiv) ZdY:=BI Zl0 λi j h=>by simpa using h
noncomputable def Zh3 (f g:Zd->M D):Zd->M D:=fun ρ=>Zm (f ρ) λd=>Zm (g ρ) λe=>match d with
 | .lst ds=>(match Yb ds with | some (n::r)=>ZH (.int (minI n r)) | some []=>ZH e | none=>ZP)
 | _=>ZP
theorem Zl1 {a b:Expr}{f g:Zd->M D}{p pos kpos:Pos}(hc:X.calm=true)(hg:Gl X "min")(hm:X.mg "min" = none)(hv:xj "min" = some (.builtin "min"))(ha:PD X G r1 a f)(hb:PD X G r2 b g)
  (he:xh [a] X.env=(false,eval a X.env)::xh [] X.env:=by rfl)
  (hall:(xp pos (xi [⟨some "default",b,kpos⟩] X.env)).all (·.1.isSome)=true:=by rfl) (hks:(xp pos (xi [⟨some "default",b,kpos⟩] X.env)).filterMap (·.1)=[("default" : Str)]:=by rfl)
  (hpl:((backTo pos (xh [a] X.env)).any (·.1)||(xp pos (xi [⟨some "default",b,kpos⟩] X.env)).any (·.1.isNone))=false:=by rfl):PD X G false (.Call (.Name "min" p) [a] [⟨some "default",b,kpos⟩] pos) (Zh3 f g):=by
 obtain⟨ta,pa,qa⟩:=ha.drop;obtain⟨tb,pb,qb⟩:=hb.drop;refine⟨_,ZjX (ZgS hc) hg hm hv pa pb (by decide) (by decide) he hall hks hpl,fun σ Hf H ρ s d s' Q e1 e2 e3 e4 k=>?_⟩;obtain⟨da,s1,a1,a2⟩:=Zx e4;obtain⟨db,s2,a3,a4⟩:=Zx a2;refine qa σ Hf H ρ s da s1 _ e1 e2 e3 a1 λx jU H1 g1 jV r1=>?_;refine qb σ jU H1 ρ s1 db s2 _ g1.fh (e2.ext g1.ff) jV a3 λy jX H2 g2 jZ r2=>?_;have r1:=r1.ext g2.ff
 match da,a4,r1 with
 | .lst ds,a4,r1=>
  have a4:(match Yb ds with | some (n::r)=>ZH (D.int (minI n r)) | some []=>ZH db | none=>ZP) s2=some (d,s'):=a4
  cases he:Yb ds with
  | none=>rw[he]at a4;cases a4
  | some ns=>
   rw[he]at a4;obtain⟨q,vs,rfl,nq,hq,rq⟩:=jb.mp r1;rw[UU he]at rq;rw[jp rq]at hq;refine⟨q,ns,y,rfl,rfl,ZT.of (g2.fh _ _ nq hq),?_⟩
   cases ns with
   | nil=>
    obtain⟨rfl,rfl⟩:=ZJ a4;exact k y jX H2 (g1.trans g2) jZ r2 (λz=>by cases z)
   | cons n r=>
    obtain⟨rfl,rfl⟩:=ZJ a4;exact k _ jX H2 (g1.trans g2) jZ (ja.mpr rfl) (λz=>by cases z)
theorem ZdZ {c:Zd->M Bool}{g:Zd->M Out}:∀{n:Nat} {ρ:Zd} {s:Pn} {r},Vv c g n ρ s=some r->BE c g n ρ s=some r
 | 0,ρ,s,r,h=>by cases h
 | n+1,ρ,s,(o,s'),h=>by
  obtain⟨b,s1,a1,a2⟩:=Zx h;show Zm (c ρ) _ s=_;unfold Zm;simp only[a1]
  cases b with
  | false=>exact a2
  | true=>
   rw[if_pos rfl]at a2⊢;obtain⟨o2,s2,a3,a4⟩:=Zx a2;simp only[a3]
   cases o2 with
   | nx ρ2=>exact ZdZ a4
   | rt d=>exact a4
   | ct ρ2=>cases a4
   | bk ρ2=>cases a4
theorem Zl2 {ob own:List Nat}{fr:Bool}{c:Expr}{body:List Stmt}{fc:Zd->M Bool}{g:Zd->M Out}{pos:Pos}(hp:PassesOwn (xB X.prog X.w) X.A X.env X.xe)(hc:XQ X G c fc)(hb:X1 X G own own own fr body g):Y1 X G ob own own fr (.While c body [] pos) (VU fc g):=by
 refine⟨λE σ H=>∃n,Zgv G ob own own fr (ZlH n fc g) E σ H,?_,λkn jQ H0 σ H ρ s out s' E j st e po=>?_⟩
 ·intro jM s σ H D I ⟨n,kn,jQ,H0,ρ,pn,out,pn',j,st,e,po⟩
  obtain⟨t,p,q⟩:=ZjT hp hc hb;exact p jM s σ H D I (q kn jQ H0 σ H ρ pn out pn' D j st e po)
 ·obtain⟨n,e⟩:=ZgQ e
  exact⟨n,kn,jQ,H0,ρ,s,out,s',j,st,ZdZ e,po⟩
end
theorem jE {c:Zd->M Bool}{g:Zd->M Out}{ρ:Zd}{s:Pn}{Q:Out->Pn->Prop}(I:Nat->Zd->Pn->Prop)(m:Nat)(h0:I m ρ s)
  (step:∀m ρ s,I m ρ s->Ok (c ρ) s λb s1=>if b=true then Ok (g ρ) s1 λo s2=>match o with | .nx ρ'=>∃m',m'<m/\I m' ρ' s2 | .rt d=>Q (.rt d) s2 | _=>False else Q (.nx ρ) s1):Ok (VU c g ρ) s Q:=by
 suffices h:∀n m ρ s,m<n->I m ρ s->Ok (Vv c g n ρ) s Q by
  obtain⟨o,s',e,q⟩:=h (m+1) m ρ s (yg m) h0;exact⟨o,s',Zpx e,q⟩
 intro n
 induction n with
 | zero=>simp
 | succ n ih=>
  intro m ρ s hm hI;refine Ok.bind ((step m ρ s hI).mono λb s1 q=>?_)
  cases b with
  | false=>exact .ret (by simpa using q)
  | true=>
   rw[if_pos rfl];refine Ok.bind (q.mono λo s2 q=>?_)
   cases o with
   | nx ρ'=>obtain⟨m',hm',h'⟩:=q;exact ih m' ρ' s2 (by omega) h'
   | rt d=>exact .ret q
   | ct ρ'=>exact q.elim
   | bk ρ'=>exact q.elim
end TF
namespace TQ
open L2 TF TQ
open TP
open TP2 hiding g_all_near F_all_near
open TP3 hiding g_full_knots F_full_knots
noncomputable def ZbL:Zd->M Out:=(Ze (VU (Zo (Zc Y3 (Za 1) (dC (.int 0))))
 (Ze (Ya 2 (Zc Ud (Za 0) (Za 1)))
 (Ze (Ya 0 (Za 1))
 (Ze (Ya 1 (Za 2))
 Zg))))
 (Ze (Zz (ZB dAbs (Zb (Za 0) Zf)))
 Zg))
noncomputable def Zaa:List D->M D:=runB 3 2 ZbL
noncomputable def Zd0:Zd->M Out:=(Ze (Ya 2 (ZD Zaa (Zb (Za 0) (Zb (Za 1) Zf))))
 (Ze (Zz (Z9 (Zb (Zc ZdY (Za 0) (Za 2)) (Zb (Zc ZdY (Za 1) (Za 2)) Zf))))
 Zg))
noncomputable def UQ:List D->M D:=runB 3 2 Zd0
noncomputable def ZbM:Zd->M Out:=(Ze (Ya 1 (Z3 [none,some 0] (Yn (Zc XD (ZB Yw (Zb (Zc Zh (YK 0 λds=>ds[1]?) (dC (.int (-1)))) Zf)) (dC (.int 1)))) (Zy 0) (Zo (Zc XR (Zc Zh (Zc Zh (YK 1 λds=>ds[1]?) (dC (.int (-1)))) (Za 0)) (dC (.int 0)))) (Za 0)))
 (Ze (Zz (Zh3 (Za 1) (dC .non)))
 Zg))
noncomputable def WT:List D->M D:=runB 2 1 ZbM
noncomputable def Zd1:Zd->M Out:=(Ze (Ya 4 (Zc XJ (Zc Zh (Zc Zh (YK 0 λds=>ds[1]?) (Za 1)) (dC (.int (-1)))) (Zc Zh (Zc Zh (YK 0 λds=>ds[1]?) (Za 2)) (Za 3))))
 (Ze (Ya 5 (Zc XJ (Zc Zh (Zc Zh (YK 0 λds=>ds[1]?) (Za 2)) (dC (.int (-1)))) (Zc Zh (Zc Zh (YK 0 λds=>ds[1]?) (Za 1)) (Za 3))))
 (Ze (Zz (Ug (Zc XR (Za 4) (Za 5)) (Vq (Zc YD (Za 4) (Za 5)) (Zc XR (Zb8 0 (Za 1)) (Zb8 0 (Za 2))))))
 Zg)))
noncomputable def B8:List D->M D:=runB 6 4 Zd1
noncomputable def ZaM:Zd->M Out:=(Ze (Ya 2 (dC .non))
 (Ze (Yv (Yn (YK 0 (J8 λns=>some (.int ns.length)))) (Zy 3)
 (Ze (ZU (W4 (Zo (Zc Vz (Zc Zh (Zc Zh (YK 0 λds=>ds[1]?) (Za 3)) (Za 1)) (dC (.int 0)))) (Yi (Zo (Zc dIsN (Za 2) (dC .non))) (Zo (XH B8 0 (Zb (Za 3) (Zb (Za 2) (Zb (Za 1) Zf)))))))
 (Ze (Ya 2 (Za 3))
 Zg)
 Zg)
 Zg))
 (Ze (Zz (Za 2))
 Zg)))
noncomputable def Js:List D->M D:=runB 4 2 ZaM
noncomputable def ZgU:Zd->M Out:=(Ze (Zz (Z3 [none,some 1,some 2,some 3,some 0] (Yn (ZB Yw (Zb (Za 1) Zf))) (Zy 0) Yo (Zc ZdY (Zc XD (Zc XJ (Zc Zh (Za 1) (Za 0)) (Zc Zh (Za 2) (Za 3))) (Zc XJ (Zc Zh (Za 1) (Za 3)) (Zc Zh (Za 2) (Za 0)))) (YK 4 λds=>ds[2]?))))
 Zg)
noncomputable def Bn:List D->M D:=runB 4 4 ZgU
noncomputable def Zj6:Zd->M Out:=(Ze (Zz (ZD UQ (Zb (Zc Zh (Zc Zh (YK 0 λds=>ds[1]?) (dC (.int (-1)))) (dC (.int (-1)))) (Zb (YK 0 λds=>ds[2]?) Zf))))
 Zg)
noncomputable def Bq:List D->M D:=runB 1 1 Zj6
noncomputable def Zj7:Zd->M Out:=(Ze (Zz (ZD UQ (Zb (Zc Zh (Zc Zh (YK 0 λds=>ds[1]?) (dC (.int (-1)))) (Zc Yr (YK 0 λds=>ds[0]?) (Za 1))) (Zb (YK 0 λds=>ds[2]?) Zf))))
 Zg)
noncomputable def JD:List D->M D:=runB 2 2 Zj7
noncomputable def Zh4:Zd->M Out:=(Ze (ZU (Zo (Zb9 0 (Za 1)))
 (Ze (Zz (Z9 (Zb (dC (.int 0)) (Zb (dC (.int 1)) Zf))))
 Zg)
 Zg)
 (Ze (Zz (ZD UQ (Zb (Zc Zh (Zc Zh (YK 0 λds=>ds[1]?) (Zdj 0 (Za 1))) (dC (.int (-1)))) (Zb (YK 0 λds=>ds[2]?) Zf))))
 Zg))
noncomputable def Jy:List D->M D:=runB 2 2 Zh4
noncomputable def ZaS:Zd->M Out:=(Ze (Ya 3 (Zc Zh (YK 0 λds=>ds[1]?) (Za 1)))
 (Ze (ZiJ 0 (Z3 [none,some 1,some 3,some 0,some 2] (Yn (ZB Yw (Zb (YK 0 λds=>ds[1]?) Zf))) (Zy 0) Yo (Vx (Zo (Zc YD (Za 0) (Za 1))) (Za 2) (XH Bn 3 (Zb (Zc Zh (YK 3 λds=>ds[1]?) (Za 0)) (Zb (Za 2) (Zb (Za 4) Zf)))))))
 (Ze (ZiK 0 (Za 1) (Za 2))
 (Ze (ZfL 0 (Zc Zh (Za 3) (Za 2)))
 Zg))))
noncomputable def Jv:List D->M D:=runT 4 3 ZaS
noncomputable def ZaT:Zd->M Out:=(Ze (Ya 1 (XH WT 0 Zf))
 (Ze (VU (Zo (Zc Zou (Za 1) (dC .non)))
 (Ze (VV Jv 0 (Zb (XH Js 0 (Zb (Za 1) Zf)) (Zb (Za 1) Zf)))
 (Ze (Ya 1 (XH WT 0 Zf))
 Zg)))
 Zg))
noncomputable def Uk:List D->M D:=runT 2 1 ZaT
noncomputable def Za7:D->D->M (List D):=iniF (ZB Yw (Zb (Za 2) Zf)) (Z3 [none,some 2,some 4] (Yn (Za 1)) (Zy 0) Yo (Vx (Zo (Zc YR (Za 0) (Zc Zh (Za 1) (Za 2)))) (dC (.int 1)) (dC (.int 0)))) (Zc Yr (Zc Yr (Za 5) (Z3 [none,some 4] (Yn (Za 3)) (Zy 0) Yo (Vx (Zo (Zc YD (Za 0) (Za 1))) (dC (.int 1)) (dC (.int 0))))) (X0 (Zb (dC (.int 1)) Zf))) (Zc Yr (Zc J5 (X0 (Zb (dC (.int (-1))) Zf)) (Za 1)) (Zc J5 (X0 (Zb (dC (.int 0)) Zf)) (Zc Yr (Za 3) (dC (.int 1))))) (Z3 [none,some 1] (Yn (Za 3)) (Zy 0) Yo (Zc Yr (Za 1) (Za 0))) (Yn (Za 3))
noncomputable def Zl3:Zd->M Out:=(Ze (Ya 1 (ZD F_full_knots (Zb (ZD Bt (Zb (Za 0) Zf)) Zf)))
 (Zh1 2 Za7 (Zb (Zc Zh (Za 0) (dC (.int 0))) (Zb (Za 1) Zf))
 (Ze (VV Uk 2 Zf)
 (Ze (Ya 3 (Z3 [none,some 1,some 2] (Yn (ZB Yw (Zb (Za 1) Zf))) (Zy 0) Yo (Z9 (Zb (Zc Zh (Za 1) (Za 0)) (Zb (XH JD 2 (Zb (Za 0) Zf)) Zf)))))
 (Ze (Ya 4 (ZB U2 (Zb (Z3 [none,some 2] (Yn (Zc Zh (Za 0) (dC (.int 0)))) (Zy 0) Yo (XH Jy 1 (Zb (Za 0) Zf))) Zf)))
 (Ze (Zz (Z9 (Zb (XH Bq 2 Zf) (Zb (Z3 [none] (Y0 (Za 3)) (Zy 0) (Zo (Zc Vz (Zc Zh (Zc Zh (Za 0) (dC (.int 1))) (dC (.int 0))) (dC (.int 0)))) (Za 0)) (Zb (Za 4) Zf)))))
 Zg))))))
noncomputable def UV:List D->M D:=runB 5 1 Zl3
end TQ
namespace TF
open PySem.Calls L2
noncomputable def YU:Option D->Option D
 | some d=>if Xg d=true then some d else none
 | none=>none
theorem ZgV {ρ:Zd}{i:Nat}{d:D}(h:(ρ.map YU)[i]?=some (some d)):ρ[i]?=some (some d)/\Xg d=true:=by
 rw[qI]at h;obtain⟨o,e,h⟩:=qaj.mp h
 match o,h,e with
 | none,h,e=>cases h
 | some c,h,e=>
  have h:(if Xg c=true then some c else none)=some d:=h;simp_all
structure Nl (G:Gh)(kn jQ H0:Hp):Prop where
 k:ZA G kn jQ
 no:∀b o,¬G.fp b->jQ b=some o->∃vs,o=.tup vs
 st:∃s,G.st s H0
noncomputable def DosN (G:Gh)(fr:Bool)(t:TS)(g:Zd->M Out):Prop:=
 ∀(kn jQ H0:Hp) (σ:St) (H:Hp) (ρ:Zd) (s:Pn) (out:Out) (s':Pn) (E:Ends),Nl G kn jQ H0->J G [] kn jQ H0 σ H ρ->G.st s H->g ρ s=some (out,s')->Post G [] [] kn jQ H0 fr out s' E->t E σ H
noncomputable def B4 (X:Cx)(G:Gh)(fr:Bool)(sts:List Stmt)(g:Zd->M Out):Prop:=∃t,XO X sts t/\DosN G fr t g
noncomputable def Zl4 (g:Zd->M Out):Zd->M Out:=fun ρ=>g (ρ.map YU)
noncomputable def Zl5 (i:Nat):Zd->M Out:=fun ρ=>match (ρ[i]?).bind id with
 | some (.lst ds)=>if ds.length<xg then ZH (.nx (ρ.map YU))else ZP
 | _=>ZP
section
variable {X:Cx}{G:Gh}{fr:Bool}{sts:List Stmt}{g g1 g2:Zd->M Out}
theorem Zqq:B4 X G fr [] Zg:=⟨_,ZbS,λkn jQ H0 σ H ρ s out s' E n j st e p=>by
 obtain⟨rfl,rfl⟩:=ZJ e;exact p σ H j st⟩
theorem JR {st:Stmt}(h:Y1 X G [] [] [] fr st g1)(h2:B4 X G fr sts g2):B4 X G fr (st::sts) (Ze g1 g2):=by
 obtain⟨t,p,q⟩:=h;obtain⟨u,p2,q2⟩:=h2;refine⟨_,XE p p2,λkn jQ H0 σ H ρ s out s' E n j st e po=>?_⟩;obtain⟨o,s1,a1,a2⟩:=Zx e;refine q kn jQ H0 σ H ρ s o s1 _ j st a1 ?_
 cases o with
 | nx ρ1=>exact fun σ1 H1 j1 jV=>q2 kn jQ H0 σ1 H1 ρ1 s1 out s' E n j1 jV a2 po
 | rt d=>obtain⟨rfl,rfl⟩:=ZJ a2;exact po
 | bk ρ1=>obtain⟨rfl,rfl⟩:=ZJ a2;exact po
 | ct ρ1=>obtain⟨rfl,rfl⟩:=ZJ a2;exact po
theorem Zqr {x:Str}{i j1:Nat}{p1 p2 p3 p4 pos:Pos}(hv:PE X (.Name x p1) (Yf i))(hr:B4 X G fr sts g)
  (hbase:xq (.Name x p1) "append" X.env (eval (.Name x p1) X.env)=eval (.Name x p1) X.env:=by rfl)
  (hfew:((backTo p3 (xh [.Constant .none j1 p4] X.env)).all (λx=>!x.1)&&(xp p3 (xi [] X.env)).all (λx=>x.1.isSome)
   && decide ([Expr.Constant .none j1 p4].length+([]:List Keyword).length+(if ([]:List Keyword).isEmpty then 0 else 1)<30))=true:=by rfl)
  (hline:(p2.endLine==p3.line)=true:=by rfl) (hs:xh [.Constant .none j1 p4] X.env=(false,eval (.Constant .none j1 p4) X.env)::xh [] X.env:=by rfl)
  (hsw:xr (.Call (.Attribute (.Name x p1) "append" p2) [.Constant .none j1 p4] [] p3) none pos.line X.env=pure false:=by rfl) :
  B4 X G fr (.Expr (.Call (.Attribute (.Name x p1) "append" p2) [.Constant .none j1 p4] [] p3) pos::sts) (Ze (Zl5 i) g):=by
 obtain⟨tr,pr,qr⟩:=hr;refine⟨_,XE (ZaJ hv Zky hbase hfew hline hs hsw) pr,λkn jQ H0 σ H ρ s out s' E n ⟨Hf,j⟩ st e po=>?_⟩;obtain⟨o,s2,a1,a2⟩:=Zx e;unfold Zl5 at a1
 cases hb:(ρ[i]?).bind id with
 | none=>rw[hb]at a1;cases a1
 | some c=>
  rw[hb]at a1
  cases c with
  | lst ds=>
   obtain⟨c2,a3⟩:=XA a1;obtain⟨rfl,rfl⟩:=ZJ a3;have ei:=Zft hb;obtain⟨v,h1,h2⟩:=j.fz i _ (by simp) ei;obtain⟨p,us,rfl,np,hp,ru⟩:=jb.mp h2;have hpH:=j.gr.fh p _ np hp;have hn:H0 p=none:=by
    cases e0:H0 p with
    | none=>rfl
    | some u=>
     have e1:=j.gr.hh p u np e0;rw[hpH]at e1;cases e1;have f0:jQ p=none:=by
      cases e2:jQ p with
      | none=>rfl
      | some w=>
       obtain⟨vs,rfl⟩:=n.no p w np e2;have:=j.gr.ff p _ np e2;rw[hp]at this;cases this
     have:=j.gr.nw p np f0 ⟨_,e0,λvs z=>by cases z⟩;rw[hp]at this;cases this
   have nr:¬G.rd p:=λz=>by
    obtain⟨s0,st0⟩:=n.st;obtain⟨o,ho⟩:=G.dom s0 H0 p st0 z;rw[hn]at ho;cases ho
   refine⟨_,h1,.inl ⟨rfl,us,ZT.of hpH⟩,?_⟩;refine⟨p,us,.non,rfl,rfl,hpH,by rw[<-ru.length];exact c2,?_⟩;have out':∀b o,b≠p->H b=some o->Zp H p (.lst (us ++ [.non])) b=some o:=λb o z e=>by rw[Zu z];exact e
   refine qr kn jQ H0 σ _ _ _ out s' E n ⟨λb=>if b=p then none else Hf b,by rw[qf];exact j.len,λb o nb eb=>?_,⟨λb o nb eb=>?_,λb o nb eb=>?_,λb o nb eb=>?_,λb nb q1 q2=>?_⟩,λk d _ ek=>?_,λa d m=>by simp at m,λa b c d e m=>by simp at m⟩ (jy st nr) a2 po
   ·have e1:=n.k b o nb eb
    obtain⟨vs,rfl⟩:=n.no b o nb e1;have e2:=j.kn b _ nb eb;have:b≠p:=λz=>by rw[z,hp]at e2;cases e2
    show(if b=p then none else Hf b)=_;rw[if_neg this];exact e2
   ·have:b≠p:=λz=>by rw[z,hn]at eb;cases eb
    exact out' b o this (j.gr.hh b o nb eb)
   ·have e2:=j.gr.ff b o nb eb
    obtain⟨vs,rfl⟩:=n.no b o nb eb;have:b≠p:=λz=>by rw[z,hp]at e2;cases e2
    show(if b=p then none else Hf b)=_;rw[if_neg this];exact e2
   ·have eb:(if b=p then none else Hf b)=some o:=eb
    split at eb
    ·cases eb
    ·rename_i z;exact out' b o z (j.gr.fh b o nb eb)
   ·show(if b=p then none else Hf b)=none
    split
    ·rfl
    ·exact j.gr.nw b nb q1 q2
   ·obtain⟨e1,nm⟩:=ZgV ek
    obtain⟨v,q1,q2⟩:=j.fz k d (by simp) e1;refine⟨v,q1,Zl.only (λb vs nb eb=>?_) nm q2⟩;have:b≠p:=λz=>by grind
    grind
  | _=>cases a1
noncomputable def Uz (F W:Hp):Hp:=λb=>match F b with | some o=>some o | none=>W b
noncomputable def Vw (W:Hp):Hp:=λb=>match W b with | some (.tup vs)=>some (.tup vs) | _=>none
theorem Ze8 {W:Hp}{b:Addr}{o:HO}(h:Vw W b=some o):W b=some o/\∃vs,o=.tup vs:=by
 unfold Vw at h;split at h
 ·grind
 ·cases h
theorem Zj8 {W:Hp}{b:Addr}(h:W b=none):Vw W b=none:=by unfold Vw;rw[h]
theorem ZiP {kn jQ H0 Hf H F1 H1:Hp}{σ:St}{ρ:Zd}(j:Jf G [] kn jQ H0 σ Hf H ρ)(g1:Gr G (Vw (Y6 jQ H0 H)) H F1 H1) :
  Gr G jQ H0 (Uz F1 (Y6 jQ H0 H)) H1/\ZA G F1 (Uz F1 (Y6 jQ H0 H))/\ZA G (Y6 jQ H0 H) (Uz F1 (Y6 jQ H0 H)):=by
 have a1:ZA G F1 (Uz F1 (Y6 jQ H0 H)):=λb o nb e=>by unfold Uz;rw[e]
 have a2:ZA G (Y6 jQ H0 H) (Uz F1 (Y6 jQ H0 H)):=λb o nb e=>by
  unfold Uz
  cases q:F1 b with
  | none=>exact e
  | some o'=>
   have h1:=g1.fh b o' nb q;rw[g1.hh b o nb (VX b o nb e)]at h1;exact h1.symm
 refine⟨⟨j.gr.hh.trans g1.hh,(j.gr.ff.trans j.wideF).trans a2,λb o nb e=>?_,λb nb q1 q2=>?_⟩,a1,a2⟩
 ·unfold Uz at e
  cases q:F1 b with
  | some o'=>rw[q]at e;cases e;exact g1.fh b _ nb q
  | none=>rw[q]at e;exact g1.hh b o nb (VX b o nb e)
 ·have w:Y6 jQ H0 H b=none:=by unfold Y6;simp_all
  obtain⟨u,e,nt⟩:=q2;have:=g1.nw b nb (Zj8 w) ⟨u,j.gr.hh b u nb e,nt⟩;unfold Uz;simp_all
theorem Zh5 {kn jQ H0 Hf H H1:Hp}{σ σ1:St}{ρ ρ1:Zd}(j:Jf G [] kn jQ H0 σ Hf H ρ)(j1:J G [] (Vw (Y6 jQ H0 H)) (Vw (Y6 jQ H0 H)) H σ1 H1 ρ1):J G [] kn jQ H0 σ1 H1 ρ1:=by
 obtain⟨F1,j1⟩:=j1;obtain⟨a,b,c⟩:=ZiP j j1.gr;exact⟨_,j1.len,(j.kn.trans j.wideF).trans c,a,λk d _ e=>let ⟨v,q1,q2⟩:=j1.fz k d (by simp) e;⟨v,q1,q2.ext b⟩,λa d m=>by simp at m,λa b c d e m=>by simp at m⟩
theorem ZnR (h:B4 X G false sts g):X1 X G [] [] [] false sts (Zl4 g):=by
 obtain⟨t,p,q⟩:=h;refine⟨t,p,λkn jQ H0 σ H ρ s out s' E ⟨Hf,j⟩ st e po=>?_⟩;have e1:ZA G (Vw (Y6 jQ H0 H)) H:=λb o nb eb=>VX b o nb (Ze8 eb).1;refine q (Vw (Y6 jQ H0 H)) (Vw (Y6 jQ H0 H)) H σ H _ s out s' E ⟨.refl _ _,λb o _ eb=>(Ze8 eb).2,s,st⟩ ⟨Vw (Y6 jQ H0 H),by rw[qf];exact j.len,.refl _ _,.refl e1,λk d _ ek=>?_,λa d m=>by simp at m,λa b c d e m=>by simp at m⟩ st e ?_
 ·obtain⟨q1,nm⟩:=ZgV ek
  obtain⟨v,q2,q3⟩:=j.fz k d (by simp) q1;exact⟨v,q2,Zl.only (λb vs nb eb=>by unfold Vw;rw[eb]) nm (q3.ext j.wideF)⟩
 ·cases out with
  | nx ρ1=>exact fun σ1 H1 j1 jV=>po σ1 H1 (Zh5 j j1) jV
  | bk ρ1=>exact fun σ1 H1 j1 jV=>po σ1 H1 (Zh5 j j1) jV
  | ct ρ1=>exact fun σ1 H1 j1 jV=>po σ1 H1 (Zh5 j j1) jV
  | rt d=>
   intro v F1 H1 g1 jV r1 _;obtain⟨a,b,c⟩:=ZiP j g1;exact po v _ H1 a jV (r1.ext b) λz=>by cases z
end
end TF
namespace TF
open L2
noncomputable def ZiQ:=dI (λ_ j=>decide (j≠0)) λi j=>.int (i.fmod j)
theorem Zl6 {X:Cx}{G:Gh}:Y4 X G (binaryOp .Mod) ZiQ:=BI ZmX λi j h=>by simpa using h
end TF
namespace TP2
open L2 TF TP
noncomputable abbrev nD (i:Nat):D:=.int (i:Int)
noncomputable def Zv (k:List Nat):D:=.tup (k.map nD)
noncomputable def Xo (jL:Qa)(i:Nat)(k:List Nat):Bool:=k.all λo=>decide ((o,i)∈jL)
noncomputable def kn (jL:Qa):Nat->List (List Nat)
 | 0=>[[]]
 | i+1=>kn jL i++((kn jL i).filter (Xo jL i)).map (· ++ [i])
theorem V2:∀{i:Nat} {k:List Nat},k∈kn jL i->(∀o∈k,o<i)/\k.length<=i
 | 0,k,h=>by
  have:=by simpa[kn]using h
  subst this;simp
 | i+1,k,h=>by
  rcases zZ.mp h with h | h
  ·have:=V2 h
   exact⟨λo ho=>qaf (this.1 o ho),by omega⟩
  ·obtain⟨q,hq,rfl⟩:=qm.mp h
   have:=V2 (qA.mp hq).1;refine⟨λo ho=>?_,by simp;omega⟩;rcases zZ.mp ho with ho | ho
   ·exact qaf (this.1 o ho)
   ·grind
theorem Zh6 (jL:Qa):∀i,(kn jL i).length<=2 ^ i
 | 0=>by simp[kn]
 | i+1=>by
  have h:=Zh6 jL i;have h2:=ze (Xo jL i) (kn jL i);rw[kn,zC,qf];omega
theorem Zl7 (p:Nat×Nat)(jL:Qa):YR (ZQ p) (.dt (Xa [] jL))=some (.bl (decide (p∈jL))):=by
 have e:Je (ZQ p) (.dt (Xa [] jL))=some (decide (p∈jL)):=by
  show some ((YX (Xa [] jL) (W6 p)).isSome)=_;rw[Zgy];simp[YX]
 unfold YR;rw[e];rfl
theorem Zj9 {α:Type}(l:List α)(p:α->Bool):dAll [.lst (l.map λx=>D.bl (p x))]=some (.bl (l.all p)):=by
 show(Y8 _).map _=_;rw[show l.map (λx=>D.bl (p x))=(l.map p).map D.bl by rw[qw];rfl,ZcQ];simp
theorem ZiR (k:List Nat)(i:Nat)(h:k.length<=1000):Yr (Zv k) (.tup [nD i])=some (Zv (k ++ [i])):=by
 unfold Zv;show(if (k.map nD).length + [nD i].length<=xg then some (D.tup (k.map nD ++ [nD i]))else none)=_;rw[if_pos (by rw[X4];simp;omega),qV];rfl
noncomputable def WR (n:Nat)(jL:Qa)(p:Nat):List Nat:=(qe n).filter λo=>tied jL p o
noncomputable def Wi (n:Nat)(jL:Qa):D:=.lst ((qe n).map λp=>.lst ((WR n jL p).map nD))
theorem ZcW (n:Nat)(jL:Qa)(hn:n<=100000)(s:Pn):F_all_near [Zt n jL] s=some (Wi n jL,s):=by
 refine YL rfl (ZM (XG ?_));have hc:=XX (src:=[none,some 0]) (fi:=Yn (Zc Zh (Za 0) (dC (.int 0)))) (τ:=Zy 0) (ft:=Yo) (fe:=ZD Uq (Zb (Za 1) (Zb (Za 0) Zf))) (ρ:=[some (Zt n jL)]) (λd=>[some d,some (Zt n jL)]) (λ_=>true) (λd=>.lst ((WR n jL (Z7 d)).map nD)) (XU (Zn rfl rfl W7) hn) (Bx hn) λd hd=>by
  obtain⟨i,hi,rfl⟩:=Zat hd;exact⟨rfl,rfl,λ_=>YA (Zk rfl (Zk rfl rfl)) (Znw n jL i s hn)⟩
 rw[JC,dRange0,qw]at hc;exact hc
theorem ZpA (a b:Nat):ZO (nD a) (nD b)=decide (a=b):=by
 show((a:Int)==(b:Int))=_
 grind
theorem ZgW (o:Nat)(l:List Nat):Xx (nD o) (l.map nD)=decide (o∈l):=by
 unfold Xx
 induction l with
 | nil=>simp
 | cons t ts ih=>
  rw[qO,yL,ih,ZpA]
  grind
theorem Zd2 (l:List Nat):YW (l.map nD)=true:=by
 induction l with
 | nil=>rfl
 | cons a l ih=>simp[YW,Zs,ih]
theorem ZiS (l:List Nat):Xh (l.map nD)=0:=by
 induction l with
 | nil=>simp[Xh]
 | cons a l ih=>simp[Xh,ZX,ih]
theorem ZgX (o:Nat)(l:List Nat):YR (nD o) (.lst (l.map nD))=some (.bl (decide (o∈l))):=by
 have h:Xi (nD o) (l.map nD)=true:=by simp[Xi,Zs,Zd2,ZX,ZiS]
 simp only[YR,Je,h,if_true,Option.map,ZgW]
noncomputable def Vb (n:Nat)(jL:Qa)(i:Nat)(k:List Nat):Bool:=k.all λo=>decide (o∈WR n jL i)
theorem ZcX (n:Nat)(jL:Qa)(i:Nat)(hi:i<n)(k:List Nat)(hk:k.length<=1000)(s:Pn):UR [Wi n jL,nD i,Zv k] s=some (.bl (Vb n jL i k),s):=by
 refine YL rfl (ZM (XG ?_));have hx:Zh (Wi n jL) (nD i)=some (.lst ((WR n jL i).map nD)):=by
  refine VF ?_;simp_all
 have hc:=XX (src:=[none,some 0,some 1]) (fi:=Y2 (Za 2)) (τ:=Zy 0) (ft:=Yo) (fe:=Zc YR (Za 0) (Zc Zh (Za 1) (Za 2))) (ρ:=[some (Wi n jL),some (nD i),some (Zv k)]) (s:=s) (λd=>[some d,some (Wi n jL),some (nD i)]) (λ_=>true) (λd=>.bl (decide (Z7 d∈WR n jL i))) (Vg rfl) (by rw[qf,X4];omega) (λd hd=>by
  obtain⟨o,ho,rfl⟩:=qm.mp hd;exact⟨rfl,rfl,λ_=>Zn rfl (Zn rfl rfl hx) (ZgX o _)⟩)
 rw[JC,qw]at hc;exact YB (Zk hc rfl) (Zj9 k λo=>decide (o∈WR n jL i))
theorem ZnS (hi:i<n)(hk:∀o∈k,o<i):Vb n jL i k=Xo jL i k:=by
 unfold Vb Xo;rw[Bool.eq_iff_iff];have e:∀o∈k,(decide (o∈WR n jL i)=true↔decide ((o,i)∈jL)=true):=λo ho=>by
  have h1:=hk o ho;unfold WR;rw[decide_eq_true_eq,qA,JB,Vf h1]
  grind
 simp_all
theorem ZfN (n:Nat)(jL:Qa)(hn:n<=20)(s:Pn):Bm [Wi n jL] s=some (.lst ((kn jL n).map Zv),s):=by
 have p20:∀i,i<=20->2 ^ i<=1048576:=λi hi=>qax (by omega) hi;have jW:∀(r:List (Option D)),ZB Yw (Zb (Za 0) Zf) (some (Wi n jL)::r) s=some (nD n,s):=λr=>YB (Zk rfl rfl) (by show some (D.int (((qe n).map _).length:Nat))=_;rw[qf,qM]);apply jz;refine Ok.runB rfl ?_;refine Ok.seq (.sset (.eq (a:=.lst [.tup []]) (ZiH (Wh rfl (by decide))) ?_));refine Ok.seq (.sfor (λi ρ s'=>s=s'/\∃o2,ρ=[some (Wi n jL),some (.lst ((kn jL i).map Zv)),o2]) (.eq (XU (jW _) (by omega)) ⟨⟨rfl,none,rfl⟩,λi d ρ s' hd hI=>?_,fun ρ' s' hI=>?_⟩))
 ·obtain⟨rfl,o2,rfl⟩:=hI
  obtain⟨hi,rfl⟩:=Zaf hd;refine⟨_,rfl,?_⟩;have hkl:=Zh6 jL i;have hpi:=p20 i (by omega);have Bh:∀k:List Nat,(match Zv k with | .tup ds=>ds.map Z7 | _=>[])=k:=λk=>by
   unfold Zv;show(k.map nD).map Z7=k;rw[qw];exact zJ k
  have hc:=XX (src:=[none,some 2,some 0]) (fi:=Y0 (Za 1)) (τ:=Zy 0) (ft:=Zo (ZD UR (Zb (Za 2) (Zb (Za 1) (Zb (Za 0) Zf))))) (fe:=Zc Yr (Za 0) (Z9 (Zb (Za 1) Zf))) (ρ:=[some (Wi n jL),some (.lst ((kn jL i).map Zv)),some (nD i)]) (s:=s) (ds:=(kn jL i).map Zv) (λd=>[some d,some (nD i),some (Wi n jL)]) (λd=>Xo jL i (match d with | .tup ds=>ds.map Z7 | _=>[])) (λd=>Zv ((match d with | .tup ds=>ds.map Z7 | _=>[]) ++ [i])) (VG rfl) (by rw[qf,X4];omega) (λd hd=>by
   obtain⟨k,hk,rfl⟩:=qm.mp hd;have hkm:=V2 hk;have e:=ZcX n jL i hi k (by omega) s;rw[ZnS hi hkm.1]at e;refine⟨rfl,?_,λ_=>?_⟩
   ·rw[Bh];exact ZW (YA (Zk rfl (Zk rfl (Zk rfl rfl))) e)
   ·rw[Bh];exact Zn (d:=Zv k) (e:=.tup [nD i]) rfl (ZiG rfl) (ZiR k i (by omega)))
  have e2:(((kn jL i).map Zv).filter λd=>Xo jL i (match d with | .tup ds=>ds.map Z7 | _=>[])).map (λd=>Zv ((match d with | .tup ds=>ds.map Z7 | _=>[]) ++ [i]))=(((kn jL i).filter (Xo jL i)).map (· ++ [i])).map Zv:=by
   rw[zQ,qw,qw];have:((λd=>Xo jL i (match d with | .tup ds=>ds.map Z7 | _=>[]))∘Zv)=Xo jL i:=by
    funext k;show Xo jL i (match Zv k with | .tup ds=>ds.map Z7 | _=>[])=_;rw[Bh]
   rw[this];refine qQ λk _=>?_;show Zv ((match Zv k with | .tup ds=>ds.map Z7 | _=>[]) ++ [i])=_;rw[Bh];rfl
  rw[e2]at hc;have hf:((kn jL i).filter (Xo jL i)).length<=(kn jL i).length:=ze _ _;refine Ok.seq (.sset (.eq (Zn (d:=.lst ((kn jL i).map Zv)) (c:=.lst ((kn jL (i+1)).map Zv)) rfl hc ?_) ?_))
  ·show(if _<=xg then some (D.lst _)else none)=_
   rw[if_pos (by simp only[qf,X4];omega),<-qV];rfl
  ·exact .next ⟨_,rfl,rfl,some (nD i),rfl⟩
 ·obtain⟨rfl,o2,rfl⟩:=hI
  rw[WC];exact Ok.seq (.sret (.eq rfl ⟨rfl,rfl⟩))
theorem Zd3:∀{a b:List Nat},a.Pairwise (· < ·)->b.Pairwise (· < ·)->(∀x,x∈a↔x∈b)->a=b
 | [],[],_,_,_=>rfl
 | [],y::b,_,_,h=>absurd ((h y).mpr (by simp)) (by simp)
 | x::a,[],_,_,h=>absurd ((h x).mp (by simp)) (by simp)
 | x::a,y::b,ha,hb,h=>by
  have ha':=zN.mp ha;have hb':=zN.mp hb;have e:x=y:=by
   have h1:=(h x).mp (by simp);have h2:=(h y).mpr (by simp)
   grind
  subst e;rw[Zd3 ha'.2 hb'.2 λz=>?_]
  grind
theorem ZcG {α:Type}(q:α->Bool):∀l:List α,l.length=(l.filter q).length+(l.filter λx=>!q x).length
 | []=>rfl
 | a::l=>by
  have:=ZcG q l
  grind
theorem Ze9 {α:Type}{p:Nat->α->Bool}:∀(B:List Nat) (L:List α),(∀K∈L,∃u∈B,p u K=true)->(∀u∈B,(L.filter (p u)).length<=m)->L.length<=B.length*m
 | [],L,h,_=>by
  cases L with
  | nil=>simp
  | cons K L=>obtain⟨u,hu,_⟩:=h K (by simp);simp at hu
 | u::B,L,h,hm=>by
  have e:=ZcG (p u) L;have h1:=hm u (by simp);have h2:=Ze9 B (L.filter λK=>!p u K) (λK hK=>by
   obtain⟨hL,hn⟩:=qA.mp hK;obtain⟨w,hw,pw⟩:=h K hL;rcases qN.mp hw with rfl | hw
   ·rw[pw]at hn;simp at hn
   ·exact⟨w,hw,pw⟩) (λw hw=>by
   refine qu (qba.length_le ?_) (hm w (qX _ hw));exact qba.filter (p w) (qY))
  rw[qW,Nat.succ_mul];omega
theorem Zl8 (f:Nat->Nat):∀(V:List Nat),V≠[]->∃v∈V,∀u∈V,f u<=f v
 | [],h=>absurd rfl h
 | [x],_=>⟨x,by simp,λu hu=>by simp_all⟩
 | x::y::V,_=>by
  obtain⟨v,hv,h⟩:=Zl8 f (y::V) (by simp)
  grind
structure Full (adj:Nat->Nat->Bool)(V K:List Nat):Prop where
 rise:K.Pairwise (· < ·)
 sub:∀o∈K,o∈V
 tie:∀a∈K,∀b∈K,a≠b->adj a b=true
 full:∀v∈V,¬∀o∈K,adj v o=true
noncomputable def mm:List Nat:=[1,1,2,3,4,6,9,12,18,27,36]
theorem ZnT:∀n≤10,∀d<n,(n-d)*mm.getD d 0<=mm.getD n 0:=by decide
theorem ZiT:∀b≤10,∀a≤b,mm.getD a 0<=mm.getD b 0:=by decide
theorem Zh7 (sy:∀a b,adj a b=adj b a)(ir:∀a,adj a a=false):∀(n:Nat),n<=10->∀(V:List Nat) (L:List (List Nat)),V.length=n->L.Nodup->(∀K∈L,Full adj V K)->L.length<=mm.getD n 0:=by
 intro n
 induction n using qbt with
 | _ n ih=>
  intro hn V L hV nd hL;by_cases h0:V=[]
  ·subst h0
   have hn0:n=0:=by simpa using hV.symm
   subst hn0
   match L,nd,hL with
   | [],_,_=>simp
   | [_],_,_=>simp[mm]
   | a::b::L,nd,hL=>
    exfalso;have e:∀K,Full adj [] K->K=[]:=λK h=>by
     cases K with
     | nil=>rfl
     | cons x K=>exact absurd (h.sub x (by simp)) (by simp)
    have h1:=e a (hL a (by simp));have h2:=e b (hL b (by simp));rw[h1,h2]at nd;simp at nd
  ·obtain⟨v,hv,hmax⟩:=Zl8 (λu=>(V.filter (adj u)).length) V h0
   have hd:(V.filter (adj v)).length<n:=by
    rw[<-hV];refine Nat.lt_of_le_of_ne (ze _ _) λe=>?_;have:=(List.length_filter_eq_length_iff.mp e) v hv;rw[ir]at this;cases this
   have hB:(V.filter λu=>!adj v u).length=n-(V.filter (adj v)).length:=by
    have:=ZcG (adj v) V;omega
   have hc:=Ze9 (p:=λu K=>decide (u∈K)) (m:=mm.getD (V.filter (adj v)).length 0) (V.filter λu=>!adj v u) L (λK hK=>?_) λu hu=>?_
   ·rw[hB]at hc
    exact qu hc (ZnT n hn _ hd)
   ·have F:=hL K hK
    by_cases h:∃o∈K,adj v o=false
    ·obtain⟨o,ho,e⟩:=h
     exact⟨o,qA.mpr ⟨F.sub o ho,by rw[e];rfl⟩,by simpa using ho⟩
    ·exfalso
     refine F.full v hv λo ho=>?_
     cases e:adj v o with
     | true=>rfl
     | false=>exact absurd ⟨o,ho,e⟩ h
   ·have hu':=(qA.mp hu).1
    have hdu:(V.filter (adj u)).length<=(V.filter (adj v)).length:=hmax u hu';have hnd:((L.filter λK=>decide (u∈K)).map λK=>K.filter λo=>decide (o≠u)).Nodup:=by
     refine qaX.mpr ((List.Nodup.sublist (qY (p:=λK=>decide (u∈K)) (l:=L)) nd).imp_of_mem λ{a b} ha hb hab e=>hab ?_);obtain⟨ha1,ha2⟩:=qA.mp ha;obtain⟨hb1,hb2⟩:=qA.mp hb;simp at ha2 hb2;refine Zd3 (hL a ha1).rise (hL b hb1).rise λx=>?_;by_cases hx:x=u
     ·subst hx;exact⟨λ_=>hb2,λ_=>ha2⟩
     ·have q:x∈a.filter (λo=>decide (o≠u))↔x∈b.filter λo=>decide (o≠u):=by rw[e]
      simpa[hx]using q
    have:=ih (V.filter (adj u)).length (by omega) (by omega) (V.filter (adj u)) _ rfl hnd λK hK=>?_
    ·rw[qf]at this
     exact qu this (ZiT _ (by omega) _ hdu)
    ·obtain⟨K0,hK0,rfl⟩:=qm.mp hK
     obtain⟨hK1,hK2⟩:=qA.mp hK0;simp at hK2;have F:=hL K0 hK1;refine⟨F.rise.sublist qY,λo ho=>?_,λa ha b hb=>F.tie a (qA.mp ha).1 b (qA.mp hb).1,λx hx z=>?_⟩
     ·obtain⟨h1,h2⟩:=qA.mp ho
      simp at h2;exact qA.mpr ⟨F.sub o h1,F.tie u hK2 o h1 (qJ h2)⟩
     ·obtain⟨h1,h2⟩:=qA.mp hx
      refine F.full x h1 λo ho=>?_;by_cases ho2:o=u
      ·simp_all
      ·simp_all
noncomputable def RT (jL:Qa)(a b:Nat):Prop:=a<b/\(a,b)∈jL
theorem Us:∀{n:Nat} {k:List Nat},k∈kn jL n↔k.Pairwise (RT jL)/\∀o∈k,o<n
 | 0,k=>by
  constructor
  ·intro h
   have:k=[]:=by simpa[kn]using h
   subst this;exact⟨.nil,by simp⟩
  ·rintro⟨_,h⟩
   cases k with
   | nil=>simp[kn]
   | cons a k=>exact absurd (h a (by simp)) (by omega)
 | n+1,k=>by
  rw[kn,zZ];constructor
  ·rintro(h | h)
   ·have:=Us.mp h
    exact⟨this.1,λo ho=>qaf (this.2 o ho)⟩
   ·obtain⟨q,hq,rfl⟩:=qm.mp h
    obtain⟨hq1,hq2⟩:=qA.mp hq;have:=Us.mp hq1;unfold Xo at hq2;rw[qS]at hq2;refine⟨yd.mpr ⟨this.1,by simp,λa ha b hb=>?_⟩,λo ho=>?_⟩
    ·rw[qaL.mp hb]
     exact⟨this.2 a ha,by simpa using hq2 a ha⟩
    ·rcases zZ.mp ho with ho | ho
     ·exact qaf (this.2 o ho)
     ·rw[qaL.mp ho];omega
  ·rintro⟨h1,h2⟩
   by_cases hn:n∈k
   ·right
    obtain⟨a,b,rfl⟩:=List.append_of_mem hn;have hp:=yd.mp h1;have hb:b=[]:=by
     cases b with
     | nil=>rfl
     | cons y b=>
      have r1:=(zN.mp hp.2.1).1 y (by simp);have:=h2 y (by simp);have:=r1.1;omega
    subst hb;have ha:=λo ho=>hp.2.2 o ho n (by simp);refine qm.mpr ⟨a,qA.mpr ⟨Us.mpr ⟨hp.1,λo ho=>(ha o ho).1⟩,?_⟩,rfl⟩;unfold Xo;rw[qS];exact λo ho=>by simpa using(ha o ho).2
   ·left
    refine Us.mpr ⟨h1,λo ho=>?_⟩
    grind
theorem Zcc (jL:Qa):∀n,(kn jL n).Nodup
 | 0=>by simp[kn]
 | n+1=>by
  refine yd.mpr ⟨Zcc jL n,?_,λa ha b hb e=>?_⟩
  ·refine qaX.mpr (((Zcc jL n).sublist qY).imp λh e=>h ?_)
   simp_all
  ·obtain⟨q,_,rfl⟩:=qm.mp hb
   have:=(V2 ha).1 n (by rw[e];simp);omega
theorem Zdl (h:k∈kn jL n):k.Pairwise (· < ·):=(Us.mp h).1.imp λh=>h.1
theorem JS {k:List Nat}(hr:k.Pairwise (· < ·))(h:k.Pairwise R)(ha:a∈k)(hb:b∈k)(hab:a<b):R a b:=by
 obtain⟨i,hi,rfl⟩:=qbX ha;obtain⟨j,hj,rfl⟩:=qbX hb;have p1:=zb.mp hr;have p2:=zb.mp h;rcases qae i j with z | z | z
 ·simp_all
 ·simp_all
 ·have:=p1 j i hj hi z;omega
noncomputable def UI (p:Nat)(k:List Nat):List Nat:=(k.filter λo=>decide (o<p))++p::(k.filter λo=>decide (p<o))
theorem Zcd (hp:p∉k)(x:Nat):x∈UI p k↔x=p∨x∈k:=by
 unfold UI
 grind
theorem Zka (hk:k.Pairwise (· < ·)):(UI p k).Pairwise (· < ·):=by
 refine yd.mpr ⟨hk.sublist qY,zN.mpr ⟨λb hb=>?_,hk.sublist qY⟩,λa ha b hb=>?_⟩
 ·simp_all
 ·grind
theorem Zkb (hp:p∉k):(UI p k).Perm (k ++ [p]):=by
 unfold UI;have h1:(k.filter λo=>decide (p<o))=k.filter λo=>!decide (o<p):=by
  refine z8 λo ho=>?_
  grind
 rw[h1];refine List.perm_middle.trans ?_;refine List.Perm.trans ?_ (List.perm_append_singleton p k).symm;exact List.Perm.cons p (List.filter_append_perm (λo=>decide (o<p)) k)
theorem ZnU (h:k∈kn jL n)(hp:p∉k)(hn:p<n):UI p k∈kn jL n↔Vb n jL p k=true:=by
 have hk:=Us.mp h;have hr:=Zdl h;have key:Vb n jL p k=true↔∀o∈k,tied jL p o=true:=by
  unfold Vb WR;rw[qS];constructor
  ·intro z o ho
   have:=z o ho;rw[decide_eq_true_eq,qA]at this;exact this.2
  ·intro z o ho
   rw[decide_eq_true_eq,qA,qR];exact⟨hk.2 o ho,z o ho⟩
 rw[key,Us];constructor
 ·rintro⟨h1,_⟩ o ho
  have hop:o≠p:=λz=>hp (z▸ho);have ir:=Zka (p:=p) hr;have mo:=(Zcd hp o).mpr (.inr ho);have mp:=(Zcd hp p).mpr (.inl rfl);by_cases hlt:o<p
  ·rw[JB,Vf hlt]
   simpa using(JS ir h1 mo mp hlt).2
  ·have hlt:p<o:=by omega
   rw[Vf hlt];simpa using(JS ir h1 mp mo hlt).2
 ·intro z
  have zl:∀o∈k,o<p->(o,p)∈jL:=λo ho hlt=>by
   have:=z o ho;rw[JB,Vf hlt]at this;simpa using this
  have zg:∀o∈k,p<o->(p,o)∈jL:=λo ho hlt=>by
   have:=z o ho;rw[Vf hlt]at this;simp_all
  refine⟨?_,λo ho=>?_⟩
  ·refine yd.mpr ⟨hk.1.sublist qY,zN.mpr ⟨λb hb=>?_,hk.1.sublist qY⟩,λa ha b hb=>?_⟩
   ·obtain⟨hb1,hb2⟩:=qA.mp hb
    simp at hb2;exact⟨hb2,zg b hb1 hb2⟩
   ·obtain⟨ha1,ha2⟩:=qA.mp ha
    simp at ha2;rcases qN.mp hb with rfl | hb
    ·exact⟨ha2,zl a ha1 ha2⟩
    ·obtain⟨hb1,hb2⟩:=qA.mp hb
     simp at hb2;exact JS hr hk.1 ha1 hb1 (by omega)
  ·rcases (Zcd hp o).mp ho with rfl | ho
   ·exact hn
   ·simp_all
theorem jB (h:IsWeb n jL)(a:Nat):tied jL a a=false:=by
 unfold tied;rw[decide_eq_false_iff_not];intro z;have h1:=(TP.IsWeb.mem h z).1;omega
noncomputable def JH (n:Nat)(jL:Qa)(k:List Nat):Bool:=!(qe n).any λp=>Vb n jL p k
noncomputable def Xm (n:Nat)(jL:Qa):List (List Nat):=(kn jL n).filter (JH n jL)
theorem ZiU (h:k∈Xm n jL):Full (tied jL) (qe n) k:=by
 obtain⟨h1,h2⟩:=qA.mp h;have hk:=Us.mp h1;refine⟨Zdl h1,λo ho=>qR.mpr (hk.2 o ho),λa ha b hb hab=>?_,λv hv z=>?_⟩
 ·by_cases hlt:a<b
  ·rw[Vf hlt];simpa using(JS (Zdl h1) hk.1 ha hb hlt).2
  ·have hlt:b<a:=by omega
   rw[JB,Vf hlt];simpa using(JS (Zdl h1) hk.1 hb ha hlt).2
 ·unfold JH at h2
  rw[Bool.not_eq_true',qac]at h2;refine h2 v hv ?_;unfold Vb WR;simp_all
theorem ZgY (hw:IsWeb n jL)(hn:n<=10):(Xm n jL).length<=36:=by
 have:=Zh7 (JB jL) (jB hw) n hn (qe n) (Xm n jL) (by simp) ((Zcc jL n).sublist qY) λK hK=>ZiU hK;exact qu this (ZiT 10 (qk _) n hn)
theorem ZnV (h:2<=(Xm n jL).length):∀k∈Xm n jL,k≠[]:=by
 intro k hk e;subst e;have h2:=(qA.mp hk).2;unfold JH at h2;rw[Bool.not_eq_true',qac]at h2
 cases n with
 | zero=>
  have:(Xm 0 jL).length<=(kn jL 0).length:=ze _ _;simp[kn]at this;omega
 | succ n=>exact h2 0 (by simp) (by simp[Vb])
end TP2
namespace TP3
open L2 TF TP TS
open TP2
theorem Zkc {α:Type}(l:List α)(p:α->Bool):dAny [.lst (l.map λx=>D.bl (p x))]=some (.bl (l.any p)):=by
 show(Y8 _).map _=_;rw[show l.map (λx=>D.bl (p x))=(l.map p).map D.bl by rw[qw];rfl,ZcQ];simp
theorem Zh8 (n:Nat)(jL:Qa)(hn:n<=100000)(k:List Nat)(hk:k.length<=1000)(s:Pn):Bp [Wi n jL,Zv k] s=some (.bl (JH n jL k),s):=by
 refine YL rfl (ZM (XG ?_));have jW:ZB Yw (Zb (Za 0) Zf) [some (Wi n jL),some (Zv k)] s=some (nD n,s):=YB (Zk rfl rfl) (by show some (D.int (((qe n).map _).length:Nat))=_;simp);have hc:=XX (src:=[none,some 0,some 1]) (τ:=Zy 0) (ft:=Yo) (fe:=ZD UR (Zb (Za 1) (Zb (Za 0) (Zb (Za 2) Zf)))) (λd=>[some d,some (Wi n jL),some (Zv k)]) (λ_=>true) (λd=>.bl (Vb n jL (Z7 d) k)) (XU jW hn) (Bx hn) (λd hd=>by
  obtain⟨i,hi,rfl⟩:=Zat hd;exact⟨rfl,rfl,λ_=>YA (Zk rfl (Zk rfl (Zk rfl rfl))) (ZcX n jL i hi k hk s)⟩)
 rw[JC,dRange0,qw]at hc;exact ZiD (YB (Zk hc rfl) (Zkc (qe n) λp=>Vb n jL p k))
noncomputable def Wt (k:List Nat):List Int:=k.map λ(x:Nat)=>(x:Int)
theorem Zl9 (k:List Nat):Zv k=Wc (Wt k):=by
 unfold Zv Wc Wt;rw[qw];rfl
theorem Zkd (h:Wt a=Wt b):a=b:=by
 exact(List.map_inj_right (λx y e=>by omega)).mp h
noncomputable def ZgZ (n:Nat)(jL:Qa):List D:=(W2 ((Xm n jL).map Wt)).map Wc
theorem Zke (hw:IsWeb n jL)(hn:n<=10):Zdi [.lst ((Xm n jL).map Zv)]=some (.lst (ZgZ n jL)):=by
 have e:(Xm n jL).map Zv=((Xm n jL).map Wt).map Wc:=by
  rw[qw];exact qQ λk _=>Zl9 k
 show(match V1 ((Xm n jL).map Zv)with | some jY=>if U5 jY then some (D.lst ((W2 jY).map Wc))else none | none=>none)=_;rw[e,ZdT];show(if U5 ((Xm n jL).map Wt)then some (D.lst ((W2 ((Xm n jL).map Wt)).map Wc))else none)=_;have hl:=ZgY hw hn;have ok:U5 ((Xm n jL).map Wt):=by
  refine⟨by grind,?_,λh2 ns hns=>?_⟩
  ·refine qaX.mpr (qbP.imp (λ{a b} h e=>h (Zkd e)) ((Zcc jL n).sublist (qY)))
  ·obtain⟨k,hk,rfl⟩:=qm.mp hns
   rw[qf]at h2;have:=ZnV h2 k hk
   cases k with
   | nil=>simp_all
   | cons a k=>exact λz=>by cases z
 rw[if_pos ok];rfl
theorem Bh (k:List Nat):(match Zv k with | .tup ds=>ds.map Z7 | _=>[])=k:=by
 show(k.map nD).map Z7=k;rw[qw];exact zJ k
theorem Zg0 (l:List (List Nat))(f:List Nat->Bool):(((l.map Zv).filter λd=>f (match d with | .tup ds=>ds.map Z7 | _=>[])).map λd=>d)=(l.filter f).map Zv:=by
 rw[zQ,qw];have:((λd=>f (match d with | .tup ds=>ds.map Z7 | _=>[]))∘Zv)=f:=by
  funext k;show f (match Zv k with | .tup ds=>ds.map Z7 | _=>[])=_;rw[Bh]
 rw[this];rfl
theorem Zg1 (hn:n<=10):(kn jL n).length<=1024:=by
 have:=Zh6 jL n;have:2 ^ n<=2 ^ 10:=qax (by omega) hn;omega
theorem Zez (n:Nat)(jL:Qa)(hw:IsWeb n jL)(hn:n<=10)(s:Pn):F_full_knots [Zt n jL] s=some (.lst (ZgZ n jL),s):=by
 refine YL rfl (Z2 (WN (YA (Zk rfl rfl) (ZcW n jL (by omega) s))) (ZM (XG ?_)));have hkn:=Zg1 (jL:=jL) hn;have hc:=XX (src:=[none,some 1]) (fi:=Y0 (ZD Bm (Zb (Za 1) Zf))) (τ:=Zy 0) (ft:=Zo (ZD Bp (Zb (Za 1) (Zb (Za 0) Zf)))) (fe:=Za 0) (ρ:=[some (Zt n jL),some (Wi n jL)]) (λd=>[some d,some (Wi n jL)]) (λd=>JH n jL (match d with | .tup ds=>ds.map Z7 | _=>[])) (λd=>d) (VG (YA (Zk rfl rfl) (ZfN n jL (by omega) s))) (by rw[qf,X4];omega) (λd hd=>by
  obtain⟨k,hk,rfl⟩:=qm.mp hd;have hkm:=V2 hk;refine⟨rfl,?_,λ_=>rfl⟩;rw[Bh];exact ZW (YA (Zk rfl (Zk rfl rfl)) (Zh8 n jL (by omega) k (by omega) s)))
 rw[Zg0]at hc;exact YB (Zk hc rfl) (Zke hw hn)
theorem By:k∈kn jL n↔k.Pairwise (· < ·)/\(∀o∈k,o<n)/\∀a∈k,∀b∈k,a≠b->tied jL a b=true:=by
 rw[Us];constructor
 ·rintro⟨h1,h2⟩
  have hr:=h1.imp λh=>h.1;refine⟨hr,h2,λa ha b hb hab=>?_⟩;by_cases hlt:a<b
  ·rw[Vf hlt];simpa using(JS hr h1 ha hb hlt).2
  ·have hlt:b<a:=by omega
   rw[JB,Vf hlt];simpa using(JS hr h1 hb ha hlt).2
 ·rintro⟨hr,h2,h3⟩
  refine⟨?_,h2⟩;refine qbP.imp_of_mem (λ{a b} ha hb hab=>?_) hr;refine⟨hab,?_⟩;have:=h3 a ha b hb (by omega);rw[Vf hab]at this;simp_all
section
variable {m n:Nat}{f:Nat->Nat}{tm tn:Qa}
theorem ZnW:Vb n jL p k=true↔∀o∈k,o<n/\tied jL p o=true:=by
 unfold Vb WR;simp
end
theorem Zce (jL:Qa)(a b:Nat)(s:Pn):WM [.dt (Xa [] jL),.int a,.int b] s=some (.bl (tied jL a b),s):=by
 simp[WM,ZbG,runB,Ze,Zz,Zc,ZB,Zb,Zf,Z9,Za,Zm,ZH,YV,J0,BJ,two_le,ZbH,Zl7,tied]
theorem ZiV {as:List Nat}(hj:j<as.length):Xu (as.map nD) (j:Int)=some (nD (as.getD j 0)):=by
 refine VF ?_;simp_all
theorem ZnX (h:Zs d=true)(hd:ZX d<=60):Y3 d d=some (.bl false):=by
 unfold Y3 Jd;rw[if_pos (by simp[h,hd]),ZdH d h];rfl
theorem Zg2:∀{ds:List D},(∀d∈ds,Zs d=true)->YW ds=true
 | [],_=>by rfl
 | d::ds,h=>by
  simp only[YW,qB];exact⟨h d (by simp),Zg2 λd hd=>h d (by simp[hd])⟩
theorem Zg3 (o:Nat)(l:List Nat):U4 (nD o) (.lst (l.map nD))=some (.bl (!decide (o∈l))):=by
 have h:=ZgX o l;unfold YR at h;unfold U4;simp_all
section
variable (ap:Nat->Nat->Bool)
end
section
variable {ap:Nat->Nat->Bool}
end
section
variable {n:Nat}{A:Nat->List Nat}{ap:Nat->Nat->Bool}
theorem ZpB (a b:Nat):Y3 (nD a) (nD b)=some (.bl (!decide (a=b))):=by
 rw[B1];congr 3
 grind
end
noncomputable def Wj (n:Nat)(jL:Qa):Qa:=(Wv n).filter λp=>!decide (p∈jL)
theorem Zbs (n:Nat)(jL:Qa):IsWeb n (Wj n jL):=IsWeb.filter _
theorem Zma:tied jL a b=true↔(min a b,max a b)∈jL:=by unfold tied;simp
theorem Zfa:tied (Wj n jL) a b=true↔a<n/\b<n/\a≠b/\tied jL a b=false:=by
 rw[Zma];unfold Wj;rw[qA,Za5];have e:tied jL a b=decide ((min a b,max a b)∈jL):=rfl;rw[e]
 grind
noncomputable def Jo:D->List Nat
 | .tup ds=>ds.map Z7
 | .lst ds=>ds.map Z7
 | _=>[]
theorem Zd4 (k:List Nat):Jo (Zv k)=k:=by
 show(k.map nD).map Z7=k;rw[qw];exact zJ k
noncomputable def Bi (ns:List Int):List Nat:=ns.map Int.toNat
theorem Zg4 (k:List Nat):Bi (Wt k)=k:=by
 unfold Bi Wt;rw[qw];exact List.map_id' k
noncomputable def BQ (n:Nat)(jL:Qa):List (List Nat):=(W2 ((Xm n jL).map Wt)).map Bi
theorem Zd5 (n:Nat)(jL:Qa):(BQ n jL).Perm (Xm n jL):=by
 have h:=(ZbI ((Xm n jL).map Wt)).map Bi;rw[qw]at h;have e:(Xm n jL).map (Bi∘Wt)=Xm n jL:=by
  have:Bi∘Wt=id:=funext Zg4;simp_all
 rw[e]at h;exact h
theorem ZnY (n:Nat)(jL:Qa):ZgZ n jL=(BQ n jL).map Zv:=by
 unfold ZgZ BQ;rw[qw];refine qQ λns hns=>?_;obtain⟨K,hK,rfl⟩:=qm.mp ((ZbI _).mem_iff.mp hns);show _=Zv (Bi (Wt K));rw[Zg4,Zl9]
theorem ZcH:k∈BQ n jL↔k∈Xm n jL:=(Zd5 n jL).mem_iff
theorem Zkf (hw:IsWeb n jL)(hn:n<=10):(BQ n jL).length<=36:=by
 rw[(Zd5 n jL).length_eq];exact ZgY hw hn
theorem ZiW (h:k∈Xm n jL):k∈kn jL n:=(qA.mp h).1
theorem ZfO (hw:IsWeb n jL):∀(j:Nat) (k:List Nat),n-k.length=j->k∈kn jL n->∃F∈Xm n jL,∀x∈k,x∈F:=by
 intro j
 induction j using qbt with
 | _ j ih=>
  intro k hj hk;by_cases hf:JH n jL k=true
  ·exact⟨k,qA.mpr ⟨hk,hf⟩,λx hx=>hx⟩
  ·have hf:=by simpa using hf
   unfold JH at hf;rw[Bool.not_eq_false',List.any_eq_true]at hf;obtain⟨p,hp,ok⟩:=hf;have hpn:=qR.mp hp;have hpk:p∉k:=λz=>by
    have:=(ZnW.mp ok p z).2;rw[jB hw]at this;cases this
   have h2:=(ZnU hk hpk hpn).mpr ok;have hl:(UI p k).length=k.length+1:=by rw[(Zkb hpk).length_eq];simp
   have hle:=(V2 h2).2;obtain⟨F,hF,hs⟩:=ih (n-(UI p k).length) (by omega) (UI p k) rfl h2;exact⟨F,hF,λx hx=>hs x ((Zcd hpk x).mpr (.inr hx))⟩
theorem Zmb (hw:IsWeb n jL)(hk:k∈Xm n jL)(hF:F∈kn jL n)(hs:∀x∈k,x∈F):k=F:=by
 have h1:=By.mp (ZiW hk);have h2:=By.mp hF;refine Zd3 h1.1 h2.1 λx=>⟨hs x,λhx=>?_⟩;by_cases m:x∈k
 ·exact m
 ·refine absurd ?_ ((ZiU hk).full x (qR.mpr (h2.2.1 x hx)))
  intro o ho;exact h2.2.2 x hx o (hs o ho) λz=>m (z▸ho)
theorem ZpC (p:Nat×Nat)(jL:Qa):YR (ZQ p) (.du (Xa [] jL))=some (.bl (decide (p∈jL))):=Zl7 p jL
theorem ZiX:∀{i n:Nat},i<=n->(kn jL i).length<=(kn jL n).length:=λ{i n} h=>by
 induction n with
 | zero=>simp_all
 | succ n ih=>
  by_cases e:i=n+1
  ·rw[e];simp
  ·rw[kn,zC];omega
theorem ZnZ (h1:fv ρ s=some (v,s))(h2:fx ρ s=some (x,s))(h3:(ρ[i]?).bind id=some (.du kvs))(h4:keyT x=some key)(h5:Ux v=some w)(hl:kvs.length<xg) :
  ZgM i fx fv ρ s=some (.nx (ρ.set i (some (.du (Y5 kvs key w)))),s):=by
 unfold ZgM Zm;rw[h1];simp;rw[h2];simp;rw[h3];rw[h4,h5];simp;rw[if_pos hl];rfl
theorem Zn0 (jL:Qa):∀ke:List (List Yc×V),(Xa ke jL).length<=ke.length+jL.length:=by
 induction jL with
 | nil=>intro ke;exact qk _
 | cons t r ih=>
  intro ke;have h2:=Bl ke (W6 t) (.bl true);show(Xa (Y5 ke (W6 t) (.bl true)) r).length<=_
  grind
theorem Zmc (jL:Qa)(t:Nat×Nat):Xa [] (jL ++ [t])=Y5 (Xa [] jL) (W6 t) (.bl true):=by
 unfold Xa;simp
theorem ZfP (l:List Bool):U4 (.bl false) (.lst (l.map D.bl))=some (.bl (l.all id)):=by
 have hp:YW (l.map D.bl)=true:=Zg2 λd hd=>by obtain⟨a,_,rfl⟩:=qm.mp hd;rfl
 have hd:Xh (l.map D.bl)<=0:=Zdg _ λd hd=>by obtain⟨a,_,rfl⟩:=qm.mp hd;simp[ZX]
 have ok:Xi (.bl false) (l.map D.bl)=true:=by
  unfold Xi;simp[Zs,hp,ZX];omega
 have hi:Xx (.bl false) (l.map D.bl)=!l.all id:=by
  clear hp hd ok;unfold Xx
  induction l with
  | nil=>rfl
  | cons b r ih=>
   rw[qO,yL,ih]
   cases b <;> simp[ZO]
 show((if Xi (.bl false) (l.map D.bl)=true then some (Xx (.bl false) (l.map D.bl))else none).map λb=>D.bl (!b))=_;simp_all
theorem ZfQ (n:Nat)(jL:Qa)(hn:n<=1000)(hk:(kn jL n).length<=1000000)(hl:jL.length<=100000)(s:Pn):Bk [Zt n jL] s=some (.lst ((kn jL n).map Zv),s):=by
 apply jz;refine Ok.runB rfl ?_;refine Ok.seq (.sown (.eq (a:=.du []) rfl ⟨rfl,?_⟩));refine Ok.seq (.sfor (λi ρ s'=>s=s'/\∃o2,ρ=[some (Zt n jL),some (.du (Xa [] (jL.take i))),o2,none,none,none,none]) (.eq (a:=jL.map ZQ) (s':=s) (Vg (Zn (d:=Zt n jL) (e:=.int 1) rfl rfl web1)) ⟨⟨rfl,none,rfl⟩,λi d ρ s' hd hI=>?_,fun ρ' s' hI=>?_⟩))
 ·obtain⟨rfl,o2,rfl⟩:=hI
  rw[qI]at hd;obtain⟨t,ht,rfl⟩:=qaj.mp hd;refine⟨_,rfl,?_⟩;have jW:=Zn0 (jL.take i) [];have htl:(jL.take i).length<=jL.length:=(qad _ _).length_le;refine Ok.seq (.eq (ZnZ (x:=ZQ t) (v:=.bl true) (kvs:=Xa [] (jL.take i)) (key:=W6 t) (w:=.bl true) rfl rfl rfl rfl rfl (by rw[X4];simp at jW;omega)) (.next ⟨_,rfl,rfl,some (ZQ t),?_⟩));have et:jL.take (i+1)=jL.take i ++ [t]:=by rw[List.take_succ,ht];rfl
  rw[et,Zmc];rfl
 obtain⟨rfl,o2,rfl⟩:=hI;rw[qf,List.take_length];refine Ok.seq (.sset (.eq (a:=.lst [.tup []]) (ZiH (Wh rfl (by decide))) ?_));refine Ok.seq (.sfor (λi ρ s'=>s=s'/\∃o4 o5 o6,ρ=[some (Zt n jL),some (.du (Xa [] jL)),o2,some (.lst ((kn jL i).map Zv)),o4,o5,o6]) (.eq (XU (Zn (d:=Zt n jL) (e:=.int 0) rfl rfl W7) (by omega)) ⟨⟨rfl,none,none,none,rfl⟩,λi d ρ s' hd hI=>?_,fun ρ' s' hI=>?_⟩))
 ·obtain⟨rfl,o4,o5,o6,rfl⟩:=hI
  obtain⟨hi,rfl⟩:=Zaf hd;refine⟨_,rfl,?_⟩;have hkl:(kn jL i).length<=1000000:=qu (ZiX (by omega)) hk;refine Ok.seq (.sown (.eq (a:=.lst []) (BD rfl (zv _)) ⟨rfl,?_⟩));refine Ok.seq (.sfor (λj ρ s'=>s=s'/\∃o6,ρ=[some (Zt n jL),some (.du (Xa [] jL)),o2,some (.lst ((kn jL i).map Zv)),some (nD i),some (.lst (((((kn jL i).take j).filter (Xo jL i)).map (· ++ [i])).map Zv)),o6]) (.eq (a:=(kn jL i).map Zv) (s':=s) (VG rfl) ⟨⟨rfl,o6,by simp⟩,λj d ρ s' hd hJ=>?_,fun ρ' s' hJ=>?_⟩))
  ·obtain⟨rfl,o6,rfl⟩:=hJ
   rw[qI]at hd;obtain⟨k,hk2,rfl⟩:=qaj.mp hd;have hkm:=V2 (zF hk2);refine⟨_,rfl,?_⟩;generalize hC:D.lst (((((kn jL i).take j).filter (Xo jL i)).map (· ++ [i])).map Zv)=C;have hc:=XX (src:=[none,some 4,some 1]) (fi:=Y2 (Za 6)) (τ:=Zy 0) (ft:=Yo) (fe:=Zc YR (Z9 (Zb (Za 0) (Zb (Za 1) Zf))) (Za 2)) (ρ:=[some (Zt n jL),some (.du (Xa [] jL)),o2,some (.lst ((kn jL i).map Zv)),some (nD i),some C,some (Zv k)]) (s:=s) (ds:=k.map nD) (λd=>[some d,some (nD i),some (.du (Xa [] jL))]) (λ_=>true) (λd=>.bl (decide ((Z7 d,i)∈jL))) (Vg rfl) (by rw[qf,X4];omega) (λd hd=>by
    obtain⟨o,ho,rfl⟩:=qm.mp hd;exact⟨rfl,rfl,λ_=>Zn (d:=ZQ (o,i)) (ZnC rfl rfl) rfl (ZpC (o,i) jL)⟩)
   rw[JC]at hc;have e0:(k.map nD).map (λd=>D.bl (decide ((Z7 d,i)∈jL)))=(k.map λo=>decide ((o,i)∈jL)).map D.bl:=by rw[qw,qw];rfl
   rw[e0]at hc;have ha:U4 (.bl false) (.lst ((k.map λo=>decide ((o,i)∈jL)).map D.bl))=some (.bl (Xo jL i k)):=by
    rw[ZfP,y4];rfl
   have et:(kn jL i).take (j+1)=(kn jL i).take j ++ [k]:=by rw[List.take_succ,hk2];rfl
   refine Ok.seq (.sif (.eq (ZW (Zn (d:=.bl false) rfl hc ha)) ?_));subst hC
   cases ok:Xo jL i k with
   | true=>
    have hf:(((kn jL i).take j).filter (Xo jL i)).length<=(kn jL i).length:=qu (ze _ _) (qad _ _).length_le;refine .seq (.sapp (ds:=((((kn jL i).take j).filter (Xo jL i)).map (· ++ [i])).map Zv) rfl (by rw[qf,qf,X4];omega) (.eq (Zn (d:=Zv k) (e:=.tup [nD i]) rfl (ZiG rfl) (ZiR k i (by omega))) ?_));refine .next (.next ⟨_,rfl,rfl,some (Zv k),?_⟩);have e:((((kn jL i).take (j+1)).filter (Xo jL i)).map (· ++ [i])).map Zv=((((kn jL i).take j).filter (Xo jL i)).map (· ++ [i])).map Zv ++ [Zv (k ++ [i])]:=by
     rw[et,y9,List.filter_cons_of_pos ok,List.filter_nil];simp only[qV,qO,qbf]
    rw[e];rfl
   | false=>
    refine .next (.next ⟨_,rfl,rfl,some (Zv k),?_⟩);rw[et,y9,List.filter_cons_of_neg (by simp[ok]),List.filter_nil,zq];rfl
  ·obtain⟨rfl,o6',rfl⟩:=hJ
   rw[qf,List.take_length];have hl2:(kn jL (i+1)).length<=1000000:=qu (ZiX (by omega)) hk;rw[kn,zC,qf]at hl2;refine Ok.seq (.sset (.eq (Zn (d:=.lst ((kn jL i).map Zv)) (e:=.lst ((((kn jL i).filter (Xo jL i)).map (· ++ [i])).map Zv)) (c:=.lst ((kn jL (i+1)).map Zv)) rfl rfl ?_) (.next ⟨_,rfl,rfl,_,_,_,rfl⟩)));show(if ((kn jL i).map Zv).length+((((kn jL i).filter (Xo jL i)).map (· ++ [i])).map Zv).length<=xg then some (D.lst (_++_))else none)=_;rw[if_pos (by rw[qf,qf,qf,X4];omega),kn,qV]
 ·obtain⟨rfl,o4,o5,o6,rfl⟩:=hI
  rw[WC];exact Ok.seq (.sret (.eq rfl ⟨rfl,rfl⟩))
theorem Zkg (ps:List Nat)(k:Nat)(hk:k<=ps.length):Jh (ps.map nD) none (some (k:Int))=(ps.take k).map nD:=by
 unfold Jh;have e1:HT.sIx (ps.map nD).length 0 none=0:=rfl;have e2:HT.sIx (ps.map nD).length (ps.map nD).length (some (k:Int))=k:=by
  unfold HT.sIx
  grind
 simp_all
section
variable (jL:Qa)
end
section
variable {jL:Qa}{many:Nat}
end
theorem UW (I:Zd->Prop)(b:D->Bool):∀(ds:List D) (ρ:Zd),I ρ->
  (∀d∈ds,∀ρ,I ρ->∃ρ1,τ d ρ=some ρ1/\(b d=true->∃ρ2,body ρ1 s=some (.nx ρ2,s)/\I ρ2)/\(b d=false->body ρ1 s=some (.rt (.bl false),s)))->
  (ds.all b=true->∃ρ',Wu τ body ds ρ s=some (.nx ρ',s)/\I ρ')/\(ds.all b=false->Wu τ body ds ρ s=some (.rt (.bl false),s))
 | [],ρ,h0,_=>⟨λ_=>⟨ρ,rfl,h0⟩,λh=>by simp at h⟩
 | d::ds,ρ,h0,h=>by
  obtain⟨ρ1,e1,ht,hf⟩:=h d (by simp) ρ h0;rw[yM]
  cases hb:b d with
  | false=>
   refine⟨λz=>?_,λ_=>ZaR e1 (hf hb)⟩
   grind
  | true=>
   obtain⟨ρ2,e2,h2⟩:=ht hb;obtain⟨r1,r2⟩:=UW I b ds ρ2 h2 λx hx=>h x (by simp[hx]);refine⟨λz=>?_,λz=>Bj e1 e2 (r2 z)⟩;obtain⟨ρ',e3,h3⟩:=r1 z;exact⟨ρ',Bj e1 e2 e3,h3⟩
theorem ZbN:∀{ds:List D},ds.all (VJ n)=true->∃as:List Nat,ds=as.map nD
 | [],_=>⟨[],rfl⟩
 | d::ds,h=>by
  rw[yM,qB]at h;obtain⟨i,rfl⟩:=ZjR h.1;have h0:=by
   have:=h.1;simp only[VJ,qB,decide_eq_true_eq]at this;exact this.1
  obtain⟨a,rfl⟩:=qbl h0;obtain⟨as,rfl⟩:=ZbN h.2;exact⟨a::as,rfl⟩
end TP3
namespace TQ
open L2 TF TS
open TP
open TP2
open TP3
theorem ZpD (h1:(ρ[i]?).bind id=some (.clo t cds))(h2:fs ρ s=some (ds,s1))(h3:T t (ds++cds) s1=r):dApp T i fs ρ s=r:=by
 unfold dApp Zm Za YV;simp_all
theorem ZpE (h1:f ρ s=some (d,s1))(h2:BL ρ cix=some cds)(n1:ZY d=true)(n2:Yh cds=true)(h3:F [d,.clo t cds] s1=some (c,s2))(n3:ZY c=true):dFnC F t cix f ρ s=some (c,s2):=by
 unfold dFnC Zm YV;rw[h1,h2];simp only;rw[if_pos (by simp_all),h3];simp;rw[if_pos n3];rfl
theorem ZcI:∀{ds:List D},(∀d∈ds,ZY d=true)->Yh ds=true
 | [],_=>rfl
 | d::ds,h=>by
  show(ZY d&&Yh ds)=true;rw[h d List.mem_cons_self,ZcI λx (hx:x∈ds)=>h x (qX _ hx)];rfl
theorem Zn1 (hl:ds.length=n)(h:f (ds.map some) s=r):UG n f ds s=r:=by
 unfold UG;simp_all
theorem Zkh (n:Nat)(jL:Qa):ZY (Zt n jL)=true:=by
 have:Yh (jL.map ZQ)=true:=ZcI λd hd=>by obtain⟨p,_,rfl⟩:=qm.mp hd;rfl
 simp only[Zt,ZY,Yh,this];rfl
theorem ZfR (lo:Int)(n:Nat):Yh (Ye lo n)=true:=ZcI λd hd=>by
 obtain⟨i,_,rfl⟩:=qm.mp hd;rfl
theorem ZfS (h:BW row ds)(hn:ds.length<=1000)(b:Nat×Nat->Bool)(s:Pn)(hb:∀p∈Wv ds.length,Tl t ([ds.getD p.1 .non,ds.getD p.2 .non]++cds) s=some (.bl (b p),s)):Zag [row,.clo t cds] s=some (Zt ds.length ((Wv ds.length).filter b),s):=by
 have hln:∀r,ZB Yw (Zb (Za 0) Zf) (some row::r) s=some (nD ds.length,s):=λr=>YB (Zk rfl rfl) h.len;refine YL rfl (Z2 (WN (YA (Zk (Zb3 (hln _) hn) rfl) (ZgA s hn))) (ZM (XG ?_)));have hap:=Zlm ds.length hn;have hc:=XX (src:=[none,some 1,some 0]) (fi:=Y0 (Za 2)) (τ:=Zy 0) (ft:=Zo (dApp Tl 1 (Zb (Zc Zh (Za 2) (Zc Zh (Za 0) (dC (.int 0)))) (Zb (Zc Zh (Za 2) (Zc Zh (Za 0) (dC (.int 1)))) Zf)))) (fe:=Za 0) (ρ:=[some row,some (.clo t cds),some (.lst ((Wv ds.length).map ZQ))]) (λd=>[some d,some (.clo t cds),some row]) (λd=>b (nat2 d)) (λd=>d) (VG rfl) (by rw[qf,X4];omega) λd hd=>by
  obtain⟨p,hpm,rfl⟩:=qm.mp hd;have hpp:=Za5.mp hpm;refine⟨rfl,ZW (ZpD rfl (Zk (Zn rfl (Zn rfl rfl (V6 _ _)) (h.ix (by omega))) (Zk (Zn rfl (Zn rfl rfl (V7 _ _ _)) (h.ix (by omega))) rfl)) (hb p hpm)),λ_=>rfl⟩
 rw[ZfA (Wv ds.length) _ b λp=>by rfl]at hc;exact Wh (Zk (hln _) (Zk (YB (Zk hc rfl) rfl) rfl)) two_le
theorem range_getD (h:i<n):(Ye 0 n).getD i .non=nD i:=by
 rw[dRange0];simp[h]
theorem Zh9 (n:Nat)(jL:Qa)(s:Pn)(hn:n<=1000)(hl:jL.length<=100000):Bt [Zt n jL] s=some (Zt n ((Wv n).filter λp=>!decide (p∈jL)),s):=by
 refine YL rfl (Z2 (WN (YA (Zk rfl rfl) (ZeZ n jL s hl))) (ZM (XG ?_)));refine ZpE (Zb3 (Zn rfl rfl W7) hn) rfl ((ZfR _ _)) rfl ?_ (Zkh _ _);have:=ZfS (row:=.lst (Ye 0 n)) (t:=0) (.inl rfl) (by rw[WC];exact hn) (λp=>!decide (p∈jL)) s (λp hp=>by
  rw[WC]at hp;have hpp:=Za5.mp hp;rw[range_getD (by omega),range_getD (by omega)];show Zb6 [nD p.1,nD p.2,.dt (Xa [] jL)] s=_;refine Zn1 rfl ?_;refine ZiD (YA (Zk rfl (Zk rfl (Zk rfl rfl))) ?_);rw[Zce,Vf hpp.1])
 rw[WC]at this;exact this
end TQ
namespace TQ
open L2 TF TS
open TP
open TP2 hiding g_all_near F_all_near
open TP3 hiding g_full_knots F_full_knots
noncomputable abbrev B5 (n:Nat)(jL:Qa):D:=.tup [nD n,.dt (Xa [] jL)]
theorem mk0:Zh (B5 n jL) (.int 0)=some (nD n):=V6 _ _
theorem mk1:Zh (B5 n jL) (.int 1)=some (.dt (Xa [] jL)):=V7 _ _ _
theorem Zmd (n:Nat)(jL:Qa)(p:Nat)(s:Pn)(hn:n<=100000):Uq [B5 n jL,.int p] s=some (.lst ((WR n jL p).map nD),s):=by
 refine YL rfl (ZM (XG ?_));unfold WR;rw[<-ZcV];refine XX (λd=>[some d,some (B5 n jL),some (.int p)]) (λd=>tied jL p (Z7 d)) (λd=>d) (XU (Zn rfl rfl mk0) hn) (Bx hn) ?_;intro d hd;obtain⟨i,hi,rfl⟩:=Zat hd;exact⟨rfl,ZW (YA (Zk (Zn rfl rfl mk1) (Zk rfl (Zk rfl rfl))) (Zce jL p i s)),λ_=>rfl⟩
noncomputable def gN:Zd->M Out:=(Ze (Ya 1 (Z9 (Zb (Zc Zh (Za 0) (dC (.int 0))) (Zb (ZD Ju (Zb (Za 0) Zf)) Zf))))
 (Ze (Zz (Z3 [none,some 1] (Yn (Zc Zh (Za 0) (dC (.int 0)))) (Zy 0) Yo (ZD Uq (Zb (Za 1) (Zb (Za 0) Zf)))))
 Zg))
theorem ZfT (n:Nat)(jL:Qa)(hn:n<=1000)(hl:jL.length<=100000)(s:Pn):runB 2 1 gN [Zt n jL] s=some (Wi n jL,s):=by
 refine YL rfl (Z2 (WN (Wh (Zk (Zn rfl rfl W7) (Zk (YA (Zk rfl rfl) (ZeZ n jL s hl)) rfl)) two_le)) (ZM (XG ?_)));have hc:=XX (src:=[none,some 1]) (fi:=Yn (Zc Zh (Za 0) (dC (.int 0)))) (τ:=Zy 0) (ft:=Yo) (fe:=ZD Uq (Zb (Za 1) (Zb (Za 0) Zf))) (ρ:=[some (Zt n jL),some (B5 n jL)]) (λd=>[some d,some (B5 n jL)]) (λ_=>true) (λd=>.lst ((WR n jL (Z7 d)).map nD)) (XU (Zn rfl rfl W7) (by omega)) (Bx (by omega)) λd hd=>by
  obtain⟨i,hi,rfl⟩:=Zat hd;exact⟨rfl,rfl,λ_=>YA (Zk rfl (Zk rfl rfl)) (Zmd n jL i s (by omega))⟩
 rw[JC,dRange0,qw]at hc;exact hc
theorem Zia {g:Zd->M Out}(h:g (ds.map some++qp (n-k) none) s=g' (ds.map some++qp (n-k) none) s):runB n k g ds s=runB n k g' ds s:=by
 unfold runB;split
 ·unfold Zm;rw[h]
 ·rfl
end TQ
namespace TQ
open L2 TF TS
open TP
open TP2
open TP3
section
variable (ap:Nat->Nat->Bool)
end
section
variable {ap:Nat->Nat->Bool}
end
section
variable {n:Nat}{A:Nat->List Nat}{ap:Nat->Nat->Bool}
end
end TQ
namespace TP3
open L2 TF TP TS
open TP2
section
variable {n:Nat}{jL:Qa}
end
end TP3
namespace TQ
open L2 TF TS
open TP
open TP2 hiding g_all_near F_all_near
open TP3 hiding g_full_knots F_full_knots
theorem Zqs (n:Nat)(jL:Qa)(hn:n<=1000)(hl:jL.length<=100000)(s:Pn):F_all_near [Zt n jL] s=some (Wi n jL,s):=ZfT n jL hn hl s
theorem Zme (n:Nat)(jL:Qa)(hw:IsWeb n jL)(hn:n<=10)(s:Pn):F_full_knots [Zt n jL] s=some (.lst (ZgZ n jL),s):=by
 have hl:=hw.len (show n<=24 by omega);rw[<-Zez n jL hw hn s];refine Zia ?_;exact(Z2 (WN (YA (Zk rfl rfl) (Zqs n jL (by omega) (by omega) s))) rfl).trans (Z2 (WN (YA (Zk rfl rfl) (ZcW n jL (by omega) s))) rfl).symm
section
variable {jL:Qa}{ws:List Wb}
end
section
variable {n m:Nat}{t1 t2 T:Qa}
end
section
variable {jL:Qa}
variable {n:Nat}{ps:List Nat}
end
end TQ
namespace TF
open L2
section
variable {X:Cx}{G:Gh}{f:Zd->M D}
noncomputable def ZiY (f:Zd->M D):Zd->M (List D):=fun ρ=>Zm (f ρ) λd=>match d with | .lst ds=>ZH ds | .tup ds=>ZH ds | _=>ZP
theorem Zmf (hl:PD X G r1 l f):Xw X G tg l (ZiY f):=by
 obtain⟨t1,p1,q1⟩:=VE hl;obtain⟨t2,p2,q2⟩:=VZ hl;refine⟨fun σ H R=>t1 σ H R∨t2 σ H R,λjM s σ H R I h=>h.elim (p1 jM s σ H R I) (p2 jM s σ H R I),fun σ Hf H ρ s ds s' R e1 e2 e3 e4 k=>?_⟩;obtain⟨d,s1,a1,a2⟩:=Zx e4
 cases d with
 | lst es=>exact .inl (q1 σ Hf H ρ s ds s' R e1 e2 e3 (by show Zm (f ρ) _ s=_;unfold Zm;rw[a1];exact a2) k)
 | tup es=>exact .inr (q2 σ Hf H ρ s ds s' R e1 e2 e3 (by show Zm (f ρ) _ s=_;unfold Zm;rw[a1];exact a2) k)
 | _=>cases a2
end
end TF
namespace TQ
open L2 TF TS
open TP
open TP2 hiding g_all_near F_all_near
open TP3 hiding g_full_knots F_full_knots
section
variable (ap:Nat->Nat->Bool)(W:List Nat)
end
section
variable {ap:Nat->Nat->Bool}{W:List Nat}
end
section
variable {n:Nat}{A:Nat->List Nat}{ap:Nat->Nat->Bool}
end
end TQ
namespace TF
open L2
section
variable {X:Cx}{G:Gh}
end
end TF
namespace TQ
open L2 TF TQ
open TP
open TP2 hiding g_all_near F_all_near
open TP3 hiding g_full_knots F_full_knots
noncomputable def g__law_is_apart:Zd->M Out:=(Ze (ZU (Yi (Yg (Zo (ZB Ys (Zb (Za 1) (Zb (dC (.ty "tuple")) Zf))))) (Zo (Zc YD (Za 1) (Z9 Zf))))
 (Ze (Zz (dC (.bl false)))
 Zg)
 Zg)
 (Ze (Yv (Y2 (Za 1)) (Zy 2)
 (Ze (ZU (Yi (Yg (Zo (ZB Ys (Zb (Za 2) (Zb (dC (.ty "int")) Zf))))) (Yi (Zo (ZB Ys (Zb (Za 2) (Zb (dC (.ty "bool")) Zf)))) (Yg (JP (dC (.int 0)) (J4 UM (Za 2) (J3 XR (Zc Zh (Za 0) (dC (.int 0)))))))))
 (Ze (Zz (dC (.bl false)))
 Zg)
 Zg)
 Zg))
 (Ze (Yv (VY (dC (.int 1)) (ZB Yw (Zb (Za 1) Zf))) (Zy 3)
 (Ze (ZU (Zo (Zc Jm (Zc Zh (Za 1) (Zc XD (Za 3) (dC (.int 1)))) (Zc Zh (Za 1) (Za 3))))
 (Ze (Zz (dC (.bl false)))
 Zg)
 Zg)
 (Ze (Yv (Y2 (ZdO (Za 1) ZgC (ZgD (Za 3)))) (Zy 4)
 (Ze (ZU (Zo (ZD Vc (Zb (Za 0) (Zb (Za 4) (Zb (Zc Zh (Za 1) (Za 3)) Zf)))))
 (Ze (Zz (dC (.bl false)))
 Zg)
 Zg)
 Zg))
 Zg)))
 (Ze (Zz (dC (.bl true)))
 Zg))))
noncomputable def F__law_is_apart:List D->M D:=runB 5 2 g__law_is_apart
noncomputable def g__law_fraction_is:Zd->M Out:=(Ze (ZU (Yi (Yg (Zo (ZB Ys (Zb (Za 0) (Zb (dC (.ty "tuple")) Zf))))) (Zo (Zc Y3 (ZB Yw (Zb (Za 0) Zf)) (dC (.int 2)))))
 (Ze (Zz (dC (.bl false)))
 Zg)
 Zg)
 (Ze (Yv (Y2 (Za 0)) (Zy 1)
 (Ze (ZU (Yi (Yg (Zo (ZB Ys (Zb (Za 1) (Zb (dC (.ty "int")) Zf))))) (Zo (ZB Ys (Zb (Za 1) (Zb (dC (.ty "bool")) Zf)))))
 (Ze (Zz (dC (.bl false)))
 Zg)
 Zg)
 Zg))
 (Ze (Vr 2 3 (Zb (ZB dAbs (Zb (Zc Zh (Za 0) (dC (.int 0))) Zf)) (Zb (Zc Zh (Za 0) (dC (.int 1))) Zf)))
 (Ze (VU (Zo (Zc Y3 (Za 3) (dC (.int 0))))
 (Ze (Vr 2 3 (Zb (Za 3) (Zb (Zc ZiQ (Za 2) (Za 3)) Zf)))
 Zg))
 (Ze (Zz (Vq (Zc Vz (Zc Zh (Za 0) (dC (.int 1))) (dC (.int 0))) (Zc YD (Za 2) (dC (.int 1)))))
 Zg)))))
noncomputable def F__law_fraction_is:List D->M D:=runB 4 1 g__law_fraction_is
noncomputable def g__law_total:Zd->M Out:=(Ze (Ww (Ws 1 2) (Z9 (Zb (dC (.int 0)) (Zb (dC (.int 1)) Zf))))
 (Ze (Yv (ZiY (Za 0)) (Ws 3 4)
 (Ze (Vr 1 2 (Zb (Zc Yr (Zc XJ (Za 1) (Za 4)) (Zc XJ (Za 3) (Za 2))) (Zb (Zc XJ (Za 2) (Za 4)) Zf)))
 Zg))
 (Ze (Zz (Z9 (Zb (Za 1) (Zb (Za 2) Zf))))
 Zg)))
noncomputable def F__law_total:List D->M D:=runB 5 1 g__law_total
noncomputable def g__law_covers:Zd->M Out:=(Ze (ZU (Yg (Zo (ZB Ys (Zb (Za 1) (Zb (dC (.ty "list")) Zf)))))
 (Ze (Zz (dC (.bl false)))
 Zg)
 Zg)
 (Ze (Yv (Y0 (Za 1)) (Zy 2)
 (Ze (ZU (Yi (Yg (Zo (ZB Ys (Zb (Za 2) (Zb (dC (.ty "tuple")) Zf))))) (Yi (Zo (Zc Y3 (ZB Yw (Zb (Za 2) Zf)) (dC (.int 2)))) (Yg (Zo (ZD F__law_is_apart (Zb (Za 0) (Zb (Zc Zh (Za 2) (dC (.int 0))) Zf)))))))
 (Ze (Zz (dC (.bl false)))
 Zg)
 Zg)
 (Ze (ZU (Yi (Yg (Zo (ZD F__law_fraction_is (Zb (Zc Zh (Za 2) (dC (.int 1))) Zf)))) (Zo (Zc UM (Zc Zh (Zc Zh (Za 2) (dC (.int 1))) (dC (.int 0))) (dC (.int 0)))))
 (Ze (Zz (dC (.bl false)))
 Zg)
 Zg)
 Zg)))
 (Ze (Yv (Yn (Zc Zh (Za 0) (dC (.int 0)))) (Zy 3)
 (Ze (Ww (Ws 4 5) (ZD F__law_total (Zb (Z3 [none,some 3] (Y0 (Za 1)) (Zy 0) (Zo (Zc YR (Za 1) (Zc Zh (Za 0) (dC (.int 0))))) (Zc Zh (Za 0) (dC (.int 1)))) Zf)))
 (Ze (ZU (Zo (Zc XR (Za 4) (Za 5)))
 (Ze (Zz (dC (.bl false)))
 Zg)
 Zg)
 Zg)))
 (Ze (Zz (dC (.bl true)))
 Zg))))
noncomputable def F__law_covers:List D->M D:=runB 6 2 g__law_covers
noncomputable def g__law_weighs:Zd->M Out:=(Ze (ZU (Yi (Yg (Zo (ZB Ys (Zb (Za 1) (Zb (dC (.ty "tuple")) Zf))))) (Zo (Zc Y3 (ZB Yw (Zb (Za 1) Zf)) (Zc Zh (Za 0) (dC (.int 0))))))
 (Ze (Zz (dC (.bl false)))
 Zg)
 Zg)
 (Ze (Yv (Y2 (Za 1)) (Zy 2)
 (Ze (ZU (Yi (Yg (Zo (ZD F__law_fraction_is (Zb (Za 2) Zf)))) (Zo (Zc XR (Zc Zh (Za 2) (dC (.int 0))) (dC (.int 0)))))
 (Ze (Zz (dC (.bl false)))
 Zg)
 Zg)
 Zg))
 (Ze (UC 3 (X0 Zf))
 (Ze (Yv (Yn (Zc Zh (Za 0) (dC (.int 0)))) (Zy 4)
 (Ze (Yv (VY (Zc Yr (Za 4) (dC (.int 1))) (Zc Zh (Za 0) (dC (.int 0)))) (Zy 5)
 (Ze (ZU (Yg (Zo (ZD Vc (Zb (Za 0) (Zb (Za 4) (Zb (Za 5) Zf))))))
 (Ze (UE 3 (fun ρ=>(Z9 (Zb (Za 4) (Zb (Za 5) Zf))) (YH [3] ρ)))
 Zg)
 Zg)
 Zg))
 Zg))
 (Ze (Yv (Y0 (ZD Bk (Zb (Z9 (Zb (Zc Zh (Za 0) (dC (.int 0))) (Zb (ZB U2 (Zb (Za 3) Zf)) Zf))) Zf))) (Zy 6)
 (Ze (Ww (Ws 7 8) (ZD F__law_total (Zb (Z3 [none,some 1] (Y2 (Za 6)) (Zy 0) Yo (Zc Zh (Za 1) (Za 0))) Zf)))
 (Ze (ZU (Zo (Zc Vz (Za 7) (Za 8)))
 (Ze (Zz (dC (.bl false)))
 Zg)
 Zg)
 Zg)))
 (Ze (Zz (dC (.bl true)))
 Zg))))))
noncomputable def F__law_weighs:List D->M D:=runB 9 2 g__law_weighs
end TQ
namespace HT
open SetTable (leap runEnd Probe bits)
section
variable {m:Nat}{occ:Nat->Prop}
end
section
variable {prog:xD}{w:World}{A:xE}{E:xF}{s:Shared}
end
section
variable {prog:xD}{w:World}{A:xE}{E:xF}{s:Shared}
end
end HT
namespace HT
section
variable {prog:xD}{w:World}{A:xE}{E:xF}{s:Shared}
end
open L2 TS
section
variable {prog:xD}{w:World}{A:xE}{E:xF}{s:Shared}
variable {a:Addr}{o:Obj}{es:Array (Int×Value)}{ep:Nat}{t:SetTable}
end
end HT
namespace TF
open L2 TS
section
variable {X:Cx}{G:Gh}
end
section
variable {X:Cx}{G:Gh}
end
end TF
namespace TU
noncomputable def sm:Nat->(Nat->Int)->Int
 | 0,_=>0
 | n+1,f=>sm n f+f n
theorem Xj {f g:Nat->Int}:∀{n:Nat},(∀i,i<n->f i=g i)->sm n f=sm n g
 | 0,_=>rfl
 | n+1,h=>by
  show sm n f+f n=sm n g+g n;rw[Xj λi hi=>h i (by omega),h n (by omega)]
theorem JT (f g:Nat->Int):∀n:Nat,sm n (λi=>f i+g i)=sm n f+sm n g
 | 0=>rfl
 | n+1=>by
  show sm n (λi=>f i+g i)+(f n+g n)=(sm n f+f n)+(sm n g+g n);rw[JT f g n];omega
theorem JU (a:Int)(f:Nat->Int):∀n:Nat,sm n (λi=>a*f i)=a*sm n f
 | 0=>by simp[sm]
 | n+1=>by
  show sm n (λi=>a*f i)+a*f n=a*(sm n f+f n);rw[JU a f n,qby]
theorem Zn2 (a:Int)(f:Nat->Int)(n:Nat):sm n (λi=>f i*a)=sm n f*a:=by
 rw[yG,<-JU];exact Xj λi _=>yG ..
theorem VH {f:Nat->Int}{n:Nat}(h:∀i,i<n->f i=0):sm n f=0:=by
 induction n with
 | zero=>rfl
 | succ n ih=>
  show sm n f+f n=0;rw[ih λi hi=>h i (by omega),h n (by omega)];rfl
theorem Vk {f:Nat->Int}{n k:Nat}(hk:k<n)(h:∀i,i<n->i≠k->f i=0):sm n f=f k:=by
 induction n with
 | zero=>omega
 | succ n ih=>
  show sm n f+f n=f k;by_cases e:k=n
  ·subst e
   rw[VH λi hi=>h i (by omega) (by omega)];omega
  ·grind
theorem Zmg {f:Nat->Int}{n k l:Nat}(hk:k<n)(hl:l<n)(hkl:k≠l)(h:∀i,i<n->i≠k->i≠l->f i=0):sm n f=f k+f l:=by
 have e:sm n f=sm n (λi=>(if i=k then f k else 0)+(if i=l then f l else 0)):=Xj λi hi=>by
  by_cases a:i=k
  ·simp_all
  ·by_cases b:i=l
   ·simp_all
   ·simp[a,b,h i hi a b]
 rw[e,JT,Vk hk λi _ hne=>by simp[hne],Vk hl λi _ hne=>by simp[hne]];simp
theorem Zg5 {f g:Nat->Int}{n:Nat}(h:∀i,i<n->f i<=g i):sm n f<=sm n g:=by
 induction n with
 | zero=>exact qca _
 | succ n ih=>exact Int.add_le_add (ih λi hi=>h i (by omega)) (h n (by omega))
theorem Zoy {f:Nat->Int}{n:Nat}(h:∀i,i<n->0<=f i):0<=sm n f:=by
 have:=Zg5 h
 rwa[VH λ_ _=>rfl]at this
theorem ZiZ (f:Nat->Nat->Int)(m:Nat):∀n:Nat,sm n (λi=>sm m λj=>f i j)=sm m λj=>sm n λi=>f i j
 | 0=>(VH λ_ _=>rfl).symm
 | n+1=>by
  show sm n (λi=>sm m λj=>f i j)+sm m (λj=>f n j)=sm m λj=>sm n (λi=>f i j)+f n j;rw[ZiZ f m n,<-JT]
theorem Zki {f:Nat->Int}{n k:Nat}(hk:k<n)(h:∀i,i<n->0<=f i):f k<=sm n f:=by
 have e:sm n (λi=>if i=k then f k else 0)=f k:=by
  rw[Vk hk λi _ hne=>by simp[hne]];simp
 rw[<-e];refine Zg5 λi hi=>?_;by_cases a:i=k
 ·simp_all
 ·simp_all
noncomputable abbrev WL:=Nat->Int
noncomputable abbrev Yk:=Nat->WL
noncomputable def up (c:Yk)(i:Nat)(v:WL):Yk:=λj=>if j=i then v else c j
theorem WY (c:Yk)(i:Nat)(v:WL):up c i v i=v:=by simp[up]
theorem Wk {c:Yk}{i j:Nat}{v:WL}(h:j≠i):up c i v j=c j:=by simp[up,h]
theorem UZ (c:Yk)(i:Nat):up c i (c i)=c:=by
 funext j;unfold up;simp_all
theorem Zqt (c:Yk)(i:Nat)(v w:WL):up (up c i v) i w=up c i w:=by
 unfold up;simp_all
theorem Vi {c:Yk}{i j:Nat}{v w:WL}(h:i≠j):up (up c i v) j w=up (up c j w) i v:=by
 funext k;unfold up
 grind
noncomputable def Xt (i:Nat)(c:Yk):Yk:=λj=>if j<i then c j else c (j+1)
theorem Zcf (c:Yk)(i:Nat)(v:WL):Xt i (up c i v)=Xt i c:=by
 funext j;unfold Xt up;by_cases h:j<i
 ·simp[h];omega
 ·simp[h];omega
theorem Zau {c:Yk}{i k:Nat}{v:WL}(h:i<k):Xt k (up c i v)=up (Xt k c) i v:=by
 funext j;unfold Xt up
 grind
theorem Zav {c:Yk}{i k:Nat}{v:WL}(h:k<i):Xt k (up c i v)=up (Xt k c) (i-1) v:=by
 funext j;unfold Xt up
 grind
noncomputable def sg (i:Nat):Int:=if i % 2=0 then 1 else -1
theorem Zn3 (i:Nat):sg (i+1) = - sg i:=by
 unfold sg;by_cases h:i % 2=0
 ·have:(i+1) % 2≠0:=by omega
  simp[*]
 ·grind
noncomputable def Yl:Nat->Nat->Yk->Int
 | 0,_,_=>1
 | n+1,r,c=>sm (n+1) λi=>sg i*c i r*Yl n (r+1) (Xt i c)
theorem JI {n r i:Nat}(c:Yk)(v w:WL)(hi:i<n):Yl n r (up c i λx=>v x+w x)=Yl n r (up c i v)+Yl n r (up c i w):=by
 induction n generalizing r i c with
 | zero=>omega
 | succ n ih=>
  unfold Yl;rw[<-JT];refine Xj λk hk=>?_;by_cases e:k=i
  ·subst e
   simp only[WY,Zcf,qby,Int.add_mul]
  ·rw[Wk e,Wk e,Wk e]
   by_cases l:i<k
   ·rw[Zau l,Zau l,Zau l,ih _ (by omega),qby]
   ·have g:k<i:=by omega
    rw[Zav g,Zav g,Zav g,ih _ (by omega),qby]
theorem Zdm {n r i:Nat}(c:Yk)(a:Int)(v:WL)(hi:i<n):Yl n r (up c i λx=>a*v x)=a*Yl n r (up c i v):=by
 induction n generalizing r i c with
 | zero=>omega
 | succ n ih=>
  unfold Yl;rw[<-JU];refine Xj λk hk=>?_;by_cases e:k=i
  ·subst e
   simp only[WY,Zcf]
   grind
  ·rw[Wk e,Wk e]
   by_cases l:i<k
   ·rw[Zau l,Zau l,ih _ (by omega),<-yO,<-yO,yG _ a]
   ·have g:k<i:=by omega
    rw[Zav g,Zav g,ih _ (by omega),<-yO,<-yO,yG _ a]
theorem ZfU {n r i:Nat}{c:Yk}(hi:i+1<n)(h:c i=c (i+1)):Yl n r c=0:=by
 induction n generalizing r i c with
 | zero=>omega
 | succ n ih=>
  unfold Yl;rw[Zmg (k:=i) (by omega) hi (by omega)]
  ·have e:Xt i c=Xt (i+1) c:=by
    funext j;unfold Xt
    grind
   rw[e,Zn3,h,qbz,qbz];omega
  ·intro k hk h1 h2
   have z:Yl n (r+1) (Xt k c)=0:=by
    by_cases l:k<i
    ·refine ih (i:=i-1) (by omega) ?_
     unfold Xt
     grind
    ·refine ih (i:=i) (by omega) ?_
     unfold Xt
     grind
   simp_all
theorem ZfV {n r i:Nat}{c:Yk}{v w:WL}(hi:i+1<n):Yl n r (up (up c i v) (i+1) w) = - Yl n r (up (up c i w) (i+1) v):=by
 have z:Yl n r (up (up c i λx=>v x+w x) (i+1) λx=>v x+w x)=0:=ZfU hi (by rw[Wk (by omega),WY,WY]);have z1:∀u,Yl n r (up (up c i u) (i+1) u)=0:=λu=>ZfU hi (by rw[Wk (by omega),WY,WY]);rw[JI _ _ _ hi,Vi (by omega),JI _ _ _ (by omega),Vi (i:=i) (by omega),JI _ _ _ (by omega)]at z;have e1:up (up c (i+1) v) i v=up (up c i v) (i+1) v:=Vi (by omega);have e2:up (up c (i+1) v) i w=up (up c i w) (i+1) v:=Vi (by omega);have e3:up (up c (i+1) w) i v=up (up c i v) (i+1) w:=Vi (by omega);have e4:up (up c (i+1) w) i w=up (up c i w) (i+1) w:=Vi (by omega)
 grind
theorem Zib {n r:Nat}:∀(d i:Nat) {c:Yk},i+d+1<n->c i=c (i+d+1)->Yl n r c=0
 | 0,i,c,hn,h=>ZfU hn h
 | d+1,i,c,hn,h=>by
  have e:c=up (up c (i+d+1) (c (i+d+1))) (i+d+1+1) (c (i+d+1+1)):=by rw[UZ,UZ]
  rw[e,ZfV (by omega)];have:=Zib (n:=n) (r:=r) d i (c:=up (up c (i+d+1) (c (i+d+1+1))) (i+d+1+1) (c (i+d+1))) (by omega) (by
   rw[Wk (by omega),Wk (by omega),Wk (by omega),WY,h];rfl)
  rw[this];rfl
theorem Za8 {n r i j:Nat}{c:Yk}(hi:i<n)(hj:j<n)(hij:i≠j)(h:c i=c j):Yl n r c=0:=by
 rcases Nat.lt_or_gt_of_ne hij with l | g
 ·obtain⟨d,rfl⟩:∃d,j=i+d+1:=⟨j-i-1,by omega⟩
  exact Zib d i hj h
 ·obtain⟨d,rfl⟩:∃d,i=j+d+1:=⟨i-j-1,by omega⟩
  exact Zib d j hi h.symm
theorem Zmh {n r i j:Nat}{c:Yk}{v w:WL}(hi:i<n)(hj:j<n)(hij:i≠j):Yl n r (up (up c i v) j w) = - Yl n r (up (up c i w) j v):=by
 have z1:∀u,Yl n r (up (up c i u) j u)=0:=λu=>Za8 hi hj hij (by rw[Wk hij,WY,WY]);have z:=z1 λx=>v x+w x;rw[JI _ _ _ hj,Vi hij,JI _ _ _ hi,Vi hij,JI _ _ _ hi]at z;rw[Vi (qJ hij),Vi (qJ hij),Vi (qJ hij),Vi (qJ hij),z1,z1]at z;omega
theorem Zcg {n r i:Nat}(c:Yk)(f:Nat->Int)(b:Yk)(hi:i<n):∀m:Nat,Yl n r (up c i λx=>sm m λk=>f k*b k x)=sm m λk=>f k*Yl n r (up c i (b k))
 | 0=>by
  show Yl n r (up c i λx=>0)=0;have:=Zdm (r:=r) c 0 (λ_=>0) hi;simpa using this
 | m+1=>by
  show Yl n r (up c i λx=>sm m (λk=>f k*b k x)+f m*b m x)=sm m (λk=>f k*Yl n r (up c i (b k)))+f m*Yl n r (up c i (b m));rw[JI _ _ _ hi,Zdm _ _ _ hi,Zcg c f b hi m]
theorem Zd6:∀(n r:Nat) {c:Yk},(∀i x,i<n->c i (r+x)=if x=i then 1 else 0)->Yl n r c=1
 | 0,_,_,_=>rfl
 | n+1,r,c,h=>by
  unfold Yl;rw[Vk (k:=0) (by omega)]
  ·have h0:=h 0 0 (by omega)
   rw[Nat.add_zero,if_pos rfl]at h0;rw[h0,Zd6 n (r+1) λi x hi=>?_]
   ·rfl
   ·show(if i<0 then c i else c (i+1)) (r+1+x)=_
    rw[if_neg (by omega),show r+1+x=r+(x+1) by omega,h (i+1) (x+1) (by omega)];simp
  ·intro i hi hne
   have:=h i 0 hi;rw[if_neg (qJ hne)]at this;simp_all
noncomputable def un (i:Nat):WL:=λx=>if x=i then 1 else 0
noncomputable def Bs (a:Yk)(m:Nat)(h:Nat->Nat):Yk:=λk=>if k=m then un m else a (h k)
noncomputable def dl (a:Yk)(m:Nat)(h:Nat->Nat):Int:=Yl (m+1) 0 (Bs a m h)
noncomputable def Rw (a:Yk)(m:Nat)(h:Nat->Nat)(k j:Nat):Int:=Yl (m+1) 0 (up (Bs a m h) k (a j))
noncomputable def hp (h:Nat->Nat)(r c:Nat):Nat->Nat:=λk=>if k=r then c else h k
structure Good (a:Yk)(m:Nat)(h:Nat->Nat):Prop where
 nz:dl a m h≠0
 co:∀j x,dl a m h*a j x=sm (m+1) λk=>Rw a m h k j*Bs a m h k x
section
variable {a:Yk}{m:Nat}{h:Nat->Nat}{r c:Nat}
theorem U9 {k:Nat}(hk:k<m):Bs a m h k=a (h k):=by unfold Bs;grind
theorem Be:Bs a m h m=un m:=by unfold Bs;simp
theorem Zi0 (hr:r<m):Bs a m (hp h r c)=up (Bs a m h) r (a c):=by
 funext k;unfold Bs up hp
 grind
theorem Zg6 (hr:r<m):dl a m (hp h r c)=Rw a m h r c:=by unfold dl Rw;rw[Zi0 hr]
theorem Zdn (hr:r<m)(j:Nat):Rw a m (hp h r c) r j=Rw a m h r j:=by unfold Rw;rw[Zi0 hr,Zqt]
theorem Zg7 (g:Good a m h)(hr:r<m){k:Nat}(hk:k<=m)(hkr:k≠r)(j:Nat):dl a m h*Rw a m (hp h r c) k j=Rw a m h k j*Rw a m h r c-Rw a m h k c*Rw a m h r j:=by
 have e0:dl a m h*Rw a m (hp h r c) k j=Yl (m+1) 0 (up (up (Bs a m h) r (a c)) k λx=>sm (m+1) λi=>Rw a m h i j*Bs a m h i x):=by
  unfold Rw;rw[Zi0 hr,<-Zdm _ _ _ (by omega)];congr 2;funext x;exact g.co j x
 rw[e0,Zcg _ _ _ (by omega),Zmg (by omega) (by omega) hkr]
 ·have e1:=by
   have:=UZ (up (Bs a m h) r (a c)) k
   rwa[Wk hkr]at this
  have e2:Yl (m+1) 0 (up (up (Bs a m h) r (a c)) k (Bs a m h r)) = - Rw a m h k c:=by
   rw[Zmh (by omega) (by omega) (qJ hkr),UZ];rfl
  rw[e1,e2];show Rw a m h k j*Rw a m h r c+Rw a m h r j * - Rw a m h k c=_
  grind
 ·intro i hi h1 h2
  rw[Za8 hi (by omega) h1,yn];rw[Wk h1,Wk h2,WY]
theorem Good.pivot (g:Good a m h)(hr:r<m)(hc:Rw a m h r c≠0):Good a m (hp h r c):=by
 refine⟨by rw[Zg6 hr];exact hc,λj x=>?_⟩;rw[Zg6 hr];refine Int.eq_of_mul_eq_mul_left g.nz ?_;have sc:=g.co c x;have sj:=g.co j x;have e:∀k,k<m+1->dl a m h*(Rw a m (hp h r c) k j*Bs a m (hp h r c) k x)=(Rw a m h r c*(Rw a m h k j*Bs a m h k x)+(- Rw a m h r j)*(Rw a m h k c*Bs a m h k x))+(if k=r then Rw a m h r j*(dl a m h*a c x)else 0):=λk hk=>by
  rw[Zi0 hr];by_cases e:k=r
  ·subst e
   rw[WY,Zdn hr]
   grind
  ·rw[Wk e,if_neg e,<-yO,Zg7 g hr (by omega) e]
   grind
 rw[<-JU,Xj e,JT,JT,JU,JU,<-sc,<-sj,Vk (k:=r) (by omega) λi _ hne=>by simp[hne]];rw[if_pos rfl,qbz,Int.neg_add_cancel_right];exact Int.mul_left_comm ..
theorem Zg8 (g:Good a m h){k l:Nat}(hk:k<=m)(hl:l<m):Rw a m h k (h l)=if k=l then dl a m h else 0:=by
 unfold Rw dl;rw[<-U9 (a:=a) hl];by_cases e:k=l
 ·subst e;rw[UZ,if_pos rfl]
 ·rw[if_neg e]
  exact Za8 (by omega) (by omega) e (by rw[WY,Wk (qJ e)])
theorem Good.inj (g:Good a m h){k l:Nat}(hk:k<m)(hl:l<m)(e:h k=h l):k=l:=by
 refine qT λne=>g.nz ?_;exact Za8 (by omega) (by omega) ne (by rw[U9 hk,U9 hl,e])
theorem Good.func (g:Good a m h)(h2:Nat->Nat)(s:Nat):dl a m h*Rw a m h2 m s=sm m (λk=>Rw a m h k s*Rw a m h2 m (h k))+Rw a m h m s*dl a m h2:=by
 have e0:dl a m h*Rw a m h2 m s=Yl (m+1) 0 (up (Bs a m h2) m λx=>sm (m+1) λi=>Rw a m h i s*Bs a m h i x):=by
  unfold Rw;rw[<-Zdm _ _ _ (by omega)];congr 2;funext x;exact g.co s x
 rw[e0,Zcg _ _ _ (by omega)];show sm m _+_=_;congr 1
 ·exact Xj λk hk=>by rw[U9 hk];rfl
 ·show Rw a m h m s*Yl (m+1) 0 (up (Bs a m h2) m (Bs a m h m))=_
  rw[Be];have:=by
   have:=UZ (Bs a m h2) m
   rwa[Be]at this
  rw[this];rfl
end
theorem ZpF {m k:Nat}{v:WL}(hk:k<=m)(hv:∀x,m<x->v x=0):Yl (m+1) 0 (up un k v)=v k:=by
 have e:v=λx=>sm (m+1) λi=>v i*un i x:=by
  funext x;by_cases hx:x<=m
  ·rw[Vk (k:=x) (by omega) λi _ hne=>by unfold un;rw[if_neg (qJ hne),yn]]
   unfold un;simp
  ·rw[hv x (by omega),VH]
   unfold un;grind
 have u:Yl (m+1) 0 un=1:=Zd6 (m+1) 0 λi x _=>by unfold un;simp
 rw[e,Zcg _ _ _ (by omega),Vk (k:=k) (by omega)]
 ·rw[UZ,u]
  grind
 ·intro i hi hne
  rw[Za8 hi (by omega) hne (by rw[Wk hne,WY]),yn]
theorem Zic {a:Yk}{m:Nat}{h:Nat->Nat}(hz:∀j x,m<x->a j x=0)(hu:∀k,k<m->a (h k)=un k):Good a m h/\dl a m h=1/\∀k j,k<=m->Rw a m h k j=a j k:=by
 have eB:∀k,k<m+1->Bs a m h k=un k:=λk hk=>by
  by_cases e:k=m
  ·subst e;exact Be
  ·rw[U9 (by omega),hu k (by omega)]
 -- beyond m the columns do not count
 have cg:∀(n r:Nat) (c d:Yk),(∀i,i<n->c i=d i)->Yl n r c=Yl n r d:=by
  intro n
  induction n with
  | zero=>intros;rfl
  | succ n ih=>
   intro r c d hcd;unfold Yl;refine Xj λi hi=>?_;rw[hcd i hi,ih (r+1) (Xt i c) (Xt i d) λj hj=>?_];unfold Xt;split
   ·exact hcd j (by omega)
   ·exact hcd (j+1) (by omega)
 have e1:dl a m h=1:=by
  unfold dl;rw[cg _ _ _ un eB];exact Zd6 (m+1) 0 λi x _=>by unfold un;simp
 have e2:∀k j,k<=m->Rw a m h k j=a j k:=λk j hk=>by
  unfold Rw;rw[cg _ _ _ (up un k (a j)) λi hi=>?_]
  ·exact ZpF hk (hz j)
  ·unfold up
   simp_all
 refine⟨⟨by simp_all,λj x=>?_⟩,e1,e2⟩;rw[e1,qcb];by_cases hx:x<=m
 ·rw[Vk (k:=x) (by omega)]
  ·rw[e2 x j hx,eB x (by omega)];unfold un;simp
  ·intro i hi hne
   rw[eB i hi];unfold un;rw[if_neg (qJ hne),yn]
 ·rw[hz j x (by omega),VH]
  intro i hi;rw[eB i hi];unfold un;grind
structure Feas (a:Yk)(m N:Nat)(h:Nat->Nat):Prop where
 good:Good a m h
 pos:0<dl a m h
 nn:∀k,k<m->0<=Rw a m h k N
 lt:∀k,k<m->h k<N
structure Gain (a:Yk)(m N:Nat)(h:Nat->Nat)(c:Nat):Prop where
 lt:c<N
 neg:Rw a m h m c<0
 fst:∀j,j<c->0<=Rw a m h m j
structure Tight (a:Yk)(m N:Nat)(h:Nat->Nat)(c r:Nat):Prop where
 lt:r<m
 pos:0<Rw a m h r c
 le:∀k,k<m->0<Rw a m h k c->Rw a m h r N*Rw a m h k c<Rw a m h k N*Rw a m h r c∨(Rw a m h r N*Rw a m h k c=Rw a m h k N*Rw a m h r c/\h r<=h k)
section
variable {a:Yk}{m N:Nat}{h:Nat->Nat}{c r:Nat}
theorem ZeA {x y:Int}(hx:0<x)(h:0<=x*y):0<=y:=by
 refine qT λz=>?_;have:=qa0 hx (show y<0 by omega);omega
theorem Feas.step (f:Feas a m N h)(g:Gain a m N h c)(t:Tight a m N h c r):Feas a m N (hp h r c):=by
 have e:=Zg6 (a:=a) (h:=h) (c:=c) t.lt;refine⟨f.good.pivot t.lt (by have:=t.pos;omega),by rw[e];exact t.pos,λk hk=>?_,λk hk=>?_⟩
 ·by_cases ek:k=r
  ·subst ek;rw[Zdn hk];exact f.nn k hk
  ·refine ZeA f.pos ?_
   rw[Zg7 f.good t.lt (by omega) ek];have h1:=f.nn k hk;have h2:=f.nn r t.lt;have h3:=t.pos;by_cases q:0<Rw a m h k c
   ·have:=t.le k hk q
    grind
   ·have z1:=yf h1 (zK h3)
    have z2:=yf (show 0<=- Rw a m h k c by omega) h2
    grind
 ·unfold hp
  split
  ·exact g.lt
  ·exact f.lt k hk
theorem Gain.out (f:Feas a m N h)(g:Gain a m N h c){k:Nat}(hk:k<m):h k≠c:=λe=>by
 have:=Zg8 f.good (qk m) hk;rw[e,if_neg (by omega)]at this;have:=g.neg;omega
theorem Gain.uniq {c':Nat}(g:Gain a m N h c)(g':Gain a m N h c'):c=c':=by
 rcases qae c c' with l | e | l
 ·have:=g'.fst c l;have:=g.neg;omega
 ·exact e
 ·have:=g.fst c' l;have:=g'.neg;omega
theorem Tight.uniq {r':Nat}(f:Feas a m N h)(t:Tight a m N h c r)(t':Tight a m N h c r'):r=r':=by
 have h1:=t.le r' t'.lt t'.pos;have h2:=t'.le r t.lt t.pos;refine f.good.inj t.lt t'.lt ?_;rcases h1 with a1 | ⟨a1,b1⟩
 ·grind
 ·grind
theorem Zd7 (f:Feas a m N h)(g:Gain a m N h c)(t:Tight a m N h c r) :
  dl a m h*Rw a m (hp h r c) m N=Rw a m h m N*dl a m (hp h r c)-Rw a m h m c*Rw a m h r N:=by
 rw[Zg7 f.good t.lt (qk m) (by have:=t.lt;omega),Zg6 t.lt]
end
theorem Zmi:∀(B:Nat) (g:Nat->Nat),(∀t,t<=B->g t<B)->∃i j,i<j/\j<=B/\g i=g j
 | 0,g,h=>absurd (h 0 (qk 0)) (by omega)
 | B+1,g,h=>by
  by_cases q:∃t,t<=B/\g t=g (B+1)
  ·obtain⟨t,ht,e⟩:=q
   exact⟨t,B+1,by omega,qk _,e⟩
  ·obtain⟨i,j,hij,hj,e⟩:=Zmi B (λt=>if g t=B then g (B+1)else g t) λt ht=>by
    grind
   refine⟨i,j,hij,by omega,?_⟩
   grind
noncomputable def Vo (N:Nat):Nat->(Nat->Nat)->Nat
 | 0,_=>0
 | m+1,u=>u m+N*Vo N m u
theorem Zi1 {N:Nat}:∀{m:Nat} {u:Nat->Nat},(∀k,k<m->u k<N)->Vo N m u<N ^ m
 | 0,_,_=>by show 0<N ^ 0;simp
 | m+1,u,h=>by
  have:=Zi1 (m:=m) λk hk=>h k (by omega);have h2:=h m (by omega);rw[Nat.pow_succ,qa6 (N ^ m) N]
  calc u m+N*Vo N m u<N+N*Vo N m u:=by omega
   _=N*(Vo N m u+1):=by grind
   _<=N*N ^ m:=qaB N this
theorem Zg9 {N:Nat}:∀{m:Nat} {u v:Nat->Nat},(∀k,k<m->u k<N)->(∀k,k<m->v k<N)->Vo N m u=Vo N m v->∀k,k<m->u k=v k
 | 0,_,_,_,_,_=>λk hk=>by omega
 | m+1,u,v,hu,hv,e=>by
  have e:u m+N*Vo N m u=v m+N*Vo N m v:=e;have h1:=hu m (by omega);have h2:=hv m (by omega);have e1:=by
   have:=congrArg (· % N) e;simpa[Nat.mod_eq_of_lt h1,Nat.mod_eq_of_lt h2]using this
  have e2:Vo N m u=Vo N m v:=by
   rw[e1]at e;exact Nat.eq_of_mul_eq_mul_left (show 0<N by omega) (by omega)
  intro k hk;by_cases q:k=m
  ·grind
  ·exact Zg9 (λk hk=>hu k (by omega)) (λk hk=>hv k (by omega)) e2 k (by omega)
theorem Zmj (c:Nat->Nat):∀N:Nat,(∀t,c t<N)->∃T,∀t,c t<=c T
 | 0,h=>absurd (h 0) (by omega)
 | N+1,h=>by
  by_cases q:∃T,c T=N
  ·obtain⟨T,e⟩:=q
   exact⟨T,λt=>by grind⟩
  ·refine Zmj c N λt=>?_
   grind
structure Run (a:Yk)(m N:Nat)(H:Nat->Nat->Nat)(c r:Nat->Nat):Prop where
 feas:∀t,Feas a m N (H t)
 gain:∀t,Gain a m N (H t) (c t)
 tight:∀t,Tight a m N (H t) (c t) (r t)
 next:∀t,H (t+1)=hp (H t) (r t) (c t)
section
variable {a:Yk}{m N:Nat}{H:Nat->Nat->Nat}{c r:Nat->Nat}
theorem Run.shift (R:Run a m N H c r)(i:Nat):Run a m N (λt=>H (i+t)) (λt=>c (i+t)) (λt=>r (i+t)):=
 ⟨λt=>R.feas _,λt=>R.gain _,λt=>R.tight _,λt=>R.next (i+t)⟩
theorem Run.same (R:Run a m N H c r){i j:Nat}(e:H i=H j):H (i+1)=H (j+1):=by
 have g:=R.gain i;have t:=R.tight i;rw[e]at g t;have ec:=g.uniq (R.gain j);rw[ec]at t;have er:=t.uniq (R.feas j) (R.tight j);rw[R.next,R.next,e,ec,er]
theorem Run.chain (R:Run a m N H c r)(s:Nat):∀d,Rw a m (H s) m N*dl a m (H (s+d))<=Rw a m (H (s+d)) m N*dl a m (H s)
 | 0=>qca _
 | d+1=>by
  have ih:=R.chain s d;have w:=Zd7 (R.feas (s+d)) (R.gain (s+d)) (R.tight (s+d));rw[<-R.next]at w;have p0:=(R.feas s).pos;have p1:=(R.feas (s+d)).pos;have p2:=(R.feas (s+d+1)).pos;have n1:=(R.gain (s+d)).neg;have n2:=(R.feas (s+d)).nn _ (R.tight (s+d)).lt;have z:=yf (show 0<=- Rw a m (H (s+d)) m (c (s+d)) by omega) n2;rw[qbz]at z;refine z6 ?_ p1;generalize dl a m (H s)=A at *;generalize dl a m (H (s+d))=B at *;generalize dl a m (H (s+d+1))=C at *;generalize Rw a m (H s) m N=x at *;generalize Rw a m (H (s+d)) m N=y at *;generalize Rw a m (H (s+d+1)) m N=u at *;have h1:=by
   have:=zj ih (zK p2)
   calc x*C*B=x*B*C:=by grind
    _<=y*A*C:=this
    _=y*C*A:=by grind
  have h2:y*C*A<=B*u*A:=by
   refine zj ?_ (zK p0);omega
  calc x*C*B<=y*C*A:=h1
   _<=B*u*A:=h2
   _=u*A*B:=by rw[yO,yG B]
theorem Run.flat (R:Run a m N H c r){p:Nat}(hp0:0<p)(per:∀t,H (t+p)=H t)(u:Nat):Rw a m (H u) (r u) N=0:=by
 have n2:=(R.feas u).nn _ (R.tight u).lt;refine qT λne=>?_;have n3:0<Rw a m (H u) (r u) N:=by omega
 have w:=Zd7 (R.feas u) (R.gain u) (R.tight u);rw[<-R.next]at w;have z:=qa1 (R.gain u).neg n3;obtain⟨d,rfl⟩:∃d,p=d+1:=⟨p-1,by omega⟩;have ch:=R.chain (u+1) d;rw[show u+1+d=u+(d+1) by omega,per u]at ch;rw[yG]at w;omega
theorem Run.zero (R:Run a m N H c r){p:Nat}(hp0:0<p)(per:∀t,H (t+p)=H t){j T:Nat}(h0:∀k,k<m->H T k≠j):∀d k,k<m->H (T+d) k=j->Rw a m (H (T+d)) k N=0
 | 0,k,hk,e=>absurd e (h0 k hk)
 | d+1,k,hk,e=>by
  have ih:=R.zero hp0 per h0 d;have fl:=R.flat hp0 per (T+d);have e:H (T+d+1) k=j:=e;show Rw a m (H (T+d+1)) k N=0;rw[R.next]at e⊢;by_cases ek:k=r (T+d)
  ·subst ek
   rw[Zdn (R.tight _).lt,fl]
  ·have e2:H (T+d) k=j:=by
    unfold hp at e
    rwa[if_neg ek]at e
   have i0:=ih k hk e2;have:=Zg7 (c:=c (T+d)) (R.feas (T+d)).good (R.tight (T+d)).lt (qaq hk) ek N;rw[i0,fl,qb2,yn]at this;rcases Int.mul_eq_zero.mp this with z | z
   ·exact absurd z (R.feas _).good.nz
   ·exact z
theorem Run.enters (R:Run a m N H c r){j T:Nat}(h0:∀k,k<m->H T k≠j):∀d k,k<m->H (T+d) k=j->∃t,c t=j
 | 0,k,hk,e=>absurd e (h0 k hk)
 | d+1,k,hk,e=>by
  have e:H (T+d+1) k=j:=e;rw[R.next]at e;unfold hp at e;split at e
  ·exact⟨_,e⟩
  ·exact R.enters h0 d k hk e
theorem Run.leaves (R:Run a m N H c r){j T:Nat}:∀d,(∃k,k<m/\H T k=j)->(∀k,k<m->H (T+d) k≠j)->∃D,T<=D/\H D (r D)=j
 | 0,⟨k,hk,e⟩,h=>absurd e (h k hk)
 | d+1,⟨k,hk,e⟩,h=>by
  by_cases q:H T (r T)=j
  ·exact⟨T,qk _,q⟩
  ·have:H (T+1) k=j:=by
    rw[R.next];unfold hp;split
    ·simp_all
    ·exact e
   obtain⟨D,h1,h2⟩:=R.leaves d ⟨k,hk,this⟩ (by grind)
   grind
theorem Run.no_round (R:Run a m N H c r){p:Nat}(hp0:0<p)(per:∀t,H (t+p)=H t):False:=by
 obtain⟨T,hT⟩:=Zmj c N λt=>(R.gain t).lt;have outT:∀k,k<m->H T k≠c T:=λk hk=>(R.gain T).out (R.feas T) hk;have XS:H (T+1) (r T)=c T:=by rw[R.next];unfold hp;rw[if_pos rfl]
 obtain⟨D,hD,eD⟩:=R.leaves (T:=T+1) (p-1) ⟨r T,(R.tight T).lt,XS⟩ (by rw[show T+1+(p-1)=T+p by omega,per];exact outT);have hs:c D<c T:=by
  have h1:=hT D;have h2:=(R.gain D).out (R.feas D) (R.tight D).lt;rw[eD]at h2;omega
 have fn:=(R.feas D).good.func (H T) (c D);have l1:=yf (zK (R.feas D).pos) ((R.gain T).fst (c D) hs);have l2:=qa1 (R.gain D).neg (R.feas T).pos;have l3:sm m (λk=>Rw a m (H D) k (c D)*Rw a m (H T) m (H D k))<=0:=by
  have z:=Zg5 (n:=m) (f:=λk=>Rw a m (H D) k (c D)*Rw a m (H T) m (H D k)) (g:=λ_=>0) λk hk=>?_
  ·rwa[VH (f:=λ_=>0) λ_ _=>rfl]at z
  ·by_cases q:∃l,l<m/\H T l=H D k
   ·obtain⟨l,hl,e⟩:=q
    have:=Zg8 (R.feas T).good (k:=m) (qk m) hl;rw[e,if_neg (by omega)]at this;simp[this]
   ·have h0:=λl hl e=>q ⟨l,hl,e⟩
    obtain⟨d,rfl⟩:∃d,D=T+d:=⟨D-T,by omega⟩;obtain⟨t,et⟩:=R.enters h0 d k hk rfl;have hle:=hT t;rw[et]at hle;by_cases e:H (T+d) k=c T
    ·have ek:=(R.feas _).good.inj hk (R.tight _).lt (by rw[e,eD])
     rw[e,ek];have:=qa0 (R.tight (T+d)).pos (R.gain T).neg;omega
    ·have hlt:H (T+d) k<c T:=by omega
     have p1:=(R.gain T).fst _ hlt;have p2:Rw a m (H (T+d)) k (c (T+d))<=0:=by
      refine qT λne=>?_;have b0:=R.zero hp0 per h0 d k hk rfl;have b1:=R.flat hp0 per (T+d);rcases (R.tight (T+d)).le k hk (by omega)with z | ⟨_,z⟩
      ·simp_all
      ·omega
     have:=yf (show 0<=- Rw a m (H (T+d)) k (c (T+d)) by omega) p1
     grind
 omega
theorem Run.beyond (R:Run a m N H c r){k:Nat}(hk:m<=k):∀t,H t k=H 0 k
 | 0=>rfl
 | t+1=>by
  rw[R.next];unfold hp;rw[if_neg (by have:=(R.tight t).lt;omega)];exact R.beyond hk t
theorem Run.none (R:Run a m N H c r):False:=by
 obtain⟨i,j,hij,_,e⟩:=Zmi (N ^ m) (λt=>Vo N m (H t)) λt _=>Zi1 (R.feas t).lt;have e0:=by
  funext k;by_cases hk:k<m
  ·exact Zg9 (R.feas i).lt (R.feas j).lt e k hk
  ·rw[R.beyond (by omega) i,R.beyond (by omega) j]
 have sm:∀t,H (i+t)=H (j+t):=λt=>by
  induction t with
  | zero=>exact e0
  | succ t ih=>exact R.same ih
 exact(R.shift i).no_round (p:=j-i) (by omega) λt=>by
  grind
end
noncomputable def cl (A:Nat->Nat->Bool)(n m:Nat):Yk:=λj x=>
 if j<n then (if x<m then (if A x j then 1 else 0)else if x=m then -1 else 0)
 else if j<n+m then un (j-n) x
 else if j=n+m then (if x<m then 1 else 0)else 0
noncomputable def wt (A:Nat->Nat->Bool)(n m:Nat)(h:Nat->Nat)(j:Nat):Int:=sm m λk=>if h k=j then Rw (cl A n m) m h k (n+m)else 0
section
variable {A:Nat->Nat->Bool}{n m:Nat}
theorem Zd8 {j x:Nat}(hj:j<n)(hx:x<m):cl A n m j x=if A x j then 1 else 0:=by unfold cl;simp_all
theorem Zd9 {j:Nat}(hj:j<n):cl A n m j m = -1:=by unfold cl;simp[hj]
theorem Zdo {i:Nat}(hi:i<m):cl A n m (n+i)=un i:=by
 funext x;unfold cl
 grind
theorem Zdp (x:Nat):cl A n m (n+m) x=if x<m then 1 else 0:=by
 unfold cl
 grind
theorem Zi2 {j x:Nat}(hx:x<m):0<=cl A n m j x:=by
 unfold cl un
 repeat' split
 all_goals omega
theorem Zmk (j x:Nat)(hx:m<x):cl A n m j x=0:=by
 unfold cl un
 grind
theorem Zha:Good (cl A n m) m (n + ·)/\dl (cl A n m) m (n + ·)=1/\∀k j,k<=m->Rw (cl A n m) m (n + ·) k j=cl A n m j k:=Zic Zmk λk hk=>Zdo hk
theorem Zid:Feas (cl A n m) m (n+m) (n + ·):=by
 obtain⟨g,e1,e2⟩:=Zha;refine⟨g,by simp_all,λk hk=>?_,λk hk=>by omega⟩;rw[e2 k _ (by omega)];exact Zi2 hk
theorem Zoz {x:Nat}(hx:x<m):un m x=0:=by unfold un;grind
theorem Zn4 {h:Nat->Nat}{c:Nat}(cov:∀j,j<n->∃x,x<m/\A x j=true)(f:Feas (cl A n m) m (n+m) h)(hc:c<n+m):∃k,k<m/\0<Rw (cl A n m) m h k c:=by
 refine qT λno=>?_;have le:∀k,k<m->Rw (cl A n m) m h k c<=0:=λk hk=>by
  simp_all
 have key:∀x,x<m->cl A n m c x=0:=λx hx=>by
  have co:=f.good.co c x;have e:=by
   have z:=Zg5 (n:=m+1) (f:=λk=>Rw (cl A n m) m h k c*Bs (cl A n m) m h k x) (g:=λ_=>0) λk hk=>?_
   ·rwa[VH λ_ _=>rfl]at z
   ·by_cases e:k=m
    ·subst e;rw[Be,Zoz hx];simp
    ·rw[U9 (by omega)]
     have:=yf (show 0<=- Rw (cl A n m) m h k c by have:=le k (by omega);omega) (Zi2 (A:=A) (n:=n) (j:=h k) hx)
     grind
  have h1:=Zi2 (A:=A) (n:=n) (j:=c) hx;have h2:=f.pos;refine qT λne=>?_;have:=qbA h2 (show 0<cl A n m c x by omega);omega
 by_cases hn:c<n
 ·obtain⟨x,hx,ha⟩:=cov c hn
  have:=key x hx;rw[Zd8 hn hx,ha]at this;simp at this
 ·obtain⟨i,rfl⟩:∃i,c=n+i:=⟨c-n,by omega⟩
  have:=key i (by omega);rw[Zdo (by omega)]at this;unfold un at this;simp at this
theorem Zhb (h:Nat->Nat)(j:Nat):Rw (cl A n m) m h m j=sm m (λi=>cl A n m j i*Rw (cl A n m) m h m (n+i))+cl A n m j m*dl (cl A n m) m h:=by
 have e:cl A n m j=λx=>sm (m+1) λi=>cl A n m j i*un i x:=by
  funext x;by_cases hx:x<=m
  ·rw[Vk (k:=x) (by omega) λi _ hne=>by unfold un;rw[if_neg (qJ hne),yn]]
   unfold un;simp
  ·rw[Zmk j x (by omega),VH]
   unfold un;grind
 have e1:Rw (cl A n m) m h m j=Yl (m+1) 0 (up (Bs (cl A n m) m h) m λx=>sm (m+1) λi=>cl A n m j i*un i x):=by
  unfold Rw;rw[<-e]
 rw[e1,Zcg _ _ _ (by omega)];show sm m _+cl A n m j m*Yl (m+1) 0 (up (Bs (cl A n m) m h) m (un m))=_;congr 1
 ·refine Xj λi hi=>?_
  unfold Rw;rw[Zdo hi]
 ·have:=UZ (Bs (cl A n m) m h) m
  rw[Be]at this;rw[this];rfl
section
variable {h:Nat->Nat}(f:Feas (cl A n m) m (n+m) h)
include f
theorem ZoA (j:Nat):0<=wt A n m h j:=Zoy λk hk=>by
 split
 ·exact f.nn k hk
 ·simp
theorem ZoB {k:Nat}(hk:k<m):wt A n m h (h k)=Rw (cl A n m) m h k (n+m):=by
 unfold wt;rw[Vk hk]
 ·simp
 ·intro i hi hne
  rw[if_neg λe=>hne (f.good.inj hi hk e)]
theorem Zml {j:Nat}(hj:∀k,k<m->h k≠j):wt A n m h j=0:=VH λk hk=>by simp_all
theorem Zmm (x:Nat):sm m (λk=>Rw (cl A n m) m h k (n+m)*cl A n m (h k) x)=sm (n+m) λj=>wt A n m h j*cl A n m j x:=by
 unfold wt;have e:∀j,j<n+m->(sm m λk=>if h k=j then Rw (cl A n m) m h k (n+m)else 0)*cl A n m j x=sm m λk=>(if h k=j then Rw (cl A n m) m h k (n+m)*cl A n m (h k) x else 0):=λj hj=>by
  rw[<-Zn2];refine Xj λk hk=>?_;by_cases e:h k=j
  ·simp_all
  ·simp_all
 rw[Xj e,ZiZ];refine Xj λk hk=>?_;rw[Vk (f.lt k hk) λi _ hne=>by rw[if_neg (qJ hne)]];simp
theorem Zn5 {x:Nat}(hx:x<m):sm n (λj=>wt A n m h j*(if A x j then 1 else 0))<=dl (cl A n m) m h:=by
 have co:=f.good.co (n+m) x;rw[Zdp,if_pos hx,Int.mul_one]at co;have e:sm (m+1) (λk=>Rw (cl A n m) m h k (n+m)*Bs (cl A n m) m h k x)=sm m (λk=>Rw (cl A n m) m h k (n+m)*cl A n m (h k) x):=by
  show sm m _+Rw (cl A n m) m h m (n+m)*Bs (cl A n m) m h m x=_;rw[Be,Zoz hx,yn,qb3];exact Xj λk hk=>by rw[U9 hk]
 rw[e,Zmm f x]at co;rw[co];have spl:∀(g:Nat->Int) (d:Nat),sm (n+d) g=sm n g+sm d λi=>g (n+i):=λg d=>by
  induction d with
  | zero=>show sm n g=sm n g+0;omega
  | succ d ih=>
   show sm (n+d) g+g (n+d)=sm n g+(sm d (λi=>g (n+i))+g (n+d))
   grind
 rw[spl];have z:0<=sm m λi=>wt A n m h (n+i)*cl A n m (n+i) x:=Zoy λi hi=>yf (ZoA f _) (Zi2 hx);have e2:sm n (λj=>wt A n m h j*(if A x j then 1 else 0))=sm n λj=>wt A n m h j*cl A n m j x:=Xj λj hj=>by rw[Zd8 hj hx]
 grind
theorem Zmn:sm n (wt A n m h)=Rw (cl A n m) m h m (n+m):=by
 have co:=f.good.co (n+m) m;rw[Zdp,if_neg (by omega),yn]at co;have e:sm (m+1) (λk=>Rw (cl A n m) m h k (n+m)*Bs (cl A n m) m h k m)=sm m (λk=>Rw (cl A n m) m h k (n+m)*cl A n m (h k) m)+Rw (cl A n m) m h m (n+m):=by
  show sm m _+Rw (cl A n m) m h m (n+m)*Bs (cl A n m) m h m m=_;have:un m m=1:=by unfold un;simp
  rw[Be,this,Int.mul_one];congr 1;exact Xj λk hk=>by rw[U9 hk]
 rw[e,Zmm f m]at co;have spl:∀(g:Nat->Int) (d:Nat),sm (n+d) g=sm n g+sm d λi=>g (n+i):=λg d=>by
  induction d with
  | zero=>show sm n g=sm n g+0;omega
  | succ d ih=>
   show sm (n+d) g+g (n+d)=sm n g+(sm d (λi=>g (n+i))+g (n+d))
   grind
 rw[spl,VH (f:=λi=>wt A n m h (n+i)*cl A n m (n+i) m) λi hi=>by rw[Zdo hi];unfold un;grind,qb3]at co;have e3:sm n (λj=>wt A n m h j*cl A n m j m) = - sm n (wt A n m h):=by
  have e4:sm n (λj=>wt A n m h j*cl A n m j m)=sm n λj=>-1*wt A n m h j:=Xj λj hj=>by rw[Zd9 hj,yG]
  rw[e4,JU];omega
 rw[e3]at co;omega
theorem Zmo:sm m (λi=>Rw (cl A n m) m h m (n+i))=Rw (cl A n m) m h m (n+m):=by
 rw[Zhb h (n+m),Zdp,if_neg (by omega),qb2,qb3];exact Xj λi hi=>by rw[Zdp,if_pos hi,qcb]
theorem Zmp {j:Nat}(hj:j<n)(opt:0<=Rw (cl A n m) m h m j):dl (cl A n m) m h<=sm m λi=>(if A i j then 1 else 0)*Rw (cl A n m) m h m (n+i):=by
 rw[Zhb h j,Zd9 hj]at opt;have e:sm m (λi=>cl A n m j i*Rw (cl A n m) m h m (n+i))=sm m λi=>(if A i j then 1 else 0)*Rw (cl A n m) m h m (n+i):=Xj λi hi=>by rw[Zd8 hj hi]
 omega
end
end
noncomputable def fac:Nat->Nat
 | 0=>1
 | n+1=>(n+1)*fac n
theorem Zmq {f:Nat->Int}{B:Nat}:∀{n:Nat},(∀i,i<n->(f i).natAbs<=B)->(sm n f).natAbs<=n*B
 | 0,_=>zv _
 | n+1,h=>by
  show(sm n f+f n).natAbs<=(n+1)*B;have h1:=Zmq (n:=n) λi hi=>h i (by omega);have h3:=Int.natAbs_add_le (sm n f) (f n)
  grind
theorem ZfW:∀(n r:Nat) {c:Yk},(∀i x,(c i x).natAbs<=1)->(Yl n r c).natAbs<=fac n
 | 0,_,_,_=>qk _
 | n+1,r,c,h=>by
  refine Zmq λi hi=>?_;have ih:=ZfW n (r+1) (c:=Xt i c) λj x=>by unfold Xt;split <;> exact h _ _
  rw[qaF,qaF];have h1:(sg i).natAbs=1:=by unfold sg;split <;> rfl
  rw[h1,Nat.one_mul]
  calc (c i r).natAbs*(Yl n (r+1) (Xt i c)).natAbs<=1*fac n:=yF (h i r) ih
   _=fac n:=Nat.one_mul _
theorem Zea {a b:Nat}(h:a<=b):fac a<=fac b:=by
 induction h with
 | refl=>simp
 | step h ih=>
  rename_i b;show fac a<=(b+1)*fac b
  grind
theorem Zmr (i x:Nat):(un i x).natAbs<=1:=by unfold un;split <;> simp
section
variable {A:Nat->Nat->Bool}{n m:Nat}
theorem Zms (j x:Nat):(cl A n m j x).natAbs<=1:=by
 unfold cl
 repeat' split
 all_goals first | exact Zmr _ _ | simp
theorem Zmt (h:Nat->Nat)(k x:Nat):(Bs (cl A n m) m h k x).natAbs<=1:=by
 unfold Bs;split
 ·exact Zmr _ _
 ·exact Zms _ _
theorem ZfX (h:Nat->Nat)(k j:Nat):(Rw (cl A n m) m h k j).natAbs<=fac (m+1):=ZfW _ _ λi x=>by
 unfold up;split
 ·exact Zms _ _
 ·exact Zmt _ _ _
theorem Zmu (h:Nat->Nat):(dl (cl A n m) m h).natAbs<=fac (m+1):=ZfW _ _ λi x=>Zmt _ _ _
theorem Zfb:fac 129<2 ^ 8000:=by decide +kernel
end
section
variable {a:Yk}{m N:Nat}{h:Nat->Nat}{c:Nat}
noncomputable def Jp (a:Yk)(m N:Nat)(h:Nat->Nat)(c i j:Nat):Bool:=decide (Rw a m h i N*Rw a m h j c<Rw a m h j N*Rw a m h i c)||(decide (Rw a m h i N*Rw a m h j c=Rw a m h j N*Rw a m h i c)&&decide (h i<h j))
noncomputable def Wd (a:Yk)(m N:Nat)(h:Nat->Nat)(c:Nat):Nat->Option Nat
 | 0=>none
 | i+1=>if 0<Rw a m h i c/\(∀j,Wd a m N h c i=some j->Jp a m N h c i j=true)then some i else Wd a m N h c i
theorem ZoC {p q r b1 b2 b3:Int}(hp:0<p)(hq:0<q)(hr:0<r)(h1:b1*q<=b2*p)(h2:b2*r<=b3*q):b1*r<=b3*p:=by
 refine z6 ?_ hq
 calc b1*r*q=b1*q*r:=by grind
  _<=b2*p*r:=zj h1 (zK hr)
  _=b2*r*p:=by grind
  _<=b3*q*p:=zj h2 (zK hp)
  _=b3*p*q:=by grind
theorem Zmv {p q r b1 b2 b3:Int}(hp:0<p)(hq:0<q)(hr:0<r)(h1:b1*q<b2*p)(h2:b2*r<=b3*q):b1*r<b3*p:=by
 refine qaT ?_ (zK hq)
 calc b1*r*q=b1*q*r:=by grind
  _<b2*p*r:=qaM h1 hr
  _=b2*r*p:=by grind
  _<=b3*q*p:=zj h2 (zK hp)
  _=b3*p*q:=by grind
theorem ZpG {p q r b1 b2 b3:Int}(hp:0<p)(hq:0<q)(hr:0<r)(h1:b1*q<=b2*p)(h2:b2*r<b3*q):b1*r<b3*p:=by
 refine qaT ?_ (zK hq)
 calc b1*r*q=b1*q*r:=by grind
  _<=b2*p*r:=zj h1 (zK hr)
  _=b2*r*p:=by grind
  _<b3*q*p:=qaM h2 hp
  _=b3*p*q:=by grind
noncomputable def le2 (a:Yk)(m N:Nat)(h:Nat->Nat)(c i j:Nat):Prop:=Rw a m h i N*Rw a m h j c<Rw a m h j N*Rw a m h i c∨(Rw a m h i N*Rw a m h j c=Rw a m h j N*Rw a m h i c/\h i<=h j)
theorem Zkj {i j k:Nat}(pi:0<Rw a m h i c)(pj:0<Rw a m h j c)(pk:0<Rw a m h k c)(h1:le2 a m N h c i j)(h2:le2 a m N h c j k):le2 a m N h c i k:=by
 rcases h1 with h1 | ⟨h1,l1⟩
 ·rcases h2 with h2 | ⟨h2,l2⟩
  ·exact .inl (Zmv pi pj pk h1 (zK h2))
  ·exact .inl (Zmv pi pj pk h1 (zY h2))
 ·rcases h2 with h2 | ⟨h2,l2⟩
  ·exact .inl (ZpG pi pj pk (zY h1) h2)
  ·refine .inr ⟨?_,by omega⟩
   have a1:=ZoC pi pj pk (zY h1) (zY h2);have a2:=ZoC pk pj pi (zY h2.symm) (zY h1.symm);omega
theorem Zie:∀{i:Nat},(∀r,Wd a m N h c i=some r->r<i/\0<Rw a m h r c/\∀k,k<i->0<Rw a m h k c->le2 a m N h c r k)/\(Wd a m N h c i=none->∀k,k<i->¬0<Rw a m h k c)
 | 0=>⟨λr e=>(by cases e),λ_ k hk=>(by omega)⟩
 | i+1=>by
  obtain⟨ih1,ih2⟩:=Zie (i:=i);unfold Wd;by_cases q:0<Rw a m h i c/\(∀j,Wd a m N h c i=some j->Jp a m N h c i j=true)
  ·rw[if_pos q]
   refine⟨λr e=>?_,λe=>by cases e⟩
   cases e
   refine⟨by omega,q.1,λk hk pk=>?_⟩;by_cases ek:k=i
   ·subst ek;exact .inr ⟨rfl,qk _⟩
   ·cases hj:Wd a m N h c i with
    | none=>exact absurd pk (ih2 hj k (by omega))
    | some j=>
     obtain⟨j1,j2,j3⟩:=ih1 j hj;have ht:=q.2 j hj;unfold Jp at ht;have hl:le2 a m N h c i j:=by
      simp only[qbr,qB,decide_eq_true_eq]at ht;rcases ht with z | ⟨z,y⟩
      ·exact .inl z
      ·exact .inr ⟨z,by omega⟩
     exact Zkj q.1 j2 pk hl (j3 k (by omega) pk)
  ·rw[if_neg q]
   refine⟨λr e=>?_,λe k hk pk=>?_⟩
   ·obtain⟨r1,r2,r3⟩:=ih1 r e
    refine⟨by omega,r2,λk hk pk=>?_⟩;by_cases ek:k=i
    ·subst ek
     have:¬(Jp a m N h c k r=true):=λz=>q ⟨pk,λj hj=>by grind⟩;unfold Jp at this;simp only[qbr,decide_eq_true_eq,not_or]at this;obtain⟨t1,t2⟩:=this;rcases Int.lt_or_le (Rw a m h r N*Rw a m h k c) (Rw a m h k N*Rw a m h r c)with z | z
     ·exact .inl z
     ·have e3:Rw a m h k N*Rw a m h r c=Rw a m h r N*Rw a m h k c:=by omega
      exact .inr ⟨e3.symm,by grind⟩
    ·grind
   ·by_cases ek:k=i
    ·subst ek
     simp_all
    ·exact ih2 e k (by omega) pk
theorem Zkk (ex:∃k,k<m/\0<Rw a m h k c):∃r,Wd a m N h c m=some r/\Tight a m N h c r:=by
 obtain⟨h1,h2⟩:=Zie (a:=a) (m:=m) (N:=N) (h:=h) (c:=c) (i:=m)
 cases e:Wd a m N h c m with
 | none=>obtain⟨k,hk,pk⟩:=ex;exact absurd pk (h2 e k hk)
 | some r=>
  obtain⟨r1,r2,r3⟩:=h1 r e;exact⟨r,rfl,r1,r2,r3⟩
end
end TU
namespace TQ
open L2 TF TQ TS
open TP
open TP2 hiding g_all_near F_all_near
open TP3 hiding g_full_knots F_full_knots
variable {s0:Pn}{q:KS}
theorem YJ {m:M α}{k:α->M β}{a:α}(h:m s=some (a,s1)):Zm m k s=k a s1:=by unfold Zm;rw[h]
theorem VL (hi:(ρ[i]?).bind id=some d):Za i ρ s=some (d,s):=by unfold Za YV;rw[hi]
end TQ
set_option exponentiation.threshold 9000
namespace TQ
open L2 TF TQ TU
open TP
open TP2 hiding g_all_near F_all_near
open TP3 hiding g_full_knots F_full_knots
noncomputable abbrev Z6 (N:Nat)(f:Nat->D):List D:=(qe N).map f
noncomputable abbrev Yy (N:Nat)(f:Nat->Int):D:=.lst (Z6 N λj=>.int (f j))
noncomputable abbrev tD (n m:Nat)(R:Nat->Nat->Int)(c:Int)(h:Nat->Nat):D:=.clo 0 (.int n :: .lst (Z6 (m+1) λk=>Yy (n+m+1) (R k)) :: .int c::Z6 m λk=>.int (h k:Nat))
theorem Wl {N k:Nat}{f:Nat->D}(hk:k<N):Zh (.lst (Z6 N f)) (.int (k:Int))=some (f k):=by
 refine(show Xu (Z6 N f) (k:Int)=some (f k)from VF ?_);simp_all
theorem Jz {m:Nat}{f:Nat->D}:Zh (.lst (Z6 (m+1) f)) (.int (-1))=some (f m):=by
 show Xu (Z6 (m+1) f) (-1)=_;unfold Xu Wy;simp;rw[if_pos (by omega),qa7,show(-1+((m:Int)+1)).toNat=m by omega,yP (by omega)];rfl
theorem XY {ρ:Zd}{i:Nat}{g:List D->Option D}{ds:List D}{d:D}(s:Pn)(hi:(ρ[i]?).bind id=some (.clo 0 ds))(hg:g ds=some d):YK i g ρ s=some (d,s):=by
 unfold YK;rw[YJ (VL hi)];show YV (g ds) s=_;rw[hg];rfl
theorem ZfY (N:Nat)(f:Nat->Int):Yb (Z6 N λk=>.int (f k))=some ((qe N).map f):=by
 have:(Z6 N λk=>.int (f k))=((qe N).map f).map D.int:=by simp
 rw[this,Zao]
theorem Zdq {N:Nat}{f:Nat->Int}{a b c:D}{g:List Int->Option D}:J8 g (a::b::c::Z6 N λk=>.int (f k))=g ((qe N).map f):=by
 show(Yb _).bind g=_;rw[ZfY];rfl
theorem UX {ρ:Zd}{F:List D->M D}{fs:Zd->M (List D)}{hs:List D}{i:Nat}(hi:(ρ[i]?).bind id=some (.clo 0 hs))(h1:fs ρ s=some (ds,s1))(h2:F (.clo 0 hs::ds) s1=r):XH F i fs ρ s=r:=by
 unfold XH;rw[YJ (VL hi)];show Zm (fs ρ) (λds=>F (.clo 0 hs::ds)) s=r;rw[YJ h1];exact h2
theorem Zch {i j:Int}(h1:Xz i=true)(h2:Xz j=true):XJ (.int i) (.int j)=some (.int (i*j)):=by
 show(if (Xz i&&Xz j)=true then _ else none)=_;simp_all
theorem Zeb {i j:Int}(h1:0<j)(h2:Xz j=true):ZdY (.int i) (.int j)=some (.int (i / j)):=by
 show(if (decide (0<j)&&Xz j)=true then _ else none)=_;simp_all
theorem vor2 {f g:Zd->M D}{ρ:Zd}{a b:Bool}(h:f ρ s=some (.bl a,s))(h2:g ρ s=some (.bl b,s)):Ug f g ρ s=some (.bl (a||b),s):=by
 unfold Ug;rw[YJ h]
 cases a with
 | true=>rfl
 | false=>exact h2
theorem _root_.TF.Ok.toEq2 {α:Type}{m:M α}{a:α}{s s':Pn}(h:Ok m s λx t=>x=a/\t=s'):m s=some (a,s'):=by
 obtain⟨x,t,e,rfl,rfl⟩:=h;exact e
theorem ZpH (a b:Int)(hb:0<=b)(s:Pn):Zaa [.int a,.int b] s=some (.int (zo a b:Nat),s):=by
 refine Ok.toEq2 (Ok.runB rfl ?_);refine Ok.seq (jE (λm ρ s'=>s'=s/\∃x y o,ρ=[some (.int x),some (.int y),o]/\0<=y/\m=y.toNat/\zo x y=zo a b) b.toNat ⟨rfl,a,b,none,rfl,hb,rfl,rfl⟩ λm ρ s' hI=>?_);obtain⟨rfl,x,y,o,rfl,hy,rfl,hg⟩:=hI;refine .eq (ZW (Zn rfl rfl (B1 y 0))) ?_;by_cases h0:y=0
 ·subst h0
  refine Ok.seq (.sret (.eq (YB (Zk rfl rfl) (show dAbs [.int x]=some _ from rfl)) ⟨?_,rfl⟩));rw[<-hg,Int.gcd_zero_right]
  grind
 ·rw[if_pos (by simp[h0])]
  have py:0<y:=by omega
  have em:Ud (.int x) (.int y)=some (.int (x % y)):=by
   show(if decide (0<y)=true then _ else none)=_;simp_all
  refine .seq (.sset (.eq (Zn rfl rfl em) ?_));refine .seq (.sset (.eq rfl (.next ⟨(x % y).toNat,?_,rfl,y,x % y,_,rfl,yT x h0,rfl,?_⟩)))
  ·have:=yz x py
   omega
  ·rw[<-hg,qbg y (x % y)]
   have e:=(Int.emod_add_mul_ediv x y).symm
   conv=>rhs;rw[e]
   simp
noncomputable def Xn (t b:Int):D:=.tup [.int (t / (zo t b:Nat)),.int (b / (zo t b:Nat))]
theorem Zif {t b:Int}(hb:0<b)(wb:Xz b=true)(s:Pn):UQ [.int t,.int b] s=some (Xn t b,s):=by
 have g0:0<zo t b:=qaN λz=>by simp_all
 have gw:Xz (zo t b:Nat)=true:=by
  have h1:=of_decide_eq_true wb;have h2:zo t b<=b.natAbs:=Nat.le_of_dvd (by omega) (Nat.gcd_dvd_right _ _);refine decide_eq_true ?_;exact zr h2 h1
 refine YL rfl (Z2 (WN (YA (Zk rfl (Zk rfl rfl)) (ZpH t b (by omega) s))) (ZM (XG (Wh (Zk (Zn rfl rfl (Zeb (by omega) gw)) (Zk (Zn rfl rfl (Zeb (by omega) gw)) rfl)) (by show 2<=xg;decide)))))
section
variable {A:Nat->Nat->Bool}{n m:Nat}{h:Nat->Nat}
noncomputable abbrev RR (A:Nat->Nat->Bool)(n m:Nat)(h:Nat->Nat):Nat->Nat->Int:=Rw (cl A n m) m h
noncomputable abbrev tT (A:Nat->Nat->Bool)(n m:Nat)(h:Nat->Nat):D:=tD n m (RR A n m h) (dl (cl A n m) m h) h
theorem wR (hm:m<=128)(k j:Nat):Xz (RR A n m h k j)=true:=decide_eq_true (zr (qu (ZfX h k j) (Zea (by omega))) Zfb)
theorem wdl (hm:m<=128):Xz (dl (cl A n m) m h)=true:=decide_eq_true (zr (qu (Zmu h) (Zea (by omega))) Zfb)
variable {R:Nat->Nat->Int}{c0:Int}
theorem Zfc (hn:n+m<=1000)(s:Pn):WT [tD n m R c0 h] s=(match (qe (n+m)).filter (λj=>decide (R m j<0))with | []=>some (.non,s) | c::r=>some (.int (minI c (r.map λ(x:Nat)=>(x:Int))),s)):=by
 have hc:Z3 [none,some 0] (Yn (Zc XD (ZB Yw (Zb (Zc Zh (YK 0 λds=>ds[1]?) (dC (.int (-1)))) Zf)) (dC (.int 1)))) (Zy 0) (Zo (Zc XR (Zc Zh (Zc Zh (YK 1 λds=>ds[1]?) (dC (.int (-1)))) (Za 0)) (dC (.int 0)))) (Za 0) [some (tD n m R c0 h),none] s=some (.lst (((qe (n+m)).filter λj=>decide (R m j<0)).map nD),s):=by
  refine(XX (λd=>[some d,some (tD n m R c0 h)]) (λd=>match d with | .int z=>decide (R m z.toNat<0) | _=>false) id (XU (n:=n+m) (Zn (d:=.int ((n+m+1:Nat):Int)) (e:=.int 1) (YB (Zk (Zn (XY s rfl rfl) rfl Jz) rfl) ?_) rfl ?_) (by omega)) (by unfold Ye;rw[qf,qM];exact qu hn (by decide)) λd md=>?_).trans ?_
  ·show some (D.int _)=_
   rw[qf,qM]
  ·show some (D.int _)=some (D.int _)
   congr 2;omega
  ·obtain⟨j,hj,rfl⟩:=qm.mp md
   have hj:=qR.mp hj;refine⟨rfl,ZW (Zn (d:=.int (R m j)) (e:=.int 0) (Zn (Zn (XY s rfl rfl) rfl Jz) rfl ?_) rfl ?_),λ_=>rfl⟩
   ·show Zh (Yy (n+m+1) (R m)) (.int (0+(j:Int)))=_
    rw[yH];exact Wl (by omega)
   ·show some (D.bl _)=some (D.bl _)
    simp
  ·unfold Ye
   rw[zJ,zQ];have e1:(λi:Nat=>D.int (0+(i:Int)))=nD:=by simp
   have e2:((λd=>match d with | D.int z=>decide (R m z.toNat<0) | _=>false)∘λi:Nat=>D.int (0+(i:Int)))=λj=>decide (R m j<0):=by funext j;simp
   rw[e2,e1]
 have hi:∀l:List Nat,Yb (l.map nD)=some (l.map λ(x:Nat)=>(x:Int)):=λl=>by
  rw[show l.map nD=(l.map λ(x:Nat)=>(x:Int)).map D.int by simp,Zao]
 refine(YL (d:=match (qe (n+m)).filter (λj=>decide (R m j<0))with | []=>.non | c::r=>.int (minI c (r.map λ(x:Nat)=>(x:Int)))) (s1:=s) rfl (Z2 (WN hc) (ZM (XG ?_)))).trans ?_
 ·unfold Zh3
  rw[YJ rfl];simp only[hi]
  cases (qe (n+m)).filter λj=>decide (R m j<0) <;> rfl
 ·cases (qe (n+m)).filter λj=>decide (R m j<0) <;> rfl
theorem Zkl (hn:n+m<=1000)(hg:∀j,j<n+m->0<=R m j)(s:Pn):WT [tD n m R c0 h] s=some (.non,s):=by
 rw[Zfc hn s,List.filter_eq_nil_iff.mpr λj hj=>by simp_all]
theorem Zkm {c:Nat}(hn:n+m<=1000)(hc:c<n+m)(h1:R m c<0)(h2:∀j,j<c->0<=R m j)(s:Pn):WT [tD n m R c0 h] s=some (nD c,s):=by
 rw[Zfc hn s];have e:qe (n+m)=qe c++(c::(List.range' (c+1) (n+m-c-1))):=by
  rw[qbN,qbN];rw[show n+m=c+(1+(n+m-c-1)) by omega,<-List.range'_append_1,qb1];rw[show c+(1+(n+m-c-1))-c-1=n+m-c-1 by omega,qb4 1,List.range'_succ]
 have f2:(qe (n+m)).filter (λj=>decide (R m j<0))=c::(List.range' (c+1) (n+m-c-1)).filter (λj=>decide (R m j<0)):=by
  simp_all
 rw[f2];show some (D.int _,s)=_;congr 2;congr 1;refine(min_uniq (by simp) λa ha=>?_).symm;rcases qN.mp ha with rfl | ha
 ·simp
 ·obtain⟨x,hx,rfl⟩:=qm.mp ha
  grind
theorem ZpI {i j c:Nat}(hm:m<=128)(hi:i<m)(hj:j<m)(hc:c<n+m)(s:Pn):B8 [tT A n m h,nD i,nD j,nD c] s=some (.bl (Jp (cl A n m) m (n+m) h c i j),s):=by
 have w:=wR (A:=A) (n:=n) (h:=h) hm;have last:∀k,Zh (Yy (n+m+1) (RR A n m h k)) (.int (-1))=some (.int (RR A n m h k (n+m))):=λk=>Jz;have at_:∀(ρ:Zd) k,(ρ[0]?).bind id=some (tT A n m h)->∀l,(ρ[l]?).bind id=some (nD k)->k<m->Zc Zh (YK 0 λds=>ds[1]?) (Za l) ρ s=some (Yy (n+m+1) (RR A n m h k),s):=fun ρ k h0 l hl hk=>Zn (XY s h0 rfl) (VL hl) (Wl (by omega));have hx:∀(ρ:Zd) k,(ρ[0]?).bind id=some (tT A n m h)->∀l,(ρ[l]?).bind id=some (nD k)->k<m->Zb8 0 (Za l) ρ s=some (nD (h k),s):=fun ρ k h0 l hl hk=>by
  unfold Zb8;rw[YJ (VL hl)];refine XY s h0 ?_;rw[Zdq];have:=Wl (f:=λk=>.int (h k:Nat)) hk;rw[qw];exact this
 refine YL rfl (Z2 (WN (Zn (Zn (at_ _ i rfl 1 rfl hi) rfl (last i)) (Zn (at_ _ j rfl 2 rfl hj) rfl (Wl (by omega))) (Zch (w _ _) (w _ _)))) (Z2 (WN (Zn (Zn (at_ _ j rfl 2 rfl hj) rfl (last j)) (Zn (at_ _ i rfl 1 rfl hi) rfl (Wl (by omega))) (Zch (w _ _) (w _ _)))) (ZM (XG ?_))));refine vor2 (Zn rfl rfl rfl) (ZiC (Zn rfl rfl ?_) λ_=>Zn (hx _ i rfl 1 rfl hi) (hx _ j rfl 2 rfl hj) ?_)
 ·rfl
 ·show some (D.bl _)=some (D.bl _)
  simp
theorem Zmw {c:Nat}(hm:m<=128)(hc:c<n+m)(s:Pn):Js [tT A n m h,nD c] s=some (match Wd (cl A n m) m (n+m) h c m with | some r=>nD r | none=>.non,s):=by
 refine Ok.toEq2 (Ok.runB (g:=ZaM) rfl ?_);refine Ok.seq (.sset (.eq (a:=.non) rfl ?_));refine Ok.seq (.sfor (λi ρ s'=>s'=s/\∃o,ρ=[some (tT A n m h),some (nD c),some (match Wd (cl A n m) m (n+m) h c i with | some r=>nD r | none=>.non),o]) (.eq (XU (n:=m) (XY s rfl ?_) (by omega)) ⟨⟨rfl,none,rfl⟩,λi d ρ s' hd hI=>?_,fun ρ s' hI=>?_⟩))
 ·rw[Zdq]
  simp
 ·obtain⟨rfl,o,rfl⟩:=hI
  have hi:i<m:=by
   have:=(qH.mp hd).1;unfold Ye at this;simpa using this
  have ed:d=nD i:=by
   unfold Ye at hd;rw[qI,yP (by omega)]at hd;simp at hd;exact hd.symm
  subst ed;refine⟨_,rfl,?_⟩;have e1:∀o2,Zc Vz (Zc Zh (Zc Zh (YK 0 λds=>ds[1]?) (Za 3)) (Za 1)) (dC (.int 0)) [some (tT A n m h),some (nD c),some o2,some (nD i)] s'=some (.bl (decide (0<RR A n m h i c)),s'):=λo2=>
   Zn (Zn (Zn (XY s' rfl rfl) rfl (Wl (by omega))) rfl (Wl (by omega))) rfl rfl
  have fin:∀(b:Bool) (o2 o3:D),(if b=true then nD i else o2)=o3->Ok (Ze (ZU (λ_ s=>some (b,s)) (Ze (Ya 2 (Za 3)) Zg) Zg) Zg [some (tT A n m h),some (nD c),some o2,some (nD i)]) s' λo s''=>∃ρ',o=.nx ρ'/\s''=s'/\∃o,ρ'=[some (tT A n m h),some (nD c),some o3,o]:=λb o2 o3 e=>by
   cases b with
   | true=>
    cases e
    exact Ok.seq (.sif (.eq (a:=true) rfl (.seq (.sset (.eq (a:=nD i) rfl (.next (.next ⟨_,rfl,rfl,_,rfl⟩)))))))
   | false=>
    cases e
    exact Ok.seq (.sif (.eq (a:=false) rfl (.next (.next ⟨_,rfl,rfl,_,rfl⟩))))
  have conv:∀(cnd:Zd->M Bool) (b:Bool) (o2 o3:D),cnd [some (tT A n m h),some (nD c),some o2,some (nD i)] s'=some (b,s')->(if b=true then nD i else o2)=o3->Ok (Ze (ZU cnd (Ze (Ya 2 (Za 3)) Zg) Zg) Zg [some (tT A n m h),some (nD c),some o2,some (nD i)]) s' λo s''=>∃ρ',o=.nx ρ'/\s''=s'/\∃o,ρ'=[some (tT A n m h),some (nD c),some o3,o]:=λcnd b o2 o3 hc e=>by
   cases b with
   | true=>
    cases e
    exact Ok.seq (.sif (.eq hc (.seq (.sset (.eq (a:=nD i) rfl (.next (.next ⟨_,rfl,rfl,_,rfl⟩)))))))
   | false=>
    cases e
    exact Ok.seq (.sif (.eq hc (.next (.next ⟨_,rfl,rfl,_,rfl⟩))))
  cases ht:Wd (cl A n m) m (n+m) h c i with
  | none=>
   refine conv _ (decide (0<RR A n m h i c)&&true) .non _ (ZiE (ZW (e1 _)) λ_=>VO (ZW (Zn rfl rfl rfl))) ?_;show _=(match Wd (cl A n m) m (n+m) h c (i+1)with | some r=>nD r | none=>.non);unfold Wd;rw[ht];by_cases z:0<RR A n m h i c
   ·rw[if_pos (by simpa using z),if_pos ⟨z,λj hj=>by cases hj⟩]
   ·rw[if_neg (by simpa using z),if_neg λq=>z q.1]
  | some j=>
   have hj:j<m:=by have:=((Zie (a:=cl A n m) (m:=m) (N:=n+m) (h:=h) (c:=c) (i:=i)).1 j ht).1;omega
   refine conv _ (decide (0<RR A n m h i c)&&(false||Jp (cl A n m) m (n+m) h c i j)) (nD j) _ (ZiE (ZW (e1 _)) λ_=>WQ (ZW (Zn rfl rfl rfl)) (ZW (UX rfl (Zk rfl (Zk rfl (Zk rfl rfl))) (ZpI hm hi hj hc s')))) ?_;show _=(match Wd (cl A n m) m (n+m) h c (i+1)with | some r=>nD r | none=>.non);unfold Wd;rw[ht];by_cases z:0<RR A n m h i c/\Jp (cl A n m) m (n+m) h c i j=true
   ·simp_all
   ·rw[if_neg (by simpa using z),if_neg λq=>z ⟨q.1,q.2 j rfl⟩]
 ·obtain⟨rfl,o,rfl⟩:=hI
  unfold Ye;rw[qf,qM];exact Ok.seq (.sret (.eq rfl ⟨rfl,rfl⟩))
theorem Zmx {f g:Nat->Int}{c N:Nat}{ds:List D}{dl0:Int}(hN:N<=1000)(hc:c<N)(hd:0<dl0)(wd:Xz dl0=true)(wf:∀j,Xz (f j)=true)(wg:∀j,Xz (g j)=true)(hds:ds[2]?=some (.int dl0))(s:Pn) :
  Bn [.clo 0 ds,Yy N f,Yy N g,nD c] s=some (Yy N λj=>(f j*g c-f c*g j) / dl0,s):=by
 refine YL rfl (ZM (XG ?_));refine(XX (λd=>[some d,some (Yy N f),some (Yy N g),some (nD c),some (.clo 0 ds)]) (λ_=>true) (λd=>match d with | .int z=>.int ((f z.toNat*g c-f c*g z.toNat) / dl0) | _=>.non) (XU (n:=N) (YB (Zk rfl rfl) ?_) (by omega)) (by unfold Ye;rw[qf,qM];exact qu hN (by decide)) λd md=>?_).trans ?_
 ·show some (D.int _)=_
  simp
 ·obtain⟨j,hj,rfl⟩:=qm.mp md
  have hj:=qR.mp hj;rw[yH];refine⟨rfl,rfl,λ_=>?_⟩;exact Zn (Zn (Zn (Zn rfl rfl (Wl hj)) (Zn rfl rfl (Wl hc)) (Zch (wf _) (wg _))) (Zn (Zn rfl rfl (Wl hc)) (Zn rfl rfl (Wl hj)) (Zch (wf _) (wg _))) rfl) (XY s rfl hds) (Zeb hd wd)
 ·unfold Ye
  rw[yp.mpr λ_ _=>rfl];simp
theorem Zci {ρ:Zd}{i:Nat}{g:List D->Option (List D)}{ds ds':List D}(s:Pn)(hi:(ρ[i]?).bind id=some (.clo 0 ds))(hg:g ds=some ds')(n1:U6 (ρ.set i none)=true)(n2:Yh ds'=true):Bd i g ρ s=some (.nx (ρ.set i (some (.clo 0 ds'))),s):=by
 unfold Bd;rw[YJ (VL hi)];simp only[hg];rw[if_pos ⟨n1,n2⟩];rfl
theorem ZaN {N:Nat}{f:Nat->D}(hf:∀k,ZY (f k)=true):Yh (Z6 N f)=true:=by
 have:∀l:List Nat,Yh (l.map f)=true:=λl=>by
  induction l with
  | nil=>rfl
  | cons a l ih=>simp only[qO,Yh,hf,ih];rfl
 exact this _
theorem Br {N:Nat}{f:Nat->Int}:ZY (Yy N f)=true:=by
 exact ZaN λ_=>rfl
theorem Zaw {R:Nat->Nat->Int}{c:Int}{h:Nat->Nat}:Yh (.int (n:Int) :: .lst (Z6 (m+1) λk=>Yy (n+m+1) (R k)) :: .int c::Z6 m λk=>.int (h k:Nat))=true:=by
 simp only[Yh,ZY];rw[ZaN λ_=>Br,ZaN λ_=>rfl];rfl
theorem ZpJ {N r:Nat}{f:Nat->Int}{z:Int}:((qe N).map f).set r z=(qe N).map λk=>if k=r then z else f k:=by
 apply qaW;intro i;rw[List.getElem?_set];by_cases hi:i<N
 ·rw[qI,qI,yP hi]
  by_cases e:r=i
  ·simp_all
  ·simp[e,qJ e]
 ·simp_all
theorem Zmy {r c:Nat}(hm:m<=128)(hn:n<=100)(fe:Feas (cl A n m) m (n+m) h)(hr:r<m)(hc:c<n+m)(hp0:0<RR A n m h r c)(s:Pn):Jv [tT A n m h,nD r,nD c] s=some (tT A n m (hp h r c),s):=by
 have w:=wR (A:=A) (n:=n) (h:=h) hm;have nz:=fe.good.nz;have rowE:∀k,k<=m->(if k=r then Yy (n+m+1) (RR A n m h r)else Yy (n+m+1) λj=>(RR A n m h k j*RR A n m h r c-RR A n m h k c*RR A n m h r j) / dl (cl A n m) m h)=Yy (n+m+1) (RR A n m (hp h r c) k):=λk hk=>by
  by_cases e:k=r
  ·subst e
   rw[if_pos rfl,show RR A n m (hp h k c) k=RR A n m h k from funext λj=>Zdn hr j]
  ·rw[if_neg e,show(λj=>(RR A n m h k j*RR A n m h r c-RR A n m h k c*RR A n m h r j) / dl (cl A n m) m h)=RR A n m (hp h r c) k from funext λj=>by
    rw[show RR A n m h k j*RR A n m h r c-RR A n m h k c*RR A n m h r j=dl (cl A n m) m h*RR A n m (hp h r c) k j from(Zg7 fe.good hr hk e j).symm,Int.mul_ediv_cancel_left _ nz]]
 have hcomp:Z3 [none,some 1,some 3,some 0,some 2] (Yn (ZB Yw (Zb (YK 0 λds=>ds[1]?) Zf))) (Zy 0) Yo (Vx (Zo (Zc YD (Za 0) (Za 1))) (Za 2) (XH Bn 3 (Zb (Zc Zh (YK 3 λds=>ds[1]?) (Za 0)) (Zb (Za 2) (Zb (Za 4) Zf))))) [some (tT A n m h),some (nD r),some (nD c),some (Yy (n+m+1) (RR A n m h r))] s=some (.lst (Z6 (m+1) λk=>Yy (n+m+1) (RR A n m (hp h r c) k)),s):=by
  refine(XX (λd=>[some d,some (nD r),some (Yy (n+m+1) (RR A n m h r)),some (tT A n m h),some (nD c)]) (λ_=>true) (λd=>match d with | .int z=>Yy (n+m+1) (RR A n m (hp h r c) z.toNat) | _=>.non) (XU (n:=m+1) (YB (Zk (XY s rfl rfl) rfl) ?_) (by omega)) (by unfold Ye;rw[qf,qM];exact qu (show m+1<=1000 by omega) (by decide)) λd md=>?_).trans ?_
  ·show some (D.int _)=_
   rw[qf,qM]
  ·obtain⟨k,hk,rfl⟩:=qm.mp md
   have hk:=qR.mp hk;rw[yH];refine⟨rfl,rfl,λ_=>?_⟩;show Vx _ _ _ _ s=some (Yy (n+m+1) (RR A n m (hp h r c) k),s);rw[<-rowE k (by omega)];unfold Vx;rw[YJ (ZW (Zn rfl rfl (UN (k:Int) r)))];by_cases e:k=r
   ·subst e
    rw[if_pos (by simp),if_pos rfl];rfl
   ·rw[if_neg (by simp;omega),if_neg e]
    exact UX rfl (Zk (Zn (XY s rfl rfl) rfl (Wl hk)) (Zk rfl (Zk rfl rfl))) (Zmx (by omega) (by omega) fe.pos (wdl hm) (λj=>w k j) (λj=>w r j) rfl s)
  ·unfold Ye
   rw[yp.mpr λ_ _=>rfl,qw];congr 3;refine qQ λj _=>?_;show Yy (n+m+1) (RR A n m (hp h r c) (0+(j:Int)).toNat)=_;rw[yH];rfl
 have e1:ZaS [some (tT A n m h),some (nD r),some (nD c),none] s=some (.nx [some (tT A n m (hp h r c)),some (nD r),some (nD c),some (Yy (n+m+1) (RR A n m h r))],s):=by
  refine Z2 (WN (Zn (XY s rfl rfl) rfl (Wl (by omega)))) ?_;refine Z2 (?_:ZiJ 0 _ _ s=some (.nx [some (.clo 0 (.int (n:Int) :: .lst (Z6 (m+1) λk=>Yy (n+m+1) (RR A n m (hp h r c) k)) :: .int (dl (cl A n m) m h)::Z6 m λk=>.int (h k:Nat))),some (nD r),some (nD c),some (Yy (n+m+1) (RR A n m h r))],s)) ?_
  ·unfold ZiJ
   refine(YJ hcomp).trans ?_;exact Zci s rfl rfl (by show(true&&(true&&(true&&(ZY (Yy (n+m+1) (RR A n m h r))&&true))))=true;rw[Br];rfl) Zaw
  refine Z2 (?_:ZiK 0 _ _ _ s=some (.nx [some (.clo 0 (.int (n:Int) :: .lst (Z6 (m+1) λk=>Yy (n+m+1) (RR A n m (hp h r c) k)) :: .int (dl (cl A n m) m h)::Z6 m λk=>.int (hp h r c k:Nat))),some (nD r),some (nD c),some (Yy (n+m+1) (RR A n m h r))],s)) ?_
  ·unfold ZiK
   refine(YJ (VL (d:=nD c) rfl)).trans ?_;refine(YJ (VL (d:=nD r) rfl)).trans ?_;refine Zci s rfl ?_ (by show(true&&(true&&(true&&(ZY (Yy (n+m+1) (RR A n m h r))&&true))))=true;rw[Br];rfl) Zaw;show((Yb _).bind λns=>_)=_;rw[ZfY];have e5:(((qe m).map λk=>((h k:Nat):Int)).set r (c:Int)).map D.int=Z6 m λk=>.int (hp h r c k:Nat):=by
    rw[ZpJ,qw];refine qQ λk _=>?_;show D.int (if k=r then (c:Int)else (h k:Int))=D.int ((hp h r c k:Nat):Int);unfold hp;split <;> rfl
   have e6:Wy ((qe m).map λk=>((h k:Nat):Int)).length (r:Int)=some r:=by
    rw[qf,qM];unfold Wy;rw[if_pos (by omega),if_pos (by omega)];simp
   rw[qa7,e6,qav,e5]
  refine Z2 (?_:ZfL 0 _ _ s=some (.nx [some (tT A n m (hp h r c)),some (nD r),some (nD c),some (Yy (n+m+1) (RR A n m h r))],s)) rfl;unfold ZfL;refine(YJ (Zn (d:=Yy (n+m+1) (RR A n m h r)) rfl rfl (Wl (by omega)))).trans ?_;have:=Zci (ρ:=[some (.clo 0 (.int (n:Int) :: .lst (Z6 (m+1) λk=>Yy (n+m+1) (RR A n m (hp h r c) k)) :: .int (dl (cl A n m) m h)::Z6 m λk=>.int (hp h r c k:Nat))),some (nD r),some (nD c),some (Yy (n+m+1) (RR A n m h r))]) (i:=0) (g:=λds=>match ds with | n'::r0::_::hs=>some (n'::r0 :: .int (RR A n m h r c)::hs) | _=>none) s rfl rfl (by show(true&&(true&&(true&&(ZY (Yy (n+m+1) (RR A n m h r))&&true))))=true;rw[Br];rfl) Zaw;refine this.trans ?_;show some (Out.nx [some (.clo 0 _),_,_,_],s)=_;rw[show RR A n m h r c=dl (cl A n m) m (hp h r c)from(Zg6 hr).symm]
 unfold Jv runT;rw[if_pos (show [tT A n m h,nD r,nD c].length=3 from rfl)];show Zm (ZaS [some (tT A n m h),some (nD r),some (nD c),none]) _ s=_;rw[YJ e1];rfl
end
set_option exponentiation.threshold 9000
section
variable {A:Nat->Nat->Bool}{n m:Nat}
noncomputable def Jq (A:Nat->Nat->Bool)(n m:Nat)(h:Nat->Nat)(c r:Nat):Prop:=Gain (cl A n m) m (n+m) h c/\Tight (cl A n m) m (n+m) h c r
open Classical in
noncomputable def B6 (A:Nat->Nat->Bool)(n m:Nat)(h:Nat->Nat):Nat->Nat:=if q:∃c r,Jq A n m h c r then hp h (choose (choose_spec q)) (choose q)else h
theorem Zig {h:Nat->Nat}{c r:Nat}(f:Feas (cl A n m) m (n+m) h)(q:Jq A n m h c r):B6 A n m h=hp h r c:=by
 have hq:∃c r,Jq A n m h c r:=⟨c,r,q⟩;unfold B6;rw[dif_pos hq];have key:∀c' r',Jq A n m h c' r'->hp h r' c'=hp h r c:=λc' r' ⟨g,t⟩=>by
  have e1:=g.uniq q.1;subst e1;rw[t.uniq f q.2]
 exact key _ _ (zB (zB hq))
noncomputable def sq (A:Nat->Nat->Bool)(n m:Nat):Nat->Nat->Nat
 | 0=>(n + ·)
 | t+1=>B6 A n m (sq A n m t)
theorem JJ:∀t,Feas (cl A n m) m (n+m) (sq A n m t)
 | 0=>Zid
 | t+1=>by
  have f:=JJ t;by_cases q:∃c r,Jq A n m (sq A n m t) c r
  ·obtain⟨c,r,q⟩:=q
   show Feas _ _ _ (B6 A n m (sq A n m t));rw[Zig f q];exact f.step q.1 q.2
  ·show Feas _ _ _ (B6 A n m (sq A n m t))
   unfold B6;rw[dif_neg q];exact f
variable (cov:∀j,j<n->∃x,x<m/\A x j=true)
include cov
theorem Zmz {h:Nat->Nat}(f:Feas (cl A n m) m (n+m) h){j:Nat}(hj:j<n+m)(hn:RR A n m h m j<0):∃c r,Jq A n m h c r/\Wd (cl A n m) m (n+m) h c m=some r:=by
 have hmin:∀j,j<n+m->RR A n m h m j<0->∃c,Gain (cl A n m) m (n+m) h c:=λj=>by
  induction j using qbt with
  | ind j ih=>
   intro hj hn;by_cases q:∃i,i<j/\RR A n m h m i<0
   ·grind
   ·exact⟨j,hj,hn,λi hi=>by
     grind⟩
 obtain⟨c,g⟩:=hmin j hj hn;obtain⟨r,e,t⟩:=Zkk (Zn4 cov f g.lt);exact⟨c,r,⟨g,t⟩,e⟩
theorem Zn6:∃K,∀j,j<n+m->0<=RR A n m (sq A n m K) m j:=by
 refine qT λno=>?_;have all:∀t,∃c r,Jq A n m (sq A n m t) c r:=λt=>by
  refine qT λq=>no ⟨t,λj hj=>?_⟩;refine qT λz=>?_;obtain⟨c,r,s,_⟩:=Zmz cov (JJ t) hj (by omega);exact q ⟨c,r,s⟩
 have R:Run (cl A n m) m (n+m) (sq A n m) (λt=>qbe (all t)) (λt=>qbe (zB (all t))):=by
  have sp:=λt=>zB (zB (all t));exact⟨JJ,λt=>(sp t).1,λt=>(sp t).2,λt=>Zig (JJ t) (sp t)⟩
 exact R.none
theorem Zkn (hm:m<=128)(hn:n<=100)(s:Pn):∃h,Feas (cl A n m) m (n+m) h/\(∀j,j<n+m->0<=RR A n m h m j)/\Uk [tT A n m (n + ·)] s=some (tT A n m h,s):=by
 obtain⟨K,hK⟩:=Zn6 cov;have gcN:∀h,(∀j,j<n+m->0<=RR A n m h m j)->∀s,WT [tT A n m h] s=some (.non,s):=λh hg s=>Zkl (by omega) hg s;have loop:∃h,Feas (cl A n m) m (n+m) h/\(∀j,j<n+m->0<=RR A n m h m j)/\ZaT [some (tT A n m (n + ·)),none] s=some (.nx [some (tT A n m h),some .non],s):=by
  have first:∀t,t<=K->(∃c r,Jq A n m (sq A n m t) c r/\Wd (cl A n m) m (n+m) (sq A n m t) c m=some r/\WT [tT A n m (sq A n m t)] s=some (nD c,s)/\t<K)∨((∀j,j<n+m->0<=RR A n m (sq A n m t) m j)/\WT [tT A n m (sq A n m t)] s=some (.non,s)):=λt ht=>by
   by_cases q:∀j,j<n+m->0<=RR A n m (sq A n m t) m j
   ·exact .inr ⟨q,gcN _ q s⟩
   ·have:∃j,j<n+m/\RR A n m (sq A n m t) m j<0:=qT λz=>q λj hj=>by
     have:¬RR A n m (sq A n m t) m j<0:=λy=>z ⟨j,hj,y⟩;omega
    obtain⟨j,hj,hneg⟩:=this;obtain⟨c,r,st,e⟩:=Zmz cov (JJ t) hj hneg;refine .inl ⟨c,r,st,e,Zkm (by omega) st.1.lt st.1.neg st.1.fst s,?_⟩;rcases Nat.lt_or_ge t K with l | g
    ·exact l
    ·have:t=K:=by omega
     subst this;exact absurd hK q
  suffices hh:Ok (ZaT [some (tT A n m (n + ·)),none]) s λo s'=>s'=s/\∃h,Feas (cl A n m) m (n+m) h/\(∀j,j<n+m->0<=RR A n m h m j)/\o=.nx [some (tT A n m h),some .non] by
   obtain⟨o,s',e,rfl,h,h1,h2,rfl⟩:=hh;exact⟨h,h1,h2,e⟩
  have I0:∀t,t<=K->∃d,WT [tT A n m (sq A n m t)] s=some (d,s):=λt ht=>by
   rcases first t ht with⟨c,r,_,_,e,_⟩ | ⟨_,e⟩
   ·exact⟨_,e⟩
   ·exact⟨_,e⟩
  obtain⟨d0,ed0⟩:=I0 0 (zv _);refine Ok.seq (.sset (.eq (UX rfl rfl ed0) ?_));refine Ok.seq (jE (λk ρ s'=>s'=s/\∃t d,t<=K/\k=K-t/\WT [tT A n m (sq A n m t)] s=some (d,s)/\ρ=[some (tT A n m (sq A n m t)),some d]) K ⟨rfl,0,d0,zv _,rfl,ed0,rfl⟩ λk ρ s' hI=>?_);obtain⟨rfl,t,d,ht,rfl,ed,rfl⟩:=hI;rcases first t ht with⟨c,r,st,e1,e2,hlt⟩ | ⟨hopt,e2⟩
  ·rw[ed]at e2
   cases e2
   refine .eq (a:=true) (ZW (Zn rfl rfl rfl)) ?_;rw[if_pos rfl];have f:=JJ (A:=A) (n:=n) (m:=m) t;have et:Js [tT A n m (sq A n m t),nD c] s'=some (nD r,s'):=by rw[Zmw hm st.1.lt s',e1]
   have ex:=Zmy hm hn f st.2.lt st.1.lt st.2.pos s';rw[<-Zig f st]at ex;have e9:VV Jv 0 (Zb (XH Js 0 (Zb (Za 1) Zf)) (Zb (Za 1) Zf)) [some (tT A n m (sq A n m t)),some (nD c)] s'=some (.nx [some (tT A n m (sq A n m (t+1))),some (nD c)],s'):=by
    unfold VV;refine(YJ (VL (d:=tT A n m (sq A n m t)) rfl)).trans ?_;refine(YJ (Zk (UX rfl (Zk rfl rfl) et) (Zk rfl rfl))).trans ?_;refine(YJ ex).trans ?_;exact Zci s' rfl rfl rfl Zaw
   obtain⟨d1,ed1⟩:=I0 (t+1) (by omega);refine .seq (.eq e9 (.seq (.sset (.eq (UX rfl rfl ed1) (.next ⟨K-(t+1),by omega,rfl,t+1,d1,by omega,rfl,ed1,rfl⟩)))))
  ·rw[ed]at e2
   cases e2
   refine .eq (ZW (Zn rfl rfl rfl)) ?_;exact .next ⟨rfl,sq A n m t,JJ t,hopt,rfl⟩
 obtain⟨h,h1,h2,e⟩:=loop;refine⟨h,h1,h2,?_⟩;unfold Uk runT;rw[if_pos (show [tT A n m (n + ·)].length=1 from rfl)];show Zm (ZaT [some (tT A n m (n + ·)),none]) _ s=_;rw[YJ e];rfl
end
set_option exponentiation.threshold 9000
theorem Zi3 (o:Nat)(l:List Nat):YR (nD o) (Zv l)=some (.bl (decide (o∈l))):=by
 have h:Xi (nD o) (l.map nD)=true:=by simp[Xi,Zs,Zd2,ZX,ZiS]
 show(if Xi (nD o) (l.map nD)=true then some (Xx (nD o) (l.map nD))else none).map D.bl=_;rw[if_pos h,ZgW];rfl
noncomputable abbrev AA (K:List (List Nat)):Nat->Nat->Bool:=λx j=>decide (j∈K.getD x [])
theorem ZmA {c:Zd->M Bool}{f g:Zd->M D}{ρ:Zd}{b:Bool}{d e:D}(h:c ρ s=some (b,s))(h1:f ρ s=some (d,s))(h2:g ρ s=some (e,s)):Vx c f g ρ s=some (if b then d else e,s):=by
 unfold Vx;rw[YJ h]
 cases b with
 | true=>exact h1
 | false=>exact h2
theorem ZcJ {N M:Nat}{f g:Nat->D}:Z6 N f++Z6 M g=Z6 (N+M) λj=>if j<N then f j else g (j-N):=by
 unfold Z6;rw[show qe (N+M)=qe N++(qe M).map (N + ·)from List.range_add,qV,qw];congr 1
 ·simp_all
 ·refine qQ λj hj=>?_
  show g j=if N+j<N then f (N+j)else g (N+j-N);rw[if_neg (by omega),Nat.add_sub_cancel_left]
theorem ZpK {k:Nat}{d:D}:(qp k [d]).flatten=Z6 k λ_=>d:=by
 unfold Z6
 induction k with
 | zero=>rfl
 | succ k ih=>rw[qbT,List.flatten_cons,ih,zV,qO,qw];rfl
theorem ZmB {ds:List D}{k:Int}(h1:-(2 ^ 63)<=k)(h2:k<2 ^ 63)(h3:ds.length*k.toNat<=xg):J5 (.lst ds) (.int k)=some (.lst (qp k.toNat ds).flatten):=by
 show(if _ then _ else _)=_;simp_all
theorem ZmC (d:D)(k:Nat)(hk:k<=1000):J5 (.lst [d]) (.int (k:Int))=some (.lst (Z6 k λ_=>d)):=by
 refine(ZmB (by omega) (by omega) ?_).trans ?_
 ·exact qu (show 1*k<=1000 by omega) (by decide)
 ·rw[Int.toNat_natCast,ZpK]
section
variable {K:List (List Nat)}{n:Nat}
theorem Zcj {src:List (Option Nat)}{fe:Zd->M D}{f:Zd->M D}{ρ:Zd}{N:Nat}{c:Nat->D}(s:Pn)(hN:N<=1000)(r:D->Zd)(h1:f ρ s=some (nD N,s))(hr:∀d,Zy 0 d (Wg src ρ)=some (r d))(h:∀j,j<N->fe (r (nD j)) s=some (c j,s)):Z3 src (Yn f) (Zy 0) Yo fe ρ s=some (.lst (Z6 N c),s):=by
 refine(XX r (λ_=>true) (λd=>match d with | .int z=>c z.toNat | _=>.non) (XU h1 (by omega)) (by unfold Ye;rw[qf,qM];exact qu hN (by decide)) λd md=>?_).trans ?_
 ·obtain⟨j,hj,rfl⟩:=qm.mp md
  have hj:=qR.mp hj;rw[yH];exact⟨hr _,rfl,λ_=>h j hj⟩
 ·unfold Ye
  rw[yp.mpr λ_ _=>rfl,qw];congr 3;refine qQ λj _=>?_;show c (0+(j:Int)).toNat=c j;simp
theorem Zi4 {fw fr:Zd->M D}{a b c:D}{W R:Nat->D}(s:Pn)(hw:∀k,k<m->∀o5,fw [none,some a,some b,some c,some (nD k),o5] s=some (W k,s))(hr:∀k,k<m->fr [none,some a,some b,some c,some (nD k),some (W k)] s=some (R k,s)):∀(l:List Nat),(∀k∈l,k<m)->∀o4 o5,∃o4' o5',mIni fw fr (l.map nD) [none,some a,some b,some c,o4,o5] s=some ((l.map R,[none,some a,some b,some c,o4',o5']),s)
 | [],_,o4,o5=>⟨o4,o5,rfl⟩
 | k::l,hl,o4,o5=>by
  obtain⟨p4,p5,e⟩:=Zi4 s hw hr l (λk hk=>hl k (by simp[hk])) (some (nD k)) (some (W k));refine⟨p4,p5,?_⟩;have hk:=hl k (by simp);refine(YJ (hw k hk o5)).trans ?_;refine(YJ (hr k hk)).trans ?_;refine(YJ e).trans ?_;rfl
theorem ZmD (hm:K.length<=128)(hn:n<=100)(s:Pn):Za7 (nD n) (.lst (K.map Zv)) s=some (.int (n:Int) :: .lst (Z6 (K.length+1) λk=>Yy (n+K.length+1) (RR (AA K) n K.length (n + ·) k)) :: .int (dl (cl (AA K) n K.length) K.length (n + ·))::Z6 K.length λk=>.int ((n+k:Nat):Int),s):=by
 obtain⟨_,e1,e2⟩:=Zha (A:=AA K) (n:=n) (m:=K.length);generalize hM:K.length=m at *
 -- rows
 have rowE:∀k,k<=m->Yy (n+m+1) (RR (AA K) n m (n + ·) k)=Yy (n+m+1) λj=>cl (AA K) n m j k:=λk hk=>by
  rw[show RR (AA K) n m (n + ·) k=λj=>cl (AA K) n m j k from funext λj=>e2 k j hk]
 have W:∀k,k<m->∀o5,Z3 [none,some 2,some 4] (Yn (Za 1)) (Zy 0) Yo (Vx (Zo (Zc YR (Za 0) (Zc Zh (Za 1) (Za 2)))) (dC (.int 1)) (dC (.int 0))) [none,some (nD n),some (.lst (K.map Zv)),some (nD m),some (nD k),o5] s=some (.lst (Z6 n λj=>if AA K k j then .int 1 else .int 0),s):=λk hk o5=>by
  refine Zcj s (by omega) (λd=>[some d,some (.lst (K.map Zv)),some (nD k)]) rfl (λ_=>rfl) λj hj=>?_;refine ZmA (ZW (Zn rfl (Zn (d:=.lst (K.map Zv)) (e:=nD k) (c:=Zv (K.getD k [])) rfl rfl ?_) (Zi3 j _))) rfl rfl;refine(show Xu (K.map Zv) (k:Int)=_ from VF ?_);rw[qI,zc (by omega)];simp[qb5,zc (show k<K.length by omega)]
 have sz:∀a b:Nat,a+b<=1000->a+b<=xg:=λa b h=>qu h (by decide);have R:∀k,k<m->Zc Yr (Zc Yr (Za 5) (Z3 [none,some 4] (Yn (Za 3)) (Zy 0) Yo (Vx (Zo (Zc YD (Za 0) (Za 1))) (dC (.int 1)) (dC (.int 0))))) (X0 (Zb (dC (.int 1)) Zf)) [none,some (nD n),some (.lst (K.map Zv)),some (nD m),some (nD k),some (.lst (Z6 n λj=>if AA K k j then .int 1 else .int 0))] s=some (Yy (n+m+1) λj=>cl (AA K) n m j k,s):=λk hk=>by
  have hc:=Zcj (src:=[none,some 4]) (f:=Za 3) (fe:=Vx (Zo (Zc YD (Za 0) (Za 1))) (dC (.int 1)) (dC (.int 0))) (ρ:=[none,some (nD n),some (.lst (K.map Zv)),some (nD m),some (nD k),some (.lst (Z6 n λj=>if AA K k j then .int 1 else .int 0))]) (N:=m) (c:=λj=>if ((j:Int)==(k:Int))then .int 1 else .int 0) s (by omega) (λd=>[some d,some (nD k)]) rfl (λ_=>rfl) λj hj=>ZmA (ZW (Zn rfl rfl (UN (j:Int) k))) rfl rfl;have a1:∀(x y:List D),x.length+y.length<=1000->Yr (.lst x) (.lst y)=some (.lst (x++y)):=λx y h=>by
   show(if x.length+y.length<=xg then _ else none)=_;rw[if_pos (qu h (by decide))]
  refine Zn (Zn rfl hc (a1 _ _ (by simp;omega))) (BD (ds:=[.int 1]) (Zk rfl rfl) (by show 1<=xg;decide)) ((a1 _ _ (by simp;omega)).trans ?_);refine congrArg (λx=>some (D.lst x)) ?_;rw[show([D.int 1]:List D)=Z6 1 λ_=>.int 1 from rfl,ZcJ,ZcJ];refine qQ λj hj=>?_;have hj:=qR.mp hj;show(if j<n+m then (if j<n then (if AA K k j=true then D.int 1 else .int 0)else if (((j-n:Nat):Int)==(k:Int))=true then .int 1 else .int 0)else .int 1)=D.int (cl (AA K) n m j k);unfold cl un;by_cases h1:j<n
  ·rw[if_pos (by omega),if_pos h1,if_pos h1,if_pos hk]
   split <;> rfl
  ·by_cases h2:j<n+m
   ·rw[if_pos h2,if_neg h1,if_neg h1,if_pos h2]
    by_cases h3:k=j-n
    ·subst h3;simp
    ·rw[if_neg (by simp;omega),if_neg h3]
   ·rw[if_neg h2,if_neg h1,if_neg h2,if_pos (by omega),if_pos hk]
 have L:∀o4 o5,Zc Yr (Zc J5 (X0 (Zb (dC (.int (-1))) Zf)) (Za 1)) (Zc J5 (X0 (Zb (dC (.int 0)) Zf)) (Zc Yr (Za 3) (dC (.int 1)))) [none,some (nD n),some (.lst (K.map Zv)),some (nD m),o4,o5] s=some (Yy (n+m+1) λj=>cl (AA K) n m j m,s):=λo4 o5=>by
  have h1:=ZmC (.int (-1)) n (by omega);have h2:=ZmC (.int 0) (m+1) (by omega);refine Zn (Zn (BD (ds:=[.int (-1)]) (Zk rfl rfl) (by show 1<=xg;decide)) rfl h1) (Zn (BD (ds:=[.int 0]) (Zk rfl rfl) (by show 1<=xg;decide)) (Zn (c:=.int ((m+1:Nat):Int)) rfl rfl rfl) h2) ?_;show(if _ then _ else none)=_;rw[if_pos (qu (show _<=1000 by simp;omega) (by decide)),ZcJ];refine congrArg (λx=>some (D.lst x)) ?_;refine qQ λj hj=>?_;have hj:=qR.mp hj;show(if j<n then D.int (-1)else .int 0)=D.int (cl (AA K) n m j m);unfold cl un;by_cases h1:j<n
  ·rw[if_pos h1,if_pos h1,if_neg (by omega),if_pos rfl]
  ·by_cases h2:j<n+m
   ·rw[if_neg h1,if_neg h1,if_pos h2,if_neg (by omega)]
   ·rw[if_neg h1,if_neg h1,if_neg h2,if_pos (by omega),if_neg (by omega)]
 have Hh:∀o4 o5,Z3 [none,some 1] (Yn (Za 3)) (Zy 0) Yo (Zc Yr (Za 1) (Za 0)) [none,some (nD n),some (.lst (K.map Zv)),some (nD m),o4,o5] s=some (.lst (Z6 m λk=>.int ((n+k:Nat):Int)),s):=λo4 o5=>
  Zcj s (by omega) (λd=>[some d,some (nD n)]) rfl (λ_=>rfl) λj hj=>Zn rfl rfl rfl
 obtain⟨o4,o5,hI⟩:=Zi4 (m:=m) s W R (qe m) (λk hk=>qR.mp hk) none none;have hr:Ye 0 m=(qe m).map nD:=by
  unfold Ye;exact qQ λk _=>by rw[yH]
 unfold Za7 iniF;refine(YJ (YB (Zk rfl rfl) (show Yw [.lst (K.map Zv)]=some (nD m) by show some (D.int _)=_;rw[qf,hM]))).trans ?_;refine(YJ (XU (n:=m) rfl (by omega))).trans ?_;rw[hr];refine(YJ hI).trans ?_;refine(YJ (L o4 o5)).trans ?_;refine(YJ (Hh o4 o5)).trans ?_;show(match Yb (Z6 m λk=>.int ((n+k:Nat):Int))with | some ns=>_ | none=>ZP) s=_;rw[ZfY];simp only;rw[if_pos ?_]
 ·show some (_,s)=some (_,s)
  congr 2;rw[e1];congr 2
  ·congr 1
   unfold Z6;rw[zR,qV];congr 1
   ·refine qQ λk hk=>?_
    rw[rowE k (by have:=qR.mp hk;omega)]
   ·show [_]=[Yy (n+m+1) (RR (AA K) n m (n + ·) m)]
    rw[rowE m (qk m)]
  ·rw[qw];rfl
 ·refine⟨?_,?_⟩
  ·have:∀(l:List D),(∀d∈l,ZY d=true)->Yh l=true:=λl=>by
    induction l with
    | nil=>intro _;rfl
    | cons a l ih=>
     intro h;simp only[Yh];rw[h a (by simp),ih λd hd=>h d (by simp[hd])];rfl
   refine this _ λd hd=>?_;rcases zZ.mp hd with z | z
   ·obtain⟨k,_,rfl⟩:=qm.mp z
    exact Br
   ·rw[qaL.mp z];exact Br
  ·rw[qf,qM]
   exact qu (show m+1<=1000 by omega) (by decide)
end
set_option exponentiation.threshold 9000
section
variable {A:Nat->Nat->Bool}{n m:Nat}{h:Nat->Nat}(hm:m<=128)(f:Feas (cl A n m) m (n+m) h)
include hm f
theorem ZmE (s:Pn):Bq [tT A n m h] s=some (Xn (RR A n m h m (n+m)) (dl (cl A n m) m h),s):=
 YL rfl (ZM (XG (YA (Zk (Zn (Zn (XY s rfl rfl) rfl Jz) rfl Jz) (Zk (XY s rfl rfl) rfl)) (Zif f.pos (wdl hm) s))))
theorem ZmF {i:Nat}(hi:i<m)(s:Pn):JD [tT A n m h,nD i] s=some (Xn (RR A n m h m (n+i)) (dl (cl A n m) m h),s):=by
 refine YL rfl (ZM (XG (YA (Zk (Zn (Zn (XY s rfl rfl) rfl Jz) (Zn (XY s rfl rfl) rfl ?_) (Wl (by omega))) (Zk (XY s rfl rfl) rfl)) (Zif f.pos (wdl hm) s))));rfl
theorem Zko {j:Nat}(s:Pn):Jy [tT A n m h,nD j] s=some (Xn (wt A n m h j) (dl (cl A n m) m h),s):=by
 have hno:Zo (Zb9 0 (Za 1)) [some (tT A n m h),some (nD j)] s=some (!decide ((j:Int)∈(qe m).map λk=>((h k:Nat):Int)),s):=by
  refine ZW ?_;unfold Zb9;refine(YJ (VL (d:=nD j) rfl)).trans ?_;refine XY s rfl ?_;rw[Zdq];have e:((qe m).map λk=>((h k:Nat):Int)).map D.int=((qe m).map h).map nD:=by rw[qw,qw];rfl
  rw[e];refine(Zg3 j _).trans ?_;congr 3;rw[decide_eq_decide,qm,qm];constructor
  ·rintro⟨k,h1,h2⟩;exact⟨k,h1,by omega⟩
  ·rintro⟨k,h1,h2⟩;exact⟨k,h1,by omega⟩
 by_cases q:∃k,k<m/\h k=j
 ·obtain⟨k,hk,rfl⟩:=q
  have hin:((h k:Nat):Int)∈(qe m).map λk=>((h k:Nat):Int):=qm.mpr ⟨k,qR.mpr hk,rfl⟩;rw[decide_eq_true hin]at hno;have hat:Zdj 0 (Za 1) [some (tT A n m h),some (nD (h k))] s=some (nD k,s):=by
   unfold Zdj;refine(YJ (VL rfl)).trans ?_;refine XY s rfl ?_;rw[Zdq];show((Yb _).bind λns=>_)=_;rw[Zao];have hlt:=qbc.mpr hin;have hg:=List.getElem_idxOf hlt;rw[qbb,List.getElem_range]at hg;rw[qf,qM]at hlt;have:=f.good.inj hlt hk (by omega);simp_all
  rw[ZoB f hk];exact YL rfl (Z2 (XZ hno rfl) (ZM (XG (YA (Zk (Zn (Zn (XY s rfl rfl) hat (Wl (by omega))) rfl Jz) (Zk (XY s rfl rfl) rfl)) (Zif f.pos (wdl hm) s)))))
 ·have hout:=λk hk e=>q ⟨k,hk,e⟩
  have hnin:¬(j:Int)∈(qe m).map λk=>((h k:Nat):Int):=λz=>by
   obtain⟨k,h1,h2⟩:=qm.mp z;exact hout k (qR.mp h1) (by omega)
  rw[decide_eq_false hnin]at hno;rw[Zml f hout];refine(YL rfl (ZM (XC hno (ZM (XG (Wh (Zk rfl (Zk rfl rfl)) (by decide))))))).trans ?_;have p:=f.pos;have e:Xn 0 (dl (cl A n m) m h)=.tup [.int 0,.int 1]:=by
   unfold Xn;rw[Int.gcd_zero_left,show((dl (cl A n m) m h).natAbs:Int)=dl (cl A n m) m h by omega,Int.zero_ediv,Int.ediv_self (by omega)]
  rw[e]
end
section
variable {K:List (List Nat)}{n:Nat}{jL:Qa}
theorem Zec (l:List Nat):ZY (Zv l)=true:=by
 have:∀l:List Nat,Yh (l.map nD)=true:=λl=>by
  induction l with
  | nil=>rfl
  | cons a l ih=>simp only[qO,Yh,ih];rfl
 exact this l
noncomputable abbrev covD (K:List (List Nat))(n:Nat)(h:Nat->Nat):List D:=Z6 K.length λi=>.tup [Zv (K.getD i []),Xn (RR (AA K) n K.length h K.length (n+i)) (dl (cl (AA K) n K.length) K.length h)]
theorem Zkp (hm:K.length<=128)(hn:n<=100)(hK:∀s,ZD F_full_knots (Zb (ZD Bt (Zb (Za 0) Zf)) Zf) [some (Zt n jL),none,none,none,none] s=some (.lst (K.map Zv),s))(cov:∀j,j<n->∃x,x<K.length/\AA K x j=true)(hnt:ZY (Zt n jL)=true)(s:Pn) :
  ∃h,Feas (cl (AA K) n K.length) K.length (n+K.length) h/\(∀j,j<n+K.length->0<=RR (AA K) n K.length h K.length j)/\
   UV [Zt n jL] s=some (.tup [Xn (RR (AA K) n K.length h K.length (n+K.length)) (dl (cl (AA K) n K.length) K.length h),.lst ((covD K n h).filter λd=>match d with | .tup [_,.tup [.int t,_]]=>decide (0<t) | _=>false),.tup (Z6 n λj=>Xn (wt (AA K) n K.length h j) (dl (cl (AA K) n K.length) K.length h))],s):=by
 obtain⟨h,hf,hopt,he⟩:=Zkn cov hm hn s;refine⟨h,hf,hopt,?_⟩;have hi:=ZmD (K:=K) hm hn s;generalize hM:K.length=m at *;have lK:(.lst (K.map Zv):D)=.lst (Z6 m λi=>Zv (K.getD i [])):=by
  refine congrArg D.lst ?_;apply qaW;intro i;rw[qI,qI];by_cases hi:i<m
  ·rw[yP hi,zc (by omega)]
   simp[qb5,zc (show i<K.length by omega)]
  ·rw[qbD (by omega),qbD (by simp;omega)];rfl
 have ncK:ZY (.lst (K.map Zv))=true:=by
  rw[lK];simp only[ZY];exact ZaN λ_=>Zec _
 refine YL rfl (Z2 (WN (hK s)) ?_);unfold Zh1;refine(YJ (Zk (Zn (d:=Zt n jL) (e:=.int 0) rfl rfl W7) (Zk rfl rfl))).trans ?_;refine(YJ hi).trans ?_;rw[if_pos ⟨by show 2<5;decide,by show(ZY (Zt n jL)&&(ZY (.lst (K.map Zv))&&(true&&(true&&(true&&true)))))=true;rw[hnt,ncK];rfl⟩];have hg:(Ze (VV Uk 2 Zf)
 (Ze (Ya 3 (Z3 [none,some 1,some 2] (Yn (ZB Yw (Zb (Za 1) Zf))) (Zy 0) Yo (Z9 (Zb (Zc Zh (Za 1) (Za 0)) (Zb (XH JD 2 (Zb (Za 0) Zf)) Zf)))))
 (Ze (Ya 4 (ZB U2 (Zb (Z3 [none,some 2] (Yn (Zc Zh (Za 0) (dC (.int 0)))) (Zy 0) Yo (XH Jy 1 (Zb (Za 0) Zf))) Zf)))
 (Ze (Zz (Z9 (Zb (XH Bq 2 Zf) (Zb (Z3 [none] (Y0 (Za 3)) (Zy 0) (Zo (Zc Vz (Zc Zh (Zc Zh (Za 0) (dC (.int 1))) (dC (.int 0))) (dC (.int 0)))) (Za 0)) (Zb (Za 4) Zf)))))
 Zg)))) [some (Zt n jL),some (.lst (K.map Zv)),some (tT (AA K) n m (n + ·)),none,none] s=some (.rt (.tup [Xn (RR (AA K) n m h m (n+m)) (dl (cl (AA K) n m) m h),.lst ((Z6 m λi=>.tup [Zv (K.getD i []),Xn (RR (AA K) n m h m (n+i)) (dl (cl (AA K) n m) m h)]).filter λd=>match d with | .tup [_,.tup [.int t,_]]=>decide (0<t) | _=>false),.tup (Z6 n λj=>Xn (wt (AA K) n m h j) (dl (cl (AA K) n m) m h))]),s):=by
  refine Z2 (?_:VV Uk 2 Zf _ s=some (.nx [some (Zt n jL),some (.lst (K.map Zv)),some (tT (AA K) n m h),none,none],s)) ?_
  ·unfold VV
   refine(YJ (VL (d:=tT (AA K) n m (n + ·)) rfl)).trans ?_;refine(YJ rfl).trans ?_;refine(YJ he).trans ?_;exact Zci s rfl rfl (by show(ZY (Zt n jL)&&(ZY (.lst (K.map Zv))&&(true&&(true&&(true&&true)))))=true;rw[hnt,ncK];rfl) Zaw
  have c1:=Zcj (src:=[none,some 1,some 2]) (f:=ZB Yw (Zb (Za 1) Zf)) (fe:=Z9 (Zb (Zc Zh (Za 1) (Za 0)) (Zb (XH JD 2 (Zb (Za 0) Zf)) Zf))) (ρ:=[some (Zt n jL),some (.lst (K.map Zv)),some (tT (AA K) n m h),none,none]) (N:=m) (c:=λi=>.tup [Zv (K.getD i []),Xn (RR (AA K) n m h m (n+i)) (dl (cl (AA K) n m) m h)]) s (by omega) (λd=>[some d,some (.lst (K.map Zv)),some (tT (AA K) n m h)]) (YB (Zk rfl rfl) (show Yw [.lst (K.map Zv)]=some (nD m) by show some (D.int _)=_;rw[qf,hM])) (λ_=>rfl) λj hj=>by
   refine Wh (Zk (Zn (d:=.lst (K.map Zv)) (e:=nD j) rfl rfl ?_) (Zk (UX rfl (Zk rfl rfl) (ZmF hm hf hj s)) rfl)) (by show 2<=xg;decide);rw[lK];exact Wl hj
  refine Z2 (WN c1) ?_;have c2:∀o3:Option D,Z3 [none,some 2] (Yn (Zc Zh (Za 0) (dC (.int 0)))) (Zy 0) Yo (XH Jy 1 (Zb (Za 0) Zf)) [some (Zt n jL),some (.lst (K.map Zv)),some (tT (AA K) n m h),o3,none] s=some (.lst (Z6 n λj=>Xn (wt (AA K) n m h j) (dl (cl (AA K) n m) m h)),s):=λo3=>
   Zcj s (by omega) (λd=>[some d,some (tT (AA K) n m h)]) (Zn (d:=Zt n jL) (e:=.int 0) rfl rfl W7) (λ_=>rfl) λj hj=>UX rfl (Zk rfl rfl) (Zko hm hf s)
  refine Z2 (WN (YB (Zk (c2 _) rfl) rfl)) ?_;refine ZM (XG (Wh (Zk (UX rfl rfl (ZmE hm hf s)) (Zk ((XX (λd=>[some d]) (λd=>match d with | .tup [_,.tup [.int t,_]]=>decide (0<t) | _=>false) id (VG rfl) (by unfold Z6;rw[qf,qM];exact qu hm (by decide)) λd md=>?_).trans (by rw[zJ])) (Zk rfl rfl))) (by show 3<=xg;decide)));obtain⟨i,_,rfl⟩:=qm.mp md;refine⟨rfl,ZW (Zn (Zn (Zn rfl rfl (V7 _ _ _)) rfl (V6 _ _)) rfl rfl),λ_=>rfl⟩
 unfold ZiM;have hg2:=hg;show(match (Ze (VV Uk 2 Zf) _ [some (Zt n jL),some (.lst (K.map Zv)),some (tT (AA K) n m (n + ·)),none,none] s)with | some (.nx ρ,s')=>_ | some (.rt d,s')=>_ | _=>none)=_;rw[hg2];have cl0:∀(l:List D),(∀d∈l,ZY d=true)->Yh l=true:=λl=>by
  induction l with
  | nil=>intro _;rfl
  | cons a l ih=>
   intro h;simp only[Yh];rw[h a (by simp),ih λd hd=>h d (by simp[hd])];rfl
 have cA:Yh ((Z6 m λi=>.tup [Zv (K.getD i []),Xn (RR (AA K) n m h m (n+i)) (dl (cl (AA K) n m) m h)]).filter λd=>match d with | .tup [_,.tup [.int t,_]]=>decide (0<t) | _=>false)=true:=by
  refine cl0 _ λd hd=>?_;obtain⟨i,_,rfl⟩:=qm.mp (qA.mp hd).1;show(ZY (Zv (K.getD i []))&&(ZY (Xn _ _)&&true))=true;rw[Zec];rfl
 have cB:Yh (Z6 n λj=>Xn (wt (AA K) n m h j) (dl (cl (AA K) n m) m h))=true:=ZaN λ_=>rfl;have cC:ZY (.tup [Xn (RR (AA K) n m h m (n+m)) (dl (cl (AA K) n m) m h),.lst ((Z6 m λi=>.tup [Zv (K.getD i []),Xn (RR (AA K) n m h m (n+i)) (dl (cl (AA K) n m) m h)]).filter λd=>match d with | .tup [_,.tup [.int t,_]]=>decide (0<t) | _=>false),.tup (Z6 n λj=>Xn (wt (AA K) n m h j) (dl (cl (AA K) n m) m h))])=true:=by
  simp only[ZY,Yh];rw[cA,cB];rfl
 have cD:=And.intro cC (show JM (.tup [Xn (RR (AA K) n m h m (n+m)) (dl (cl (AA K) n m) m h),.lst ((Z6 m λi=>.tup [Zv (K.getD i []),Xn (RR (AA K) n m h m (n+i)) (dl (cl (AA K) n m) m h)]).filter λd=>match d with | .tup [_,.tup [.int t,_]]=>decide (0<t) | _=>false),.tup (Z6 n λj=>Xn (wt (AA K) n m h j) (dl (cl (AA K) n m) m h))])=false from rfl);show(if _ then _ else _)=_;rw[if_pos cD]
 first | done | rfl | (subst hM;rfl)
end
end TQ
namespace TF
open L2
noncomputable def cdV (v:Bool)(x q:Str)(t:Nat)(ln ac:Int)(a:Addr)(tx k:Nat):Obj:=
 ⟨.type "code",none,.fields (#[.str x t,.str q (t+1),.str "/claim/cut.py" (t+2),.int ln 0,.int ac 0,.int 0 0,.int 0 0,.int 3 0,.ref a,.bool true,.int tx 0,.ref (a+1),.none]++(if v then #[.ref (a+2),.ref (a+3),.ref (a+4)]else #[.none,.none,.ref (a+2)]) ++ #[.int k 0,.int ln 0,.str "/claim/cut.py" (k+1)]),#[]⟩
structure MRV where
 x:Str
 q:Str
 i:Nat
 t:Nat
 ln:Int
 ac:Int
 a:Addr
 k:Nat
 v:Bool
noncomputable def MRV.c (r:MRV):Addr:=if r.v then r.a+5 else r.a+3
noncomputable def Zqu (cls:Stmt)(tx:Nat)(pm:Value)(rs:List MRV):qd:=rs.flatMap λr=>[(r.c,cdV r.v r.x r.q r.t r.ln r.ac r.a tx r.k),(r.c+1,fnM r.x r.q (W8 cls r.i) pm r.c)]
noncomputable def ZoD (K:qd)(cls:Stmt)(C:Addr)(pm:Value)(r:MRV):Prop:=Meth K C r.x (r.c+1)/\K.lookup (r.c+1)=some (fnM r.x r.q (W8 cls r.i) pm r.c)/\yD K (.ref r.c) r.q=true
noncomputable def ZfZ (K:qd)(cls:Stmt)(C:Addr)(pm:Value):List MRV->Prop
 | []=>True
 | r::l=>ZoD K cls C pm r/\ZfZ K cls C pm l
theorem Zi5 {K:qd}{cls:Stmt}{C:Addr}{pm:Value}:∀{l:List MRV} {j:Nat} {r:MRV},ZfZ K cls C pm l->l[j]?=some r->ZoD K cls C pm r
 | _::_,0,_,h,e=>by cases e;exact h.1
 | _::l,j+1,_,h,e=>Zi5 h.2 e
theorem V3 {K:qd}{cls:Stmt}{C:Addr}{pm:Value}{l:List MRV}{r:MRV}(ok:ZfZ K cls C pm l)(j:Nat)(e:l[j]?=some r:=by rfl):∃(f:Addr) (fd:xC),Fun K r.x r.q (W8 cls r.i) f fd/\Meth K C r.x f:=by
 obtain⟨a,b,c⟩:=Zi5 ok e;exact⟨_,_,ZkV b c a.kp,a⟩
end TF
namespace K26
open L2 TF TQ
open TP
open TP2 hiding g_all_near F_all_near
open TP3 hiding g_full_knots F_full_knots
noncomputable def top (i:Nat):Stmt:=PySem.Challenge.pw_tiefold_k26_shares_told.main.body.getD i (.Pass ⟨0,0,0,0⟩)
noncomputable abbrev Zed:Stmt:=top 1
noncomputable abbrev Zih:Stmt:=top 3
noncomputable abbrev ZbO:Stmt:=top 4
noncomputable abbrev Zee:Stmt:=top 5
noncomputable abbrev ZaD:Stmt:=top 6
noncomputable abbrev Zck:Stmt:=top 7
noncomputable abbrev Za9:Stmt:=top 8
noncomputable abbrev ZaU:Stmt:=top 10
noncomputable abbrev Zba:Stmt:=top 11
noncomputable abbrev ZaE:Stmt:=top 12
noncomputable abbrev ZcK:Stmt:=top 13
noncomputable abbrev Zax:Stmt:=top 15
noncomputable abbrev Zbb:Stmt:=top 16
noncomputable abbrev Zbc:Stmt:=top 17
noncomputable abbrev ZcY:Stmt:=top 20
noncomputable abbrev ZcZ:Stmt:=top 21
noncomputable abbrev ZbP:Stmt:=top 22
noncomputable abbrev Zc0:Stmt:=top 23
noncomputable abbrev ZaV:Stmt:=top 25
noncomputable abbrev Zay:Stmt:=top 27
noncomputable abbrev Zcl:Stmt:=top 28
noncomputable abbrev ZaX:Stmt:=top 29
noncomputable abbrev ZaF:Stmt:=top 30
noncomputable abbrev ZaG:Stmt:=top 31
noncomputable abbrev s_law:Stmt:=top 32
noncomputable abbrev Zae:Stmt:=W8 (top 18) 0
noncomputable abbrev Zef:Stmt:=W8 (top 18) 1
noncomputable abbrev Zad:Stmt:=W8 (top 18) 2
noncomputable abbrev ZaO:Stmt:=W8 (top 18) 3
noncomputable abbrev Zbd:Stmt:=W8 (top 18) 4
noncomputable abbrev ZaW:Stmt:=W8 (top 18) 5
noncomputable abbrev Zbe:Stmt:=W8 (top 18) 6
noncomputable abbrev Zfd:Stmt:=W8 (top 18) 7
noncomputable abbrev Zfe:Stmt:=W8 (top 18) 8
noncomputable abbrev Zeg:Stmt:=W8 (top 18) 9
structure Txt (mg:Str->Option Value):Prop where
 b_abs:mg "abs" = none
 b_all:mg "all" = none
 b_any:mg "any" = none
 b_bool:mg "bool" = none
 b_dict:mg "dict" = none
 b_int:mg "int" = none
 b_isinstance:mg "isinstance" = none
 b_len:mg "len" = none
 b_list:mg "list" = none
 b_max:mg "max" = none
 b_min:mg "min" = none
 b_range:mg "range" = none
 b_sorted:mg "sorted" = none
 b_tuple:mg "tuple" = none
set_option maxHeartbeats 4000000
variable {P:xD}{w:World}{K:qd}{mg:Str->Option Value}{base:Heap}{kb:Addr}{jR:xC}
theorem Zai:FnScope ["a","b","rest"] ["a","b"] (ZF Zax):=YI
theorem Zbv (F:Fun K "greatest_divisor" "greatest_divisor" Zax kb jR)(T:Txt mg) :
  FnOk P w K mg base ZR 1 kb jR ["a","b"] (Yp 2 false Z0 Zaa):=
 have jN:=Zai.nd
 YY (own:=[]) F Zai λcdv A outer s H E hr G hG=>
 (Zw (Zl2 (own:=[]) qG (YT (U3 hr.units) (va 1) ZC)
 (Zw (YZ (YG jN rfl (qy rfl) (ZZ Zb0 (va 0) (va 1))))
 (Zw (YZ (YG jN rfl (qy rfl) (va 1)))
 (Zw (YZ (YG jN rfl (qy rfl) (va 2)))
 ZV))))
 (Zw (Z8 (PD.weak (XF Ze7 rfl T.b_abs TF.boot_abs (Zj (va 0) Zr))))
 ZV))
theorem ZaY:FnScope ["top","bottom","divisor"] ["top","bottom"] (ZF Zbb):=YI
theorem Zc9 (F:Fun K "lowest_terms" "lowest_terms" Zbb kb jR)(T:Txt mg)(ki:Yd P w K mg base 1 "greatest_divisor" 2 false Z0 Zaa) :
  FnOk P w K mg base ZR 2 kb jR ["top","bottom"] (Yp 2 true Z0 UQ):=
 have jN:=ZaY.nd
 YY (own:=[]) F ZaY λcdv A outer s H E hr G hG=>
 (Zw (YZ (YG jN rfl (qy rfl) (Yx (ki.mono) trivial hr (Zj (va 0) (Zj (va 1) Zr)))))
 (Zw (Z8 (Xs (Zj (ZZ ZcF (va 0) (va 2)) (Zj (ZZ ZcF (va 1) (va 2)) Zr))))
 ZV))
theorem Zbf:FnScope ["web"] ["web"] (ZF ZaD):=YI
theorem Zeh (F:Fun K "marked_ties" "marked_ties" ZaD kb jR)(T:Txt mg) :
  FnOk P w K mg base ZR 1 kb jR ["web"] (Yp 1 true Z0 Ju):=
 have jN:=Zbf.nd
 YY (own:=[]) F Zbf λcdv A outer s H E hr G hG=>
 (Zw (Z8 (ZaI (ZhI rfl hr.units) rfl T.b_dict TF.boot_dict (Zj (X9 (bk ["web"] (ZF ZaD).names ["tie"] [none]) (VZ (ZK ZL (va 0) ZC)) Xy WI (Xs (Zj (va 0) (Zj Y9 Zr)))) Zr)))
 ZV)
theorem Zc1:FnScope ["ties","a","b"] ["ties","a","b"] (ZF Zee):=YI
theorem Zhc (F:Fun K "are_tied" "are_tied" Zee kb jR)(T:Txt mg) :
  FnOk P w K mg base ZR 1 kb jR ["ties","a","b"] (Yp 3 false Z0 WM):=
 have jN:=Zc1.nd
 YY (own:=[]) F Zc1 λcdv A outer s H E hr G hG=>
 (Zw (Z8 (PD.weak (Vj (JO hr.units) (Xs (Zj (XF (ZdE rfl) rfl T.b_min TF.boot_min (Zj (va 1) (Zj (va 2) Zr))) (Zj (XF (ZdD rfl) rfl T.b_max TF.boot_max (Zj (va 1) (Zj (va 2) Zr))) Zr))) (va 0))))
 ZV)
theorem Zi6:FnScope ["web","place"] ["web","place"] (ZF Zih):=YI
theorem Zn7 (F:Fun K "near" "near" Zih kb jR)(T:Txt mg)(kH:Yd P w K mg base 1 "are_tied" 3 false Z0 WM) :
  FnOk P w K mg base ZR 2 kb jR ["web","place"] (Yp 2 true Z0 Uq):=
 have jN:=Zi6.nd
 YY (own:=[]) F Zi6 λcdv A outer s H E hr G hG=>
 (Zw (Z8 (X9 (bk ["web","place"] (ZF Zih).names ["other","web","place"] [none,some 0,some 1]) (WU rfl T.b_range (ZK ZL (va 0) ZC)) Xy (JY (Xe (Yx (kH.mono) trivial hr (Zj (ZK ZL (va 1) ZC) (Zj (va 2) (Zj (va 0) Zr)))))) (va 0)))
 ZV)
theorem Zc2:FnScope ["web","marked"] ["web"] (ZF ZbO):=YI
theorem Zhd (F:Fun K "all_near" "all_near" ZbO kb jR)(T:Txt mg)(j8:Yd P w K mg base 1 "marked_ties" 1 true Z0 Ju)(kT:Yd P w K mg base 2 "near" 2 true Z0 Uq) :
  FnOk P w K mg base ZR 3 kb jR ["web"] (Yp 1 true Z0 F_all_near):=
 have jN:=Zc2.nd
 YY (own:=[]) F Zc2 λcdv A outer s H E hr G hG=>
 (Zw (YZ (YG jN rfl (z7 rfl) (Xs (Zj (ZK ZL (va 0) ZC) (Zj (Yx (j8.mono) trivial hr (Zj (va 0) Zr)) Zr)))))
 (Zw (Z8 (X9 (bk ["web","marked"] (ZF ZbO).names ["place","marked"] [none,some 1]) (WU rfl T.b_range (ZK ZL (va 0) ZC)) Xy WI (Yx (kT.mono) trivial hr (Zj (va 1) (Zj (va 0) Zr)))))
 ZV))
theorem Zbg:FnScope ["nears","place","knot"] ["nears","place","knot"] (ZF ZaE):=YI
theorem Zei (F:Fun K "is_near_all" "is_near_all" ZaE kb jR)(T:Txt mg) :
  FnOk P w K mg base ZR 1 kb jR ["nears","place","knot"] (Yp 3 false Z0 UR):=
 have jN:=Zbg.nd
 YY (own:=[]) F Zbg λcdv A outer s H E hr G hG=>
 (Zw (Z8 (PD.weak (XF (Zjw rfl) rfl T.b_all TF.boot_all (Zj (X9 (bk ["nears","place","knot"] (ZF ZaE).names ["other","nears","place"] [none,some 0,some 1]) (VZ (va 2)) Xy WI (Vj (JO hr.units) (va 0) (ZK ZL (va 1) (va 2)))) Zr))))
 ZV)
theorem Zcm:FnScope ["nears","knots","place"] ["nears"] (ZF Zba):=YI
theorem Zf0 (F:Fun K "all_knots" "all_knots" Zba kb jR)(T:Txt mg)(ka:Yd P w K mg base 1 "is_near_all" 3 false Z0 UR) :
  FnOk P w K mg base ZR 2 kb jR ["nears"] (Yp 1 false Z0 Bm):=
 have jN:=Zcm.nd
 YY (own:=[]) F Zcm λcdv A outer s H E hr G hG=>
 (Zw (YZ (YG jN rfl (qy rfl) (V0 (Zj (Xs Zr) Zr))))
 (Zw (Xq (own:=[]) qG rfl (US rfl T.b_range (WB T.b_len (Zj (va 0) Zr))) (Xp jN rfl (z7 rfl) (by decide))
 (Zw (YZ (YG jN rfl (qy rfl) (ZZ Xr (va 1) (X9 (bk ["nears","knots","place"] (ZF Zba).names ["knot","place","nears"] [none,some 2,some 0]) (VE (va 1)) Xy (JY (Xe (Yx (ka.mono) trivial hr (Zj (va 2) (Zj (va 1) (Zj (va 0) Zr)))))) (ZZ Xr (va 0) (Xs (Zj (va 1) Zr)))))))
 ZV))
 (Zw (Z8 (va 1))
 ZV)))
theorem Zej:FnScope ["nears","knot"] ["nears","knot"] (ZF ZcK):=YI
theorem Zii (F:Fun K "is_full" "is_full" ZcK kb jR)(T:Txt mg)(ka:Yd P w K mg base 1 "is_near_all" 3 false Z0 UR) :
  FnOk P w K mg base ZR 2 kb jR ["nears","knot"] (Yp 2 false Z0 Bp):=
 have jN:=Zej.nd
 YY (own:=[]) F Zej λcdv A outer s H E hr G hG=>
 (Zw (Z8 (PD.weak (Zk0 (XF (Zjx rfl) rfl T.b_any TF.boot_any (Zj (X9 (bk ["nears","knot"] (ZF ZcK).names ["place","nears","knot"] [none,some 0,some 1]) (WU rfl T.b_range (WB T.b_len (Zj (va 0) Zr))) Xy WI (Yx (ka.mono) trivial hr (Zj (va 1) (Zj (va 0) (Zj (va 2) Zr))))) Zr)))))
 ZV)
theorem Zby:FnScope ["web","nears"] ["web"] (ZF ZaU):=YI
theorem ZeB (F:Fun K "full_knots" "full_knots" ZaU kb jR)(T:Txt mg)(kD:Yd P w K mg base 2 "all_knots" 1 false Z0 Bm)(kI:Yd P w K mg base 3 "all_near" 1 true Z0 F_all_near)(kL:Yd P w K mg base 2 "is_full" 2 false Z0 Bp) :
  FnOk P w K mg base ZR 4 kb jR ["web"] (Yp 1 true Z0 F_full_knots):=
 have jN:=Zby.nd
 YY (own:=[]) F Zby λcdv A outer s H E hr G hG=>
 (Zw (YZ (YG jN rfl (z7 rfl) (Yx (kI.mono) trivial hr (Zj (va 0) Zr))))
 (Zw (Z8 (XF Zew rfl T.b_sorted TF.boot_sorted (Zj (X9 (bk ["web","nears"] (ZF ZaU).names ["knot","nears"] [none,some 1]) (VE (Yx (kD.mono) trivial hr (Zj (va 1) Zr))) Xy (JY (Xe (Yx (kL.mono) trivial hr (Zj (va 1) (Zj (va 0) Zr))))) (va 0)) Zr)))
 ZV))
theorem Zc3:FnScope ["row","pairs","i","j"] ["row"] (ZF Zed):=YI
theorem Zhe (F:Fun K "pairs_of" "pairs_of" Zed kb jR)(T:Txt mg) :
  FnOk P w K mg base ZR 1 kb jR ["row"] (Yp 1 true Z0 Zar):=
 have jN:=Zc3.nd
 YY (own:=[]) F Zc3 λcdv A outer s H E hr G hG=>
 (YS (own2:=[1]) (Za1 (YG jN rfl (qy rfl) (V0 Zr)))
 (YS (own2:=[1]) (Xq (own:=[1]) qG rfl (US rfl T.b_range (WB T.b_len (Zj (va 0) Zr))) (Xp jN rfl (qy rfl) (by decide))
 (YS (own2:=[1]) (Xq (own:=[1]) qG rfl (Zaz rfl T.b_range (ZZ Xr (va 2) ZC) (WB T.b_len (Zj (va 0) Zr))) (Xp jN rfl (qy rfl) (by decide))
 (YS (own2:=[1]) (ZbZ (own:=[1]) (i:=1) (by decide) (Xs (Zj (ZK ZL (va 0) (va 2)) (Zj (ZK ZL (va 0) (va 3)) Zr))) (λ_ h=>ZaJ (pv 1) h))
 (Yq (own:=[1]))))
 (Yq (own:=[1]))))
 (YS (own2:=[1]) (ZhB (i:=1) (by decide) (pv 1))
 (Yq (own:=[1])))))
theorem Zcn:FnScope ["row","tied","pairs"] ["row","tied"] (ZF Za9):=YI
theorem Zf1 (F:Fun K "web_where" "web_where" Za9 kb jR)(T:Txt mg)(kP:Yd P w K mg base 1 "pairs_of" 1 true Z0 Zar) :
  FnOk P w K mg base ZR 5 kb jR ["row","tied"] (Yp 2 false (BU P w K mg 4 2 Tl base) Zag):=
 have jN:=Zcn.nd
 YY (own:=[]) F Zcn λcdv A outer s H E hr G hG=>
 (Zw (YZ (YG jN rfl (qy rfl) (Yx (kP.mono) trivial hr (Zj (Zb1 rfl rfl T.b_range rfl T.b_list TF.boot_list (WB T.b_len (Zj (va 0) Zr))) Zr))))
 (Zw (Z8 (PD.weak (Xs (Zj (WB T.b_len (Zj (va 0) Zr)) (Zj (ZaI (Zal) rfl T.b_tuple TF.boot_tuple (Zj (X9 (bk ["row","tied","pairs"] (ZF Za9).names ["pair","tied","row"] [none,some 1,some 0]) (VE (va 2)) Xy (JY (Xe (Zlh hG (hr.mono (by decide)) (pv 1) (Zj (ZK ZL (va 2) (ZK ZL (va 0) ZC)) (Zj (ZK ZL (va 2) (ZK ZL (va 0) ZC)) Zr)) (YF (YF WD))))) (va 0)) Zr)) Zr)))))
 ZV))
theorem Zff:FnScope ["web","ties"] ["web"] (ZF Zck):=YI
theorem Zkq (F:Fun K "turned" "turned" Zck kb jR)(T:Txt mg){L:List (Addr×Str)}(lo:UO L)(j8:Yd P w K mg base 1 "marked_ties" 1 true Z0 Ju)(kE:BV P w K mg 5 "web_where" 2 false (BU P w K mg 4 2 Tl) Zag)(kz:∀base,Yd P w K mg base 1 "are_tied" 3 false Z0 WM){tc tP:Addr}(hcode:jR.code=.ref tc)(hCd:zU base tc tP)(hBm:B2 mg base)(hL:(tP,(qas "turned.<locals>.<lambda>"))∈L) :
  FnOk P w K mg base ZR 6 kb jR ["web"] (Yp 1 false (V8 L) Bt):=
 have jN:=Zff.nd
 fnDC (own:=[]) F Zff λA outer s H E hr G hG=>
 have hT:V8 L G:=hG;have TG9:=hT _ _ hL;have M9:Mk0 (Vp ZR P w K mg base ["web","ties"] "turned" (ZF Zck) kb jR.code A outer s H E).nox tc tP:=⟨hcode,hCd,hBm⟩
 (Zw (YZ (YG jN rfl (z7 rfl) (Yx (j8.mono) trivial hr (Zj (va 0) Zr))))
 (Zw (Z8 (ZhK (kl:=3) (frb:=true) (N:=["a","b","ties"]) (ps:=["a","b"]) (cix:=[1]) (T:=Tl) (t:=0) (q:="turned.<locals>.<lambda>") M9 TG9 (kE.mono) (λ_=>rfl) hr rfl (Zb1 rfl rfl T.b_range rfl T.b_list TF.boot_list (ZK ZL (va 0) ZC)) rfl (⟨rfl,rfl,rfl,by decide +kernel,rfl,by decide +kernel,by decide +kernel⟩:CloScope ["a","b","ties"] ["a","b"] _) (⟨rfl,rfl,rfl,by decide +kernel,by decide +kernel⟩:CapS _ ["web","ties"] (ZF Zck).names ["a","b","ties"] ["a","b"] [1] _) rfl (λ_ _ _ _ us hl=>match us,hl with | [_,_],_=>rfl) (λbase f c cl G A outer s H E hr=>(Zk0 (Yx ((kz base).mono) trivial hr (Zj (va 2) (Zj (va 0) (Zj (va 1) Zr))))))))
 ZV))
theorem Zaj:FnScope ["self","columns"] ["self"] (ZF Zad):=YI
theorem Zbw (F:Fun K "gaining_column" "Table.gaining_column" Zad kb jR)(T:Txt mg){C:Addr}(kc:TCl K C) :
  FnOk P w K mg base ZR 1 kb jR ["self"] (Yp 1 false (GT C) WT):=by
 have jN:=Zaj.nd;refine YY (own:=[]) F Zaj λcdv A outer s H E hr G hG=>?_;obtain⟨G0,k,q,rfl,hrd,rfl⟩:=hG;have hK:GT k.C (Zq G0 k q):=⟨G0,k,q,rfl,hrd,rfl⟩;exact(Zw (YZ (ZaQ jN rfl (qy rfl) rfl (bk ["self","columns"] (ZF Zad).names ["column","self"] [none,some 0]) (WU rfl T.b_range (ZZ Bw (WB T.b_len (Zj (ZK ZL (X6 (i:=0) (j:=1) (pv 0) kc.cl kc.rows) Ur) Zr)) ZC)) (λ_ _ _ _ _ _=>Xy) (λ_ _ _ _ _ _=>(JY (YT (JN hr.units0) (ZK ZL (ZK ZL (X6 (i:=1) (j:=1) (pv 1) kc.cl kc.rows) Ur) (va 0)) ZC))) (λ_ _ _ _ _ _=>(va 0))))
 (Zw (Z8 (Zl1 rfl rfl T.b_min TF.boot_min (va 1) ZdB))
 ZV))
theorem ZaZ:FnScope ["self","i","j","column","bound","other"] ["self","i","j","column"] (ZF Zbd):=YI
theorem Zda (F:Fun K "is_tighter" "Table.is_tighter" Zbd kb jR)(T:Txt mg){C:Addr}(kc:TCl K C) :
  FnOk P w K mg base ZR 1 kb jR ["self","i","j","column"] (Yp 4 false (GT C) B8):=by
 have jN:=ZaZ.nd;refine YY (own:=[]) F ZaZ λcdv A outer s H E hr G hG=>?_;obtain⟨G0,k,q,rfl,hrd,rfl⟩:=hG;have hK:GT k.C (Zq G0 k q):=⟨G0,k,q,rfl,hrd,rfl⟩;exact(Zw (YZ (YG jN rfl (qy rfl) (ZZ Ul (ZK ZL (ZK ZL (X6 (i:=0) (j:=1) (pv 0) kc.cl kc.rows) (va 1)) Ur) (ZK ZL (ZK ZL (X6 (i:=0) (j:=1) (pv 0) kc.cl kc.rows) (va 2)) (va 3)))))
 (Zw (YZ (YG jN rfl (qy rfl) (ZZ Ul (ZK ZL (ZK ZL (X6 (i:=0) (j:=1) (pv 0) kc.cl kc.rows) (va 2)) Ur) (ZK ZL (ZK ZL (X6 (i:=0) (j:=1) (pv 0) kc.cl kc.rows) (va 1)) (va 3)))))
 (Zw (Z8 (Zop (Vj (JN hr.units0) (va 4) (va 5)) (Zfs (ZkZ (Vj (VI hr.units) (va 4) (va 5)) (Zfs (Vj (JN hr.units0) (Ze5 (i:=0) (pv 0) kc.cl kc.holders (va 1)) (Ze5 (i:=0) (pv 0) kc.cl kc.holders (va 2))))))))
 ZV)))
theorem ZaC:FnScope ["self","column","tightest","i"] ["self","column"] (ZF ZaO):=YI
theorem Zco (F:Fun K "tightest_row" "Table.tightest_row" ZaO kb jR)(T:Txt mg){C:Addr}(kc:TCl K C)(kr:Wn P w K mg base C 1 "is_tighter" 4 (GT C) B8) :
  FnOk P w K mg base ZR 2 kb jR ["self","column"] (Yp 2 false (GT C) Js):=by
 have jN:=ZaC.nd;refine YY (own:=[]) F ZaC λcdv A outer s H E hr G hG=>?_;obtain⟨G0,k,q,rfl,hrd,rfl⟩:=hG;have hK:GT k.C (Zq G0 k q):=⟨G0,k,q,rfl,hrd,rfl⟩;exact(Zw (YZ (YG jN rfl (qy rfl) ZdB))
 (Zw (Xq (own:=[]) qG rfl (US rfl T.b_range (ZhW (i:=0) T.b_len (pv 0) kc.cl kc.holders)) (Xp jN rfl (qy rfl) (by decide))
 (Zw (XT (Xv.pt (Zfr (YT (Zfv) (ZK ZL (ZK ZL (X6 (i:=0) (j:=1) (pv 0) kc.cl kc.rows) (va 3)) (va 1)) ZC) (Zgj (Xv.pt (WF (YT (ZnG) (va 2) ZdB) (Ve (Xe (pdT (i:=0) kr hK hr kc (pv 0) (Zj (va 3) (Zj (va 2) (Zj (va 1) Zr)))))))))))
 (Zw (YZ (YG jN rfl (qy rfl) (va 3)))
 ZV)
 Yq)
 ZV))
 (Zw (Z8 (va 2))
 ZV)))
theorem Zcp:FnScope ["self","row","kept","column"] ["self","row","kept","column"] (ZF Zbe):=YI
theorem Zf2 (F:Fun K "cleared" "Table.cleared" Zbe kb jR)(T:Txt mg){C:Addr}(kc:TCl K C) :
  FnOk P w K mg base ZR 1 kb jR ["self","row","kept","column"] (Yp 4 false (GT C) Bn):=by
 have jN:=Zcp.nd;refine YY (own:=[]) F Zcp λcdv A outer s H E hr G hG=>?_;obtain⟨G0,k,q,rfl,hrd,rfl⟩:=hG;have hK:GT k.C (Zq G0 k q):=⟨G0,k,q,rfl,hrd,rfl⟩;exact(Zw (Z8 (PD.weak (X9 (bk ["self","row","kept","column"] (ZF Zbe).names ["j","row","kept","column","self"] [none,some 1,some 2,some 3,some 0]) (WU rfl T.b_range (WB T.b_len (Zj (va 1) Zr))) Xy WI (ZZ ZcF (ZZ Bw (ZZ Ul (ZK ZL (va 1) (va 0)) (ZK ZL (va 2) (va 3))) (ZZ Ul (ZK ZL (va 1) (va 3)) (ZK ZL (va 2) (va 0)))) (X6 (i:=4) (j:=2) (pv 4) kc.cl kc.scale)))))
 ZV)
theorem Zek:FnScope ["self"] ["self"] (ZF Zfd):=YI
theorem Zij (F:Fun K "worth" "Table.worth" Zfd kb jR)(T:Txt mg){C:Addr}(kc:TCl K C)(jS:Yd P w K mg base 2 "lowest_terms" 2 true Z0 UQ) :
  FnOk P w K mg base ZR 3 kb jR ["self"] (Yp 1 false (GT C) Bq):=by
 have jN:=Zek.nd;refine YY (own:=[]) F Zek λcdv A outer s H E hr G hG=>?_;obtain⟨G0,k,q,rfl,hrd,rfl⟩:=hG;have hK:GT k.C (Zq G0 k q):=⟨G0,k,q,rfl,hrd,rfl⟩;exact(Zw (Z8 (PD.weak (Yx (jS.mono) trivial hr (Zj (ZK ZL (ZK ZL (X6 (i:=0) (j:=1) (pv 0) kc.cl kc.rows) Ur) Ur) (Zj (X6 (i:=0) (j:=2) (pv 0) kc.cl kc.scale) Zr)))))
 ZV)
theorem Zel:FnScope ["self","i"] ["self","i"] (ZF Zfe):=YI
theorem Zik (F:Fun K "share" "Table.share" Zfe kb jR)(T:Txt mg){C:Addr}(kc:TCl K C)(jS:Yd P w K mg base 2 "lowest_terms" 2 true Z0 UQ) :
  FnOk P w K mg base ZR 3 kb jR ["self","i"] (Yp 2 false (GT C) JD):=by
 have jN:=Zel.nd;refine YY (own:=[]) F Zel λcdv A outer s H E hr G hG=>?_;obtain⟨G0,k,q,rfl,hrd,rfl⟩:=hG;have hK:GT k.C (Zq G0 k q):=⟨G0,k,q,rfl,hrd,rfl⟩;exact(Zw (Z8 (PD.weak (Yx (jS.mono) trivial hr (Zj (ZK ZL (ZK ZL (X6 (i:=0) (j:=1) (pv 0) kc.cl kc.rows) Ur) (ZZ Xr (X6 (i:=0) (j:=0) (pv 0) kc.cl kc.n) (va 1))) (Zj (X6 (i:=0) (j:=2) (pv 0) kc.cl kc.scale) Zr)))))
 ZV)
theorem Zc4:FnScope ["self","place"] ["self","place"] (ZF Zeg):=YI
theorem Zhf (F:Fun K "weight" "Table.weight" Zeg kb jR)(T:Txt mg){C:Addr}(kc:TCl K C)(jS:Yd P w K mg base 2 "lowest_terms" 2 true Z0 UQ) :
  FnOk P w K mg base ZR 3 kb jR ["self","place"] (Yp 2 false (GT C) Jy):=by
 have jN:=Zc4.nd;refine YY (own:=[]) F Zc4 λcdv A outer s H E hr G hG=>?_;obtain⟨G0,k,q,rfl,hrd,rfl⟩:=hG;have hK:GT k.C (Zq G0 k q):=⟨G0,k,q,rfl,hrd,rfl⟩;exact(Zw (XT (ZhY (i:=0) hr.units (va 1) (pv 0) kc.cl kc.holders)
 (Zw (Z8 (PD.weak (Xs (Zj ZC (Zj ZC Zr)))))
 ZV)
 Yq)
 (Zw (Z8 (PD.weak (Yx (jS.mono) trivial hr (Zj (ZK ZL (ZK ZL (X6 (i:=0) (j:=1) (pv 0) kc.cl kc.rows) (Zj2 (i:=0) (pv 0) kc.cl kc.holders (va 1))) Ur) (Zj (X6 (i:=0) (j:=2) (pv 0) kc.cl kc.scale) Zr)))))
 ZV))
theorem Zbz:FnScope ["self","i","column","kept"] ["self","i","column"] (ZF ZaW):=YI
theorem ZeC (F:Fun K "exchange" "Table.exchange" ZaW kb jR)(T:Txt mg){C:Addr}(kc:TCl K C)(kF:Wn P w K mg base C 1 "cleared" 4 (GT C) Bn) :
  FnOk P w K mg base ZR 2 kb jR ["self","i","column"] (spTm 3 C Jv):=by
 have jN:=Zbz.nd;refine fnT F Zbz (h:=λcdv A outer s H E hr G0 k hk hrd hal=>?_);subst hk;exact(Vh (BN (λq=>have hK:GT k.C (Zq G0 k q):=⟨G0,k,q,rfl,hrd,rfl⟩;(YZ (YG jN rfl (z7 rfl) (ZK ZL (X6 (i:=0) (j:=1) (pv 0) kc.cl kc.rows) (va 1))))))
 (Vh (ZnM (i:=0) hrd hal (λq=>have hK:GT k.C (Zq G0 k q):=⟨G0,k,q,rfl,hrd,rfl⟩;(X9 (bk ["self","i","column","kept"] (ZF ZaW).names ["k","i","kept","self","column"] [none,some 1,some 3,some 0,some 2]) (WU rfl T.b_range (WB T.b_len (Zj (X6 (i:=0) (j:=1) (pv 0) kc.cl kc.rows) Zr))) Xy WI (Zk1 (YT (VI hr.units) (va 0) (va 1)) (va 2) (pdT (i:=3) kF hK hr kc (pv 3) (Zj (ZK ZL (X6 (i:=3) (j:=1) (pv 3) kc.cl kc.rows) (va 0)) (Zj (va 2) (Zj (va 4) Zr))))))) (pv 0) kc.cl kc.rows)
 (Vh (ZnN (i:=0) hrd hal (λq=>have hK:GT k.C (Zq G0 k q):=⟨G0,k,q,rfl,hrd,rfl⟩;(va 1)) (λq=>have hK:GT k.C (Zq G0 k q):=⟨G0,k,q,rfl,hrd,rfl⟩;(va 2)) (pv 0) kc.cl kc.holders)
 (Vh (ZlU (i:=0) hrd hal (λq=>have hK:GT k.C (Zq G0 k q):=⟨G0,k,q,rfl,hrd,rfl⟩;(ZK ZL (va 3) (va 2))) (pv 0) kc.cl kc.scale)
 ZfJ))))
theorem Zc5:FnScope ["self","column"] ["self"] (ZF Zef):=YI
theorem Zhg (F:Fun K "settle" "Table.settle" Zef kb jR)(T:Txt mg){C:Addr}(kc:TCl K C)(kA:BO P w K mg base C 2 "exchange" 3 Jv)(j6:Wn P w K mg base C 1 "gaining_column" 1 (GT C) WT)(km:Wn P w K mg base C 2 "tightest_row" 2 (GT C) Js) :
  FnOk P w K mg base ZR 3 kb jR ["self"] (spTm 1 C Uk):=by
 have jN:=Zc5.nd;refine fnT F Zc5 (h:=λcdv A outer s H E hr G0 k hk hrd hal=>?_);subst hk;exact(Vh (BN (λq=>have hK:GT k.C (Zq G0 k q):=⟨G0,k,q,rfl,hrd,rfl⟩;(YZ (YG jN rfl (qy rfl) (pdT0 (i:=0) j6 hK hr kc (pv 0))))))
 (Vh (ZlT qG (λq=>have hK:GT k.C (Zq G0 k q):=⟨G0,k,q,rfl,hrd,rfl⟩;(YT (ZlK) (va 1) ZdB))
 (Vh (ZnO (i:=0) kA hrd hal hr kc (pv 0) (λq=>have hK:GT k.C (Zq G0 k q):=⟨G0,k,q,rfl,hrd,rfl⟩;(Zj (pdT (i:=0) km hK hr kc (pv 0) (Zj (va 1) Zr)) (Zj (va 1) Zr))))
 (Vh (BN (λq=>have hK:GT k.C (Zq G0 k q):=⟨G0,k,q,rfl,hrd,rfl⟩;(YZ (YG jN rfl (qy rfl) (pdT0 (i:=0) j6 hK hr kc (pv 0))))))
 ZfJ)))
 ZfJ))
theorem ZbA:FnScope ["self","n","aparts","many","i","weights"] ["self","n","aparts"] (ZF Zae):=YI
theorem Zkr (F:Fun K "__init__" "Table.__init__" Zae kb jR)(T:Txt mg){C:Addr}(kc:TCl K C):FnOk P w K mg base ZR 1 kb jR ["self","n","aparts"] (Zdk Z0 C Za7):=by
 have jN:=ZbA.nd;refine ZlZ (lv:=0) F ZbA λcdv A outer s H E hr G hG=>?_;exact ZlY kc jN rfl rfl (qy rfl) (z7 rfl) (by first | exact .inl rfl | exact .inr rfl) (by first | exact .inl rfl | exact .inr rfl) (λ_=>pv 0) (pv 1) qG rfl (WB T.b_len (Zj (va 2) Zr)) (WU rfl T.b_range (va 3)) (ZaQ jN rfl (qy rfl) rfl (bk ["self","n","aparts","many","i","weights"] (ZF Zae).names ["place","aparts","i"] [none,some 2,some 4]) (WU rfl T.b_range (va 1)) (λ_ _ _ _ _ _=>Xy) (λ_ _ _ _ _ _=>WI) (λ_ _ _ _ _ _=>(Zk1 (YT (JO hr.units) (va 0) (ZK ZL (va 1) (va 2))) ZC ZC))) (ZZ Xr (ZZ Xr (va 5) (X9 (bk ["self","n","aparts","many","i","weights"] (ZF Zae).names ["j","i"] [none,some 4]) (WU rfl T.b_range (va 3)) Xy WI (Zk1 (YT (VI hr.units) (va 0) (va 1)) ZC ZC))) (V0 (Zj ZC Zr))) (ZZ Xr (ZZ ZgF (V0 (Zj Ur Zr)) (va 1)) (ZZ ZgF (V0 (Zj ZC Zr)) (ZZ Xr (va 3) ZC))) (X9 (bk ["self","n","aparts","many","i","weights"] (ZF Zae).names ["i","n"] [none,some 1]) (WU rfl T.b_range (va 3)) Xy WI (ZZ Xr (va 1) (va 0))) rfl rfl rfl (λ_=>rfl) rfl rfl (λte pe=>ZbT (Zix yq yY yZ Zbl (U0 (pv 0) rfl) (XB pe X7)) rfl) (λte pe=>ZbT (Zix yq yY yZ Zbl (U0 (pv 0) rfl) (XB pe X7)) rfl)
theorem Zfg:FnScope ["web","aparts","table","cover","weights"] ["web"] (ZF Zbc):=YI
theorem Zks (F:Fun K "shares" "shares" Zbc kb jR)(T:Txt mg){L:List (Addr×Str)}(lo:UO L){C fi:Addr}{fdi:xC}(kc:TCl K C)(M_Table:Mk K C fi)(F_init:FnOk P w K mg base ZR 1 fi fdi ["self","n","aparts"] (Zdk Z0 C Za7))(m_Table:mg "Table" = some (.ref C))(b_init:Xf K fdi ["self","n","aparts"] [])(kB:Yd P w K mg base 4 "full_knots" 1 true Z0 F_full_knots)(kJ:BO P w K mg base C 3 "settle" 1 Uk)(kM:Wn P w K mg base C 3 "share" 2 (GT C) JD)(kK:Wn P w K mg base C 3 "weight" 2 (GT C) Jy)(kN:Wn P w K mg base C 3 "worth" 1 (GT C) Bq)(kQ:Yd P w K mg base 6 "turned" 1 false (V8 L) Bt) :
  FnOk P w K mg base ZR 7 kb jR ["web"] (Yp 1 true (V8 L) UV):=
 have jN:=Zfg.nd
 YY (own:=[]) F Zfg λcdv A outer s H E hr G hG=>
 have hT:V8 L G:=hG
 (Zw (YZ (YG jN rfl (z7 rfl) (Yx (kB.mono) trivial hr (Zj (Yx (kQ.mono) hT hr (Zj (va 0) Zr)) Zr))))
 (Zh2 (i:=2) (GG:=Z0) trivial M_Table F_init (hr.mono (by decide)) rfl m_Table b_init (Zj (ZK ZL (va 0) ZC) (Zj (va 1) Zr)) jN rfl (z7 rfl) (λk hk hrd hal=>by
 subst hk;have G0:=G;exact(Vh (ZlW (i:=2) kJ hrd hal hr kc (pv 2))
 (Vh (BN (λq=>have hK:GT k.C (Zq G k q):=⟨G,k,q,rfl,hrd,rfl⟩;(YZ (ZaQ jN rfl (qy rfl) rfl (bk ["web","aparts","table","cover","weights"] (ZF Zbc).names ["i","aparts","table"] [none,some 1,some 2]) (WU rfl T.b_range (WB T.b_len (Zj (va 1) Zr))) (λ_ _ _ _ _ _=>Xy) (λ_ _ _ _ _ _=>WI) (λ_ _ _ _ _ _=>(Xs (Zj (ZK ZL (va 1) (va 0)) (Zj (pdT (i:=2) kM hK hr kc (pv 2) (Zj (va 0) Zr)) Zr))))))))
 (Vh (BN (λq=>have hK:GT k.C (Zq G k q):=⟨G,k,q,rfl,hrd,rfl⟩;(YZ (YG jN rfl (qy rfl) (ZaI (Zal) rfl T.b_tuple TF.boot_tuple (Zj (X9 (bk ["web","aparts","table","cover","weights"] (ZF Zbc).names ["place","table"] [none,some 2]) (WU rfl T.b_range (ZK ZL (va 0) ZC)) Xy WI (pdT (i:=1) kK hK hr kc (pv 1) (Zj (va 0) Zr))) Zr))))))
 (Vh (BN (λq=>have hK:GT k.C (Zq G k q):=⟨G,k,q,rfl,hrd,rfl⟩;(Z8 (PD.weak (Xs (Zj (pdT0 (i:=2) kN hK hr kc (pv 2)) (Zj (X9 (bk ["web","aparts","table","cover","weights"] (ZF Zbc).names ["item"] [none]) (VE (va 3)) Xy (JY (YT (Zfv) (ZK ZL (ZK ZL (va 0) ZC) ZC) ZC)) (va 0)) (Zj (va 4) Zr))))))))
 ZfJ)))))))
theorem Zcq:FnScope ["_law_cell","_law_at","_law_x"] ["_law_cell","_law_at"] (ZF ZcY):=YI
theorem Zf3 (F:Fun K "_law_fill" "_law_fill" ZcY kb jR)(T:Txt mg) :
  FnOk P w K mg base ZR 1 kb jR ["_law_cell","_law_at"] (Yp 2 false Z0 Jw):=
 have jN:=Zcq.nd
 YY (own:=[]) F Zcq λcdv A outer s H E hr G hG=>
 (Zw (XT (YT (Zk5) (va 0) (ZZ Znj ZC ZC))
 (Zw (Z8 (va 0))
 ZV)
 Yq)
 (Zw (YZ (YG jN rfl (qy rfl) (ZZ Zb0 (ZZ Xr (ZZ Xr (ZZ UY (ZZ Zb0 (va 0) ZC) ZC) (ZZ UY (va 1) ZC)) ZC) ZC)))
 (Zw (YZ (YG jN rfl (qy rfl) (ZZ Zb0 (ZZ Xr (ZZ Xr (ZZ UY (va 2) (va 2)) (ZZ UY ZC (va 2))) (va 1)) ZC)))
 (Zw (Z8 (PD.weak (ZZ Xr (ZZ UY (va 2) ZC) (ZZ Zb0 (ZZ Xr (ZZ UY (va 2) (va 2)) (ZZ UY ZC (va 1))) ZC))))
 ZV))))
theorem Zc6:FnScope ["_law_pen","_law_most","_law_n","_law_way","_law_rate","_law_some","_law_ties","_law_a","_law_b","_law_tied"] ["_law_pen","_law_most"] (ZF ZbP):=YI
theorem Zhh (F:Fun K "_law_web" "_law_web" ZbP kb jR)(T:Txt mg){L:List (Addr×Str)}(lo:UO L)(kd:Yd P w K mg base 2 "_law_next" 2 true (Vu (Ue K) L) WP) :
  FnOk P w K mg base ZR 3 kb jR ["_law_pen","_law_most"] (Yp 2 true (Vu (Ue K) L) Zas):=
 have jN:=Zc6.nd
 YY (own:=[]) F Zc6 λcdv A outer s H E hr G hG=>
 have hT:V8 L G:=jA lo hG
 (Zw (YZ (YG jN rfl (qy rfl) (Yx (kd.mono) hG hr (Zj (va 0) (Zj (ZZ Xr (va 1) ZC) Zr)))))
 (Zw (Zdd (own:=[]) rfl jN rfl rfl (by decide) (by decide) (by decide) rfl rfl (Zj (Yx (kd.mono) hG hr (Zj (va 0) (Zj ZC Zr))) (Zj (ZZ Xr ZC (Yx (kd.mono) hG hr (Zj (va 0) (Zj ZC Zr)))) Zr)) (by with_unfolding_all rfl))
 (Zw (YZ (ZaQ jN rfl (qy rfl) rfl (bk ["_law_pen","_law_most","_law_n","_law_way","_law_rate","_law_some","_law_ties","_law_a","_law_b","_law_tied"] (ZF ZbP).names ["_law_place","_law_pen"] [none,some 0]) (WU rfl T.b_range (va 2)) (λ_ _ _ _ _ _=>Xy) (λ_ _ _ _ _ _=>WI) (λ_ _ _ _ _ _=>(Yx (kd.mono) hG hr (Zj (va 1) (Zj ZC Zr))))))
 (YS (own2:=[6]) (Za1 (YG jN rfl (qy rfl) (V0 Zr)))
 (YS (own2:=[6]) (Xq (own:=[6]) qG rfl (US rfl T.b_range (va 2)) (Xp jN rfl (qy rfl) (by decide))
 (YS (own2:=[6]) (Xq (own:=[6]) qG rfl (Zaz rfl T.b_range (ZZ Xr (va 7) ZC) (va 2)) (Xp jN rfl (qy rfl) (by decide))
 (YS (own2:=[6]) (ZbY (own:=[6]) (YG jN rfl (qy rfl) (Vj (JN hr.units0) (Yx (kd.mono) hG hr (Zj (va 0) (Zj ZC Zr))) (va 4))))
 (YS (own2:=[6]) (BC (own':=[6]) (Xv.pt (Zfr (YT (VI hr.units) (va 3) ZC) (Zfr (YT (VI hr.units) (ZK ZL (va 5) (va 7)) ZC) (Zgj (YT (VI hr.units) (ZK ZL (va 5) (va 8)) ZC)))))
 (YS (own2:=[6]) (ZbY (own:=[6]) (YG jN rfl (qy rfl) Y9))
 (Yq (own:=[6])))
 Yq)
 (YS (own2:=[6]) (BC (own':=[6]) (YT (VI hr.units) (va 3) ZC)
 (YS (own2:=[6]) (ZbY (own:=[6]) (YG jN rfl (qy rfl) (Zop (Vj (VI hr.units) (ZZ Bw (va 8) (va 7)) ZC) (Zfs (Vj (VI hr.units) (ZZ Bw (va 8) (va 7)) (ZZ Bw (va 2) ZC))))))
 (Yq (own:=[6])))
 Yq)
 (YS (own2:=[6]) (BC (own':=[6]) (Xe (va 9))
 (YS (own2:=[6]) (ZbZ (own:=[6]) (i:=6) (by decide) (Xs (Zj (va 7) (Zj (va 8) Zr))) (λ_ h=>ZaJ (pv 6) h))
 (Yq (own:=[6])))
 Yq)
 (Yq (own:=[6])))))))
 (Yq (own:=[6]))))
 (YS (own2:=[6]) (Z8 (Xs (Zj (va 2) (Zj (ZaI (Zal) rfl T.b_tuple TF.boot_tuple (Zj (va 6) Zr)) Zr))))
 (Yq (own:=[6]))))))))
theorem Zcr:FnScope ["_law_web_here","_law_a","_law_b"] ["_law_web_here","_law_a","_law_b"] (ZF Zc0):=YI
theorem Zf4 (F:Fun K "_law_tied" "_law_tied" Zc0 kb jR)(T:Txt mg) :
  FnOk P w K mg base ZR 1 kb jR ["_law_web_here","_law_a","_law_b"] (Yp 3 false Z0 Vc):=
 have jN:=Zcr.nd
 YY (own:=[]) F Zcr λcdv A outer s H E hr G hG=>
 (Zw (Z8 (PD.weak (Vj (JO hr.units) (Xs (Zj (XF (ZdE rfl) rfl T.b_min TF.boot_min (Zj (va 1) (Zj (va 2) Zr))) (Zj (XF (ZdD rfl) rfl T.b_max TF.boot_max (Zj (va 1) (Zj (va 2) Zr))) Zr))) (ZK ZL (va 0) ZC))))
 ZV)
theorem ZbB:FnScope ["_law_web_here","_law_pairs","_law_pair","_law_found","_law_place","_law_more","_law_knot"] ["_law_web_here"] (ZF ZaV):=YI
theorem ZeD (F:Fun K "_law_knots" "_law_knots" ZaV kb jR)(T:Txt mg) :
  FnOk P w K mg base ZR 1 kb jR ["_law_web_here"] (Yp 1 false Z0 Bk):=
 have jN:=ZbB.nd
 YY (own:=[]) F ZbB λcdv A outer s H E hr G hG=>
 (YS (own2:=[1]) (Za1 (YG jN rfl (z7 rfl) ZlL))
 (YS (own2:=[1]) (Xq (own:=[1]) qG rfl (Xw.a (own:=[1]) (VZ (ZK ZL (va 0) ZC))) (Xp jN rfl (qy rfl) (by decide))
 (YS (own2:=[1]) (ZhS (own:=[1]) (i:=1) (L2.hu_of hr) (by decide) (pv 1) (va 2) Y9)
 (Yq (own:=[1]))))
 (YS (own2:=[1]) (ZbY (own:=[1]) (YG jN rfl (qy rfl) (V0 (Zj (Xs Zr) Zr))))
 (Zw (Y1.frz (own:=[1]) (own2:=[]) (Xq (own:=[]) qG rfl (US rfl T.b_range (ZK ZL (va 0) ZC)) (Xp jN rfl (z7 rfl) (by decide))
 (YS (own2:=[5]) (Za1 (YG jN rfl (qy rfl) (V0 Zr)))
 (YS (own2:=[5]) (Xq (own:=[5]) qG rfl (Xw.a (own:=[5]) (VE (va 3))) (Xp jN rfl (qy rfl) (by decide))
 (YS (own2:=[5]) (BC (own':=[5]) (YT (ZjE hr.units) Y9 (X9 (bk ["_law_web_here","_law_pairs","_law_pair","_law_found","_law_place","_law_more","_law_knot"] (ZF ZaV).names ["_law_other","_law_place","_law_pairs"] [none,some 4,some 1]) (VZ (va 6)) Xy WI (Vj (JO hr.units) (Xs (Zj (va 0) (Zj (va 1) Zr))) (va 2))))
 (YS (own2:=[5]) (ZbZ (own:=[5]) (i:=5) (by decide) (ZZ Xr (va 6) (Xs (Zj (va 4) Zr))) (λ_ h=>ZaJ (pv 5) h))
 (Yq (own:=[5])))
 Yq)
 (Yq (own:=[5]))))
 (Zw (Y1.frz (own:=[5]) (own2:=[]) (YZ (YG jN rfl (qy rfl) (ZZ Xr (va 3) (va 5)))))
 ZV)))))
 (Zw (Z8 (va 3))
 ZV)))))
noncomputable def g__law_fraction_is:Zd->M Out:=(Ze (ZU (Yi (Yg (Zo (ZB Ys (Zb (Za 0) (Zb (dC (.ty "tuple")) Zf))))) (Zo (Zc Y3 (ZB Yw (Zb (Za 0) Zf)) (dC (.int 2)))))
 (Ze (Zz (dC (.bl false)))
 Zg)
 Zg)
 (Ze (Yv (Y2 (Za 0)) (Zy 1)
 (Ze (ZU (Yi (Yg (Zo (ZB Ys (Zb (Za 1) (Zb (dC (.ty "int")) Zf))))) (Zo (ZB Ys (Zb (Za 1) (Zb (dC (.ty "bool")) Zf)))))
 (Ze (Zz (dC (.bl false)))
 Zg)
 Zg)
 Zg))
 (Ze (Vr 2 3 (Zb (ZB dAbs (Zb (Zc Zh (Za 0) (dC (.int 0))) Zf)) (Zb (Zc Zh (Za 0) (dC (.int 1))) Zf)))
 (Ze (VU (Zo (Zc Y3 (Za 3) (dC (.int 0))))
 (Ze (Vr 2 3 (Zb (Za 3) (Zb (Zc ZiQ (Za 2) (Za 3)) Zf)))
 Zg))
 (Ze (Zz (Vq (Zc Vz (Zc Zh (Za 0) (dC (.int 1))) (dC (.int 0))) (Zc YD (Za 2) (dC (.int 1)))))
 Zg)))))
noncomputable def F__law_fraction_is:List D->M D:=runB 4 1 g__law_fraction_is
theorem Zak:FnScope ["_law_one","_law_part_of","_law_a","_law_b"] ["_law_one"] (ZF Zay):=YI
theorem Zbx (F:Fun K "_law_fraction_is" "_law_fraction_is" Zay kb jR)(T:Txt mg) :
  FnOk P w K mg base ZR 1 kb jR ["_law_one"] (Yp 1 false Z0 F__law_fraction_is):=
 have jN:=Zak.nd
 YY (own:=[]) F Zak λcdv A outer s H E hr G hG=>
 (Zw (XT (Xv.pt (WF (Wq (Xe (XF (VW) rfl T.b_isinstance TF.boot_isinstance (Zj (va 0) (Zj (V5 rfl T.b_tuple TF.boot_tuple) Zr))))) (Ve (YT (U3 hr.units) (WB T.b_len (Zj (va 0) Zr)) ZC))))
 (Zw (Z8 (PD.weak Y9))
 ZV)
 Yq)
 (Zw (Xq (own:=[]) qG rfl (Xw.n (VZ (va 0))) (Xp jN rfl (qy rfl) (by decide))
 (Zw (XT (Xv.pt (WF (Wq (Xe (XF (VW) rfl T.b_isinstance TF.boot_isinstance (Zj (va 1) (Zj (V5 rfl T.b_int TF.boot_int) Zr))))) (Ve (Xe (XF (VW) rfl T.b_isinstance TF.boot_isinstance (Zj (va 1) (Zj (V5 rfl T.b_bool TF.boot_bool) Zr)))))))
 (Zw (Z8 (PD.weak Y9))
 ZV)
 Yq)
 ZV))
 (Zw (Zdd (own:=[]) rfl jN rfl rfl (by decide) (by decide) (by decide) rfl rfl (Zj (XF Ze7 rfl T.b_abs TF.boot_abs (Zj (ZK ZL (va 0) ZC) Zr)) (Zj (ZK ZL (va 0) ZC) Zr)) (by with_unfolding_all rfl))
 (Zw (Zl2 (own:=[]) qG (YT (U3 hr.units) (va 3) ZC)
 (Zw (Zdd (own:=[]) rfl jN rfl rfl (by decide) (by decide) (by decide) rfl rfl (Zj (va 3) (Zj (ZZ Zl6 (va 2) (va 3)) Zr)) (by with_unfolding_all rfl))
 ZV))
 (Zw (Z8 (ZkZ (Vj (Zfv) (ZK ZL (va 0) ZC) ZC) (Zfs (Vj (VI hr.units) (va 2) ZC))))
 ZV)))))
noncomputable def g__law_total:Zd->M Out:=(Ze (Ww (Ws 1 2) (Z9 (Zb (dC (.int 0)) (Zb (dC (.int 1)) Zf))))
 (Ze (Yv (ZiY (Za 0)) (Ws 3 4)
 (Ze (Vr 1 2 (Zb (Zc Yr (Zc XJ (Za 1) (Za 4)) (Zc XJ (Za 3) (Za 2))) (Zb (Zc XJ (Za 2) (Za 4)) Zf)))
 Zg))
 (Ze (Zz (Z9 (Zb (Za 1) (Zb (Za 2) Zf))))
 Zg)))
noncomputable def F__law_total:List D->M D:=runB 5 1 g__law_total
theorem ZbC:FnScope ["_law_some","_law_top","_law_bottom","_law_a","_law_b"] ["_law_some"] (ZF Zcl):=YI
theorem ZeE (F:Fun K "_law_total" "_law_total" Zcl kb jR)(T:Txt mg) :
  FnOk P w K mg base ZR 1 kb jR ["_law_some"] (Yp 1 true Z0 F__law_total):=
 have jN:=ZbC.nd
 YY (own:=[]) F ZbC λcdv A outer s H E hr G hG=>
 (Zw (Za6 (Xs (Zj ZC (Zj ZC Zr))) (Za2 rfl jN rfl rfl (qy rfl) (qy rfl) (by decide) (by decide) (hp:=WV (Wp jN rfl (qy rfl)) (WV (Wp jN rfl (qy rfl)) Bu))))
 (Zw (Xq (own:=[]) qG rfl (Xw.n (Zmf (va 0))) (Za2 rfl jN rfl rfl (qy rfl) (qy rfl) (by decide) (by decide) (hp:=WV (Wp jN rfl (qy rfl)) (WV (Wp jN rfl (qy rfl)) Bu)))
 (Zw (Zdd (own:=[]) rfl jN rfl rfl (by decide) (by decide) (by decide) rfl rfl (Zj (ZZ Xr (ZZ Ul (va 1) (va 4)) (ZZ Ul (va 3) (va 2))) (Zj (ZZ Ul (va 2) (va 4)) Zr)) (by with_unfolding_all rfl))
 ZV))
 (Zw (Z8 (Xs (Zj (va 1) (Zj (va 2) Zr))))
 ZV)))
noncomputable def g__law_is_apart:Zd->M Out:=(Ze (ZU (Yi (Yg (Zo (ZB Ys (Zb (Za 1) (Zb (dC (.ty "tuple")) Zf))))) (Zo (Zc YD (Za 1) (Z9 Zf))))
 (Ze (Zz (dC (.bl false)))
 Zg)
 Zg)
 (Ze (Yv (Y2 (Za 1)) (Zy 2)
 (Ze (ZU (Yi (Yg (Zo (ZB Ys (Zb (Za 2) (Zb (dC (.ty "int")) Zf))))) (Yi (Zo (ZB Ys (Zb (Za 2) (Zb (dC (.ty "bool")) Zf)))) (Yg (JP (dC (.int 0)) (J4 UM (Za 2) (J3 XR (Zc Zh (Za 0) (dC (.int 0)))))))))
 (Ze (Zz (dC (.bl false)))
 Zg)
 Zg)
 Zg))
 (Ze (Yv (VY (dC (.int 1)) (ZB Yw (Zb (Za 1) Zf))) (Zy 3)
 (Ze (ZU (Zo (Zc Jm (Zc Zh (Za 1) (Zc XD (Za 3) (dC (.int 1)))) (Zc Zh (Za 1) (Za 3))))
 (Ze (Zz (dC (.bl false)))
 Zg)
 Zg)
 (Ze (Yv (Y2 (ZdO (Za 1) ZgC (ZgD (Za 3)))) (Zy 4)
 (Ze (ZU (Zo (ZD Vc (Zb (Za 0) (Zb (Za 4) (Zb (Zc Zh (Za 1) (Za 3)) Zf)))))
 (Ze (Zz (dC (.bl false)))
 Zg)
 Zg)
 Zg))
 Zg)))
 (Ze (Zz (dC (.bl true)))
 Zg))))
noncomputable def F__law_is_apart:List D->M D:=runB 5 2 g__law_is_apart
theorem ZaP:FnScope ["_law_told","_law_places","_law_one","_law_k","_law_other"] ["_law_told","_law_places"] (ZF ZaX):=YI
theorem ZcL (F:Fun K "_law_is_apart" "_law_is_apart" ZaX kb jR)(T:Txt mg)(kj:Yd P w K mg base 1 "_law_tied" 3 false Z0 Vc) :
  FnOk P w K mg base ZR 2 kb jR ["_law_told","_law_places"] (Yp 2 true Z0 F__law_is_apart):=
 have jN:=ZaP.nd
 YY (own:=[]) F ZaP λcdv A outer s H E hr G hG=>
 (Zw (XT (Xv.pt (WF (Wq (Xe (XF (VW) rfl T.b_isinstance TF.boot_isinstance (Zj (va 1) (Zj (V5 rfl T.b_tuple TF.boot_tuple) Zr))))) (Ve (YT (VI hr.units) (va 1) (Xs Zr)))))
 (Zw (Z8 Y9)
 ZV)
 Yq)
 (Zw (Xq (own:=[]) qG rfl (Xw.n (VZ (va 1))) (Xp jN rfl (qy rfl) (by decide))
 (Zw (XT (Xv.pt (WF (Wq (Xe (XF (VW) rfl T.b_isinstance TF.boot_isinstance (Zj (va 2) (Zj (V5 rfl T.b_int TF.boot_int) Zr))))) (WF (Xe (XF (VW) rfl T.b_isinstance TF.boot_isinstance (Zj (va 2) (Zj (V5 rfl T.b_bool TF.boot_bool) Zr)))) (Ve (Wq (ZjP ZC (ZjO (Zk4) (va 2) (Zlr (JN hr.units0) (ZK ZL (va 0) ZC)))))))))
 (Zw (Z8 Y9)
 ZV)
 Yq)
 ZV))
 (Zw (Xq (own:=[]) qG rfl (Zaz rfl T.b_range ZC (WB T.b_len (Zj (va 1) Zr))) (Xp jN rfl (qy rfl) (by decide))
 (Zw (XT (YT (Zk5) (ZK ZL (va 1) (ZZ Bw (va 3) ZC)) (ZK ZL (va 1) (va 3)))
 (Zw (Z8 Y9)
 ZV)
 Yq)
 (Zw (Xq (own:=[]) qG rfl (Xw.n (VZ (Zlp (va 1) Zln (Zlo (va 3))))) (Xp jN rfl (qy rfl) (by decide))
 (Zw (XT (Xe (Yx (kj.mono) trivial hr (Zj (va 0) (Zj (va 4) (Zj (ZK ZL (va 1) (va 3)) Zr)))))
 (Zw (Z8 Y9)
 ZV)
 Yq)
 ZV))
 ZV)))
 (Zw (Z8 Y9)
 ZV))))
noncomputable def g__law_covers:Zd->M Out:=(Ze (ZU (Yg (Zo (ZB Ys (Zb (Za 1) (Zb (dC (.ty "list")) Zf)))))
 (Ze (Zz (dC (.bl false)))
 Zg)
 Zg)
 (Ze (Yv (Y0 (Za 1)) (Zy 2)
 (Ze (ZU (Yi (Yg (Zo (ZB Ys (Zb (Za 2) (Zb (dC (.ty "tuple")) Zf))))) (Yi (Zo (Zc Y3 (ZB Yw (Zb (Za 2) Zf)) (dC (.int 2)))) (Yg (Zo (ZD F__law_is_apart (Zb (Za 0) (Zb (Zc Zh (Za 2) (dC (.int 0))) Zf)))))))
 (Ze (Zz (dC (.bl false)))
 Zg)
 Zg)
 (Ze (ZU (Yi (Yg (Zo (ZD F__law_fraction_is (Zb (Zc Zh (Za 2) (dC (.int 1))) Zf)))) (Zo (Zc UM (Zc Zh (Zc Zh (Za 2) (dC (.int 1))) (dC (.int 0))) (dC (.int 0)))))
 (Ze (Zz (dC (.bl false)))
 Zg)
 Zg)
 Zg)))
 (Ze (Yv (Yn (Zc Zh (Za 0) (dC (.int 0)))) (Zy 3)
 (Ze (Ww (Ws 4 5) (ZD F__law_total (Zb (Z3 [none,some 3] (Y0 (Za 1)) (Zy 0) (Zo (Zc YR (Za 1) (Zc Zh (Za 0) (dC (.int 0))))) (Zc Zh (Za 0) (dC (.int 1)))) Zf)))
 (Ze (ZU (Zo (Zc XR (Za 4) (Za 5)))
 (Ze (Zz (dC (.bl false)))
 Zg)
 Zg)
 Zg)))
 (Ze (Zz (dC (.bl true)))
 Zg))))
noncomputable def F__law_covers:List D->M D:=runB 6 2 g__law_covers
theorem Zbh:FnScope ["_law_told","_law_thing","_law_one","_law_place","_law_top","_law_bottom"] ["_law_told","_law_thing"] (ZF ZaF):=YI
theorem Zem (F:Fun K "_law_covers" "_law_covers" ZaF kb jR)(T:Txt mg)(jO:Yd P w K mg base 1 "_law_fraction_is" 1 false Z0 F__law_fraction_is)(ko:Yd P w K mg base 2 "_law_is_apart" 2 true Z0 F__law_is_apart)(jT:Yd P w K mg base 1 "_law_total" 1 true Z0 F__law_total) :
  FnOk P w K mg base ZR 3 kb jR ["_law_told","_law_thing"] (Yp 2 true Z0 F__law_covers):=
 have jN:=Zbh.nd
 YY (own:=[]) F Zbh λcdv A outer s H E hr G hG=>
 (Zw (XT (Wq (Xe (XF (VW) rfl T.b_isinstance TF.boot_isinstance (Zj (va 1) (Zj (V5 rfl T.b_list TF.boot_list) Zr)))))
 (Zw (Z8 Y9)
 ZV)
 Yq)
 (Zw (Xq (own:=[]) qG rfl (Xw.n (VE (va 1))) (Xp jN rfl (qy rfl) (by decide))
 (Zw (XT (Xv.pt (WF (Wq (Xe (XF (VW) rfl T.b_isinstance TF.boot_isinstance (Zj (va 2) (Zj (V5 rfl T.b_tuple TF.boot_tuple) Zr))))) (WF (YT (U3 hr.units) (WB T.b_len (Zj (va 2) Zr)) ZC) (Ve (Wq (Xe (Yx (ko.mono) trivial hr (Zj (va 0) (Zj (ZK ZL (va 2) ZC) Zr)))))))))
 (Zw (Z8 Y9)
 ZV)
 Yq)
 (Zw (XT (Xv.pt (WF (Wq (Xe (Yx (jO.mono) trivial hr (Zj (ZK ZL (va 2) ZC) Zr)))) (Ve (YT (Zk4) (ZK ZL (ZK ZL (va 2) ZC) ZC) ZC))))
 (Zw (Z8 Y9)
 ZV)
 Yq)
 ZV)))
 (Zw (Xq (own:=[]) qG rfl (US rfl T.b_range (ZK ZL (va 0) ZC)) (Xp jN rfl (z7 rfl) (by decide))
 (Zw (Za6 (Yx (jT.mono) trivial hr (Zj (X9 (bk ["_law_told","_law_thing","_law_one","_law_place","_law_top","_law_bottom"] (ZF ZaF).names ["_law_one","_law_place"] [none,some 3]) (VE (va 1)) Xy (JY (YT (JO hr.units) (va 1) (ZK ZL (va 0) ZC))) (ZK ZL (va 0) ZC)) Zr)) (Za2 rfl jN rfl rfl (qy rfl) (qy rfl) (by decide) (by decide) (hp:=WV (Wp jN rfl (qy rfl)) (WV (Wp jN rfl (qy rfl)) Bu))))
 (Zw (XT (YT (JN hr.units0) (va 4) (va 5))
 (Zw (Z8 Y9)
 ZV)
 Yq)
 ZV)))
 (Zw (Z8 Y9)
 ZV))))
noncomputable def g__law_weighs:Zd->M Out:=(Ze (ZU (Yi (Yg (Zo (ZB Ys (Zb (Za 1) (Zb (dC (.ty "tuple")) Zf))))) (Zo (Zc Y3 (ZB Yw (Zb (Za 1) Zf)) (Zc Zh (Za 0) (dC (.int 0))))))
 (Ze (Zz (dC (.bl false)))
 Zg)
 Zg)
 (Ze (Yv (Y2 (Za 1)) (Zy 2)
 (Ze (ZU (Yi (Yg (Zo (ZD F__law_fraction_is (Zb (Za 2) Zf)))) (Zo (Zc XR (Zc Zh (Za 2) (dC (.int 0))) (dC (.int 0)))))
 (Ze (Zz (dC (.bl false)))
 Zg)
 Zg)
 Zg))
 (Ze (UC 3 (X0 Zf))
 (Ze (Yv (Yn (Zc Zh (Za 0) (dC (.int 0)))) (Zy 4)
 (Ze (Yv (VY (Zc Yr (Za 4) (dC (.int 1))) (Zc Zh (Za 0) (dC (.int 0)))) (Zy 5)
 (Ze (ZU (Yg (Zo (ZD Vc (Zb (Za 0) (Zb (Za 4) (Zb (Za 5) Zf))))))
 (Ze (UE 3 (fun ρ=>(Z9 (Zb (Za 4) (Zb (Za 5) Zf))) (YH [3] ρ)))
 Zg)
 Zg)
 Zg))
 Zg))
 (Ze (Yv (Y0 (ZD Bk (Zb (Z9 (Zb (Zc Zh (Za 0) (dC (.int 0))) (Zb (ZB U2 (Zb (Za 3) Zf)) Zf))) Zf))) (Zy 6)
 (Ze (Ww (Ws 7 8) (ZD F__law_total (Zb (Z3 [none,some 1] (Y2 (Za 6)) (Zy 0) Yo (Zc Zh (Za 1) (Za 0))) Zf)))
 (Ze (ZU (Zo (Zc Vz (Za 7) (Za 8)))
 (Ze (Zz (dC (.bl false)))
 Zg)
 Zg)
 Zg)))
 (Ze (Zz (dC (.bl true)))
 Zg))))))
noncomputable def F__law_weighs:List D->M D:=runB 9 2 g__law_weighs
theorem Zbi:FnScope ["_law_told","_law_thing","_law_one","_law_ties","_law_a","_law_b","_law_places","_law_top","_law_bottom"] ["_law_told","_law_thing"] (ZF ZaG):=YI
theorem Zen (F:Fun K "_law_weighs" "_law_weighs" ZaG kb jR)(T:Txt mg)(jO:Yd P w K mg base 1 "_law_fraction_is" 1 false Z0 F__law_fraction_is)(kC:Yd P w K mg base 1 "_law_knots" 1 false Z0 Bk)(kj:Yd P w K mg base 1 "_law_tied" 3 false Z0 Vc)(jT:Yd P w K mg base 1 "_law_total" 1 true Z0 F__law_total) :
  FnOk P w K mg base ZR 2 kb jR ["_law_told","_law_thing"] (Yp 2 true Z0 F__law_weighs):=
 have jN:=Zbi.nd
 YY (own:=[]) F Zbi λcdv A outer s H E hr G hG=>
 (Zw (XT (Xv.pt (WF (Wq (Xe (XF (VW) rfl T.b_isinstance TF.boot_isinstance (Zj (va 1) (Zj (V5 rfl T.b_tuple TF.boot_tuple) Zr))))) (Ve (YT (U3 hr.units) (WB T.b_len (Zj (va 1) Zr)) (ZK ZL (va 0) ZC)))))
 (Zw (Z8 Y9)
 ZV)
 Yq)
 (Zw (Xq (own:=[]) qG rfl (Xw.n (VZ (va 1))) (Xp jN rfl (qy rfl) (by decide))
 (Zw (XT (Xv.pt (WF (Wq (Xe (Yx (jO.mono) trivial hr (Zj (va 2) Zr)))) (Ve (YT (JN hr.units0) (ZK ZL (va 2) ZC) ZC))))
 (Zw (Z8 Y9)
 ZV)
 Yq)
 ZV))
 (YS (own2:=[3]) (Za1 (YG jN rfl (qy rfl) (V0 Zr)))
 (YS (own2:=[3]) (Xq (own:=[3]) qG rfl (US rfl T.b_range (ZK ZL (va 0) ZC)) (Xp jN rfl (qy rfl) (by decide))
 (YS (own2:=[3]) (Xq (own:=[3]) qG rfl (Zaz rfl T.b_range (ZZ Xr (va 4) ZC) (ZK ZL (va 0) ZC)) (Xp jN rfl (qy rfl) (by decide))
 (YS (own2:=[3]) (BC (own':=[3]) (Wq (Xe (Yx (kj.mono) trivial hr (Zj (va 0) (Zj (va 4) (Zj (va 5) Zr))))))
 (YS (own2:=[3]) (ZbZ (own:=[3]) (i:=3) (by decide) (Xs (Zj (va 4) (Zj (va 5) Zr))) (λ_ h=>ZaJ (pv 3) h))
 (Yq (own:=[3])))
 Yq)
 (Yq (own:=[3]))))
 (Yq (own:=[3]))))
 (Zw (Y1.frz (own:=[3]) (own2:=[]) (Xq (own:=[]) qG rfl (Xw.n (VE (Yx (kC.mono) trivial hr (Zj (Xs (Zj (ZK ZL (va 0) ZC) (Zj (ZaI (Zal) rfl T.b_tuple TF.boot_tuple (Zj (va 3) Zr)) Zr))) Zr)))) (Xp jN rfl (qy rfl) (by decide))
 (Zw (Za6 (Yx (jT.mono) trivial hr (Zj (X9 (bk ["_law_told","_law_thing","_law_one","_law_ties","_law_a","_law_b","_law_places","_law_top","_law_bottom"] (ZF ZaG).names ["_law_place","_law_thing"] [none,some 1]) (VZ (va 6)) Xy WI (ZK ZL (va 1) (va 0))) Zr)) (Za2 rfl jN rfl rfl (qy rfl) (qy rfl) (by decide) (by decide) (hp:=WV (Wp jN rfl (qy rfl)) (WV (Wp jN rfl (qy rfl)) Bu))))
 (Zw (XT (YT (Zfv) (va 7) (va 8))
 (Zw (Z8 Y9)
 ZV)
 Yq)
 ZV))))
 (Zw (Z8 Y9)
 ZV))))))
noncomputable def ZmG:Zd->M Out:=(Ze (Yv (Yn (dC (.int 4))) (Zy 2)
 (Zl4 (Ze (Ya 3 (ZD Zas (Zb (Za 1) (Zb (dC (.int 7)) Zf))))
 (Ze (Ya 4 (ZD UV (Zb (Za 3) Zf)))
 (Ze (ZU (Yi (Yg (Zo (ZB Ys (Zb (Za 4) (Zb (dC (.ty "tuple")) Zf))))) (Yi (Zo (Zc Y3 (ZB Yw (Zb (Za 4) Zf)) (dC (.int 3)))) (Yg (Zo (ZD F__law_fraction_is (Zb (Zc Zh (Za 4) (dC (.int 0))) Zf))))))
 (Ze (Zz (dC (.bl false)))
 Zg)
 Zg)
 (Ze (Ww (Zov 5 6 7) (Za 4))
 (Ze (ZU (Yi (Yg (Zo (ZD F__law_covers (Zb (Za 3) (Zb (Za 6) Zf))))) (Yg (Zo (ZD F__law_weighs (Zb (Za 3) (Zb (Za 7) Zf))))))
 (Ze (Zz (dC (.bl false)))
 Zg)
 Zg)
 (Ze (Yv (Y0 (X0 (Zb (Z3 [none] (Y0 (Za 6)) (Zy 0) Yo (Zc Zh (Za 0) (dC (.int 1)))) (Zb (Za 7) Zf)))) (Zy 8)
 (Ze (Ww (Ws 9 10) (ZD F__law_total (Zb (Za 8) Zf)))
 (Ze (ZU (Zo (Zc Y3 (Zc XJ (Za 9) (Zc Zh (Za 5) (dC (.int 1)))) (Zc XJ (Zc Zh (Za 5) (dC (.int 0))) (Za 10))))
 (Ze (Zz (dC (.bl false)))
 Zg)
 Zg)
 Zg)))
 (Ze (Zl5 6)
 (Ze (ZU (Yi (Zo (Zc Y3 (Zc Zh (ZD UV (Zb (Za 3) Zf)) (dC (.int 0))) (Za 5))) (Zo (Zc YR (dC .non) (Zc Zh (ZD UV (Zb (Za 3) Zf)) (dC (.int 1))))))
 (Ze (Zz (dC (.bl false)))
 Zg)
 Zg)
 Zg))))))))))
 (Ze (Zz (dC (.bl true)))
 Zg))
theorem Zil:FnScope ["script","_law_pen","_law_k","_law_told","_law_found","_law_worth","_law_cover","_law_weights","_law_some","_law_top","_law_bottom"] ["script"] (ZF s_law):=YI
theorem Zn8 {cdv:Value}{A:xE}{outer:List Env}{s:Shared}{H:Hp}{E:XK}{L:List (Addr×Str)}(lo:UO L)(T:Txt mg)(hr:Room 7 (A.deeper (envOfC "law" (ZF s_law) s.heap.objs.size kb cdv)))(kg:Yd P w K mg base 3 "_law_covers" 2 true Z0 F__law_covers)(jO:Yd P w K mg base 1 "_law_fraction_is" 1 false Z0 F__law_fraction_is)(jT:Yd P w K mg base 1 "_law_total" 1 true Z0 F__law_total)(kx:Yd P w K mg base 3 "_law_web" 2 true (Vu (Ue K) L) Zas)(kh:Yd P w K mg base 2 "_law_weighs" 2 true Z0 F__law_weighs)(ky:Yd P w K mg base 7 "shares" 1 true (V8 L) UV)(G:Gh)(hG:(Vu (Ue K) L) G) :
  X1 (Vp ZR P w K mg base ["script","_law_pen","_law_k","_law_told","_law_found","_law_worth","_law_cover","_law_weights","_law_some","_law_top","_law_bottom"] "law" (ZF s_law) kb cdv A outer s H E).nox G [] [] [] false ((XV s_law).drop 1) ZmG:=
 have jN:=Zil.nd;have hT:V8 L G:=jA lo hG
 (Zw (Xq (own:=[]) qG rfl (US rfl T.b_range ZC) (Xp jN rfl (qy rfl) (by decide))
 (ZnR (JR (YZ (YG jN rfl (qy rfl) (Yx (kx.mono) hG hr (Zj (va 1) (Zj ZC Zr)))))
 (JR (YZ (YG jN rfl (qy rfl) (Yx (ky.mono) hT hr (Zj (va 3) Zr))))
 (JR (XT (Xv.pt (WF (Wq (Xe (XF (VW) rfl T.b_isinstance TF.boot_isinstance (Zj (va 4) (Zj (V5 rfl T.b_tuple TF.boot_tuple) Zr))))) (WF (YT (U3 hr.units) (WB T.b_len (Zj (va 4) Zr)) ZC) (Ve (Wq (Xe (Yx (jO.mono) trivial hr (Zj (ZK ZL (va 4) ZC) Zr))))))))
 (Zw (Z8 (PD.weak Y9))
 ZV)
 Yq)
 (JR (Za6 (va 4) (ZlQ rfl (by decide) (by decide) (by decide) (hp:=WV (Wp jN rfl (qy rfl)) (WV (Wp jN rfl (qy rfl)) (WV (Wp jN rfl (qy rfl)) Bu)))))
 (JR (XT (Xv.pt (WF (Wq (Xe (Yx (kg.mono) trivial hr (Zj (va 3) (Zj (va 6) Zr))))) (Ve (Wq (Xe (Yx (kh.mono) trivial hr (Zj (va 3) (Zj (va 7) Zr))))))))
 (Zw (Z8 (PD.weak Y9))
 ZV)
 Yq)
 (JR (Xq (own:=[]) qG rfl (Xw.n (VE (V0 (Zj (X9 (bk ["script","_law_pen","_law_k","_law_told","_law_found","_law_worth","_law_cover","_law_weights","_law_some","_law_top","_law_bottom"] (ZF s_law).names ["_law_one"] [none]) (VE (va 6)) Xy WI (ZK ZL (va 0) ZC)) (Zj (va 7) Zr))))) (Xp jN rfl (qy rfl) (by decide))
 (Zw (Za6 (Yx (jT.mono) trivial hr (Zj (va 8) Zr)) (Za2 rfl jN rfl rfl (qy rfl) (qy rfl) (by decide) (by decide) (hp:=WV (Wp jN rfl (qy rfl)) (WV (Wp jN rfl (qy rfl)) Bu))))
 (Zw (XT (YT (U3 hr.units) (ZZ Ul (va 9) (ZK ZL (va 5) ZC)) (ZZ Ul (ZK ZL (va 5) ZC) (va 10)))
 (Zw (Z8 (PD.weak Y9))
 ZV)
 Yq)
 ZV)))
 (Zqr (pv 6)
 (JR (XT (Xv.pt (WF (YT (U3 hr.units) (ZK ZL (Yx (ky.mono) hT hr (Zj (va 3) Zr)) ZC) (va 5)) (Ve (YT (JO hr.units) ZdB (ZK ZL (Yx (ky.mono) hT hr (Zj (va 3) Zr)) ZC)))))
 (Zw (Z8 (PD.weak Y9))
 ZV)
 Yq)
 Zqq))))))))))
 (Zw (Z8 (PD.weak Y9))
 ZV))
theorem Zcs:FnScope ["_law_pen","_law_many","_law_at","_law_cell","_law_found"] ["_law_pen","_law_many"] (ZF ZcZ):=⟨rfl,rfl,rfl,by decide +kernel,rfl,by decide +kernel,by decide +kernel⟩
theorem Zim {ds:List D}{s s':Pn}{d:D}(h:WP ds s=some (d,s')):∃m a hd ns,ds=[.pen,.int m]/\s=([a,hd],ns)/\0<m/\m<1073741824/\0<=a/\d=.int ((X8 m a hd ns).2 % m)/\s'=([(X8 m a hd ns).1,(X8 m a hd ns).2 / m],ns):=by
 unfold WP at h;split at h
 ·split at h
  ·rename_i m a hd ns c
   cases h
   exact⟨m,a,hd,ns,rfl,rfl,c.1,c.2.1,c.2.2,rfl,rfl⟩
  ·cases h
 ·cases h
theorem Zf5 {P:xD}{w:World}{K:qd}{mg:Str->Option Value}{base:Heap}{kb:Addr}{jR:xC}(F:Fun K "_law_next" "_law_next" ZcZ kb jR)(T:Txt mg)
  (kG:Yd P w K mg base 1 "_law_fill" 2 false Z0 Jw) (ZmH:∀c a s,0<=a->Jw [.int c,.int a] s=some (.int (VN c a),s)) :
  FnOk P w K mg base ZR 2 kb jR ["_law_pen","_law_many"] (Yp 2 true (Ue K) WP):=by
 have nd:=Zcs.nd;refine F.ok Zcs (λvs H Q E h=>?_) λcdv A outer s0 H vs Q E hr h=>?_
 ·obtain⟨G,Hf,ds,pn,d,pn',_,e,_⟩:=h
  exact e
 ·obtain⟨G,Hf,ds,pn,d,pn',hG,el,e1,r,st',eF,k'⟩:=h
  obtain⟨p,sa,tr,rfl⟩:=hG;obtain⟨m,a,hd,ns,rfl,rfl,m0,m1,a0,rfl,rfl⟩:=Zim eF;obtain⟨v1,v2,rfl,r1,r2⟩:=jo r
  cases (jq.mp r1)
  cases (ja.mp r2)
  obtain⟨a',h',ea,hp,ne,sq,t1,t2⟩:=st';simp only[qbu,and_true]at ea;obtain⟨rfl,rfl⟩:=ea
  -- behind: the pen's two numbers
  have fin:∀(H1:Hp) (x0 y0 x y:Int),stL K p sa tr ([x0,y0],ns) H1->stL K p sa tr ([x,y],ns) (Zp H1 p (.lst [.ref sa,.int x,.int y])):=λH1 x0 y0 x y ⟨_,_,_,_,_,sq,t1,t2⟩=>by
   refine⟨x,y,rfl,Z1,ne,?_,λht=>?_,t2⟩
   ·rcases sq with(q | ⟨o,q⟩) | q
    ·exact .inl (.inl (by rw[Zu ne];exact q))
    ·exact .inl (.inr ⟨o,by rw[Zu ne];exact q⟩)
    ·exact .inr q
   ·obtain⟨o,q⟩:=t1 ht
    exact⟨o,by rw[Zu ne];exact q⟩
  have st0:stL K p sa tr ([a,hd],ns) H:=⟨a,hd,rfl,hp,ne,sq,t1,t2⟩;have grH:∀(jU H1:Hp) o,ZA (Jg K p sa tr) jU H1->Gr (Jg K p sa tr) jU H1 jU (Zp H1 p o):=λjU H1 o e1=>
   ⟨λb u n q=>by rw[Zu (show b≠p from n)];exact q,.refl _ _,λb u n q=>by rw[Zu (show b≠p from n)];exact e1 b u n q,λb n h1 h2=>h1⟩
  refine⟨_,XE (Zir (ZbU ZkE (W1 WX (pv 0) Xk (λ_ _=>rfl)) (pv 1) (Zdu _))
   (XE (Um (i:=2) nd rfl (qy rfl) (W1 WX (pv 0) Xk (λ_ _=>rfl)))
   (XE (Um (i:=3) nd rfl (qy rfl) Xk)
   (XE (Zir (ZbU ZkE (pv 2) (Za0 B9 rfl T.b_len TF.boot_len (XB (W1 WX (pv 0) Xk (λ_ _=>rfl)) X7)) (Zdu _))
    (JE (Um (i:=3) nd rfl (qy rfl) (W1 WX (W1 WX (pv 0) Xk (λ_ _=>rfl)) (pv 2) (λ_ _=>rfl))))
    (JE (Zir (ZbU Zok (Za0 B9 rfl T.b_len TF.boot_len (XB (W1 WX (pv 0) Xk (λ_ _=>rfl)) X7)) Xk (Zdu _))
     (JE (Um (i:=3) nd rfl (qy rfl) (Uu Zhp (Uu Zfm (W1 WX (W1 WX (pv 0) Xk (λ_ _=>rfl)) (Uu Zfm (Uu Zhq (pv 2) Xk) (Za0 B9 rfl T.b_len TF.boot_len (XB (W1 WX (pv 0) Xk (λ_ _=>rfl)) X7))) (λ_ _=>rfl)) Xk) (Uu Zhq (pv 2) Xk))))
     ZbS)))
   (XE (Zds (Uu Zhp (pv 2) Xk) (Zfl (pv 0) Xk ZbV))
   (JE (Zds (PD.canon (Zle (G:=Jg K p sa tr) kG trivial hr rfl (Zj (Zhz 3 (pv 3)) (Zj (Zhz 2 (pv 2)) Zr)) (YF (YF WD)))) (Zfl (pv 0) Xk ZbV)))))))
   ZbS)
   (XE (Um (i:=4) nd rfl (qy rfl) (Uu Zfm (W1 WX (pv 0) Xk (λ_ _=>rfl)) (pv 1)))
   (XE (Zds (Uu ZmW (W1 WX (pv 0) Xk (λ_ _=>rfl)) (pv 1)) (Zfl (pv 0) Xk ZbV))
   (JE (Zhm (pv 4))))),?_⟩
  -- pen[2]<many
  refine⟨_,rfl,p,[.ref sa,.int a,.int hd],2,.int hd,rfl,rfl,ZT.of hp,rfl,_,rfl,hd,m,rfl,rfl,_,rfl,?_⟩
  -- the last three rows,from any state of the pen
  have last:∀(x y:Int) (o2 o3 o4:Option V) (jU H1:Hp),Gr (Jg K p sa tr) Hf H jU H1->stL K p sa tr ([x,y],ns) H1->x=(X8 m a hd ns).1->y=(X8 m a hd ns).2->
    BR (Ja (WK (rI (λ_ j=>0<j) λi j=>.int (i % j)) (WK (rIxL K) (Yf 0) (tC (.int 2))) (Yf 1)) (Ut 4))
     (BR (Ja (WK (rI CDiv λi j=>.int (i / j)) (WK (rIxL K) (Yf 0) (tC (.int 2))) (Yf 1)) (gSub (Yf 0) (tC (.int 2)) Zge)) (tRet (Yf 4))) { nx:=λ_ H'=>Q .non H',rt:=Q } [some (.ref p),some (.int m),o2,o3,o4] H1:=by
   intro x y o2 o3 o4 jU H1 g1 jV ex ey;obtain⟨x1,y1,exy,hp1,_⟩:=id jV;simp only[qbu,and_true]at exy;obtain⟨rfl,rfl⟩:=exy;refine⟨_,rfl,p,[.ref sa,.int x,.int y],2,.int y,rfl,rfl,ZT.of hp1,rfl,_,rfl,y,m,rfl,rfl,m0,?_⟩;refine⟨_,rfl,p,[.ref sa,.int x,.int y],2,.int y,rfl,rfl,ZT.of hp1,rfl,_,rfl,y,m,rfl,rfl,⟨m0,m1⟩,_,rfl,p,[.ref sa,.int x,.int y],2,2,rfl,rfl,hp1,rfl,?_⟩;refine⟨_,rfl,?_⟩;have jZ:=fin H1 x y x (y / m) jV;subst ex ey;exact k' _ jU _ (g1.trans (grH _ _ _ g1.fh)) jZ (ja.mpr rfl) λ_=>.scal λz=>z
  by_cases hlt:hd<m
  ·rw[decide_eq_true hlt]
   refine Ub ?_;refine⟨_,rfl,p,[.ref sa,.int a,.int hd],1,.int a,rfl,rfl,ZT.of hp,rfl,?_⟩
   -- the rest behind the cell
   have rest:∀c:Int,c=Zgu ns a->
     BR (Ja (WK (VT λi j=>.int (i+j)) (Yf 2) (tC (.int 1))) (gSub (Yf 0) (tC (.int 1)) Zge)) (Ja (BZ (Jg K p sa tr) false (ZD Jw (Zb (Za 3) (Zb (Za 2) Zf)))) (gSub (Yf 0) (tC (.int 2)) Zge)) ({ nx:=(BR (Ja (WK (rI (λ_ j=>0<j) λi j=>.int (i % j)) (WK (rIxL K) (Yf 0) (tC (.int 2))) (Yf 1)) (Ut 4)) (BR (Ja (WK (rI CDiv λi j=>.int (i / j)) (WK (rIxL K) (Yf 0) (tC (.int 2))) (Yf 1)) (gSub (Yf 0) (tC (.int 2)) Zge)) (tRet (Yf 4))) { nx:=λ_ H'=>Q .non H',rt:=Q }),rt:=Q }:Ends) [some (.ref p),some (.int m),some (.int a),some (.int c),none] H:=by
    intro c ec;refine⟨_,rfl,a,1,rfl,rfl,_,rfl,p,[.ref sa,.int a,.int hd],1,1,rfl,rfl,hp,rfl,?_⟩;have g1:=grH Hf H (.lst [.ref sa,.int (a+1),.int hd]) e1;refine⟨Hf,[none,none,some (.int a),some (.int c)],([a+1,hd],ns),.int (VN c a),([a+1,hd],ns),g1.fh,λi d e=>?_,fin H a hd (a+1) hd st0,?_,λv Hf' H' g st r _=>?_⟩
    ·match i,e with
     | 0,e=>cases e
     | 1,e=>cases e
     | 2,e=>cases e;exact⟨_,rfl,ja.mpr rfl⟩
     | 3,e=>cases e;exact⟨_,rfl,ja.mpr rfl⟩
     | i+4,e=>simp at e
    ·exact ZmH c a _ a0
    ·rw[ja.mp r]
     obtain⟨x1,y1,exy,hp1,_⟩:=id st;simp only[qbu,and_true]at exy;obtain⟨rfl,rfl⟩:=exy;refine⟨_,rfl,p,[.ref sa,.int (a+1),.int hd],2,2,rfl,rfl,hp1,rfl,?_⟩;refine last (a+1) (VN c a) _ _ _ Hf' _ ((g1.trans g).trans (grH _ _ _ g.fh)) (fin H' _ _ _ _ st) ?_ ?_
     ·unfold X8;rw[if_pos hlt]
     ·unfold X8;rw[if_pos hlt,ec]
   refine⟨_,rfl,_,rfl,p,[.ref sa,.int a,.int hd],0,.ref sa,rfl,rfl,ZT.of hp,rfl,sa,ns.map V.int,rfl,.inl sq,a,_,rfl,rfl,_,rfl,?_⟩;have lm:((ns.map V.int).length:Int)=(ns.length:Int):=by simp
   by_cases h2:a<ns.length
   ·rw[lm,decide_eq_true h2]
    refine Ub ?_;have hi:a.toNat<ns.length:=by omega
    have gi:(ns.map V.int)[a.toNat]?=some (.int (ns.getD a.toNat 0)):=by simp[qb5,hi]
    have ai:Xu (ns.map V.int) a=some (.int (ns.getD a.toNat 0)):=by
     have q:=VF gi
     rwa[qbY a0]at q
    refine⟨_,rfl,p,[.ref sa,.int a,.int hd],0,.ref sa,rfl,rfl,ZT.of hp,rfl,_,rfl,sa,ns.map V.int,a,_,rfl,rfl,sq,ai,?_⟩;exact rest _ (by unfold Zgu;rw[if_pos h2])
   ·rw[lm,decide_eq_false h2]
    refine Ua ?_;refine⟨_,rfl,p,[.ref sa,.int a,.int hd],0,.ref sa,rfl,rfl,ZT.of hp,rfl,sa,ns.map V.int,rfl,.inl sq,_,0,rfl,rfl,_,rfl,?_⟩;by_cases h3:(0:Int)<ns.length
    ·rw[lm,decide_eq_true h3]
     refine Ub ?_;have j0:=yT (a*7) (show(ns.length:Int)≠0 by omega);have j1:=yz (a*7) h3;have hi:(a*7 % (ns.length:Int)).toNat<ns.length:=by omega
     have gi:(ns.map V.int)[(a*7 % (ns.length:Int)).toNat]?=some (.int (ns.getD (a*7 % (ns.length:Int)).toNat 0)):=by simp[qb5,hi]
     have ai:Xu (ns.map V.int) (a*7 % (ns.length:Int))=some (.int (ns.getD (a*7 % (ns.length:Int)).toNat 0)):=by
      have q:=VF gi
      rwa[qbY j0]at q
     refine⟨_,rfl,p,[.ref sa,.int a,.int hd],0,.ref sa,rfl,rfl,ZT.of hp,rfl,_,rfl,a,7,rfl,rfl,.inr ⟨by decide,by decide⟩,_,rfl,p,[.ref sa,.int a,.int hd],0,.ref sa,rfl,rfl,ZT.of hp,rfl,sa,ns.map V.int,rfl,.inl sq,a*7,_,rfl,rfl,(by rw[lm];exact h3),sa,ns.map V.int,_,_,rfl,rfl,sq,(by rw[lm];exact ai),_,1000003,rfl,rfl,(by show(0:Int)<1000003;decide),_,rfl,a,1000003,rfl,rfl,.inr ⟨by decide,by decide⟩,_,_,rfl,rfl,?_⟩;exact rest _ (by unfold Zgu;rw[if_neg h2,if_pos (by omega)])
    ·rw[lm,decide_eq_false h3]
     refine Ua ?_;exact rest 0 (by unfold Zgu;rw[if_neg h2,if_neg (by omega)])
  ·rw[decide_eq_false hlt]
   refine Ua ?_;exact last a hd none none none Hf H (.refl e1) st0 (by unfold X8;rw[if_neg hlt]) (by unfold X8;rw[if_neg hlt])
end K26
namespace TP
open TF L2
theorem ZmH:∀c a s,0<=a->Jw [.int c,.int a] s=some (.int (VN c a),s):=by
 intro c a s ha;have hx0:=yT (c % 2147483647*48271+a*69621+11) (show(2147483629:Int)≠0 by decide);have hx1:=yz (c % 2147483647*48271+a*69621+11) (show(0:Int)<2147483629 by decide);by_cases hc:10 ^ 18<=c
 ·have e:VN c a=c:=by unfold VN;rw[if_pos hc]
  rw[e];have:(1000000000000000000:Int)<=c:=by simpa using hc
  simp[Jw,runB,Za3,Ze,ZU,Zo,Zc,Jm,dI,Za,dC,Zm,ZH,YV,dPow,Zz,Zg,this]
 ·have e:¬(1000000000000000000:Int)<=c:=λz=>hc (by simpa using z)
  generalize hx:(c % 2147483647*48271+a*69621+11) % 2147483629=x at hx0 hx1;have hy0:=yT (x*x+48271*x+a) (show(2147483587:Int)≠0 by decide);have hy1:=yz (x*x+48271*x+a) (show(0:Int)<2147483587 by decide);generalize hy:(x*x+48271*x+a) % 2147483587=y at hy0 hy1;have ef:VN c a=y*2147483579+(y*y+69621*a) % 2147483579:=by
   unfold VN;rw[if_neg hc];dsimp only;rw[hx,hy]
  rw[ef];have m1:∀z:Int,0<=z->z<2147483648->∀w,JZ z w=true:=λz h1 h2 w=>by
   unfold JZ;simp;left;omega
  have m2:∀z w:Int,0<=z->z<2147483648->JZ w z=true:=λz w h1 h2=>by
   unfold JZ;simp;right;omega
  simp[Jw,runB,Za3,Ze,ZU,Zo,Zc,Jm,dI,Za,dC,Zm,ZH,YV,dPow,Zz,Zg,Ya,Ud,UF,Yr,e,hx,hy,m1 x hx0 (by omega),m1 y hy0 (by omega),m2 48271 _ (by decide) (by decide),m2 69621 _ (by decide) (by decide),m1 48271 (by decide) (by decide),m1 69621 (by decide) (by decide),m2 2147483579 _ (by decide) (by decide)]
end TP
set_option exponentiation.threshold 9000
namespace TQ
open L2 TF TQ TU TS
open TP
open TP2 hiding g_all_near F_all_near
open TP3 hiding g_full_knots F_full_knots
noncomputable def ZS (t b:Int):Int×Int:=(t / (zo t b:Nat),b / (zo t b:Nat))
noncomputable abbrev ZE (p:Int×Int):D:=.tup [.int p.1,.int p.2]
structure IsFr (p:Int×Int):Prop where
 pos:0<p.2
 one:zo p.1 p.2=1
theorem BF {t b:Int}(hb:0<b):IsFr (ZS t b):=by
 have g0:0<zo t b:=qaN λz=>by simp_all
 exact⟨Int.ediv_pos_of_pos_of_dvd hb (by omega) (qaY ..),Int.gcd_ediv_gcd_ediv_gcd g0⟩
theorem Bz {t b:Int}(hb:0<b):(ZS t b).1*b=t*(ZS t b).2:=by
 have h1:=yQ (Int.gcd_dvd_left t b);have h2:=yQ (qaY t b);show t / (zo t b:Nat)*b=t*(b / (zo t b:Nat))
 grind
theorem Zn9 {t b:Int}(hb:0<b):(ZS t b).1.natAbs<=t.natAbs/\(ZS t b).2.natAbs<=b.natAbs:=by
 have g0:0<zo t b:=qaN λz=>by simp_all
 have h1:=yQ (Int.gcd_dvd_left t b);have h2:=yQ (qaY t b);have k:∀x y:Int,x*(zo t b:Nat)=y->x.natAbs<=y.natAbs:=λx y e=>by
  rw[<-e,qaF];exact Nat.le_mul_of_pos_right _ g0
 exact⟨k _ _ h1,k _ _ h2⟩
theorem Zi7 {t b:Int}(hb:0<b):(0<(ZS t b).1↔0<t):=by
 have h:=Bz (t:=t) hb;have p:=(BF (t:=t) hb).pos;constructor
 ·intro z
  have:=h▸qbA z hb;exact qbn this p
 ·intro z
  have:=h▸qbA z p;exact qbn this hb
theorem ZpL {t b:Int}(hb:0<b)(ht:0<=t):0<=(ZS t b).1:=Int.ediv_nonneg ht (by omega)
noncomputable def VS:Int×Int->List (Int×Int)->Int×Int
 | a,[]=>a
 | a,p::r=>VS (a.1*p.2+p.1*a.2,a.2*p.2) r
noncomputable abbrev Z4 (l:List (Int×Int)):Int×Int:=VS (0,1) l
theorem Zeo:∀{l:List (Int×Int)} {a:Int×Int},0<a.2->(∀p∈l,0<p.2)->0<(VS a l).2
 | [],_,h,_=>h
 | p::r,a,h,hp=>Zeo (a:=(a.1*p.2+p.1*a.2,a.2*p.2)) (qbA h (hp p (by simp))) λq hq=>hp q (by simp[hq])
theorem Zhi {α:Type}{d:Int}{p:α->Int×Int}{t:α->Int}:∀{l:List α} {a:Int×Int} {S:Int},(∀x∈l,(p x).1*d=t x*(p x).2)->a.1*d=a.2*S->(VS a (l.map p)).1*d=(VS a (l.map p)).2*(S+(l.map t).sum)
 | [],a,S,_,h=>by simpa[VS]using h
 | x::r,a,S,hp,h=>by
  have h1:=hp x (by simp);have e:(a.1*(p x).2+(p x).1*a.2)*d=(a.2*(p x).2)*(S+t x):=by
   grind
  have:=Zhi (l:=r) (a:=(a.1*(p x).2+(p x).1*a.2,a.2*(p x).2)) (λy hy=>hp y (by simp[hy])) e;rw[qO,qO,qal];show(VS _ (r.map p)).1*d=(VS _ (r.map p)).2*_;rw[this,Int.add_assoc]
theorem Zdr {α:Type}{d:Int}{p:α->Int×Int}{t:α->Int}{l:List α}(hp:∀x∈l,(p x).1*d=t x*(p x).2):(Z4 (l.map p)).1*d=(Z4 (l.map p)).2*(l.map t).sum:=by
 have:=Zhi (a:=(0,1)) (S:=0) hp (by simp);simpa using this
noncomputable abbrev Jr (e:Nat)(l:List (Int×Int)):Prop:=∀p∈l,p.1.natAbs<=2 ^ e/\p.2.natAbs<=2 ^ e
theorem ZbQ {a b:Int}{x y:Nat}(h1:a.natAbs<=2 ^ x)(h2:b.natAbs<=2 ^ y):(a*b).natAbs<=2 ^ (x+y):=by
 rw[qaF,Nat.pow_add];exact yF h1 h2
theorem Zi8 {a:Int×Int}{p:Int×Int}{x e:Nat}(h1:a.1.natAbs<=2 ^ x)(h2:a.2.natAbs<=2 ^ x)(h3:p.1.natAbs<=2 ^ e)(h4:p.2.natAbs<=2 ^ e) :
  (a.1*p.2+p.1*a.2).natAbs<=2 ^ (x+(e+1))/\(a.2*p.2).natAbs<=2 ^ (x+(e+1)):=by
 have k1:=ZbQ h1 h4;have k2:=ZbQ h3 h2;have k3:=ZbQ h2 h4;have e1:2 ^ (x+(e+1))=2 ^ (x+e)+2 ^ (x+e):=by grind
 rw[qb4 e x]at k2;rw[e1];generalize 2 ^ (x+e)=z at *;exact⟨qu (Int.natAbs_add_le _ _) (by omega),by omega⟩
theorem ZmI {a:Int}{x:Nat}(h:a.natAbs<=2 ^ x)(hx:x<8000):Xz a=true:=decide_eq_true (zr h (Nat.pow_lt_pow_right (by decide) hx))
theorem Zi9:∀{l:List (Int×Int)} {a:Int×Int} {x e:Nat},a.1.natAbs<=2 ^ x->a.2.natAbs<=2 ^ x->Jr e l->(VS a l).1.natAbs<=2 ^ (x+(e+1)*l.length)/\(VS a l).2.natAbs<=2 ^ (x+(e+1)*l.length)
 | [],a,x,e,h1,h2,_=>⟨h1,h2⟩
 | p::r,a,x,e,h1,h2,hf=>by
  obtain⟨h3,h4⟩:=hf p (by simp);obtain⟨k1,k2⟩:=Zi8 h1 h2 h3 h4;have:=Zi9 (l:=r) (a:=(a.1*p.2+p.1*a.2,a.2*p.2)) k1 k2 λq hq=>hf q (by simp[hq]);rw[show x+(e+1)+(e+1)*r.length=x+(e+1)*(p::r).length by grind]at this;exact this
theorem ZpM {l:List (Int×Int)}{e:Nat}(hf:Jr e l):(Z4 l).1.natAbs<=2 ^ ((e+1)*l.length)/\(Z4 l).2.natAbs<=2 ^ ((e+1)*l.length):=by
 have:=Zi9 (a:=(0,1)) (x:=0) (by simp) (by simp) hf;simpa using this
theorem Zct {i j:Int}{x y:Nat}(h1:i.natAbs<=2 ^ x)(h2:j.natAbs<=2 ^ y)(hx:x<8000)(hy:y<8000):XJ (.int i) (.int j)=some (.int (i*j)):=Zch (ZmI h1 hx) (ZmI h2 hy)
theorem Zja {body:Zd->M Out}{τ:D->Zd->Option Zd}{R:Int×Int->Zd->Prop}{s:Pn}{e:Nat}(hstep:∀(a p:Int×Int) (x:Nat) (ρ:Zd),R a ρ->a.1.natAbs<=2 ^ x->a.2.natAbs<=2 ^ x->x+(e+1)<8000->p.1.natAbs<=2 ^ e->p.2.natAbs<=2 ^ e->∃ρ1 ρ2,τ (ZE p) ρ=some ρ1/\body ρ1 s=some (.nx ρ2,s)/\R (a.1*p.2+p.1*a.2,a.2*p.2) ρ2) :
  ∀(l:List (Int×Int)) (a:Int×Int) (x:Nat) (ρ:Zd),R a ρ->a.1.natAbs<=2 ^ x->a.2.natAbs<=2 ^ x->Jr e l->x+(e+1)*l.length<8000->∃ρ',Wu τ body (l.map ZE) ρ s=some (.nx ρ',s)/\R (VS a l) ρ'
 | [],a,x,ρ,h,_,_,_,_=>⟨ρ,rfl,h⟩
 | p::r,a,x,ρ,h,h1,h2,hf,hx=>by
  obtain⟨h3,h4⟩:=hf p (by simp);obtain⟨k1,k2⟩:=Zi8 h1 h2 h3 h4;have hx':x+(e+1)+(e+1)*r.length<8000:=by rw[qW,Nat.mul_succ]at hx;omega
  obtain⟨ρ1,ρ2,e1,e2,e3⟩:=hstep a p x ρ h h1 h2 (by omega) h3 h4;obtain⟨ρ',e4,e5⟩:=Zja hstep r _ _ ρ2 e3 k1 k2 (λq hq=>hf q (by simp[hq])) hx';exact⟨ρ',Bj e1 e2 e4,e5⟩
theorem Zhj {i j:Nat}{fs:Zd->M (List D)}{ρ:Zd}{s s1:Pn}{a b:D}(h:fs ρ s=some ([a,b],s1))(hm:(Xg a&&Xg b)=true):Vr i j fs ρ s=some (.nx ((ρ.set i (some a)).set j (some b)),s1):=by
 unfold Vr Zm;rw[h];show(if (Xg a&&Xg b)=true then ZH (Out.nx ((ρ.set i (some a)).set j (some b)))else ZP) s1=_;rw[if_pos hm];rfl
theorem Zcu {l:List (Int×Int)}{e:Nat}{d:D}(hd:d=.lst (l.map ZE)∨d=.tup (l.map ZE))(hf:Jr e l)(hx:(e+1)*l.length<8000)(s:Pn):F__law_total [d] s=some (ZE (Z4 l),s):=by
 by_cases h0:l=[]
 ·subst h0
  rcases hd with rfl | rfl <;> rfl
 obtain⟨ρ',h1,o3,o4,rfl⟩:=Zja (τ:=Ws 3 4) (body:=(Ze (Vr 1 2 (Zb (Zc Yr (Zc XJ (Za 1) (Za 4)) (Zc XJ (Za 3) (Za 2))) (Zb (Zc XJ (Za 2) (Za 4)) Zf))) Zg)) (R:=λa ρ=>∃o3 o4,ρ=[some d,some (.int a.1),some (.int a.2),o3,o4]) (s:=s)
  (λa p x ρ ⟨o3,o4,hρ⟩ k1 k2 k3 k4 k5=>by
   subst hρ;refine⟨_,_,rfl,Z2 (Zhj (Zk (Zn (Zn rfl rfl (Zct k1 k5 (by omega) (by omega))) (Zn rfl rfl (Zct k4 k2 (by omega) (by omega))) rfl) (Zk (Zn rfl rfl (Zct k2 k5 (by omega) (by omega))) rfl)) rfl) rfl,_,_,rfl⟩)
  l (0,1) 0 [some d,some (.int 0),some (.int 1),none,none] ⟨none,none,rfl⟩ (by simp) (by simp) hf (by omega)
 have hi:ZiY (Za 0) [some d,some (.int 0),some (.int 1),none,none] s=some (l.map ZE,s):=by
  rcases hd with rfl | rfl <;> rfl
 exact YL rfl (Z2 rfl (Z2 (X5 hi h1) (ZM (XG (Wh (Zk rfl (Zk rfl rfl)) (by show 2<=xg;decide))))))
set_option exponentiation.threshold 9000
noncomputable def Wm:D->Bool
 | .tup [.int a,.int b]=>decide (0<b)&&decide (zo a b=1)
 | _=>false
theorem Zcv {p:Int×Int}:Wm (ZE p)=true↔IsFr p:=by
 show(decide (0<p.2)&&decide (zo p.1 p.2=1))=true↔_;rw[qB,decide_eq_true_eq,decide_eq_true_eq];exact⟨λh=>⟨h.1,h.2⟩,λh=>⟨h.1,h.2⟩⟩
theorem Zbt {d:D}(h:Wm d=true):∃p,d=ZE p/\IsFr p:=by
 unfold Wm at h;split at h
 ·rename_i a b
  exact⟨(a,b),rfl,Zcv.mp h⟩
 ·cases h
theorem Zfh {x y:D}(h:JQ x=false∨JQ y=false):Wm (.tup [x,y])=false:=by
 unfold Wm;split
 ·rename_i e
  cases e
  rcases h with h | h <;> cases h
 ·rfl
theorem ZmJ (x y:Int):zo y (x.fmod y)=zo x y:=by
 rw[Int.fmod_def,qbg y,qbg x];rw[qbg y x];simp
theorem ZmK {x y:Int}(h:y≠0):(x.fmod y).natAbs<y.natAbs:=by
 by_cases p:0<y
 ·have h1:=Int.fmod_lt_of_pos x p
  have h2:=qak x p;omega
 ·have h1:=Int.fmod_lt_of_pos (-x) (show 0 < -y by omega)
  have h2:=qak (-x) (show 0 < -y by omega);rw[Int.neg_fmod_neg]at h1 h2;omega
theorem Jj:∀{ds:List D} {d:D},WJ ds=true->d∈ds->Yu d=true
 | e::ds,d,n,h=>by
  have n':=by simpa[WJ]using n
  rcases qN.mp h with rfl | h
  ·exact n'.1
  ·exact Jj n'.2 h
theorem Zhk {ρ:Zd}{v:D}(hv:Yu v=true)(hρ:(ρ[1]?).bind id=some v)(s:Pn):Yi (Yg (Zo (ZB Ys (Zb (Za 1) (Zb (dC (.ty "int")) Zf))))) (Zo (ZB Ys (Zb (Za 1) (Zb (dC (.ty "bool")) Zf)))) ρ s=some (!JQ v,s):=by
 have hd:Za 1 ρ s=some (v,s):=by unfold Za YV;rw[hρ]
 have a:=XW (ZW (YB (Zk hd (Zk (f:=dC (.ty "int")) rfl (fs:=Zf) rfl)) (ZiF (UT hv))));have b:=ZW (YB (Zk hd (Zk (f:=dC (.ty "bool")) rfl (fs:=Zf) rfl)) (ZgH (UT hv)));rw[ZfE a λ_=>b]
 cases v <;> rfl
theorem Zbj {d:D}(h:Yu d=true)(s:Pn):F__law_fraction_is [d] s=some (.bl (Wm d),s):=by
 have hk:=UT h;have t1:Zo (ZB Ys (Zb (Za 0) (Zb (dC (.ty "tuple")) Zf))) [some d,none,none,none] s=some (Vt d,s):=ZW (YB (Zk rfl (Zk rfl rfl)) (Zbp hk));by_cases ht:Vt d=true
 ·obtain⟨ds,rfl⟩:∃ds,d=.tup ds:=by
   cases d <;> first | exact⟨_,rfl⟩ | cases ht
  have t2:Zo (Zc Y3 (ZB Yw (Zb (Za 0) Zf)) (dC (.int 2))) [some (.tup ds),none,none,none] s=some (!((ds.length:Int)==2),s):=ZW (Zn (d:=.int ds.length) (e:=.int 2) (YB (Zk rfl rfl) rfl) rfl (B1 _ _));have t0:=ZfE (XW t1) λ_=>t2;by_cases hl:ds.length=2
  ·obtain⟨x,y,rfl⟩:∃x y,ds=[x,y]:=by
    match ds,hl with
    | [x,y],_=>exact⟨x,y,rfl⟩
   have hx:Yu x=true:=Jj (ds:=[x,y]) (by simpa[Yu]using h) (by simp);have hy:Yu y=true:=Jj (ds:=[x,y]) (by simpa[Yu]using h) (by simp);refine YL rfl (Z2 (XZ t0 rfl) ?_);have px:=Zhk (ρ:=[some (.tup [x,y]),some x,none,none]) hx rfl s;by_cases wx:JQ x=true
   ·have py:=Zhk (ρ:=[some (.tup [x,y]),some y,none,none]) hy rfl s
    rw[wx]at px;by_cases wy:JQ y=true
    ·rw[wy]at py
     obtain⟨a,rfl⟩:∃a,x=.int a:=by
      cases x <;> first | exact⟨_,rfl⟩ | cases wx
     obtain⟨b,rfl⟩:∃a,y=.int a:=by
      cases y <;> first | exact⟨_,rfl⟩ | cases wy
     refine Z2 (X5 (Vg rfl) (Bj (ρ2:=[some (.tup [.int a,.int b]),some (.int a),none,none]) rfl (Z2 (XZ px rfl) rfl) (Bj rfl (Z2 (XZ py rfl) rfl) Zlw))) ?_;have e0:Zh (.tup [.int a,.int b]) (.int 0)=some (.int a):=V6 _ _;have e1:Zh (.tup [.int a,.int b]) (.int 1)=some (.int b):=V7 _ _ _;refine Z2 (Zhj (Zk (YB (Zk (Zn rfl rfl e0) rfl) rfl) (Zk (Zn rfl rfl e1) rfl)) rfl) ?_;refine Ok.toEq2 ?_;refine Ok.seq (jE (λm ρ s'=>s'=s/\∃o x y,ρ=[some (.tup [.int a,.int b]),o,some (.int x),some (.int y)]/\m=y.natAbs/\zo x y=zo a b/\(0<b->0<=x/\0<=y)) b.natAbs ⟨rfl,_,_,_,rfl,rfl,?_,λhb=>⟨?_,by omega⟩⟩ λm ρ s' hI=>?_)
     ·split
      ·simp[zo]
      ·rfl
     ·split <;> omega
     obtain⟨rfl,o,x,y,rfl,rfl,hg,hp⟩:=hI;refine .eq (ZW (Zn rfl rfl (B1 y 0))) ?_;by_cases h0:y=0
     ·subst h0
      rw[if_neg (by simp)];have r1:Zc Vz (Zc Zh (Za 0) (dC (.int 1))) (dC (.int 0)) [some (.tup [.int a,.int b]),o,some (.int x),some (.int 0)] s'=some (.bl (decide (0<b)),s'):=Zn (Zn rfl rfl e1) rfl rfl;have r2:Zc YD (Za 2) (dC (.int 1)) [some (.tup [.int a,.int b]),o,some (.int x),some (.int 0)] s'=some (.bl (x==1),s'):=Zn (d:=.int x) (e:=.int 1) rfl rfl rfl;refine Ok.seq (.sret (.eq (ZiC r1 λ_=>r2) ⟨?_,rfl⟩));show Out.rt (D.bl _)=Out.rt (D.bl _);congr 2;show(decide (0<b)&&(x==1))=(decide (0<b)&&decide (zo a b=1));by_cases hb:0<b
      ·rw[decide_eq_true hb,<-hg,Int.gcd_zero_right]
       have:=(hp hb).1;rw[qam,qam,Bool.eq_iff_iff,beq_iff_eq,decide_eq_true_eq];omega
      ·rw[decide_eq_false hb];rfl
     ·rw[if_pos (by simp[h0])]
      have em:ZiQ (.int x) (.int y)=some (.int (x.fmod y)):=by
       show(if decide (y≠0)=true then _ else none)=_;rw[decide_eq_true h0];rfl
      refine .seq (.spar (.eq (Zk rfl (Zk (Zn rfl rfl em) rfl)) ⟨_,_,rfl,rfl,rfl,.next ⟨(x.fmod y).natAbs,ZmK h0,rfl,_,_,_,rfl,rfl,?_,λhb=>?_⟩⟩))
      ·rw[ZmJ,hg]
      ·obtain⟨h1,h2⟩:=hp hb
       exact⟨h2,qak _ (by omega)⟩
    ·have wy:JQ y=false:=by simpa using wy
     rw[wy]at py;rw[Zfh (.inr wy)];exact ZM (X5 (Vg rfl) (Bj (ρ2:=[some (.tup [x,y]),some x,none,none]) rfl (Z2 (XZ px rfl) rfl) (ZaR rfl (ZM (XC py (ZM rfl))))))
   ·have wx:JQ x=false:=by simpa using wx
    rw[wx]at px;rw[Zfh (.inl wx)];exact ZM (X5 (Vg rfl) (ZaR rfl (ZM (XC px (ZM rfl)))))
  ·have e:Wm (.tup ds)=false:=by
    unfold Wm;split
    ·rename_i q;cases q;exact absurd rfl hl
    ·rfl
   rw[e];have:(!((ds.length:Int)==2))=true:=by simp;omega
   rw[this]at t0;exact YL rfl (ZM (XC (t0.trans (by rw[Bool.or_true])) (ZM rfl)))
 ·have e:Wm d=false:=by
   unfold Wm;split
   ·exact absurd rfl ht
   ·rfl
  rw[e];rw[show Vt d=false by simpa using ht]at t1;exact YL rfl (ZM (XC (VO (XW t1)) (ZM rfl)))
set_option exponentiation.threshold 9000
noncomputable abbrev W9 (k:List Nat)(j:Nat):Int:=if j∈k then 1 else 0
noncomputable abbrev ap (n:Nat)(jL:Qa):List (List Nat):=kn (Wj n jL) n
structure Cov (n:Nat)(jL:Qa)(m:Nat)(K:Nat->List Nat)(c:Nat->Int)(D:Int):Prop where
 kn:∀i,i<m->K i∈ap n jL
 nn:∀i,i<m->0<=c i
 ge:∀j,j<n->D<=sm m λi=>W9 (K i) j*c i
structure Wei (n:Nat)(jL:Qa)(x:Nat->Int)(D:Int):Prop where
 nn:∀j,j<n->0<=x j
 le:∀k,k∈ap n jL->sm n (λj=>x j*W9 k j)<=D
theorem ZmL {n:Nat}{x:Nat->Int}:∀{k:List Nat},k.Nodup->(∀o∈k,o<n)->sm n (λj=>x j*W9 k j)=(k.map x).sum
 | [],_,_=>by
  rw[VH λj _=>by simp[W9]];rfl
 | a::k,nd,h=>by
  have nd':=z0.mp nd;have e:sm n (λj=>x j*W9 (a::k) j)=sm n (λj=>x j*W9 k j+(if j=a then x a else 0)):=Xj λj _=>by
   unfold W9;by_cases z:j=a
   ·simp_all
   ·simp[z]
  rw[e,JT,ZmL nd'.2 λo ho=>h o (by simp[ho]),Vk (h a (by simp)) (λi _ hi=>by simp[hi]),qO,qal,if_pos rfl,Int.add_comm]
theorem Zqv {jL:Qa}{n:Nat}{k:List Nat}(h:k∈kn jL n):k.Nodup/\∀o∈k,o<n:=by
 obtain⟨h1,h2,_⟩:=By.mp h;exact⟨h1.imp λh=>qL h,h2⟩
theorem ZpN {n:Nat}{x:Nat->Int}{k F:List Nat}(h:∀j,j<n->0<=x j)(hs:∀o∈k,o∈F):sm n (λj=>x j*W9 k j)<=sm n (λj=>x j*W9 F j):=Zg5 λj hj=>yB (by
 unfold W9;by_cases z:j∈k
 ·simp_all
 ·rw[if_neg z];grind) (h j hj)
theorem ZcM (f:Nat->Int):∀m:Nat,((qe m).map f).sum=sm m f
 | 0=>rfl
 | m+1=>by rw[zR,qV,List.sum_append,ZcM f m];simp[sm]
theorem Zbk (p:Nat->Bool)(f:Nat->Int):∀l:List Nat,((l.filter p).map f).sum=(l.map λi=>(if p i=true then 1 else 0)*f i).sum
 | []=>rfl
 | a::l=>by
  rw[qbh];by_cases h:p a=true
  ·rw[if_pos h,qO,qO,qal,qal,Zbk p f l,if_pos h,qcb]
  ·rw[if_neg h,qO,qal,Zbk p f l,if_neg h,qb2,yH]
noncomputable abbrev KK (n:Nat)(jL:Qa):List (List Nat):=BQ n (Wj n jL)
section
variable {n:Nat}{jL:Qa}
theorem ZmM (hn:n<=10):(KK n jL).length<=36:=Zkf (Zbs n jL) hn
theorem ZoE {k:List Nat}(h:k∈KK n jL):k∈ap n jL:=ZiW (ZcH.mp h)
theorem ZoF {k:List Nat}(h:k∈ap n jL):∃F∈KK n jL,∀x∈k,x∈F:=by
 obtain⟨F,hF,hs⟩:=ZfO (Zbs n jL) _ k rfl h;exact⟨F,ZcH.mpr hF,hs⟩
theorem Zin {i:Nat}(hi:i<(KK n jL).length):(KK n jL).getD i []∈KK n jL:=by
 simp_all
theorem ZoG {F:List Nat}(h:F∈KK n jL):∃i,i<(KK n jL).length/\(KK n jL).getD i []=F:=by
 obtain⟨i,hi,e⟩:=zG.mp h;exact⟨i,hi,by simp_all⟩
theorem ZmN {j:Nat}(hj:j<n):[j]∈ap n jL:=By.mpr ⟨by simp,by simp_all,λa ha b hb ne=>by
 simp_all⟩
theorem ZpO {j:Nat}(hj:j<n):∃x,x<(KK n jL).length/\AA (KK n jL) x j=true:=by
 obtain⟨F,hF,hs⟩:=ZoF (ZmN hj);obtain⟨i,hi,e⟩:=ZoG hF;exact⟨i,hi,decide_eq_true (by rw[e];simp_all)⟩
theorem ZpP {x:Nat->Int}{D:Int}(nn:∀j,j<n->0<=x j)(h:∀i,i<(KK n jL).length->sm n (λj=>x j*W9 ((KK n jL).getD i []) j)<=D):Wei n jL x D:=⟨nn,λk hk=>by
 obtain⟨F,hF,hs⟩:=ZoF hk;obtain⟨i,hi,e⟩:=ZoG hF;have:=h i hi;rw[e]at this;exact qbi (ZpN nn hs) this⟩
theorem Zqw (hw:IsWeb n jL)(hn:n<=10)(s:Pn){o1 o2 o3 o4:Option D}:ZD F_full_knots (Zb (ZD Bt (Zb (Za 0) Zf)) Zf) [some (Zt n jL),o1,o2,o3,o4] s=some (.lst ((KK n jL).map Zv),s):=by
 have hl:=hw.len (show n<=24 by omega);have ht:=Zh9 n jL s (by omega) (by omega);have hft:=Zme n (Wj n jL) (Zbs n jL) hn s;rw[ZnY]at hft;exact YA (Zk (YA (Zk rfl rfl) ht) rfl) hft
theorem Zio (n:Nat)(jL:Qa):ZY (Zt n jL)=true:=by
 have:∀l:Qa,Yh (l.map ZQ)=true:=λl=>by
  induction l with
  | nil=>rfl
  | cons a l ih=>simp only[qO,Yh,ih];rfl
 show(true&&(Yh (jL.map ZQ)&&true))=true;rw[this];rfl
end
theorem Zqx:TU.fac 37<=2 ^ 150:=by decide +kernel
structure Sh (n:Nat)(jL:Qa)(W d:Int)(c x:Nat->Int):Prop where
 pos:0<d
 cov:Cov n jL (KK n jL).length (λi=>(KK n jL).getD i []) c d
 wei:Wei n jL x d
 csum:sm (KK n jL).length c=W
 xsum:sm n x=W
 dle:d.natAbs<=2 ^ 150
 wle:W.natAbs<=2 ^ 150
 cle:∀i,(c i).natAbs<=2 ^ 150
 xle:∀j,(x j).natAbs<=2 ^ 150
noncomputable abbrev Y7 (n:Nat)(jL:Qa)(d:Int)(c:Nat->Int):List D:=((qe (KK n jL).length).filter λi=>decide (0<c i)).map λi=>.tup [Zv ((KK n jL).getD i []),ZE (ZS (c i) d)]
noncomputable abbrev Xb (n:Nat)(d:Int)(x:Nat->Int):List D:=(qe n).map λj=>ZE (ZS (x j) d)
theorem Zkt {n:Nat}{jL:Qa}(hw:IsWeb n jL)(hn:n<=10)(s:Pn):∃W d c x,Sh n jL W d c x/\UV [Zt n jL] s=some (.tup [ZE (ZS W d),.lst (Y7 n jL d c),.tup (Xb n d x)],s):=by
 have hm:=ZmM (jL:=jL) hn;obtain⟨h,hf,hopt,he⟩:=Zkp (K:=KK n jL) (n:=n) (jL:=jL) (by omega) (by omega) (λs=>Zqw hw hn s) (λj hj=>ZpO hj) (Zio n jL) s;generalize hM:(KK n jL).length=m at *;have fl:∀z:Nat,z<=TU.fac (m+1)->z<=2 ^ 150:=λz hz=>qu (qu hz (Zea (by omega))) Zqx;refine⟨RR (AA (KK n jL)) n m h m (n+m),dl (cl (AA (KK n jL)) n m) m h,λi=>RR (AA (KK n jL)) n m h m (n+i),TU.wt (AA (KK n jL)) n m h,⟨hf.pos,?_,?_,?_,?_,fl _ (Zmu h),fl _ (ZfX h _ _),λi=>fl _ (ZfX h _ _),λj=>?_⟩,he.trans ?_⟩
 ·rw[hM]
  refine⟨λi hi=>ZoE (Zin (by omega)),λi hi=>hopt _ (by omega),λj hj=>?_⟩;have:=Zmp hf hj (hopt j (by omega));refine qbi this (zY (Xj λi _=>?_));show(if AA (KK n jL) i j=true then (1:Int)else 0)*_=_;unfold W9;simp only[decide_eq_true_eq]
 ·refine ZpP (λj _=>ZoA hf j) λi hi=>?_
  have:=Zn5 hf (x:=i) (by omega);refine qbi (zY (Xj λj _=>?_)) this;show _=_*(if AA (KK n jL) i j=true then (1:Int)else 0);unfold W9;simp only[decide_eq_true_eq]
 ·rw[hM];exact Zmo hf
 ·exact Zmn hf
 ·by_cases q:∃k,k<m/\h k=j
  ·obtain⟨k,hk,rfl⟩:=q
   rw[ZoB hf hk];exact fl _ (ZfX h _ _)
  ·rw[Zml hf λk hk e=>q ⟨k,hk,e⟩]
   simp
 ·unfold Y7
  rw[hM];have e:(covD (KK n jL) n h).filter (λd=>match d with | .tup [_,.tup [.int t,_]]=>decide (0<t) | _=>false)=((qe m).filter λi=>decide (0<RR (AA (KK n jL)) n m h m (n+i))).map λi=>.tup [Zv ((KK n jL).getD i []),ZE (ZS (RR (AA (KK n jL)) n m h m (n+i)) (dl (cl (AA (KK n jL)) n m) m h))]:=by
   rw[zQ,hM];congr 1;refine z8 λi _=>?_;show decide (0<(ZS _ _).1)=_;rw[decide_eq_decide];exact Zi7 hf.pos
  first | (rw[<-e];done) | (rw[<-e];rfl)
set_option exponentiation.threshold 9000
noncomputable def Uf (jL:Qa)(as:List Nat)(k:Nat):Bool:=decide (as.getD (k-1) 0<as.getD k 0)&&(as.take k).all λo=>!tied jL o (as.getD k 0)
noncomputable def VB (n:Nat)(jL:Qa):D->Bool
 | .tup ds=>!ds.isEmpty&&(ds.all (VJ (n:Int))&&decide (ds.map Z7∈ap n jL))
 | _=>false
theorem BA {as:List Nat}{k:Nat}(h:k<as.length):as.getD k 0=as[k]:=by simp_all
theorem Zoa {n:Nat}{jL:Qa}{as:List Nat}(has:∀o∈as,o<n):as∈ap n jL↔(Ye (1:Nat) (as.length-1)).all (λd=>Uf jL as (Z7 d))=true:=by
 have hr:(Ye (1:Nat) (as.length-1)).all (λd=>Uf jL as (Z7 d))=true↔∀k,k+1<as.length->Uf jL as (k+1)=true:=by
  rw[qS];constructor
  ·intro h k hk
   refine h (nD (k+1)) ?_;refine qm.mpr ⟨k,qR.mpr (by omega),?_⟩;show D.int _=D.int _;congr 1;omega
  ·intro h d hd
   obtain⟨i,hi,e⟩:=zG.mp hd;have hd':(Ye (1:Nat) (as.length-1))[i]?=some d:=by rw[zc hi,e]
   obtain⟨h1,rfl⟩:=Jx hd';have:=h i (by omega);rw[qb4]at this;exact this
 rw[hr,By];constructor
 ·rintro⟨h1,_,h3⟩ k hk
  unfold Uf;rw[qB,decide_eq_true_eq,qS,qaO];have hk':k<as.length:=by omega
  refine⟨?_,λo ho=>?_⟩
  ·rw[BA hk',BA hk]
   exact zb.mp h1 k (k+1) hk' hk (by omega)
  ·obtain⟨i,hi,e⟩:=zG.mp ho
   rw[yk]at hi;rw[List.getElem_take]at e;have hlt:=zb.mp h1 i (k+1) (by omega) hk (by omega);have:=h3 as[i] (qa9 _) as[k+1] (qa9 _) (by omega);rw[BA hk,<-e,(Zfa.mp this).2.2.2];rfl
 ·intro h
  have st:∀k,(hk:k+1<as.length)->as[k]<as[k+1]:=λk hk=>by
   have:=h k hk;unfold Uf at this;rw[qB,decide_eq_true_eq,qaO,BA (show k<as.length by omega),BA hk]at this;exact this.1
  have lt:∀d i,(hi:i+d+1<as.length)->as[i]<as[i+d+1]:=λd=>by
   induction d with
   | zero=>intro i hi;exact st i hi
   | succ d ih=>
    intro i hi;have:=ih i (by omega);have h2:=st (i+d+1) hi;exact yE this h2
  have pw:as.Pairwise (· < ·):=zb.mpr λi j hi hj hij=>by
   have:=lt (j-i-1) i (by omega);simp only[show i+(j-i-1)+1=j by omega]at this;exact this
  have un:∀i j,(hi:i<as.length)->(hj:j<as.length)->i<j->tied jL as[i] as[j]=false:=λi j hi hj hij=>by
   obtain⟨k,rfl⟩:∃k,j=k+1:=⟨j-1,by omega⟩;have:=h k hj;unfold Uf at this;rw[qB,qS]at this;have:=this.2 as[i] (by
    refine zG.mpr ⟨i,by rw[yk];omega,?_⟩;rw[List.getElem_take])
   rw[BA hj]at this;simpa using this
  refine⟨pw,has,λa ha b hb ne=>?_⟩;obtain⟨i,hi,rfl⟩:=zG.mp ha;obtain⟨j,hj,rfl⟩:=zG.mp hb;refine Zfa.mpr ⟨has _ ha,has _ hb,ne,?_⟩;by_cases z:i<j
  ·exact un i j hi hj z
  ·have:j<i:=by
    have:i≠j:=λe=>ne (by subst e;rfl);omega
   rw[JB];simp_all
theorem Zfi {d:D}(h:Yu d=true):Zs d=true:=(Zlt d h).1
theorem Zf6 {n : Nat}{jL : List (Nat × Nat)}{d : D}(h : Yu d = true)(hd : ZX d <= 50)(hb : XI d <= 100000)(s : Pn) : F__law_is_apart [Zt n jL, d] s = some (.bl (VB n jL d), s) := by
  have hk := UT h;have t1 : Zo (ZB Ys (Zb (Za 1) (Zb (dC (.ty "tuple")) Zf))) [some (Zt n jL), some d, none, none, none] s = some (Vt d, s) := ZW (YB (Zk rfl (Zk rfl rfl)) (Zbp hk));by_cases ht : Vt d = true
  · obtain⟨ds, rfl⟩ : ∃ ds, d = .tup ds := by
      cases d <;> first | exact⟨_, rfl⟩ | cases ht
    have hts : WJ ds = true := by simpa[Yu] using h
    have hle : ds.length <= 100000 := by
      have : ∀ l : List D, l.length <= WG l := λl => by
        induction l with
        | nil => exact qk _
        | cons a l ih => simp only[WG, qW]; omega
      have := this ds;simp only[XI] at hb;omega
    have t2 : Zo (Zc YD (Za 1) (Z9 Zf)) [some (Zt n jL), some (.tup ds), none, none, none] s = some (ds.isEmpty, s) := by
      refine ZW (Zn (d := .tup ds) (e := .tup []) rfl rfl ?_);unfold YD Jd;rw[if_pos (by
        have hp := Zfi h;rw[hp];simp only[qam, qB, decide_eq_true_eq];exact⟨⟨rfl, by omega⟩, by decide⟩)]
      cases ds <;> rfl
    have t0 := ZfE (XW t1) λ_ => t2;by_cases he : ds = []
    · subst he
      exact YL rfl (ZM (XC t0 (ZM rfl)))
    have hie : ds.isEmpty = false := by cases ds <;> first | rfl | exact absurd rfl he
    rw[hie] at t0;have e1 : VB n jL (.tup ds) = (ds.all (VJ (n : Int)) && decide (ds.map Z7 ∈ ap n jL)) := by
      show(!ds.isEmpty && _) = _;rw[hie]; rfl
    rw[e1];refine YL rfl (Z2 (XZ t0 rfl) ?_);obtain⟨a1, a2⟩ := UW (τ := Zy 2) (body := (Ze (ZU (Yi (Yg (Zo (ZB Ys (Zb (Za 2) (Zb (dC (.ty "int")) Zf))))) (Yi (Zo (ZB Ys (Zb (Za 2) (Zb (dC (.ty "bool")) Zf)))) (Yg (JP (dC (.int 0)) (J4 UM (Za 2) (J3 XR (Zc Zh (Za 0) (dC (.int 0)))))))))
  (Ze (Zz (dC (.bl false))) Zg) Zg) Zg)) (s := s) (fun ρ => ∃ o2, ρ = [some (Zt n jL), some (.tup ds), o2, none, none]) (VJ (n : Int)) ds [some (Zt n jL), some (.tup ds), none, none, none] ⟨none, rfl⟩ λv hv ρ hI => by
      obtain⟨o2, rfl⟩ := hI;have tv := UT (Jj hts hv);refine⟨_, rfl, ?_⟩;have a := XW (ZW (YB (g := Ys) (ρ := [some (Zt n jL), some (.tup ds), some v, none, none]) (s := s) (Zk (f := Za 2) rfl (Zk (f := dC (.ty "int")) rfl (fs := Zf) rfl)) (ZiF tv)));have b := ZW (YB (g := Ys) (ρ := [some (Zt n jL), some (.tup ds), some v, none, none]) (s := s) (Zk (f := Za 2) rfl (Zk (f := dC (.ty "bool")) rfl (fs := Zf) rfl)) (ZgH tv));have tt : (Yi (Yg (Zo (ZB Ys (Zb (Za 2) (Zb (dC (.ty "int")) Zf))))) (Yi (Zo (ZB Ys (Zb (Za 2) (Zb (dC (.ty "bool")) Zf)))) (Yg (JP (dC (.int 0)) (J4 UM (Za 2) (J3 XR (Zc Zh (Za 0) (dC (.int 0)))))))) ) [some (Zt n jL), some (.tup ds), some v, none, none] s = some (!VJ (n : Int) v, s) := by
        cases v with
        | int i =>
          refine WQ a (WQ b (XW (ZjQ rfl (Zlv rfl rfl λ_ => Zlu (Zn rfl rfl W7) rfl))))
        | bl _ => exact WQ a (VO b)
        | _ => exact VO a
      refine⟨λhv => ?_, λhv => ?_⟩
      · rw[hv] at tt
        exact⟨_, Z2 (XZ tt rfl) rfl, _, rfl⟩
      · rw[hv] at tt
        exact ZM (XC tt (ZM rfl))
    cases hp : ds.all (VJ (n : Int)) with
    | false => exact ZM (X5 (Vg rfl) (a2 hp))
    | true =>
      obtain⟨ρ', e2, o2, rfl⟩ := a1 hp;obtain⟨as, rfl⟩ := ZbN hp;have has : ∀ o ∈ as, o < n := λo ho => by
        have := qS.mp hp (nD o) (qm.mpr ⟨o, ho, rfl⟩);simp only[VJ, qB, decide_eq_true_eq] at this;omega
      have en : (as.map nD).map Z7 = as := by rw[qw]; exact zJ as
      rw[en, qf] at *;refine Z2 (X5 (Vg rfl) e2) ?_;obtain⟨b1, b2⟩ := UW (τ := Zy 3) (body := (Ze (ZU (Zo (Zc Jm (Zc Zh (Za 1) (Zc XD (Za 3) (dC (.int 1)))) (Zc Zh (Za 1) (Za 3))))
  (Ze (Zz (dC (.bl false))) Zg) Zg)
  (Ze (Yv (Y2 (ZdO (Za 1) ZgC (ZgD (Za 3)))) (Zy 4)
  (Ze (ZU (Zo (ZD Vc (Zb (Za 0) (Zb (Za 4) (Zb (Zc Zh (Za 1) (Za 3)) Zf)))))
  (Ze (Zz (dC (.bl false))) Zg) Zg) Zg)) Zg))) (s := s) (fun ρ => ∃ o3 o4, ρ = [some (Zt n jL), some (.tup (as.map nD)), o2, o3, o4]) (λd => Uf jL as (Z7 d)) (Ye (1 : Nat) (as.length - 1)) [some (Zt n jL), some (.tup (as.map nD)), o2, none, none] ⟨none, none, rfl⟩ λv hv ρ hI => by
        obtain⟨o3, o4, rfl⟩ := hI;obtain⟨i, hi, e⟩ := zG.mp hv;have hv' : (Ye (1 : Nat) (as.length - 1))[i]? = some v := by rw[zc hi, e]
        obtain⟨h1, rfl⟩ := Jx hv';have hk1 : i + 1 < as.length := by omega
        have ek : ((1 + i : Nat) : Int) = ((i + 1 : Nat) : Int) := by omega
        rw[ek];refine⟨_, rfl, ?_⟩;have i1 : ∀ o4, Zc Zh (Za 1) (Zc XD (Za 3) (dC (.int 1))) [some (Zt n jL), some (.tup (as.map nD)), o2, some (nD (i + 1)), o4] s = some (nD (as.getD i 0), s) := λo4 => Zn (d := Zv as) (e := nD i) rfl (Zn (d := nD (i + 1)) (e := .int 1) rfl rfl (by show some (D.int _) = some (D.int _); congr 2; omega)) (ZiV (by omega));have i2 : ∀ o4, Zc Zh (Za 1) (Za 3) [some (Zt n jL), some (.tup (as.map nD)), o2, some (nD (i + 1)), o4] s = some (nD (as.getD (i + 1) 0), s) := λo4 => Zn (d := Zv as) (e := nD (i + 1)) rfl rfl (ZiV hk1);have t3 : Zo (Zc Jm (Zc Zh (Za 1) (Zc XD (Za 3) (dC (.int 1)))) (Zc Zh (Za 1) (Za 3))) [some (Zt n jL), some (.tup (as.map nD)), o2, some (nD (i + 1)), o4] s = some (!decide (as.getD i 0 < as.getD (i + 1) 0), s) := by
          refine ZW (Zn (i1 o4) (i2 o4) ?_);show some (D.bl (decide ((as.getD (i + 1) 0 : Int) <= (as.getD i 0 : Int)))) = _;congr 2;rw[<- decide_not, decide_eq_decide];omega
        obtain⟨c1, c2⟩ := UW (τ := Zy 4) (body := (Ze (ZU (Zo (ZD Vc (Zb (Za 0) (Zb (Za 4) (Zb (Zc Zh (Za 1) (Za 3)) Zf)))))
  (Ze (Zz (dC (.bl false))) Zg) Zg) Zg)) (s := s) (fun ρ => ∃ o4, ρ = [some (Zt n jL), some (.tup (as.map nD)), o2, some (nD (i + 1)), o4]) (λd => !tied jL (Z7 d) (as.getD (i + 1) 0)) ((as.take (i + 1)).map nD) [some (Zt n jL), some (.tup (as.map nD)), o2, some (nD (i + 1)), o4] ⟨o4, rfl⟩ λv hv ρ hI => by
          obtain⟨o4, rfl⟩ := hI;obtain⟨x, hx, rfl⟩ := qm.mp hv;refine⟨_, rfl, ?_⟩;have tt : Zo (ZD Vc (Zb (Za 0) (Zb (Za 4) (Zb (Zc Zh (Za 1) (Za 3)) Zf)))) [some (Zt n jL), some (.tup (as.map nD)), o2, some (nD (i + 1)), some (nD x)] s = some (tied jL x (as.getD (i + 1) 0), s) := ZW (YA (Zk rfl (Zk rfl (Zk (i2 _) rfl))) (ZcU n jL x (as.getD (i + 1) 0) s));have ex : Z7 (nD x) = x := rfl;rw[ex];refine⟨λhv => ?_, λhv => ?_⟩
          · rw[show tied jL x (as.getD (i + 1) 0) = false by simpa using hv] at tt
            exact⟨_, Z2 (XZ tt rfl) rfl, _, rfl⟩
          · rw[show tied jL x (as.getD (i + 1) 0) = true by simpa using hv] at tt
            exact ZM (XC tt (ZM rfl))
        have hs : Y2 (ZdO (Za 1) ZgC (ZgD (Za 3))) [some (Zt n jL), some (.tup (as.map nD)), o2, some (nD (i + 1)), o4] s = some ((as.take (i + 1)).map nD, s) := Vg (by rw[<- Zkg as (i + 1) (by omega)]; rfl);have er : Uf jL as (i + 1) = (decide (as.getD i 0 < as.getD (i + 1) 0) && ((as.take (i + 1)).map nD).all λd => !tied jL (Z7 d) (as.getD (i + 1) 0)) := by
          unfold Uf;rw[qaO, y4]; rfl
        have ex : Z7 (nD (i + 1)) = i + 1 := rfl;rw[ex, er];refine⟨λhv => ?_, λhv => ?_⟩
        · rw[qB] at hv
          rw[hv.1] at t3;obtain⟨ρ2, q1, o4', rfl⟩ := c1 hv.2;exact⟨_, Z2 (XZ t3 rfl) (Z2 (X5 hs q1) rfl), _, _, rfl⟩
        · cases hlt : decide (as.getD i 0 < as.getD (i + 1) 0) with
          | false =>
            rw[hlt] at t3;exact ZM (XC t3 (ZM rfl))
          | true =>
            rw[hlt] at t3 hv;exact Z2 (XZ t3 rfl) (ZM (X5 hs (c2 (by simpa using hv))))
      have hr : VY (dC (.int 1)) (ZB Yw (Zb (Za 1) Zf)) [some (Zt n jL), some (.tup (as.map nD)), o2, none, none] s = some (Ye (1 : Nat) (as.length - 1), s) := Zbn (a := 1) (n := as.length) rfl (YB (c := nD as.length) (Zk rfl rfl) (by show some (D.int _) = _; rw[qf])) (by omega) hle;have hiff := Zoa (jL := jL) has
      cases hq : (Ye (1 : Nat) (as.length - 1)).all (λd => Uf jL as (Z7 d)) with
      | false =>
        rw[decide_eq_false (λz => by rw[hiff, hq] at z; cases z)];exact ZM (X5 hr (b2 hq))
      | true =>
        rw[decide_eq_true (hiff.mpr hq)];obtain⟨ρ2, q1, o3, o4, rfl⟩ := b1 hq;exact Z2 (X5 hr q1) (ZM rfl)
  · have e : VB n jL d = false := by
      unfold VB;split
      · exact absurd rfl ht
      · rfl
    rw[e];rw[show Vt d = false by simpa using ht] at t1;exact YL rfl (ZM (XC (VO (XW t1)) (ZM rfl)))
set_option exponentiation.threshold 9000
noncomputable abbrev We:=List Nat×(Int×Int)
noncomputable abbrev Ym (q:We):D:=.tup [Zv q.1,ZE q.2]
noncomputable def posB:D->Bool
 | .tup [.int a,_]=>decide (0<a)
 | _=>false
noncomputable def W0 (n:Nat)(jL:Qa):D->Bool
 | .tup [a,f]=>VB n jL a&&(Wm f&&posB f)
 | _=>false
structure IsShr (n:Nat)(jL:Qa)(q:We):Prop where
 ap:q.1∈ap n jL
 ne:q.1≠[]
 fr:IsFr q.2
 pos:0<q.2.1
theorem Zob {n:Nat}{jL:Qa}{d:D}(h:VB n jL d=true):∃k,d=Zv k/\k∈ap n jL/\k≠[]:=by
 unfold VB at h;split at h
 ·rw[qB,qB]at h
  obtain⟨h1,h2,h3⟩:=h;obtain⟨as,rfl⟩:=ZbN h2;have en:(as.map nD).map Z7=as:=by rw[qw];exact zJ as
  rw[en,decide_eq_true_eq]at h3;exact⟨as,rfl,h3,λz=>by simp_all⟩
 ·cases h
theorem ZpQ {n:Nat}{jL:Qa}{k:List Nat}(h:k∈ap n jL)(hne:k≠[]):VB n jL (Zv k)=true:=by
 show(!(k.map nD).isEmpty&&((k.map nD).all (VJ (n:Int))&&decide ((k.map nD).map Z7∈ap n jL)))=true;have en:(k.map nD).map Z7=k:=by rw[qw];exact zJ k
 rw[en,decide_eq_true h,Bool.and_true,qB];refine⟨by grind,qS.mpr λd hd=>?_⟩;obtain⟨o,ho,rfl⟩:=qm.mp hd;have:=(By.mp h).2.1 o ho;simp only[VJ,qB,decide_eq_true_eq];omega
theorem Zip {n:Nat}{jL:Qa}{d:D}(h:W0 n jL d=true):∃q,d=Ym q/\IsShr n jL q:=by
 unfold W0 at h;split at h
 ·rw[qB,qB]at h
  obtain⟨k,rfl,hk,hne⟩:=Zob h.1;obtain⟨p,rfl,hp⟩:=Zbt h.2.1;exact⟨(k,p),rfl,hk,hne,hp,of_decide_eq_true h.2.2⟩
 ·cases h
theorem Zku {n:Nat}{jL:Qa}{q:We}(h:IsShr n jL q):W0 n jL (Ym q)=true:=by
 show(VB n jL (Zv q.1)&&(Wm (ZE q.2)&&decide (0<q.2.1)))=true;rw[ZpQ h.ap h.ne,Zcv.mpr h.fr,decide_eq_true h.pos];rfl
theorem Zc7 {n:Nat}{jL:Qa}:∀{ds:List D},ds.all (W0 n jL)=true->∃l:List We,ds=l.map Ym/\∀q∈l,IsShr n jL q
 | [],_=>⟨[],rfl,by simp⟩
 | d::ds,h=>by
  rw[yM,qB]at h;obtain⟨q,rfl,hq⟩:=Zip h.1;obtain⟨l,rfl,hl⟩:=Zc7 h.2;exact⟨q::l,rfl,λx hx=>by
   grind⟩
noncomputable def Wa:D->We
 | .tup [a,.tup [.int x,.int y]]=>(Jo a,(x,y))
 | _=>([],(0,1))
theorem JK (q:We):Wa (Ym q)=q:=by
 show(Jo (Zv q.1),_)=q;rw[Zd4]
noncomputable abbrev Xc (l:List We)(j:Nat):List (Int×Int):=(l.filter λq=>decide (j∈q.1)).map (·.2)
noncomputable def covB (n:Nat)(jL:Qa):D->Bool
 | .lst ds=>ds.all (W0 n jL)&&(qe n).all λj=>decide ((Z4 (Xc (ds.map Wa) j)).2<=(Z4 (Xc (ds.map Wa) j)).1)
 | _=>false
noncomputable def B7 (l:List We):Prop:=∃e,(e+1)*l.length<8000/\∀q∈l,q.2.1.natAbs<=2 ^ e/\q.2.2.natAbs<=2 ^ e
theorem B7.few {l:List We}(h:B7 l)(j:Nat):∃e,Jr e (Xc l j)/\(e+1)*(Xc l j).length<8000:=by
 obtain⟨e,h1,h2⟩:=h;refine⟨e,λp hp=>?_,?_⟩
 ·obtain⟨q,hq,rfl⟩:=qm.mp hp
  exact h2 q (qA.mp hq).1
 ·rw[qf]
  exact zr (qaB _ (ze ..)) h1
theorem B7.len {l:List We}(h:B7 l):l.length<8000:=by
 obtain⟨e,h1,_⟩:=h
 grind
theorem Zoc {l:List We}{ρ:Zd}{j i3 i1:Nat}(s:Pn)(h1:(ρ[i1]?).bind id=some (.lst (l.map Ym)))(h3:∀d,Zy 0 d (Wg [none,some i3] ρ)=some [some d,some (nD j)])(hl:l.length<=100000) :
  Z3 [none,some i3] (Y0 (Za i1)) (Zy 0) (Zo (Zc YR (Za 1) (Zc Zh (Za 0) (dC (.int 0))))) (Zc Zh (Za 0) (dC (.int 1))) ρ s=some (.lst ((Xc l j).map ZE),s):=by
 have hc:=XX (fi:=Y0 (Za i1)) (ft:=Zo (Zc YR (Za 1) (Zc Zh (Za 0) (dC (.int 0))))) (fe:=Zc Zh (Za 0) (dC (.int 1))) (s:=s) (λd=>[some d,some (nD j)]) (λd=>decide (j∈(Wa d).1)) (λd=>ZE (Wa d).2) (VG (by unfold Za YV;rw[h1])) (by rw[qf,X4];omega) (λd hd=>by
  obtain⟨q,hq,rfl⟩:=qm.mp hd;rw[JK];have e0:Zh (Ym q) (.int 0)=some (Zv q.1):=V6 _ _;have e1:Zh (Ym q) (.int 1)=some (ZE q.2):=V7 _ _ _;exact⟨h3 _,ZW (Zn rfl (Zn rfl rfl e0) (Zi3 j q.1)),λ_=>Zn rfl rfl e1⟩)
 rw[hc,zQ,qw];have ef:((λd=>decide (j∈(Wa d).1))∘Ym)=λq=>decide (j∈q.1):=funext λq=>by
  show decide (j∈(Wa (Ym q)).1)=_;rw[JK]
 rw[ef,qw];rfl
theorem dRange0 (n:Nat):Ye 0 n=(qe n).map nD:=qQ λi _=>by
 simp
theorem Zod {ds:List D}{d:D}(h:d∈ds):XI d<=WG ds:=by
 induction ds with
 | nil=>cases h
 | cons a l ih=>
  simp only[WG]
  grind
theorem ZeF {n : Nat}{jL : List (Nat × Nat)}{d : D}(hn : n <= 1000)(h : Yu d = true)(hd : ZX d <= 50)(hb : XI d <= 100000)(hs : ∀ l : List We, d = .lst (l.map Ym) -> B7 l)(s : Pn) : F__law_covers [Zt n jL, d] s = some (.bl (covB n jL d), s) := by
  have hk := UT h;have t1 : Yg (Zo (ZB Ys (Zb (Za 1) (Zb (dC (.ty "list")) Zf)))) [some (Zt n jL), some d, none, none, none, none] s = some (!lstB d, s) := XW (ZW (YB (Zk rfl (Zk rfl rfl)) (Zlx hk)));by_cases ht : lstB d = true
  · obtain⟨ds, rfl⟩ : ∃ ds, d = .lst ds := by
      cases d <;> first | exact⟨_, rfl⟩ | cases ht
    have hts : WJ ds = true := by simpa[Yu] using h
    simp only[ZX] at hd;simp only[XI] at hb;refine YL rfl (Z2 (XZ t1 rfl) ?_);obtain⟨a1, a2⟩ := UW (τ := Zy 2) (body := (Ze (ZU (Yi (Yg (Zo (ZB Ys (Zb (Za 2) (Zb (dC (.ty "tuple")) Zf))))) (Yi (Zo (Zc Y3 (ZB Yw (Zb (Za 2) Zf)) (dC (.int 2)))) (Yg (Zo (ZD F__law_is_apart (Zb (Za 0) (Zb (Zc Zh (Za 2) (dC (.int 0))) Zf)))))))
  (Ze (Zz (dC (.bl false))) Zg) Zg)
  (Ze (ZU (Yi (Yg (Zo (ZD F__law_fraction_is (Zb (Zc Zh (Za 2) (dC (.int 1))) Zf)))) (Zo (Zc UM (Zc Zh (Zc Zh (Za 2) (dC (.int 1))) (dC (.int 0))) (dC (.int 0)))))
  (Ze (Zz (dC (.bl false))) Zg) Zg) Zg))) (s := s) (fun ρ => ∃ o2, ρ = [some (Zt n jL), some (.lst ds), o2, none, none, none]) (W0 n jL) ds [some (Zt n jL), some (.lst ds), none, none, none, none] ⟨none, rfl⟩ λv hv ρ hI => by
      obtain⟨o2, rfl⟩ := hI;have tv := Jj hts hv;have kv := UT tv;refine⟨_, rfl, ?_⟩;have a := XW (ZW (YB (g := Ys) (ρ := [some (Zt n jL), some (.lst ds), some v, none, none, none]) (s := s) (Zk (f := Za 2) rfl (Zk (f := dC (.ty "tuple")) rfl (fs := Zf) rfl)) (Zbp kv)));by_cases hv2 : Zoq v = true
      · obtain⟨x, f, rfl⟩ : ∃ x f, v = .tup [x, f] := by
          unfold Zoq at hv2;split at hv2
          · exact⟨_, _, rfl⟩
          · cases hv2
        have tx : Yu x = true := Jj (ds := [x, f]) (by simpa[Yu] using tv) (by simp);have tf : Yu f = true := Jj (ds := [x, f]) (by simpa[Yu] using tv) (by simp);have dv := JF hv;have bv := Zod hv;simp only[ZX, Xh, XI, WG] at dv bv;have e0 : Zh (.tup [x, f]) (.int 0) = some x := V6 _ _;have e1 : Zh (.tup [x, f]) (.int 1) = some f := V7 _ _ _;have b := Zf6 (n := n) (jL := jL) tx (by omega) (by omega) s;have c := Zbj tf s;have tt : Yi (Yg (Zo (ZB Ys (Zb (Za 2) (Zb (dC (.ty "tuple")) Zf))))) (Yi (Zo (Zc Y3 (ZB Yw (Zb (Za 2) Zf)) (dC (.int 2)))) (Yg (Zo (ZD F__law_is_apart (Zb (Za 0) (Zb (Zc Zh (Za 2) (dC (.int 0))) Zf)))))) [some (Zt n jL), some (.lst ds), some (.tup [x, f]), none, none, none] s = some (!VB n jL x, s) :=
          WQ a (WQ (ZW (Zn (d := .int 2) (e := .int 2) (YB (Zk rfl rfl) rfl) rfl rfl)) (XW (ZW (YA (Zk rfl (Zk (Zn (d := .tup [x, f]) (e := .int 0) rfl rfl e0) rfl)) b))))
        have t5 := XW (ZW (YA (F := F__law_fraction_is) (ρ := [some (Zt n jL), some (.lst ds), some (.tup [x, f]), none, none, none]) (s := s) (fs := Zb (Zc Zh (Za 2) (dC (.int 1))) Zf) (Zk (Zn (d := .tup [x, f]) (e := .int 1) rfl rfl e1) rfl) c));have es : W0 n jL (.tup [x, f]) = (VB n jL x && (Wm f && posB f)) := rfl;rw[es]
        cases hx : VB n jL x with
        | false =>
          rw[hx] at tt;exact⟨(λz => by cases z), λ_ => ZM (XC tt (ZM rfl))⟩
        | true =>
          rw[hx] at tt
          cases hf : Wm f with
          | false =>
            rw[hf] at t5;exact⟨(λz => by cases z), λ_ => Z2 (XZ tt rfl) (ZM (XC (VO t5) (ZM rfl)))⟩
          | true =>
            rw[hf] at t5;obtain⟨p, rfl, hp⟩ := Zbt hf;have e2 : Zh (ZE p) (.int 0) = some (.int p.1) := V6 _ _;have t6 : Zo (Zc UM (Zc Zh (Zc Zh (Za 2) (dC (.int 1))) (dC (.int 0))) (dC (.int 0))) [some (Zt n jL), some (.lst ds), some (.tup [x, ZE p]), none, none, none] s = some (decide (p.1 <= 0), s) := ZW (Zn (d := .int p.1) (e := .int 0) (Zn (d := ZE p) (e := .int 0) (Zn (d := .tup [x, ZE p]) (e := .int 1) rfl rfl e1) rfl e2) rfl rfl);have t7 := WQ t5 t6;have ep : posB (ZE p) = decide (0 < p.1) := rfl;rw[ep];refine⟨λz => ?_, λz => ?_⟩
            · have z : 0 < p.1 := by simpa using z
              rw[decide_eq_false (by omega)] at t7;exact⟨_, Z2 (XZ tt rfl) (Z2 (XZ t7 rfl) rfl), _, rfl⟩
            · have z : ¬ 0 < p.1 := by simpa using z
              rw[decide_eq_true (by omega)] at t7;exact Z2 (XZ tt rfl) (ZM (XC t7 (ZM rfl)))
      · have es : W0 n jL v = false := by
          unfold W0;split
          · exact absurd rfl hv2
          · rfl
        rw[es];refine⟨λz => (by cases z), λ_ => ?_⟩;have tt : Yi (Yg (Zo (ZB Ys (Zb (Za 2) (Zb (dC (.ty "tuple")) Zf))))) (Yi (Zo (Zc Y3 (ZB Yw (Zb (Za 2) Zf)) (dC (.int 2)))) (Yg (Zo (ZD F__law_is_apart (Zb (Za 0) (Zb (Zc Zh (Za 2) (dC (.int 0))) Zf)))))) [some (Zt n jL), some (.lst ds), some v, none, none, none] s = some (true, s) := by
          by_cases w : Vt v = true
          · obtain⟨ws, rfl⟩ : ∃ ws, v = .tup ws := by
              cases v <;> first | exact⟨_, rfl⟩ | cases w
            have hl : (!((ws.length : Int) == 2)) = true := by
              have : ws.length ≠ 2 := λz => by
                match ws, z with
                | [a, b], _ => exact hv2 rfl
              simp; omega
            refine WQ a (VO (ZW (Zn (d := .int ws.length) (e := .int 2) (YB (Zk rfl rfl) rfl) rfl ?_)));rw[B1, hl]
          · rw[show Vt v = false by simpa using w] at a
            exact VO a
        exact ZM (XC tt (ZM rfl))
    cases hall : ds.all (W0 n jL) with
    | false =>
      have e : covB n jL (.lst ds) = false := by
        show(ds.all (W0 n jL) && _) = false;rw[hall]; rfl
      rw[e];exact ZM (X5 (VG rfl) (a2 hall))
    | true =>
      obtain⟨ρ', e2, o2, rfl⟩ := a1 hall;obtain⟨l, rfl, hl⟩ := Zc7 hall;have sm := hs l rfl;have el : (l.map Ym).map Wa = l := by
        rw[qw];have : Wa ∘ Ym = id := funext JK;rw[this, zJ]
      have e : covB n jL (.lst (l.map Ym)) = (qe n).all λj => decide ((Z4 (Xc l j)).2 <= (Z4 (Xc l j)).1) := by
        show((l.map Ym).all (W0 n jL) && _) = _;rw[hall, el]; rfl
      rw[e];refine Z2 (X5 (VG rfl) e2) ?_;obtain⟨b1, b2⟩ := UW (τ := Zy 3) (body := (Ze (Ww (Ws 4 5) (ZD F__law_total (Zb (Z3 [none, some 3] (Y0 (Za 1)) (Zy 0) (Zo (Zc YR (Za 1) (Zc Zh (Za 0) (dC (.int 0))))) (Zc Zh (Za 0) (dC (.int 1)))) Zf)))
  (Ze (ZU (Zo (Zc XR (Za 4) (Za 5)))
  (Ze (Zz (dC (.bl false))) Zg) Zg) Zg))) (s := s) (fun ρ => ∃ o3 o4 o5, ρ = [some (Zt n jL), some (.lst (l.map Ym)), o2, o3, o4, o5]) (λd => decide ((Z4 (Xc l (Z7 d))).2 <= (Z4 (Xc l (Z7 d))).1)) ((qe n).map nD) [some (Zt n jL), some (.lst (l.map Ym)), o2, none, none, none] ⟨none, none, none, rfl⟩ λv hv ρ hI => by
        obtain⟨o3, o4, o5, rfl⟩ := hI;obtain⟨j, hj, rfl⟩ := qm.mp hv;refine⟨_, rfl, ?_⟩;have hc := Zoc (l := l) (ρ := [some (Zt n jL), some (.lst (l.map Ym)), o2, some (nD j), o4, o5]) (j := j) (i3 := 3) (i1 := 1) s rfl (λ_ => rfl) (by have := sm.len; omega);obtain⟨e, hf, hx⟩ := sm.few j;have ht := Zcu (.inl rfl) hf hx s;have eu : Ww (Ws 4 5) (ZD F__law_total (Zb (Z3 [none, some 3] (Y0 (Za 1)) (Zy 0) (Zo (Zc YR (Za 1) (Zc Zh (Za 0) (dC (.int 0))))) (Zc Zh (Za 0) (dC (.int 1)))) Zf)) [some (Zt n jL), some (.lst (l.map Ym)), o2, some (nD j), o4, o5] s = some (.nx [some (Zt n jL), some (.lst (l.map Ym)), o2, some (nD j), some (.int (Z4 (Xc l j)).1), some (.int (Z4 (Xc l j)).2)], s) := Ok.toEq2 (.sunp (.eq (YA (Zk hc rfl) ht) ⟨_, rfl, rfl, rfl⟩));have tt : Zo (Zc XR (Za 4) (Za 5)) [some (Zt n jL), some (.lst (l.map Ym)), o2, some (nD j), some (.int (Z4 (Xc l j)).1), some (.int (Z4 (Xc l j)).2)] s = some (decide ((Z4 (Xc l j)).1 < (Z4 (Xc l j)).2), s) := ZW (Zn rfl rfl rfl);have ex : Z7 (nD j) = j := rfl;rw[ex];refine⟨λz => ?_, λz => ?_⟩
        · have z := of_decide_eq_true z
          rw[decide_eq_false (by omega)] at tt;exact⟨_, Z2 eu (Z2 (XZ tt rfl) rfl), _, _, _, rfl⟩
        · have z := of_decide_eq_false z
          rw[decide_eq_true (by omega)] at tt;exact Z2 eu (ZM (XC tt (ZM rfl)))
      have hr : Yn (Zc Zh (Za 0) (dC (.int 0))) [some (Zt n jL), some (.lst (l.map Ym)), o2, none, none, none] s = some ((qe n).map nD, s) := by
        have := XU (f := Zc Zh (Za 0) (dC (.int 0))) (ρ := [some (Zt n jL), some (.lst (l.map Ym)), o2, none, none, none]) (s := s) (n := n) (Zn (d := Zt n jL) (e := .int 0) rfl rfl W7) (by omega);rw[this, dRange0]
      have ea : ((qe n).map nD).all (λd => decide ((Z4 (Xc l (Z7 d))).2 <= (Z4 (Xc l (Z7 d))).1)) = (qe n).all λj => decide ((Z4 (Xc l j)).2 <= (Z4 (Xc l j)).1) := by rw[y4]; rfl
      rw[ea] at b1 b2
      cases hq : (qe n).all λj => decide ((Z4 (Xc l j)).2 <= (Z4 (Xc l j)).1) with
      | false => exact ZM (X5 hr (b2 hq))
      | true =>
        obtain⟨ρ2, q1, o3, o4, o5, rfl⟩ := b1 hq;exact Z2 (X5 hr q1) (ZM rfl)
  · have e : covB n jL d = false := by
      unfold covB;split
      · exact absurd rfl ht
      · rfl
    rw[e];rw[show lstB d = false by simpa using ht] at t1;exact YL rfl (ZM (XC t1 (ZM rfl)))
set_option exponentiation.threshold 9000
noncomputable def nnB:D->Bool
 | .tup [.int a,_]=>decide (0<=a)
 | _=>false
noncomputable def UP (f:D):Bool:=Wm f&&nnB f
noncomputable def UJ:D->Int×Int
 | .tup [.int a,.int b]=>(a,b)
 | _=>(0,1)
noncomputable abbrev Xd (fs:List (Int×Int))(k:List Nat):List (Int×Int):=k.map λj=>fs.getD j (0,1)
noncomputable def weiB (n:Nat)(jL:Qa):D->Bool
 | .tup ds=>decide (ds.length=n)&&(ds.all UP&&(ap n jL).all λk=>decide ((Z4 (Xd (ds.map UJ) k)).1<=(Z4 (Xd (ds.map UJ) k)).2))
 | _=>false
structure IsW (p:Int×Int):Prop where
 fr:IsFr p
 nn:0<=p.1
theorem ZpR {p:Int×Int}(h:IsW p):UP (ZE p)=true:=by
 show(Wm (ZE p)&&decide (0<=p.1))=true;rw[Zcv.mpr h.fr,decide_eq_true h.nn];rfl
theorem Zjb:∀{ds:List D},ds.all UP=true->∃fs:List (Int×Int),ds=fs.map ZE/\∀p∈fs,IsW p
 | [],_=>⟨[],rfl,by simp⟩
 | d::ds,h=>by
  rw[yM,qB]at h;have h1:=h.1;unfold UP at h1;rw[qB]at h1;obtain⟨p,rfl,hp⟩:=Zbt h1.1;obtain⟨l,rfl,hl⟩:=Zjb h.2;exact⟨p::l,rfl,λx hx=>by
   rcases qN.mp hx with rfl | hx
   ·exact⟨hp,of_decide_eq_true h1.2⟩
   ·exact hl x hx⟩
theorem Zcw (fs:List (Int×Int)):(fs.map ZE).map UJ=fs:=by
 have:UJ∘ZE=id:=funext λp=>rfl;simp_all
noncomputable def SmlF (fs:List (Int×Int)):Prop:=∃e,(e+1)*fs.length<8000/\∀p∈fs,p.1.natAbs<=2 ^ e/\p.2.natAbs<=2 ^ e
theorem Zkv {fs:List (Int×Int)}{j:Nat}(h:j<fs.length):fs.getD j (0,1)∈fs:=by simp_all
theorem SmlF.few {fs:List (Int×Int)}(h:SmlF fs){k:List Nat}(hk:∀o∈k,o<fs.length)(hl:k.length<=fs.length):∃e,Jr e (Xd fs k)/\(e+1)*(Xd fs k).length<8000:=by
 obtain⟨e,h1,h2⟩:=h;refine⟨e,λp hp=>?_,?_⟩
 ·obtain⟨j,hj,rfl⟩:=qm.mp hp
  exact h2 _ (Zkv (hk j hj))
 ·rw[qf]
  exact zr (qaB _ hl) h1
theorem Zoe {fs:List (Int×Int)}{ρ:Zd}{k:List Nat}{src:List (Option Nat)}{i6:Nat}(s:Pn)(h6:(ρ[i6]?).bind id=some (Zv k))(h3:∀d,Zy 0 d (Wg src ρ)=some [some d,some (.tup (fs.map ZE))])(hk:∀o∈k,o<fs.length)(hl:k.length<=1000) :
  Z3 src (Y2 (Za i6)) (Zy 0) Yo (Zc Zh (Za 1) (Za 0)) ρ s=some (.lst ((Xd fs k).map ZE),s):=by
 have hc:=XX (fi:=Y2 (Za i6)) (ft:=Yo) (fe:=Zc Zh (Za 1) (Za 0)) (s:=s) (λd=>[some d,some (.tup (fs.map ZE))]) (λ_=>true) (λd=>ZE (fs.getD (Z7 d) (0,1))) (Vg (by unfold Za YV;rw[h6];rfl)) (by rw[qf,X4];omega) (λd hd=>by
  obtain⟨o,ho,rfl⟩:=qm.mp hd;refine⟨h3 _,rfl,λ_=>Zn rfl rfl (VF ?_)⟩;have ex:Z7 (nD o)=o:=rfl;simp_all)
 rw[hc,JC,qw,qw];rfl
theorem Zkw {n:Nat}{jL:Qa}:(Wv n).filter (λp=>!tied jL p.1 p.2)=Wj n jL:=z8 λp hp=>by
 rw[Vf (Za5.mp hp).1]
theorem ZeG {n : Nat}{jL : List (Nat × Nat)}{d : D}(hn : n <= 10)(hk : (ap n jL).length <= 1000000)(h : Yu d = true)(hb : XI d <= 100000)(hs : ∀ fs : List (Int × Int), d = .tup (fs.map ZE) -> fs.length = n -> SmlF fs)(s : Pn) : F__law_weighs [Zt n jL, d] s = some (.bl (weiB n jL d), s) := by
  have hkd := UT h;have t1 : Zo (ZB Ys (Zb (Za 1) (Zb (dC (.ty "tuple")) Zf))) [some (Zt n jL), some d, none, none, none, none, none, none, none] s = some (Vt d, s) := ZW (YB (Zk rfl (Zk rfl rfl)) (Zbp hkd));by_cases ht : Vt d = true
  · obtain⟨ds, rfl⟩ : ∃ ds, d = .tup ds := by
      cases d <;> first | exact⟨_, rfl⟩ | cases ht
    have hts : WJ ds = true := by simpa[Yu] using h
    have t2 : Zo (Zc Y3 (ZB Yw (Zb (Za 1) Zf)) (Zc Zh (Za 0) (dC (.int 0)))) [some (Zt n jL), some (.tup ds), none, none, none, none, none, none, none] s = some (!decide (ds.length = n), s) := ZW (Zn (d := nD ds.length) (e := nD n) (YB (Zk rfl rfl) rfl) (Zn (d := Zt n jL) (e := .int 0) rfl rfl W7) (ZpB _ _));have t0 := ZfE (XW t1) λ_ => t2;by_cases hl : ds.length = n
    · rw[decide_eq_true hl] at t0
      refine YL rfl (Z2 (XZ t0 rfl) ?_);have ew : weiB n jL (.tup ds) = (ds.all UP && (ap n jL).all λk => decide ((Z4 (Xd (ds.map UJ) k)).1 <= (Z4 (Xd (ds.map UJ) k)).2)) := by
        show(decide (ds.length = n) && _) = _;rw[decide_eq_true hl]; rfl
      rw[ew];obtain⟨a1, a2⟩ := UW (τ := Zy 2) (body := (Ze (ZU (Yi (Yg (Zo (ZD F__law_fraction_is (Zb (Za 2) Zf)))) (Zo (Zc XR (Zc Zh (Za 2) (dC (.int 0))) (dC (.int 0)))))
  (Ze (Zz (dC (.bl false))) Zg) Zg) Zg)) (s := s) (fun ρ => ∃ o2, ρ = [some (Zt n jL), some (.tup ds), o2, none, none, none, none, none, none]) UP ds [some (Zt n jL), some (.tup ds), none, none, none, none, none, none, none] ⟨none, rfl⟩ λv hv ρ hI => by
        obtain⟨o2, rfl⟩ := hI;have tv := Jj hts hv;refine⟨_, rfl, ?_⟩;have t5 := XW (ZW (YA (F := F__law_fraction_is) (ρ := [some (Zt n jL), some (.tup ds), some v, none, none, none, none, none, none]) (s := s) (fs := Zb (Za 2) Zf) (Zk rfl rfl) (Zbj tv s)));unfold UP
        cases hf : Wm v with
        | false =>
          rw[hf] at t5;exact⟨(λz => by cases z), λ_ => ZM (XC (VO t5) (ZM rfl))⟩
        | true =>
          rw[hf] at t5;obtain⟨p, rfl, hp⟩ := Zbt hf;have e2 : Zh (ZE p) (.int 0) = some (.int p.1) := V6 _ _;have t6 : Zo (Zc XR (Zc Zh (Za 2) (dC (.int 0))) (dC (.int 0))) [some (Zt n jL), some (.tup ds), some (ZE p), none, none, none, none, none, none] s = some (decide (p.1 < 0), s) := ZW (Zn (d := .int p.1) (e := .int 0) (Zn (d := ZE p) (e := .int 0) rfl rfl e2) rfl rfl);have t7 := WQ t5 t6;have ep : nnB (ZE p) = decide (0 <= p.1) := rfl;rw[ep];refine⟨λz => ?_, λz => ?_⟩
          · have z : 0 <= p.1 := by simpa using z
            rw[decide_eq_false (by omega)] at t7;exact⟨_, Z2 (XZ t7 rfl) rfl, _, rfl⟩
          · have z : ¬ 0 <= p.1 := by simpa using z
            rw[decide_eq_true (by omega)] at t7;exact ZM (XC t7 (ZM rfl))
      cases hall : ds.all UP with
      | false => exact ZM (X5 (Vg rfl) (a2 hall))
      | true =>
        obtain⟨ρ', e2, o2, rfl⟩ := a1 hall;obtain⟨fs, rfl, hfs⟩ := Zjb hall;rw[qf] at hl;have sm := hs fs rfl hl;rw[Zcw];refine Z2 (X5 (Vg rfl) e2) ?_;refine Ok.toEq2 ?_;refine Ok.seq (.sown (.eq (a := .lst []) rfl ⟨rfl, ?_⟩));refine Ok.seq (.sfor (λi ρ s' => s' = s /\ ∃ o4 o5, ρ = [some (Zt n jL), some (.tup (fs.map ZE)), o2, some (.lst (((X2 n i).filter λp => !tied jL p.1 p.2).map ZQ)), o4, o5, none, none, none]) (.eq (XU (n := n) (Zn (d := Zt n jL) (e := .int 0) rfl rfl W7) (by omega)) ⟨⟨rfl, none, none, rfl⟩, λi d ρ s' hd hI => ?_, fun ρ' s' hI => ?_⟩))
        · obtain⟨rfl, o4, o5, rfl⟩ := hI
          obtain⟨hi, rfl⟩ := Zaf hd;refine⟨_, rfl, ?_⟩;refine Ok.seq (.sfor (λj ρ s2 => s2 = s' /\ ∃ o5, ρ = [some (Zt n jL), some (.tup (fs.map ZE)), o2, some (.lst (((X2 n i ++ (qe j).map λk => (i, i + 1 + k)).filter λp => !tied jL p.1 p.2).map ZQ)), some (nD i), o5, none, none, none]) (.eq (Zbn (a := i + 1) (n := n) (Zn (d := .int (i : Int)) (e := .int 1) (c := .int ((i + 1 : Nat) : Int)) rfl rfl (by simp[Yr])) (Zn (d := Zt n jL) (e := .int 0) rfl rfl W7) (by omega) (by omega)) ⟨⟨rfl, o5, by rw[List.range_zero, qbf, zq]; rfl⟩, λj d ρ s2 hd hJ => ?_, fun ρ' s2 hJ => ?_⟩))
          · obtain⟨rfl, o5, rfl⟩ := hJ
            obtain⟨hj, rfl⟩ := Jx hd;refine⟨_, rfl, ?_⟩;have q := ZcU n jL i (i + 1 + j : Nat) s2;refine Ok.seq (.sif (.eq (XW (ZW (YA (Zk rfl (Zk rfl (Zk rfl rfl))) q))) ?_))
            cases hq : tied jL i (i + 1 + j) with
            | false =>
              rw[if_pos (show(!false) = true from rfl)];refine .seq (.sapp (ds := ((X2 n i ++ (qe j).map λk => (i, i + 1 + k)).filter λp => !tied jL p.1 p.2).map ZQ) rfl ?_ (.eq (a := ZQ (i, i + 1 + j)) (Wh (Zk rfl (Zk rfl rfl)) two_le) (.next (.next ⟨_, rfl, rfl, some (nD (i + 1 + j)), ?_⟩))))
              · rw[qf]
                refine zr (ze ..) ?_;rw[zC, qf, qM];exact Zfz n i j (by omega) hi (by omega)
              · rw[zR, qV, <- yC, y9 (l₂ := qaD _ [j])]
                have : (qaD (λk => (i, i + 1 + k)) [j]).filter (λp => !tied jL p.1 p.2) = [(i, i + 1 + j)] := by
                  rw[qO, qbf, qbh];simp[hq]
                rw[this, qV]; rfl
            | true =>
              rw[if_neg (show ¬ (!true) = true by simp)];refine .next (.next ⟨_, rfl, rfl, some (nD (i + 1 + j)), ?_⟩);rw[zR, qV, <- yC, y9 (l₂ := qaD _ [j])];have : (qaD (λk => (i, i + 1 + k)) [j]).filter (λp => !tied jL p.1 p.2) = [] := by
                rw[qO, qbf, qbh];simp[hq]
              rw[this, zq];rfl
          · obtain⟨rfl, o5, rfl⟩ := hJ
            refine .next ⟨_, rfl, rfl, some (nD i), o5, ?_⟩;rw[Zbo, WC]
        · obtain⟨rfl, o4, o5, rfl⟩ := hI
          rw[WC];have et : (X2 n n).filter (λp => !tied jL p.1 p.2) = Wj n jL := Zkw;rw[et];have hkn := ZfQ n (Wj n jL) (by omega) hk (by
            refine qu (ze ..) (qu (Za4 n n) ?_);exact qu (yF hn hn) (by decide)) s'
          obtain⟨b1, b2⟩ := UW (τ := Zy 6) (body := (Ze (Ww (Ws 7 8) (ZD F__law_total (Zb (Z3 [none, some 1] (Y2 (Za 6)) (Zy 0) Yo (Zc Zh (Za 1) (Za 0))) Zf)))
  (Ze (ZU (Zo (Zc Vz (Za 7) (Za 8)))
  (Ze (Zz (dC (.bl false))) Zg) Zg) Zg))) (s := s') (fun ρ => ∃ o6 o7 o8, ρ = [some (Zt n jL), some (.tup (fs.map ZE)), o2, some (.lst ((Wj n jL).map ZQ)), o4, o5, o6, o7, o8]) (λd => decide ((Z4 (Xd fs (Jo d))).1 <= (Z4 (Xd fs (Jo d))).2)) ((ap n jL).map Zv) [some (Zt n jL), some (.tup (fs.map ZE)), o2, some (.lst ((Wj n jL).map ZQ)), o4, o5, none, none, none] ⟨none, none, none, rfl⟩ λv hv ρ hI => by
            obtain⟨o6, o7, o8, rfl⟩ := hI;obtain⟨k, hkk, rfl⟩ := qm.mp hv;refine⟨_, rfl, ?_⟩;have kl := V2 hkk;have hc := Zoe (fs := fs) (ρ := [some (Zt n jL), some (.tup (fs.map ZE)), o2, some (.lst ((Wj n jL).map ZQ)), o4, o5, some (Zv k), o7, o8]) (k := k) (src := [none, some 1]) (i6 := 6) s' rfl (λ_ => rfl) (λo ho => by rw[hl]; exact kl.1 o ho) (by omega);obtain⟨e, hf, hx⟩ := sm.few (k := k) (λo ho => by rw[hl]; exact kl.1 o ho) (by omega);have ht := Zcu (.inl rfl) hf hx s';have eu : Ww (Ws 7 8) (ZD F__law_total (Zb (Z3 [none, some 1] (Y2 (Za 6)) (Zy 0) Yo (Zc Zh (Za 1) (Za 0))) Zf)) [some (Zt n jL), some (.tup (fs.map ZE)), o2, some (.lst ((Wj n jL).map ZQ)), o4, o5, some (Zv k), o7, o8] s' = some (.nx [some (Zt n jL), some (.tup (fs.map ZE)), o2, some (.lst ((Wj n jL).map ZQ)), o4, o5, some (Zv k), some (.int (Z4 (Xd fs k)).1), some (.int (Z4 (Xd fs k)).2)], s') := Ok.toEq2 (.sunp (.eq (YA (Zk hc rfl) ht) ⟨_, rfl, rfl, rfl⟩));have tt : Zo (Zc Vz (Za 7) (Za 8)) [some (Zt n jL), some (.tup (fs.map ZE)), o2, some (.lst ((Wj n jL).map ZQ)), o4, o5, some (Zv k), some (.int (Z4 (Xd fs k)).1), some (.int (Z4 (Xd fs k)).2)] s' = some (decide ((Z4 (Xd fs k)).2 < (Z4 (Xd fs k)).1), s') := ZW (Zn rfl rfl rfl);rw[Zd4];refine⟨λz => ?_, λz => ?_⟩
            · have z := of_decide_eq_true z
              rw[decide_eq_false (by omega)] at tt;exact⟨_, Z2 eu (Z2 (XZ tt rfl) rfl), _, _, _, rfl⟩
            · have z := of_decide_eq_false z
              rw[decide_eq_true (by omega)] at tt;exact Z2 eu (ZM (XC tt (ZM rfl)))
          have hr : Y0 (ZD Bk (Zb (Z9 (Zb (Zc Zh (Za 0) (dC (.int 0))) (Zb (ZB U2 (Zb (Za 3) Zf)) Zf))) Zf)) [some (Zt n jL), some (.tup (fs.map ZE)), o2, some (.lst ((Wj n jL).map ZQ)), o4, o5, none, none, none] s' = some ((ap n jL).map Zv, s') := VG (YA (Zk (Wh (ds := [nD n, .tup ((Wj n jL).map ZQ)]) (Zk (Zn (d := Zt n jL) (e := .int 0) rfl rfl W7) (Zk (YB (Zk rfl rfl) rfl) rfl)) two_le) rfl) hkn);have ea : ((ap n jL).map Zv).all (λd => decide ((Z4 (Xd fs (Jo d))).1 <= (Z4 (Xd fs (Jo d))).2)) = (ap n jL).all λk => decide ((Z4 (Xd fs k)).1 <= (Z4 (Xd fs k)).2) := by
            rw[y4];congr 1;funext k;show decide ((Z4 (Xd fs (Jo (Zv k)))).1 <= _) = _;rw[Zd4]
          rw[ea] at b1 b2;rw[qam]
          cases hq : (ap n jL).all λk => decide ((Z4 (Xd fs k)).1 <= (Z4 (Xd fs k)).2) with
          | false => exact Ok.eq (ZM (X5 hr (b2 hq))) ⟨rfl, rfl⟩
          | true =>
            obtain⟨ρ2, q1, o6, o7, o8, rfl⟩ := b1 hq;exact Ok.eq (Z2 (X5 hr q1) (ZM rfl)) ⟨rfl, rfl⟩
    · have e : weiB n jL (.tup ds) = false := by
        show(decide (ds.length = n) && _) = _;rw[decide_eq_false hl]; rfl
      rw[e];rw[decide_eq_false hl] at t0;exact YL rfl (ZM (XC (t0.trans (by simp)) (ZM rfl)))
  · have e : weiB n jL d = false := by
      unfold weiB;split
      · exact absurd rfl ht
      · rfl
    rw[e];rw[show Vt d = false by simp_all] at t1;exact YL rfl (ZM (XC (VO (XW t1)) (ZM rfl)))
set_option exponentiation.threshold 9000
theorem ZmO {i:Int}(h:i.natAbs<=2 ^ 200):Tk 0 0 (.int i):=by
 refine⟨?_,by simp[ZX],by simp[XI]⟩;simp only[Yu,decide_eq_true_eq];exact zr h (by simp)
theorem Zqy {p:Int×Int}(h1:p.1.natAbs<=2 ^ 200)(h2:p.2.natAbs<=2 ^ 200):Tk 1 2 (ZE p):=jJ (ZmO h1) (ZmO h2)
theorem Zof {k:List Nat}{n:Nat}(hn:n<=1000)(h:∀o∈k,o<n):Tk 1 k.length (Zv k):=(Tk.tup λd hd=>by
 obtain⟨o,ho,rfl⟩:=qm.mp hd;exact jK o (by grind)).mono (qk _) (by simp)
theorem e150:(2:Nat) ^ 150<=2 ^ 200:=qax (by decide) (by decide)
noncomputable abbrev Wf (n:Nat)(jL:Qa)(d:Int)(c:Nat->Int):List We:=((qe (KK n jL).length).filter λi=>decide (0<c i)).map λi=>((KK n jL).getD i [],ZS (c i) d)
noncomputable abbrev Uh (n:Nat)(d:Int)(x:Nat->Int):List (Int×Int):=(qe n).map λj=>ZS (x j) d
theorem J9 (n:Nat)(jL:Qa)(d:Int)(c:Nat->Int):Y7 n jL d c=(Wf n jL d c).map Ym:=by
 rw[qw];rfl
theorem Zjc (n:Nat)(d:Int)(x:Nat->Int):Xb n d x=(Uh n d x).map ZE:=by
 rw[qw];rfl
section
variable {n:Nat}{jL:Qa}{W d:Int}{c x:Nat->Int}(S:Sh n jL W d c x)(hw:IsWeb n jL)
include S
theorem Sh.small {t:Int}(h:t.natAbs<=2 ^ 150):(ZS t d).1.natAbs<=2 ^ 150/\(ZS t d).2.natAbs<=2 ^ 150:=by
 obtain⟨h1,h2⟩:=Zn9 S.pos;exact⟨qu h1 h,qu h2 S.dle⟩
theorem Sh.tk {t:Int}(h:t.natAbs<=2 ^ 150):Tk 1 2 (ZE (ZS t d)):=Zqy (qu (S.small h).1 e150) (qu (S.small h).2 e150)
theorem Sh.ne {i:Nat}(hi:i<(KK n jL).length)(hc:0<c i):(KK n jL).getD i []≠[]:=λe=>by
 have hf:=ZcH.mp (Zin hi);rw[e]at hf;by_cases h0:0<n
 ·have:=Zmb (Zbs n jL) hf (ZmN h0) (by simp)
  cases this
 ·have hn:n=0:=by omega
  have h1:=S.csum;have h2:=S.xsum;have h3:sm n x=0:=by rw[hn];rfl
  have h4:=Zki hi S.cov.nn;omega
theorem Sh.shr {q:We}(hq:q∈Wf n jL d c):IsShr n jL q:=by
 obtain⟨i,hi,rfl⟩:=qm.mp hq;obtain⟨h1,h2⟩:=qA.mp hi;have h1:=qR.mp h1;have h2:=of_decide_eq_true h2;exact⟨ZoE (Zin h1),S.ne h1 h2,BF S.pos,(Zi7 S.pos).mpr h2⟩
theorem Sh.len (hn:n<=10):(Wf n jL d c).length<=36:=by
 rw[qf];refine qu (ze ..) ?_;rw[qM];exact ZmM hn
theorem Sh.sml (hn:n<=10):B7 (Wf n jL d c):=⟨150,by have:=S.len hn;omega,λq hq=>by
 obtain⟨i,hi,rfl⟩:=qm.mp hq;exact S.small (S.cle i)⟩
theorem Sh.smlF (hn:n<=10):SmlF (Uh n d x):=⟨150,by grind,λq hq=>by
 obtain⟨i,hi,rfl⟩:=qm.mp hq;exact S.small (S.xle i)⟩
theorem Sh.tkS {q:We}(hn:n<=10)(hq:q∈Wf n jL d c):Tk 2 14 (Ym q):=by
 have h:=(S.shr hq).ap;have hm:=V2 h;obtain⟨i,hi,rfl⟩:=qm.mp hq;exact(jJ (Zof (by omega) hm.1) (S.tk (S.cle i))).mono (qk _) (by omega)
theorem Sh.tkC (hn:n<=10):Tk 3 1000 (.lst (Y7 n jL d c)):=by
 rw[J9];refine(Tk.lst (m:=14) λv hv=>?_).mono (qk _) ?_
 ·obtain⟨q,hq,rfl⟩:=qm.mp hv
  exact S.tkS hn hq
 ·rw[qf]
  have:=S.len hn;omega
theorem Sh.tkX (hn:n<=10):Tk 2 100 (.tup (Xb n d x)):=by
 rw[Zjc];refine(Tk.tup (m:=2) λv hv=>?_).mono (qk _) ?_
 ·obtain⟨q,hq,rfl⟩:=qm.mp hv
  obtain⟨j,hj,rfl⟩:=qm.mp hq;exact S.tk (S.xle j)
 ·grind
theorem Zjd (p:Nat->Bool):(((qe (KK n jL).length).filter λi=>decide (0<c i)&&p i).map c).sum=sm (KK n jL).length λi=>(if p i=true then 1 else 0)*c i:=by
 rw[Zbk,ZcM];refine Xj λi hi=>?_;have:=S.cov.nn i hi;by_cases h:0<c i
 ·simp_all
 ·grind
theorem Zfj {T B s:Int}(hB:0<B)(h:T*d=B*s):(d<=s->B<=T)/\(s<=d->T<=B):=by
 have hd:=S.pos;constructor
 ·intro z
  have h1:B*d<=B*s:=yB z (by omega);rw[<-h]at h1;exact z6 h1 hd
 ·intro z
  have h1:B*s<=B*d:=yB z (by omega);rw[<-h]at h1;exact z6 h1 hd
theorem Sh.covB:covB n jL (.lst (Y7 n jL d c))=true:=by
 rw[J9];show(((Wf n jL d c).map Ym).all (W0 n jL)&&(qe n).all λj=>decide ((Z4 (Xc (((Wf n jL d c).map Ym).map Wa) j)).2<=(Z4 (Xc (((Wf n jL d c).map Ym).map Wa) j)).1))=true;have el:((Wf n jL d c).map Ym).map Wa=Wf n jL d c:=by
  rw[qw];have:Wa∘Ym=id:=funext JK;rw[this,zJ]
 rw[el,qB,qS,qS];refine⟨λv hv=>?_,λj hj=>decide_eq_true ?_⟩
 ·obtain⟨q,hq,rfl⟩:=qm.mp hv
  exact Zku (S.shr hq)
 ·have hj:=qR.mp hj
  have e:Xc (Wf n jL d c) j=(((qe (KK n jL).length).filter λi=>decide (0<c i)&&decide (j∈(KK n jL).getD i [])).map λi=>ZS (c i) d):=by
   unfold Xc;rw[zQ,qw,List.filter_filter];congr 1;refine z8 λi _=>?_;rw[Bool.and_comm];rfl
  have hv:=Zdr (p:=λi=>ZS (c i) d) (l:=(qe (KK n jL).length).filter λi=>decide (0<c i)&&decide (j∈(KK n jL).getD i [])) λi _=>Bz S.pos;rw[Zjd S]at hv;rw[e];have hp:0<(Z4 (((qe (KK n jL).length).filter λi=>decide (0<c i)&&decide (j∈(KK n jL).getD i [])).map λi=>ZS (c i) d)).2:=Zeo (by decide) λp hp=>by
   obtain⟨i,_,rfl⟩:=qm.mp hp;exact(BF S.pos).pos
  refine(Zfj S hp hv).1 ?_;refine qbi (S.cov.ge j hj) (zY (Xj λi _=>?_));simp
theorem ZpS {k:List Nat}(hk:k∈ap n jL):Xd (Uh n d x) k=k.map λj=>ZS (x j) d:=qQ λj hj=>by
 have:=(V2 hk).1 j hj;simp_all
theorem Sh.weiB:weiB n jL (.tup (Xb n d x))=true:=by
 rw[Zjc];show(decide (((Uh n d x).map ZE).length=n)&&(((Uh n d x).map ZE).all UP&&(ap n jL).all λk=>decide ((Z4 (Xd (((Uh n d x).map ZE).map UJ) k)).1<=(Z4 (Xd (((Uh n d x).map ZE).map UJ) k)).2)))=true;rw[Zcw,decide_eq_true (by simp),qam,qB,qS,qS];refine⟨λv hv=>?_,λk hk=>decide_eq_true ?_⟩
 ·obtain⟨q,hq,rfl⟩:=qm.mp hv
  obtain⟨j,hj,rfl⟩:=qm.mp hq;exact ZpR ⟨BF S.pos,ZpL S.pos (S.wei.nn j (qR.mp hj))⟩
 ·have hv:=Zdr (p:=λj=>ZS (x j) d) (l:=k) λi _=>Bz S.pos
  rw[ZpS S hk];have hp:0<(Z4 (k.map λj=>ZS (x j) d)).2:=Zeo (by decide) λp hp=>by
   obtain⟨i,_,rfl⟩:=qm.mp hp;exact(BF S.pos).pos
  refine(Zfj S hp hv).2 ?_;obtain⟨nd,hl⟩:=Zqv hk;rw[<-ZmL nd hl];exact S.wei.le k hk
theorem Zhl {T B:Int}(h:T*d=B*W):T*(ZS W d).2=(ZS W d).1*B:=by
 have hd:=S.pos;have h2:=Bz (t:=W) hd;refine Int.eq_of_mul_eq_mul_right (Int.ne_of_gt hd) ?_
 grind
theorem Sh.totC:(Z4 ((Wf n jL d c).map (·.2))).1*(ZS W d).2=(ZS W d).1*(Z4 ((Wf n jL d c).map (·.2))).2:=by
 refine Zhl S ?_;have hv:=Zdr (p:=λi=>ZS (c i) d) (l:=(qe (KK n jL).length).filter λi=>decide (0<c i)) λi _=>Bz S.pos;have e:(Wf n jL d c).map (·.2)=((qe (KK n jL).length).filter λi=>decide (0<c i)).map λi=>ZS (c i) d:=by
  rw[qw];rfl
 rw[e,hv];have:=Zjd S λ_=>true;have e2:((qe (KK n jL).length).filter λi=>decide (0<c i)&&true)=(qe (KK n jL).length).filter λi=>decide (0<c i):=z8 λi _=>by simp
 rw[e2]at this;rw[this];rw[<-S.csum];simp
theorem Sh.totX:(Z4 (Uh n d x)).1*(ZS W d).2=(ZS W d).1*(Z4 (Uh n d x)).2:=by
 refine Zhl S ?_;have hv:=Zdr (p:=λj=>ZS (x j) d) (l:=qe n) λi _=>Bz S.pos;rw[ZcM,S.xsum]at hv;exact hv
end
end TQ
set_option exponentiation.threshold 9000
namespace K26
open L2 TF TQ TU TS
open TP
open TP2 hiding g_all_near F_all_near
open TP3 hiding g_full_knots F_full_knots
theorem Zog {l l':List We}(h:D.lst (l.map Ym)=.lst (l'.map Ym)):l=l':=by
 have h:=congrArg (qaD Wa) (D.lst.inj h);rw[qw,qw,show Wa∘Ym=id from funext JK,zJ,zJ]at h;exact h
theorem Zoh {l l':List (Int×Int)}(h:D.tup (l.map ZE)=.tup (l'.map ZE)):l=l':=by
 have h:=congrArg (qaD UJ) (D.tup.inj h);rw[Zcw,Zcw]at h;exact h
theorem ZpT (l:List We):(l.map Ym).map (λd=>ZE (Wa d).2)=(l.map (·.2)).map ZE:=by
 rw[qw,qw];refine qQ λq _=>?_;show ZE (Wa (Ym q)).2=ZE q.2;rw[JK]
theorem ZmP (n:Nat)(jL:Qa):YU (some (Zt n jL))=some (Zt n jL):=by
 have:∀l:Qa,Uo (l.map ZQ)=true:=λl=>by
  induction l with
  | nil=>rfl
  | cons a l ih=>simp only[qO,Uo,ih];rfl
 have h:Xg (Zt n jL)=true:=by
  show(true&&(Uo (jL.map ZQ)&&true))=true;rw[this];rfl
 show(if Xg (Zt n jL)=true then _ else _)=_;rw[if_pos h]
theorem Ok.keep {g:Zd->M Out}{ρ:Zd}{s:Pn}{Q:Out->Pn->Prop}(h:Ok (g (ρ.map YU)) s Q):Ok (Zl4 g ρ) s Q:=h
theorem Zoi {l:List We}(hp:YW (l.map Ym)=true)(hd:Xh (l.map Ym)<=60):YR .non (.lst (l.map Ym))=some (.bl false):=by
 have h:Xi .non (l.map Ym)=true:=by
  simp only[Xi,qB,decide_eq_true_eq];exact⟨⟨⟨rfl,hp⟩,by decide⟩,hd⟩
 have hi:Xx .non (l.map Ym)=false:=by
  unfold Xx;rw[qac];intro v hv;obtain⟨q,_,rfl⟩:=qm.mp hv;exact yu
 show(if Xi .non (l.map Ym)=true then some (Xx .non (l.map Ym))else none).map D.bl=_;rw[if_pos h,hi];rfl
theorem ZpU (a b:Int)(h:a=b):Y3 (.int a) (.int b)=some (.bl false):=by
 rw[B1,h];simp
theorem ZmQ (ns:List Int)(h:ns.length<=63):∃s',ZmG (none::some .pen::qp 9 none) ([0,0],ns)=some (.rt (.bl true),s'):=by
 have ok0:Vs ([0,0],ns):=⟨0,0,rfl,by omega,by omega⟩;suffices hh:Ok (ZmG (none::some .pen::qp 9 none)) ([0,0],ns) λo s'=>o=.rt (.bl true) by
  obtain⟨o,s',e,rfl⟩:=hh;exact⟨s',e⟩
 refine Ok.seq (.sfor (λi ρ s'=>Vs s'/\∃o2 o3 o4 o5 o6 o7 o8 o9 o10,ρ=[none,some .pen,o2,o3,o4,o5,o6,o7,o8,o9,o10]) (.eq (XU (n:=4) rfl (by omega)) ⟨⟨ok0,none,none,none,none,none,none,none,none,none,rfl⟩,λi0 d ρ s' hd hI=>?_,fun ρ' s' hI=>?_⟩))
 ·obtain⟨ok1,o2,o3,o4,o5,o6,o7,o8,o9,o10,rfl⟩:=hI
  obtain⟨hi,rfl⟩:=Zaf hd;clear hd hi ok0;refine⟨_,rfl,?_⟩;refine Ok.keep ?_;show Ok (Ze _ _ [none,some .pen,some (nD i0),YU o3,YU o4,YU o5,YU o6,YU o7,YU o8,YU o9,YU o10]) s' _;generalize YU o3=o3,YU o4=o4,YU o5=o5,YU o6=o6,YU o7=o7,YU o8=o8,YU o9=o9,YU o10=o10;refine Ok.seq (.sset (.fn (Zk rfl (Zk rfl rfl)) ((Zpk ok1 7 (by omega)).mono λd s1 q=>?_)));obtain⟨ok2,n,jL,rfl,hn7,hw⟩:=q;have hn:n<=10:=by omega
  obtain⟨W,d,c,x,S,he⟩:=Zkt hw hn s1;refine Ok.seq (.sset (.eq (YA (Zk rfl rfl) he) ?_));have tw:=S.tk S.wle;have e0:Zh (.tup [ZE (ZS W d),.lst (Y7 n jL d c),.tup (Xb n d x)]) (.int 0)=some (ZE (ZS W d)):=V6 _ _;have e1:Zh (.tup [ZE (ZS W d),.lst (Y7 n jL d c),.tup (Xb n d x)]) (.int 1)=some (.lst (Y7 n jL d c)):=V7 _ _ _;have q1:=Zbj tw.1 s1;rw[Zcv.mpr (BF S.pos)]at q1;refine Ok.seq (.sif (.eq (a:=false) (WQ (XW (b:=true) (ZW (YB (Zk rfl (Zk rfl rfl)) rfl))) (WQ (ZW (Zn (d:=.int 3) (e:=.int 3) (YB (Zk rfl rfl) rfl) rfl rfl)) (XW (b:=true) (ZW (YA (Zk (Zn rfl rfl e0) rfl) q1))))) (.next ?_)));refine Ok.seq (.sunp (.eq (a:=.tup [ZE (ZS W d),.lst (Y7 n jL d c),.tup (Xb n d x)]) rfl ⟨_,rfl,?_⟩));have tc:=S.tkC hn;have tx:=S.tkX hn;have q2:=ZeF (n:=n) (jL:=jL) (by omega) tc.1 (by have:=tc.2.1;omega) (by have:=tc.2.2;omega) (λl el=>by
   rw[J9]at el;have:=Zog el;rw[<-this];exact S.sml hn) s1
  rw[S.covB]at q2;have q3:=ZeG (n:=n) (jL:=jL) hn (qu (Zg1 hn) (by decide)) tx.1 (by have:=tx.2.2;omega) (λfs ef _=>by
   rw[Zjc]at ef;have:=Zoh ef;rw[<-this];exact S.smlF hn) s1
  rw[S.weiB]at q3;refine Ok.seq (.sif (.eq (a:=false) (WQ (XW (b:=true) (ZW (YA (Zk rfl (Zk rfl rfl)) q2))) (XW (b:=true) (ZW (YA (Zk rfl (Zk rfl rfl)) q3)))) (.next ?_)))
  -- both sums
  have hc:∀o8 o9 o10:Option D,Z3 [none] (Y0 (Za 6)) (Zy 0) Yo (Zc Zh (Za 0) (dC (.int 1))) [none,some .pen,some (nD i0),some (Zt n jL),some (.tup [ZE (ZS W d),.lst (Y7 n jL d c),.tup (Xb n d x)]),some (ZE (ZS W d)),some (.lst (Y7 n jL d c)),some (.tup (Xb n d x)),o8,o9,o10] s1=some (.lst (((Wf n jL d c).map (·.2)).map ZE),s1):=λo8 o9 o10=>by
   have hc:=XX (src:=[none]) (fi:=Y0 (Za 6)) (τ:=Zy 0) (ft:=Yo) (fe:=Zc Zh (Za 0) (dC (.int 1))) (ρ:=[none,some .pen,some (nD i0),some (Zt n jL),some (.tup [ZE (ZS W d),.lst (Y7 n jL d c),.tup (Xb n d x)]),some (ZE (ZS W d)),some (.lst (Y7 n jL d c)),some (.tup (Xb n d x)),o8,o9,o10]) (s:=s1) (ds:=(Wf n jL d c).map Ym) (λd=>[some d]) (λ_=>true) (λd=>ZE (Wa d).2) (VG (by rw[<-J9];rfl)) (by rw[qf,X4];have:=S.len hn;omega) (λv hv=>by
    obtain⟨q,_,rfl⟩:=qm.mp hv;refine⟨rfl,rfl,λ_=>?_⟩;rw[JK];exact Zn (d:=Ym q) (e:=.int 1) rfl rfl (V7 _ _ _))
   rw[hc,JC,ZpT]
  have hfew:∀l:List (Int×Int),(∀p∈l,p.1.natAbs<=2 ^ 150/\p.2.natAbs<=2 ^ 150)->l.length<=36->Jr 150 l/\(150+1)*l.length<8000:=λl h1 h2=>⟨h1,by omega⟩;obtain⟨f1,g1⟩:=hfew ((Wf n jL d c).map (·.2)) (λp hp=>by
   obtain⟨q,hq,rfl⟩:=qm.mp hp;obtain⟨i,hi,rfl⟩:=qm.mp hq;exact S.small (S.cle i)) (by rw[qf];exact S.len hn)
  obtain⟨f2,g2⟩:=hfew (Uh n d x) (λp hp=>by
   obtain⟨i,hi,rfl⟩:=qm.mp hp;exact S.small (S.xle i)) (by rw[qf,qM];omega)
  have r1:=Zcu (d:=.lst (((Wf n jL d c).map (·.2)).map ZE)) (.inl rfl) f1 g1 s1;have r2:=Zcu (d:=.tup (Xb n d x)) (.inr (by rw[Zjc])) f2 g2 s1;obtain⟨sw1,sw2⟩:=S.small S.wle;have fin:∀(v:D) (t:Int×Int) (l:List (Int×Int)) (o9 o10:Option D),F__law_total [v] s1=some (ZE t,s1)->Jr 150 l->(150+1)*l.length<8000->t=Z4 l->t.1*(ZS W d).2=(ZS W d).1*t.2->Ok (Ze (Ww (Ws 9 10) (ZD F__law_total (Zb (Za 8) Zf)))
 (Ze (ZU (Zo (Zc Y3 (Zc XJ (Za 9) (Zc Zh (Za 5) (dC (.int 1)))) (Zc XJ (Zc Zh (Za 5) (dC (.int 0))) (Za 10))))
 (Ze (Zz (dC (.bl false)))
 Zg)
 Zg)
 Zg) [none,some .pen,some (nD i0),some (Zt n jL),some (.tup [ZE (ZS W d),.lst (Y7 n jL d c),.tup (Xb n d x)]),some (ZE (ZS W d)),some (.lst (Y7 n jL d c)),some (.tup (Xb n d x)),some v,o9,o10]) s1 λo s'=>∃ρ',o=.nx ρ'/\s'=s1/\∃o8 o9 o10,ρ'=[none,some .pen,some (nD i0),some (Zt n jL),some (.tup [ZE (ZS W d),.lst (Y7 n jL d c),.tup (Xb n d x)]),some (ZE (ZS W d)),some (.lst (Y7 n jL d c)),some (.tup (Xb n d x)),o8,o9,o10]:=λv t l o9 o10 h1 h2 h3 h4 h5=>by
   refine Ok.seq (.sunp (.eq (YA (Zk rfl rfl) h1) ⟨_,rfl,?_⟩));obtain⟨k1,k2⟩:=ZpM h2;rw[<-h4]at k1 k2;have i0:Zh (ZE (ZS W d)) (.int 0)=some (.int (ZS W d).1):=V6 _ _;have i1:Zh (ZE (ZS W d)) (.int 1)=some (.int (ZS W d).2):=V7 _ _ _;refine Ok.seq (.sif (.eq (a:=false) (ZW (Zn (Zn (d:=.int t.1) (e:=.int (ZS W d).2) rfl (Zn (d:=ZE (ZS W d)) (e:=.int 1) rfl rfl i1) (Zct k1 sw2 h3 (by omega))) (Zn (d:=.int (ZS W d).1) (e:=.int t.2) (Zn (d:=ZE (ZS W d)) (e:=.int 0) rfl rfl i0) rfl (Zct sw1 k2 (by omega) h3)) (ZpU _ _ h5))) (.next ?_)));exact .next ⟨_,rfl,rfl,_,_,_,rfl⟩
  show Ok (Ze _ _ [none,some .pen,some (nD i0),some (Zt n jL),some (.tup [ZE (ZS W d),.lst (Y7 n jL d c),.tup (Xb n d x)]),some (ZE (ZS W d)),some (.lst (Y7 n jL d c)),some (.tup (Xb n d x)),o8,o9,o10]) s1 _;have hcs:=VG (BD (Zk (hc o8 o9 o10) (Zk (f:=Za 7) (d:=.tup (Xb n d x)) rfl (fs:=Zf) rfl)) (by show 2<=xg;decide));refine Ok.seq (.sfor (λi ρ s'=>s'=s1/\∃o8 o9 o10,ρ=[none,some .pen,some (nD i0),some (Zt n jL),some (.tup [ZE (ZS W d),.lst (Y7 n jL d c),.tup (Xb n d x)]),some (ZE (ZS W d)),some (.lst (Y7 n jL d c)),some (.tup (Xb n d x)),o8,o9,o10]) (.eq hcs ⟨⟨rfl,_,_,_,rfl⟩,λk v ρ s' hd hI=>?_,fun ρ' s' hI=>?_⟩))
  ·obtain⟨rfl,o8,o9,o10,rfl⟩:=hI
   refine⟨_,rfl,?_⟩
   match k,hd with
   | 0,hd=>
    cases hd
    exact fin _ _ _ _ _ r1 f1 g1 rfl S.totC
   | 1,hd=>
    cases hd
    exact fin _ _ _ _ _ r2 f2 g2 rfl S.totX
   | k+2,hd=>simp at hd
  obtain⟨rfl,o8,o9,o10,rfl⟩:=hI;refine Ok.seq (.eq (s':=s') (a:=.nx [none,some .pen,some (nD i0),some (Zt n jL),none,some (ZE (ZS W d)),none,YU (some (.tup (Xb n d x))),YU o8,YU o9,YU o10]) ?_ ?_)
  ·show(if (Y7 n jL d c).length<xg then ZH _ else ZP) s'=_
   rw[if_pos (by rw[J9,qf,X4];have:=S.len hn;omega)];show some (Out.nx [none,some .pen,some (nD i0),YU (some (Zt n jL)),none,some (ZE (ZS W d)),none,YU (some (.tup (Xb n d x))),YU o8,YU o9,YU o10],s')=_;rw[ZmP]
  have hne:Y3 (ZE (ZS W d)) (ZE (ZS W d))=some (.bl false):=ZnX rfl (by show(1:Nat)<=60;decide);have hnn:YR .non (.lst (Y7 n jL d c))=some (.bl false):=by
   rw[J9];have hp:=Zfi tc.1;have hdp:=tc.2.1;rw[J9]at hp hdp;simp only[ZX]at hdp;exact Zoi (by simpa[Zs]using hp) (by omega)
  refine Ok.seq (.sif (.eq (a:=false) (WQ (ZW (Zn (d:=ZE (ZS W d)) (e:=ZE (ZS W d)) (Zn (d:=.tup [ZE (ZS W d),.lst (Y7 n jL d c),.tup (Xb n d x)]) (e:=.int 0) (YA (Zk rfl rfl) he) rfl e0) rfl hne)) (ZW (Zn (d:=.non) (e:=.lst (Y7 n jL d c)) rfl (Zn (d:=.tup [ZE (ZS W d),.lst (Y7 n jL d c),.tup (Xb n d x)]) (e:=.int 1) (YA (Zk rfl rfl) he) rfl e1) hnn))) (.next ?_)));exact .next ⟨_,rfl,ok2,_,_,_,_,_,_,_,_,_,rfl⟩
 ·obtain⟨ok1,o2,o3,o4,o5,o6,o7,o8,o9,o10,rfl⟩:=hI
  exact Ok.seq (.sret (.eq (a:=.bl true) rfl rfl))
end K26
namespace K26
open L2 TF TQ
open TP
open TP2 hiding g_all_near F_all_near
open TP3 hiding g_full_knots F_full_knots
theorem UK {K:qd}{x q:Str}{st:Stmt}{f:Addr}{fd:xC}(ps:List Str)(F:Fun K x q st f fd)
  (h:∀(kV doc pm:Value) (an:Option Addr) (cdv ct:Value) (us:List Value),us.length=ps.length->bindArgs (zt x q (WE st) (XV st) (ZF st) .none kV doc pm an cdv ct) ⟨us,[]⟩=pure (ps.zip us):=by
   intro _ _ _ _ _ _ us hl
   first
    | (obtain⟨_,rfl⟩:=TF.ux1 us hl;rfl)
    | (obtain⟨_,_,rfl⟩:=TF.ux2 us hl;rfl)
    | (obtain⟨_,_,_,rfl⟩:=TF.ux3 us hl;rfl)
    | (match us,hl with | [_,_,_,_],_=>rfl)):Xf K fd ps []:=F.binds h
theorem ZpV {P:xD}{w:World}{K:qd}{mg:Str->Option Value}{base:Heap}{kb:Addr}{jR:xC}{L:List (Addr×Str)}(lo:UO L)(F:Fun K "law" "law" s_law kb jR)(T:Txt mg)(kg:Yd P w K mg base 3 "_law_covers" 2 true Z0 F__law_covers)(jO:Yd P w K mg base 1 "_law_fraction_is" 1 false Z0 F__law_fraction_is)(jT:Yd P w K mg base 1 "_law_total" 1 true Z0 F__law_total)(kx:Yd P w K mg base 3 "_law_web" 2 true (Vu (Ue K) L) Zas)(kh:Yd P w K mg base 2 "_law_weighs" 2 true Z0 F__law_weighs)(ky:Yd P w K mg base 7 "shares" 1 true (V8 L) UV) :
  FnOk P w K mg base ZR 8 kb jR ["script"] (ZhU K L):=by
 have nd:=Zil.nd;refine F.ok Zil (λvs H Q E h=>?_) λcdv A outer s0 H vs Q E hr h=>?_
 ·obtain⟨a,ns,rfl,_⟩:=h
  rfl
 ·obtain⟨a,ns,rfl,sq,hl,hTb,hQ⟩:=h
  obtain⟨s',hs'⟩:=ZmQ ns hl;refine⟨_,XE (Um (i:=1) nd rfl (qy rfl) (Znv (XB (pv 0) (XB Xk (XB Xk X7))))) (Zly (GG:=Vu (Ue K) L) λG hG=>Zn8 lo T hr kg jO jT kx kh ky G hG),?_⟩;refine⟨_,rfl,(by show 3<=xg;decide),λp hp hk=>?_⟩;exact ZlO (n:=9) (N:=["script","_law_pen","_law_k","_law_told","_law_found","_law_worth","_law_cover","_law_weights","_law_some","_law_top","_law_bottom"]) sq hTb hp hk hQ hs'
noncomputable def ZoH:List DRow:=[dR "pairs_of" 1 189 2 1 15 196 true "tiefold.things" 187,
 dR "near" 3 201 9 2 22 204 false "tiefold.webs" 199,
 dR "all_near" 4 207 11 1 27 210 false "tiefold.webs" 199,
 dR "are_tied" 5 213 14 3 32 219 true "tiefold.webs" 199,
 dR "marked_ties" 6 222 16 1 39 225 false "tiefold.webs" 199,
 dR "turned" 7 228 18 1 44 233 true "tiefold.webs" 199,
 dR "web_where" 8 236 21 2 51 239 false "tiefold.webs" 199,
 dR "full_knots" 10 244 25 1 56 247 false "tiefold.knots" 242,
 dR "all_knots" 11 250 28 1 61 253 false "tiefold.knots" 242,
 dR "is_near_all" 12 256 33 3 66 259 false "tiefold.knots" 242,
 dR "is_full" 13 262 35 2 71 265 false "tiefold.knots" 242,
 dR "greatest_divisor" 15 270 38 2 76 276 true "tiefold.shares" 268,
 dR "lowest_terms" 16 279 44 2 83 285 true "tiefold.shares" 268,
 dR "shares" 17 288 47 1 90 291 false "tiefold.shares" 268,
 dR "_law_fill" 20 397 109 2 171 403 true "law_tiefold_k26_shares_told" 395,
 dR "_law_next" 21 406 115 2 178 414 true "law_tiefold_k26_shares_told" 395,
 dR "_law_web" 22 417 128 2 185 420 false "law_tiefold_k26_shares_told" 395,
 dR "_law_tied" 23 423 143 3 190 429 true "law_tiefold_k26_shares_told" 395,
 dR "_law_knots" 25 442 151 1 204 445 false "law_tiefold_k26_shares_told" 395,
 dR "_law_most" 26 448 163 1 209 451 false "law_tiefold_k26_shares_told" 395,
 dR "_law_fraction_is" 27 454 165 1 214 461 true "law_tiefold_k26_shares_told" 395,
 dR "_law_total" 28 464 175 1 221 472 true "law_tiefold_k26_shares_told" 395,
 dR "_law_is_apart" 29 475 180 2 228 483 true "law_tiefold_k26_shares_told" 395,
 dR "_law_covers" 30 486 193 2 235 489 false "law_tiefold_k26_shares_told" 395,
 dR "_law_weighs" 31 492 206 2 240 495 false "law_tiefold_k26_shares_told" 395,
 dR "law" 32 498 222 1 245 501 false "law_tiefold_k26_shares_told" 395]
noncomputable def Zqz:List (Str×Nat×Value):=[("__module__",301,.str "tiefold.shares" 268),("__firstlineno__",305,.int 54 304),("__init__",311,.ref 106),("settle",319,.ref 113),("gaining_column",325,.ref 118),("tightest_row",335,.ref 125),("is_tighter",347,.ref 132),("exchange",353,.ref 137),("cleared",359,.ref 142),("worth",366,.ref 149),("share",374,.ref 156),("weight",382,.ref 163),("__static_attributes__",387,.ref 164),("__dict__",389,.ref 167),("__weakref__",391,.ref 168),("__doc__",392,.none)]
noncomputable def ZmR:List MRV:=[⟨"__init__","Table.__init__",0,306,56,3,102,309,false⟩,
 ⟨"gaining_column","Table.gaining_column",2,320,73,1,114,323,false⟩,
 ⟨"is_tighter","Table.is_tighter",4,336,84,4,126,345,true⟩,
 ⟨"tightest_row","Table.tightest_row",3,326,77,2,119,333,true⟩,
 ⟨"cleared","Table.cleared",6,354,95,4,138,357,false⟩,
 ⟨"worth","Table.worth",7,360,98,1,143,364,true⟩,
 ⟨"share","Table.share",8,367,101,2,150,372,true⟩,
 ⟨"weight","Table.weight",9,375,104,2,157,380,true⟩,
 ⟨"exchange","Table.exchange",5,348,89,3,133,351,false⟩,
 ⟨"settle","Table.settle",1,312,67,1,107,317,true⟩]
noncomputable def KF (P:Params):qd:=Zqo top 181 ([dE P "__name__" 165 (.str "law_tiefold_k26_shares_told" 395)] ++ [dE P "__doc__" 166 (.none)] ++ [dE P "__package__" 167 (.none)] ++ [dE P "__loader__" 168 (.builtin "__main__.__loader__#opaque")] ++ [dE P "__spec__" 169 (.none)]++dRs P [nE "__annotations__" 170 6,nE "__builtins__" 171 4] ++ [dE P "__file__" 173 (.str "/claim/cut.py" 172)] ++ [dE P "__cached__" 174 (.none)]++dRs P [nE "pairs_of" 198 21,nE "near" 206 26,nE "all_near" 212 31,nE "are_tied" 221 38,nE "marked_ties" 227 43,nE "turned" 235 50,nE "web_where" 241 55,nE "full_knots" 249 60,nE "all_knots" 255 65,nE "is_near_all" 261 70,nE "is_full" 267 75,nE "greatest_divisor" 278 82,nE "lowest_terms" 287 89,nE "shares" 293 94,nE "Table" 394 166,nE "_law_fill" 405 177,nE "_law_next" 416 184,nE "_law_web" 422 189,nE "_law_tied" 431 196,nE "_law_is_knot" 441 203,nE "_law_knots" 447 208,nE "_law_most" 453 213,nE "_law_fraction_is" 463 220,nE "_law_total" 474 227,nE "_law_is_apart" 485 234,nE "_law_covers" 491 239,nE "_law_weighs" 497 244,nE "law" 503 249]) 37 ZoH ++ []++Zqu (top 18) 181 (.str "tiefold.shares" 268) ZmR ++ [(165,nsO P Zqz 4),(166,clsM "Table" 166 165 294 302)]
noncomputable def asF:List Addr:=[3,20,21,25,26,30,31,37,38,42,43,49,50,54,55,59,60,64,65,69,70,74,75,81,82,88,89,93,94,176,177,183,184,188,189,195,196,207,208,212,213,219,220,226,227,233,234,238,239,243,244,248,249,105,106,117,118,131,132,124,125,141,142,148,149,155,156,162,163,136,137,112,113,165,166]
theorem Ui (P:Params):ZfZ (KF P) (top 18) 166 (.str "tiefold.shares" 268) ZmR:=by
 repeat refine⟨⟨⟨by kernel_rfl,by kernel_rfl,by kernel_rfl⟩,by kernel_rfl,by kernel_rfl⟩,?_⟩
 exact trivial
theorem eF:∀P,asF=(KF P).map (·.1):=λ_=>by kernel_rfl
theorem okF (P:Params):ZfI (KF P) top ZoH:=by
 repeat refine⟨⟨by kernel_rfl,by kernel_rfl,by kernel_rfl⟩,?_⟩
 exact trivial
noncomputable abbrev LF:List (Addr×Str):=[(45,(qas "turned.<locals>.<lambda>"))]
theorem ZpW {P:xD}{w:World}{h:Heap}{mg:Str->Option Value}{fa:Addr}(X:(KF w.params).In h)(G:h.Ns mainGlobals mg)(hfa:mg "law" = some (.ref fa)) :
  ∃fd:xC,(∀(s:Shared) (v:Value),BindsTo s fd ⟨[v],[]⟩ [("script",v)])/\∀base:Heap,(KF w.params).In base->base.Ns mainGlobals mg->zU base 49 45->B2 mg base->FnOk P w (KF w.params) mg base ZR 8 fa fd ["script"] (ZhU (KF w.params) LF):=by
 have lo:UO LF:=TF.lok_nd (by decide);have zn:∀x,qbd (KF w.params) mainGlobals x=some none->mg x=none:=λ_ z=>PySem.W.mg_none_of X G z;have T:Txt mg:=⟨zn _ (by kernel_rfl),zn _ (by kernel_rfl),zn _ (by kernel_rfl),zn _ (by kernel_rfl),zn _ (by kernel_rfl),zn _ (by kernel_rfl),zn _ (by kernel_rfl),zn _ (by kernel_rfl),zn _ (by kernel_rfl),zn _ (by kernel_rfl),zn _ (by kernel_rfl),zn _ (by kernel_rfl),zn _ (by kernel_rfl),zn _ (by kernel_rfl)⟩;have mk:=@mkc P w (KF w.params) mg;have at_:=λj {r} e=>@Zpw _ h mg _ _ (okF w.params) X G j r e;obtain⟨f1,_,F1,m1,_⟩:=at_ 20 rfl;obtain⟨f2,_,F2,m2,_⟩:=at_ 17 rfl;obtain⟨f3,_,F3,m3,_⟩:=at_ 22 rfl;obtain⟨f4,_,F4,m4,_⟩:=at_ 21 rfl;obtain⟨f5,_,F5,m5,_⟩:=at_ 23 rfl;obtain⟨f6,_,F6,m6,_⟩:=at_ 14 rfl;obtain⟨f7,_,F7,m7,_⟩:=at_ 15 rfl;obtain⟨f8,_,F8,m8,_⟩:=at_ 16 rfl;obtain⟨f9,_,F9,m9,_⟩:=at_ 18 rfl;obtain⟨f10,_,F10,m10,_⟩:=at_ 24 rfl;obtain⟨f11,_,F11,m11,_⟩:=at_ 11 rfl;obtain⟨f12,_,F12,m12,_⟩:=at_ 12 rfl;obtain⟨f13,_,F13,m13,_⟩:=at_ 9 rfl;obtain⟨f14,_,F14,m14,_⟩:=at_ 8 rfl;obtain⟨f15,_,F15,m15,_⟩:=at_ 4 rfl;obtain⟨f16,_,F16,m16,_⟩:=at_ 3 rfl;obtain⟨f17,_,F17,m17,_⟩:=at_ 1 rfl;obtain⟨f18,_,F18,m18,_⟩:=at_ 2 rfl;obtain⟨f19,_,F19,m19,_⟩:=at_ 10 rfl;obtain⟨f20,_,F20,m20,_⟩:=at_ 7 rfl;obtain⟨f21,_,F21,m21,_⟩:=at_ 0 rfl;obtain⟨f22,_,F22,m22,_⟩:=at_ 6 rfl;obtain⟨f23,_,F23,m23,e23⟩:=at_ 5 rfl;obtain⟨f24,_,F24,m24,_⟩:=at_ 13 rfl;obtain⟨f25,_,F25,m25,_⟩:=at_ 25 rfl
 cases hfa.symm.trans m25
 have kz:=λb=>mk b F16 m16 (Zhc F16 T );have kO:=λb=>mk b F21 m21 (Zhe F21 T );have kR:BV P w (KF w.params) mg 5 "web_where" 2 false (BU P w (KF w.params) mg 4 2 Tl) Zag:=⟨f22,_,_,λb=>Zf1 F22 T (kO b),m22,F22.kp,bdc ["row","tied"] F22⟩;obtain⟨oc,od,kV,doc,pm,an,cdv,ct,osl,rfl,lk,hcd⟩:=F25.ex;refine⟨zt "law" "law" (WE s_law) (XV s_law) (ZF s_law) .none kV doc pm an cdv ct,λs v=>.of_eq rfl,λbase _ _ hC23 hBm=>?_⟩;have jO:=mk base F1 m1 (Zbx F1 T );have kj:=mk base F2 m2 (Zf4 F2 T );have ko:=mk base F3 m3 (ZcL F3 T kj);have jT:=mk base F4 m4 (ZeE F4 T );have kg:=mk base F5 m5 (Zem F5 T jO ko jT);have kG:=mk base F6 m6 (Zf3 F6 T );have kS:=mk base F7 m7 (Zf5 F7 T kG ZmH);have kd:Yd P w (KF w.params) mg base 2 "_law_next" 2 true (Vu (Ue (KF w.params)) LF) WP:=Zlz kS ZlP;have kx:=mk base F8 m8 (Zhh F8 T lo kd);have kC:=mk base F9 m9 (ZeD F9 T );have kh:=mk base F10 m10 (Zen F10 T jO kC kj jT);have ki:=mk base F11 m11 (Zbv F11 T );have jS:=mk base F12 m12 (Zc9 F12 T ki);have ka:=mk base F13 m13 (Zei F13 T );have kD:=mk base F14 m14 (Zf0 F14 T ka);have j8:=mk base F15 m15 (Zeh F15 T );have kH:=kz base;have kT:=mk base F17 m17 (Zn7 F17 T kH);have kI:=mk base F18 m18 (Zhd F18 T j8 kT);have kL:=mk base F19 m19 (Zii F19 T ka);have kB:=mk base F20 m20 (ZeB F20 T kD kI kL);have kP:=kO base;have kE:=kR;have kQ:=mk base F23 m23 (Zkq F23 T lo j8 kE kz (tP:=45) e23 hC23 hBm (by simp));have kc:TCl (KF w.params) 166:=⟨⟨by kernel_rfl,by kernel_rfl,by kernel_rfl,by kernel_rfl⟩,by unfold Xl;kernel_rfl,by unfold Xl;kernel_rfl,by unfold Xl;kernel_rfl,by unfold Xl;kernel_rfl⟩;obtain⟨fm0,_,Fm0,Mm0⟩:=V3 (Ui w.params) 0 rfl;obtain⟨fm1,_,Fm1,Mm1⟩:=V3 (Ui w.params) 1 rfl;obtain⟨fm2,_,Fm2,Mm2⟩:=V3 (Ui w.params) 2 rfl;obtain⟨fm3,_,Fm3,Mm3⟩:=V3 (Ui w.params) 3 rfl;obtain⟨fm4,_,Fm4,Mm4⟩:=V3 (Ui w.params) 4 rfl;obtain⟨fm5,_,Fm5,Mm5⟩:=V3 (Ui w.params) 5 rfl;obtain⟨fm6,_,Fm6,Mm6⟩:=V3 (Ui w.params) 6 rfl;obtain⟨fm7,_,Fm7,Mm7⟩:=V3 (Ui w.params) 7 rfl;obtain⟨fm8,_,Fm8,Mm8⟩:=V3 (Ui w.params) 8 rfl;obtain⟨fm9,_,Fm9,Mm9⟩:=V3 (Ui w.params) 9 rfl;have M_Table:Mk (KF w.params) 166 fm0:=⟨by kernel_rfl,Mm0.at_,Mm0.fn,by kernel_rfl⟩;have F_init:=Zkr (P:=P) (w:=w) (mg:=mg) (base:=base) Fm0 T kc;have m_Table:mg "Table" = some (.ref 166):=PySem.W.mg_of X G (by kernel_rfl);have b_init:=bdm ["self","n","aparts"] Fm0;have j6:Wn P w (KF w.params) mg base 166 1 "gaining_column" 1 (GT 166) WT:=Bg base Fm1 Mm1 (Zbw Fm1 T kc ) (UK ["self"] Fm1);have kr:Wn P w (KF w.params) mg base 166 1 "is_tighter" 4 (GT 166) B8:=Bg base Fm2 Mm2 (Zda Fm2 T kc ) (UK ["self","i","j","column"] Fm2);have km:Wn P w (KF w.params) mg base 166 2 "tightest_row" 2 (GT 166) Js:=Bg base Fm3 Mm3 (Zco Fm3 T kc kr) (UK ["self","column"] Fm3);have kF:Wn P w (KF w.params) mg base 166 1 "cleared" 4 (GT 166) Bn:=Bg base Fm4 Mm4 (Zf2 Fm4 T kc ) (UK ["self","row","kept","column"] Fm4);have kN:Wn P w (KF w.params) mg base 166 3 "worth" 1 (GT 166) Bq:=Bg base Fm5 Mm5 (Zij Fm5 T kc jS) (UK ["self"] Fm5);have kM:Wn P w (KF w.params) mg base 166 3 "share" 2 (GT 166) JD:=Bg base Fm6 Mm6 (Zik Fm6 T kc jS) (UK ["self","i"] Fm6);have kK:Wn P w (KF w.params) mg base 166 3 "weight" 2 (GT 166) Jy:=Bg base Fm7 Mm7 (Zhf Fm7 T kc jS) (UK ["self","place"] Fm7);have kA:BO P w (KF w.params) mg base 166 2 "exchange" 3 Jv:=⟨_,_,_,ZeC Fm8 T kc kF,Mm8,UK ["self","i","column"] Fm8⟩;have kJ:BO P w (KF w.params) mg base 166 3 "settle" 1 Uk:=⟨_,_,_,Zhg Fm9 T kc kA j6 km,Mm9,UK ["self"] Fm9⟩;have ky:=mk base F24 m24 (Zks F24 T lo kc M_Table F_init m_Table b_init kB kJ kM kK kN kQ);exact ZpV lo F25 T kg jO jT kx kh ky
noncomputable def tb:List (Str×Addr×Addr):=[("turned",49,45)]
theorem ZpX:∀P q,(P,q)∈LF->∃x c,(x,c,P)∈tb:=by
 intro P q h;simp only[qN,Prod.mk.injEq,List.not_mem_nil,or_false]at h;rcases h with⟨rfl,_⟩
 ·exact⟨"turned",49,by simp[tb]⟩
noncomputable def qF:xD:=PySem.W.view PySem.Challenge.pw_tiefold_k26_shares_told [1,3,4,5,6,7,8,10,11,12,13,15,16,17,18,20,21,22,23,24,25,26,27,28,29,30,31,32]
theorem walk {loose:List Str}{XP:(Str->Option Value)->Heap->Prop}{YP:World->Heap->Prop}(hY:∀(w:World) (h:Heap),YP w h->(KF w.params).In h) :
  qbR qF loose XP YP PySem.Challenge.rw_tiefold_k26_shares_told.row.toRowW (ZhZ s_law) [] (λf vs=>qbL f vs):=
 ZlB (K:=KF) (tb:=tb) (n:=63) (k:=8) (x:="script") (CX:=λ_=>ZR) (sp:=λw=>ZhU (KF w.params) LF) rfl (by decide) rfl ⟨rfl,by decide,by decide,rfl⟩ hY
  (qbO.mpr ⟨yj.mp (by kernel_rfl),(λ_ h=>nomatch h)⟩)
  (λw=>qbO.mpr ⟨by kernel_rfl,(λ_ h=>nomatch h)⟩) (λw=>by kernel_rfl)
  (λw mg fa h h1 h2 h3=>let ⟨fd,hb,hF⟩:=ZpW h1 h2 h3;⟨fd,hb,λbase g1 g2 g3 g4=>hF base g1 g2 (g3 ("turned",49,45) (by simp[tb])) g4⟩)
  (λ_ _ a ns hl hS hTb=>⟨a,ns,rfl,hS,hl,ZhV (tb:=tb) ZpX hTb,λ_=>rfl⟩) λ_ _ _ _ _ z=>z
theorem left:PySem.W.LeftO PySem.Challenge.rw_tiefold_k26_shares_told.prog qF [] (λs=>PySem.W.xlAt qF [] s&&PySem.W.recOk PySem.Challenge.rw_tiefold_k26_shares_told.row.records s) (yt KF asF eF).obs (yt KF asF eF).val 2760:=λw=>by kernel_rfl
theorem said:PySem.Challenge.rw_tiefold_k26_shares_told.wellSaid=true:=by kernel_rfl
end K26
open PySem.W
set_option maxRecDepth 100000 in
set_option maxHeartbeats 0 in
theorem PySem.Challenge.cw_tiefold_k26_shares_told_holds : PySem.Challenge.rw_tiefold_k26_shares_told.Holds := by
 refine TF.head_of (q:=K26.qF) (K:=K26.KF) (st:=K26.s_law) K26.said K26.left (by kernel_rfl) (by kernel_rfl) (by kernel_rfl) (by decide +kernel) ⟨rfl,rfl,rfl,rfl,rfl,by decide +kernel⟩ ?hw rfl (K26.walk λw h Y=>kIn_of Y)
 case hw=>w_witness2
