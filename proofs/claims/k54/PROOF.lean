import PyProof.Rows.All
import Wide.All
import OpenK.AllK
import Wide.FinOn
import Lean
import PyProof.EqAt
import PyProof.EqKinds
import PyProof.TupleCall
import KE.KLam
import PyProof.ZipIter
import PyProof.WalksEnum
import PyProof.WalkInts
import PyProof.SeqI3
import PyProof.Rows.SeqMore
import PyProof.Rows.SortWalk
import PyProof.Draws
import PyProof.EnumMake
import PyProof.DictIter
import KE.KSortTup
import PyProof.Rows.SeqMore2
import PyProof.Rows.RuleIs
import PyProof.Rows.SetFrom
import PyProof.WalksMore
import PyProof.MinMaxWalk
import OpenK.KMore
import PyProof.Rows.SortRuns
import PyProof.Rows.SortRunsK
import KE.KMinKey
import KE.KListMore
import KE.KDictSum
import PyProof.ExcClass2
import PyProof.ExcBaseAll.ValueError
import OpenK.KRaise
import KE.KTryMore
import PyProof.ExcAttrAll.ValueError
import PyProof.NsDelKeeps
import PySem.Challenge.RW_tiefold_k54_chains_told
-- CHANGE: your row's module here,as the last of these rows
open PySem.W renaming Frag->qd,kla_fn->zg,keepIn->zt,kia_one->zv,CodeHd->zE,envX->zZ,fnOf->yk,kHook->yN,kitOne->yV,mg_of->qad,codeIn->qas,hideAll->qaX,hideAll_get->qa3,tabObj->qa6,of_hideAll->qba,Looks->qbj,nsIn->qbB,instObj->qbH,cellsFrom_some->qbM,lookIn->qbQ,exmOne->qbZ,hideAll_size->qb2,hideAll_none->qb3,WalkO->qca
open PySem.Heap renaming get?_push_of_some->qf,get?_push_size->qq,lt_size->qy,size_push->zu,SameBut->zF,get?_update_other->zV,get?_update_self->zX,get?_update_ne->yq,ExtBut->qaI,FlyingW->qcm
open List renaming length_map->qh,range->qj,mem_append_right->qk,mem_map->ql,replicate->qm,mem_cons->qu,getElem?_eq_some_iff->qz,getElem?_eq_getElem->qB,map_map->qC,mem_filter->qD,mem_range->qE,getElem?_map->qG,length_range->qI,getD_eq_getElem?_getD->qJ,mem_singleton->qL,mem_append_left->qM,getElem?_set_ne->qO,length_append->qP,mem_append->qS,toArray->qU,getElem?_set_self->qV,mem_cons_of_mem->qZ,getElem?_append_left->zb,size_toArray->zf,length_filter_le->zh,not_mem_nil->zi,filter_sublist->zk,length_singleton->zo,map_congr_left->zp,lookup_cons->zq,append_nil->zw,nodup_cons->zx,length_cons->zB,all_eq_true->zC,map_append->zI,pairwise_append->zJ,length_eq_zero_iff->zO,mem_of_getElem?->zR,getElem?_append_right->zS,map_cons->zT,pairwise_iff_getElem->zW,Pairwise->z0,getElem?_replicate->z9,filter_map->yb,filter_eq_self->yd,length_take->yg,nodup_range->yi,pairwise_cons->yj,length_set->ym,forall_mem_cons->yo,getElem_mem->yr,length_nil->yw,pairwise_map->yz,filterMap_cons->yH,pairwise_singleton->yL,mem_filterMap->yO,length->yR,ext_getElem?->yT,getElem?_eq_none->yX,Perm->yY,any_eq_true->y8,mem_iff_getElem->qaa,perm_ext_iff_of_nodup->qac,drop_eq_getElem_cons->qaf,getElem?_zip_eq_some->qah,range_succ->qai,getElem?_take_of_lt->qak,mem_cons_self->qan,idxOf_lt_length_iff->qap,take_sublist->qaA,nodup_append->qaC,range_succ_eq_map->qaH,pairwise_lt_range->qaM,mem_reverse->qaR,mem_flatMap->qaS,pairwise_reverse->qaV,of_mem_zip->qaY,foldl->qa0,mem_map_of_mem->qa4,getElem_of_mem->qa5,dropLast_concat_getLast->qa7,any_cons->qbg,all_cons->qbh,append_assoc->qbm,filter_congr->qbn,take_length->qbw,forIn_cons->qbJ,nodup_nil->qbR,mem_iff_getElem?->qbW,drop_eq_nil_iff->qb7,getElem?_mapIdx->qb9,toList_toArray->qce,findSome?_cons->qcf,lookup->qco
open Nat renaming le_refl->qp,ne_of_lt->qA,lt_of_lt_of_le->qR,le_trans->qY,zero_le->za,lt_succ_of_lt->zl,lt_irrefl->ye,lt_succ_self->yh,lt_trans->yF,ne_of_gt->qaj,mul_le_mul->qat,le_succ_of_le->qaE,max_eq_right->qaT,le_of_ble_eq_true->qaW,le_antisymm->qa2,le_succ->qa8,lt_trichotomy->qbp,le_of_lt->qbq,le_of_eq->qbu,min_eq_left->qbK,max_eq_left->qbL,mul_comm->qci,zero_add->qcj
open PySem.Str renaming ofString->qw,ofString->qbd
open PySem.Value renaming ref->qH,none->qW,bool->zP,type->zQ,builtin->yM,int->qa9,notImplemented->qb5,str->qcg,isInt->qcn
open Or renaming inl->qK,inr->zL
open PySem.F renaming called_set->qN,plainAttrs_list->zN,slot_int_rmul->yn,slot_tuple_mul->yS,args_tuple_add_2->qal,slot_list_getattribute->qam,args_tuple_mul_2->qao,entry_tuple_add->qau,entry_tuple_mul->qax,entry_type_call->qaz,args_int_rmul_2->qaB,plain_list_iadd->qaD,slot_tuple_add->qaF,typeCall_set_1->qaK,entry_set_init->qaL,slot_int_index->qaP,entry_int_rmul->qaQ,slot_dict_get->qaU,fills_int_mul->qa1,slot_list_append->qbr,type_list_append->qbs,slot_list_insert->qby,slot_dict_values->qbz,args_dict_get_3->qbC,plainAttrs_dict->qbD,slot_list_index->qbF,entry_dict_get->qbO,entry_proto_collect->qbU,plain_proto_collect->qbV,plain_set_new->qbX,slot_set_iter->qbY,slot_list_pop->qb0,type_list_pop->qb1
open PySem.SetTable renaming below->qQ,grown->yC
open PySem.PassesOwn renaming never->qT
open Array renaming length_toList->qX,getElem?_eq_getElem->zd,getD_eq_getD_getElem?->zM,getElem?_toList->zY,getElem?_eq_none->qbP,toList_append->qcd
open Ne renaming symm->ze
open False renaming elim->zj
open PySem.Obj renaming mapSeq->zm,mapFields->qaO
open Sum renaming inl->zr,inr->qae
open Option renaming isSome_iff_exists->zy,bind_eq_some_iff->yK,isSome_map->qbk,map_some->qbI,map_eq_some_iff->qbN
open PySem renaming mem_of_lookup->zD,call->qb6
open Option.some renaming inj->zG
open PySem.Around renaming under_plainId->zH,under_plain->qbc,frames_deeper->qb4
open Bool renaming and_eq_true->zK,false_ne_true->yt,eq_iff_iff->yy,and_eq_true_iff->yB,noConfusion->y9,or_eq_true->qag,false_eq_true->qar,true_and->qcb,or_eq_true_iff->qcc
open PySem.NameKind renaming free->zU,cell->qab
open PyProof.Rows renaming callWith_type1->ya
open PySem.Builtin.List renaming listExtendWith->yc,listTooLong->yE,listLengthHint->yZ,listSameRef->qbx
open True renaming intro->yf
open PyProof.Rows.F renaming plain_set_update_loop->yu,entry_set_update_loop->qaq
open Int renaming toNat_natCast->yA,eq_ofNat_of_zero_le->qay,toNat->qcl
open PySem.AutoSeq1 renaming sub_tuple_tuple->yD,sub_tuple_list->qav,sub_list_tuple->qaw,sub_list_list->qaJ,idx_int->qbv
open List.Pairwise renaming imp_of_mem->yG,nil->qbl
open PySem.Heap.SameBut renaming update->yI
open PySem.Builtin.Range renaming rangeSize->yJ
open ForInStep renaming yield->yP
open PySem.Code renaming quiet_builtin->yQ
open PySem.SetTable.below renaming go->yU
open PySem.Builtin.Frozenset renaming updateFrom->yW
open PySem.SeqAt renaming EqAt->y6,RcNeAt->qbt,RcAt->qb8
open PySem.Calls renaming callWith_builtin->qaG,evalArgs_plain->qaZ,spliced_cons->qbb,Name_function_global->qbf
open PySem.Shared renaming TypeIs->qaN
open PySem.Paired renaming length->qbe
open PySem.Builtin.Tuple renaming tupleTooMany->qbi
open PySem.SetTable.probe renaming go->qbo
open Nat.succ renaming inj->qbA
open PySem.Builtin.Dict renaming updateFrom->qbE
open Classical renaming propDecidable->qbG
open List.Perm renaming cons->qbS
open PyProof.Rows.IntsAre renaming int_at->qbT
open PyProof.Rows.IsTup renaming new->qch
open PySem.Expr renaming Call->qck
open PySem PySem.Spec PyProof.Rows
open PySem renaming wpAny_bind→xa,wpAny_pure→xb,wpAny_mono→xc,wpAny→xf,sizeLine→xg,starEach→xh,keywordEach→xi,bootBuiltins→xj,compareOp→xk,wpAny_newObj_type→xl,codeAny_builtin→xm,codeAny→xo,backToKw→xp,attributeBase→xq,swapsWith→xr,wpAny_seqItems→xt,wpAny_holding→xu,wpAny_newList→xw,wpAny_call→xy,model→xz,FuncData→xA,Program→xB,Around→xC
abbrev xD:=PySem.Value->PySem.Shared->Prop
set_option maxHeartbeats 8000000
abbrev Qa:=List (Nat×Nat)
abbrev Qb:=List (PySem.Addr×PySem.Obj)
set_option genSizeOfSpec false
set_option bootstrap.genMatcherCode false
local macro_rules|`(tactic|omega)=>`(tactic|first|lia|omega (config:={}))
set_option Elab.async false
set_option linter.all false
set_option maxRecDepth 100000
namespace L2
abbrev ZG:=Sum Int Str
def JU:ZG->Value->Bool
 | .inl k,v=>qcn k v
 | .inr x,v=>Value.isStrOf x v
def keyH (w:World):ZG->Int
 | .inl k=>hashInt k
 | .inr x=>hashStr w x
theorem V6:∀{k:ZG} {v:Value},JU k v=true->(∃i t,k=zr i/\v=qa9 i t)∨(∃x t,k=qae x/\v=qcg x t)
 | .inl i,v,h=>by
  obtain⟨t,e⟩:=Value.isInt_shape h;exact .inl ⟨i,t,rfl,e⟩
 | .inr x,v,h=>by
  obtain⟨t,e⟩:=Value.isStrOf_shape h;exact .inr ⟨x,t,rfl,e⟩
theorem Zi6 (i:Int)(t:Tok):JU (.inl i) (.int i t)=true:=by simp[JU,qcn]
theorem Zi7 (x:Str)(t:Tok):JU (.inr x) (.str x t)=true:=by simp[JU,Value.isStrOf]
theorem Zoj (a b:Int):decide ((zr a:ZG)=zr b)=(a==b):=by
 grind
theorem Zok (a b:Str):decide ((qae a:ZG)=qae b)=decide (a=b):=by
 simp
theorem Zol (a:Int)(b:Str):decide ((zr a:ZG)=qae b)=false:=decide_eq_false (λq=>nomatch q)
theorem Zom (a:Str)(b:Int):decide ((qae a:ZG)=zr b)=false:=decide_eq_false (λq=>nomatch q)
def XW (prog:xB)(w:World):PySem.KeyKind prog w ZG where
 is:=JU
 hash:=keyH w
 inj:=λv a b ha hb=>by
  rcases V6 ha with⟨i,t,rfl,rfl⟩ | ⟨x,t,rfl,rfl⟩
  ·rcases V6 hb with⟨j,u,rfl,e⟩ | ⟨y,u,rfl,e⟩
   ·injection e with e1 _;rw[e1]
   ·exact nomatch e
  ·rcases V6 hb with⟨j,u,rfl,e⟩ | ⟨y,u,rfl,e⟩
   ·exact nomatch e
   ·injection e with e1 _;rw[e1]
 byValue:=λk v h=>by
  rcases V6 h with⟨i,t,rfl,rfl⟩ | ⟨x,t,rfl,rfl⟩ <;> rfl
 pyHash:=λhv h=>by
  rcases V6 hv with⟨i,t,rfl,rfl⟩ | ⟨x,t,rfl,rfl⟩
  ·exact wpAny_pyHash_int h
  ·exact wpAny_pyHash_str h
 eqBool:=λhu hv h=>by
  rcases V6 hu with⟨i,t,rfl,rfl⟩ | ⟨x,t,rfl,rfl⟩
  ·rcases V6 hv with⟨j,u,rfl,rfl⟩ | ⟨y,u,rfl,rfl⟩
   ·rw[Zoj]at h;exact wpAny_eqBool_int h
   ·rw[Zol]at h;exact y6.int_str i t y u _ _ _ _ h
  ·rcases V6 hv with⟨j,u,rfl,rfl⟩ | ⟨y,u,rfl,rfl⟩
   ·rw[Zom]at h;exact y6.str_int x t j u _ _ _ _ h
   ·rw[Zok]at h;exact wpAny_eqBool_str h
 «strs»:=λk x t v h=>by
  rcases V6 h with⟨i,u,rfl,e⟩ | ⟨y,u,rfl,e⟩
  ·exact nomatch e
  ·injection e with e1 _
   subst e1
   cases v <;> rfl
theorem ZfE (prog:xB)(w:World)(i:Int)(t:Tok):(XW prog w).is (.inl i) (.int i t)=true:=Zi6 i t
theorem ZfF (prog:xB)(w:World)(x:Str)(t:Tok):(XW prog w).is (.inr x) (.str x t)=true:=Zi7 x t
inductive V where
 | non | bl (b:Bool) | int (i:Int) | str (x:Str) | byt (b:Array UInt8) | flt (b:UInt64) | ref (a:Addr) | ty (n:String)
 deriving DecidableEq
def ZF:V->Value->Prop
 | .non,u=>u=qW
 | .bl b,u=>u=zP b
 | .int i,u=>∃t,u=qa9 i t
 | .str x,u=>∃t,u=qcg x t
 | .byt b,u=>∃t,u=Value.bytes b t
 | .flt b,u=>∃t,u=Value.float b t
 | .ref a,u=>u=qH a
 | .ty n,u=>u=zQ n
abbrev ZB:List V->List Value->Prop:=Paired ZF
theorem ZB.length (r:ZB xs us):xs.length=us.length:=qbe r
theorem ZB.get:∀{xs:List V} {us:List Value} {i:Nat} {x:V},ZB xs us->xs[i]?=some x->∃u,us[i]?=some u/\ZF x u
 | _,_,_,_,.nil,e=>by simp at e
 | _,_,0,_,.cons r _,e=>by simp_all
 | _,_,i+1,x,.cons _ t,e=>by
  obtain⟨u,h1,h2⟩:=ZB.get t (by simpa using e);simp_all
theorem ZB.set (r:ZF x u):∀{xs:List V} {us:List Value} (i:Nat),ZB xs us->ZB (xs.set i x) (us.set i u)
 | _,_,_,.nil=>.nil
 | _,_,0,.cons _ t=>.cons r t
 | _,_,i+1,.cons q t=>.cons q (ZB.set r i t)
theorem ZB.append:∀{xs ys:List V} {us ws:List Value},ZB xs us->ZB ys ws->ZB (xs++ys) (us++ws)
 | _,_,_,_,.nil,s=>s
 | _,_,_,_,.cons r t,s=>.cons r (ZB.append t s)
def VY:Option V->Option Value->Prop
 | some v,some u=>ZF v u
 | none,none=>True
 | _,_=>False
def KV {κ:Type}:List (κ×V)->List (κ×Value)->Prop:=Paired λ(p:κ×V) (q:κ×Value)=>p.1=q.1/\ZF p.2 q.2
def kV:ZG->V
 | .inl i=>.int i
 | .inr x=>.str x
inductive HO where
 | lst (xs:List V)
 | tup (xs:List V)
 | dK (kvs:List (ZG×V)) | dT (kvs:List (List ZG×V))
 | set (S:Int->Bool) (n:Nat)
 | ins (C dx:Addr) (fs:List (Str×V))
 | own (x:Addr)
 | xd (fs:List (Str×V))
 | met (f x:Addr)
 | rng (lo hi:Int)
 | frz (o:Obj) (u:HO)
 | tbl (ps:Array Value)
 | ext (φ:Heap->Prop)
abbrev Hp:=Addr->Option HO
def Zi (H:Hp)(a:Addr)(o:HO):Hp:=λb=>if b=a then some o else H b
theorem ZE:Zi H a o a=some o:=by unfold Zi;simp
theorem Zl (h:b≠a):Zi H a o b=H b:=by unfold Zi;simp_all
theorem ZeW:Zi (Zi H a o) a u=Zi H a u:=by
 unfold Zi;simp_all
theorem ZnN {H:Hp}(h:H a=some o)(h':H b=some u)(d:o≠u):a≠b:=by
 intro e;simp_all
theorem ZP {H:Hp}(h:H a=some o)(h':H b=none):a≠b:=by
 intro e;simp_all
section
variable (P:xB)(w:World)
def Yq (H:Hp)(h:Heap)(a:Addr):HO->Prop
 | .lst xs=>xs.length<=xg/\∃(jO:List Value) (n:Nat),ZB xs jO/\h.get? a=some { cls:=.type "list",data:=.seq jO.toArray n }
 | .tup xs=>xs.length<=xg/\∃jO:List Value,ZB xs jO/\IsTup h a jO.toArray
 | .dK kvs=>kvs.length<=xg/\(a==sysModules)=false/\∃vs,KV kvs vs/\h.DictOf (XW P w) a vs
 | .dT kvs=>kvs.length<=xg/\(a==sysModules)=false/\∃xs:List (List ZG×Addr×Value),
   Paired (λ(p:List ZG×V) (q:List ZG×Addr×Value)=>p.1=q.1/\H q.2.1=some (.tup (p.1.map kV))/\ZF p.2 q.2.2) kvs xs/\
   ∃o es ep,h.get? a=some o/\o.ExactDict/\o.data=.dict es ep/\es.toList=xs.map (entryOfKey (tupleKind (XW P w)))/\(xs.map (·.1)).Nodup
 | .set S n=>h.SetOf (intKind P w) a S n
 | .ins C dx fs=>H dx=some (.own a)/\fs.length<=1000/\dx≠a/\h.get? a=some (qbH C dx)/\
   ∃mA,h.Ns1 dx mA/\(∀f,VY (fs.lookup f) (mA f))/\PySem.Within mA (fs.map (·.1))
 | .own _=>∃o,h.get? a=some o
 | .xd fs=>∃mA,h.Ns1 a mA/\∀f,VY (fs.lookup f) (mA f)
 | .rng lo hi=>∃t u v,h.get? a=some { cls:=.type "range",data:=.fields #[.int lo t,.int hi u,.int 1 v] }
 | .frz o u=>h.get? a=some o/\Yq H h a u
 | .tbl ps=>h.get? a=some { cls:=.none,data:=.fields ps }
 | .met f x=>h.get? a=some (PySem.W.methodObj (.ref f) (.ref x))
 | .ext φ=>φ h/\(∃o,h.get? a=some o)/\∀h1 h2:Heap,φ h1->(∀o,h1.get? a=some o->h2.get? a=some o)->φ h2
def Yp (H:Hp)(h:Heap):Prop:=∀a o,H a=some o->Yq P w H h a o
end
section
variable {P:xB}{w:World}{H H':Hp}{h h':Heap}{a:Addr}{o:HO}
theorem Yq.lt (x:Yq P w H h a o):a<h.objs.size:=by
 cases o with
 | lst xs=>obtain⟨_,_,_,_,e⟩:=x;exact qy e
 | tup xs=>obtain⟨_,_,_,p⟩:=x;exact p.lt
 | dK kvs=>obtain⟨_,_,_,_,o,_,_,e,_⟩:=x;exact qy e
 | dT kvs=>obtain⟨_,_,_,_,o,_,_,e,_⟩:=x;exact qy e
 | set S n=>obtain⟨o,_,_,_,e,_⟩:=x;exact qy e
 | ins C dx fs=>obtain⟨_,_,_,e,_⟩:=x;exact qy e
 | own y=>obtain⟨_,e⟩:=x;exact qy e
 | xd fs=>obtain⟨_,⟨_,_,_,e,_⟩,_⟩:=x;exact qy e
 | rng lo hi=>obtain⟨_,_,_,e⟩:=x;exact qy e
 | frz ob u=>obtain⟨e,_⟩:=x;exact qy e
 | tbl ps=>exact qy (show h.get? a=some _ from x)
 | met f y=>exact qy (show h.get? a=some _ from x)
 | ext φ=>obtain⟨_,⟨_,e⟩,_⟩:=x;exact qy e
theorem ju {F G:α->β->Prop}:∀{l₁:List α} {l₂:List β},Paired F l₁ l₂->(∀a b,F a b->G a b)->Paired G l₁ l₂
 | _,_,.nil,_=>.nil
 | _,_,.cons r t,f=>.cons (f _ _ r) (ju t f)
theorem Yq.stay (x:Yq P w H h a o)(k:∀b u,(b=a∨H b=some (.own a))->h.get? b=some u->h'.get? b=some u)
  (ho:∀b,H b=some (.own a)->H' b=some (.own a)) (ht:∀b xs,H b=some (.tup xs)->H' b=some (.tup xs)):Yq P w H' h' a o:=by
 induction o with
 | lst xs=>obtain⟨z,jO,n,r,e⟩:=x;exact⟨z,jO,n,r,k _ _ (.inl rfl) e⟩
 | tup xs=>obtain⟨z,jO,r,ob,e,c⟩:=x;exact⟨z,jO,r,ob,k _ _ (.inl rfl) e,c⟩
 | dK kvs=>obtain⟨z,y,vs,r,ob,es,ep,e,c⟩:=x;exact⟨z,y,vs,r,ob,es,ep,k _ _ (.inl rfl) e,c⟩
 | dT kvs=>
  obtain⟨z,y,xs,r,ob,es,ep,e,c⟩:=x;exact⟨z,y,xs,ju r λp q z=>⟨z.1,ht _ _ z.2.1,z.2.2⟩,ob,es,ep,k _ _ (.inl rfl) e,c⟩
 | set S n=>obtain⟨ob,es,ep,t,e,c⟩:=x;exact⟨ob,es,ep,t,k _ _ (.inl rfl) e,c⟩
 | ins C dx fs=>
  obtain⟨d,z,ne,e,mA,⟨od,es,ep,e2,c⟩,r⟩:=x;exact⟨ho _ d,z,ne,k _ _ (.inl rfl) e,mA,⟨od,es,ep,k _ _ (.inr d) e2,c⟩,r⟩
 | own y=>obtain⟨ob,e⟩:=x;exact⟨ob,k _ _ (.inl rfl) e⟩
 | xd fs=>obtain⟨mA,⟨od,es,ep,e,c⟩,r⟩:=x;exact⟨mA,⟨od,es,ep,k _ _ (.inl rfl) e,c⟩,r⟩
 | rng lo hi=>obtain⟨t,u,v,e⟩:=x;exact⟨t,u,v,k _ _ (.inl rfl) e⟩
 | frz ob u ih=>obtain⟨e,q⟩:=x;exact⟨k _ _ (.inl rfl) e,ih q⟩
 | tbl ps=>
  have e:=x;exact k a _ (.inl rfl) e
 | met f y=>
  have e:=x;exact k a _ (.inl rfl) e
 | ext φ=>obtain⟨p,⟨o,e⟩,st⟩:=x;exact⟨st _ _ p λo q=>k _ _ (.inl rfl) q,⟨o,k _ _ (.inl rfl) e⟩,st⟩
theorem Yp.lt (x:Yp P w H h)(e:H a=some o):a<h.objs.size:=(x a o e).lt
theorem Yp.fresh (x:Yp P w H h)(e:h.objs.size<=a):H a=none:=by
 cases q:H a with
 | none=>rfl
 | some u=>exact absurd (qR (x.lt q) e) (ye _)
theorem Yp.kept (x:Yp P w H h)(k:∀b u,h.get? b=some u->h'.get? b=some u):Yp P w H h':=λa o e=>
 (x a o e).stay (λb u _ q=>k b u q) (λ_ q=>q) λ_ _ q=>q
theorem Yp.laid (x:Yp P w H h)(k:∀b u,h.get? b=some u->h'.get? b=some u)(hp:h.objs.size<=a)(new:Yq P w (Zi H a o) h' a o):Yp P w (Zi H a o) h':=λb u e=>by
 have hn:=x.fresh hp;by_cases hb:b=a
 ·subst hb;rw[ZE]at e;grind
 ·rw[Zl hb]at e
  exact(x b u e).stay (λc v _ q=>k c v q) (λc q=>by rw[Zl (ZP q hn)];exact q) λc xs q=>by rw[Zl (ZP q hn)];exact q
end
def Rd (H:Hp)(a:Addr)(u:HO):Prop:=H a=some u∨∃o,H a=some (.frz o u)
theorem Rd.of (h:H a=some u):Rd H a u:=.inl h
theorem Rd.ok (r:Rd H a u)(x:Yp P w H h):Yq P w H h a u:=by
 rcases r with r | ⟨o,r⟩
 ·exact x a u r
 ·obtain⟨_,q⟩:=x a _ r
  exact q
def Mut:Option HO->Prop
 | some (.lst _)=>True
 | some (.dK _)=>True
 | some (.dT _)=>True
 | some (.set _ _)=>True
 | some (.ins _ _ _)=>True
 | some (.ext _)=>True
 | _=>False
section
variable {P:xB}{w:World}{H:Hp}{h h':Heap}{x e:Addr}{o':HO}
theorem Yp.write (ok:Yp P w H h)(mu:Mut (H x))(he:e=x∨H e=some (.own x))(k:∀b u,b≠e->h.get? b=some u->h'.get? b=some u)(heo:∃u,h'.get? e=some u)
  (new:Yq P w (Zi H x o') h' x o'):Yp P w (Zi H x o') h':=λb u q=>by
 have nown:∀c y,H c=some (.own y)->c≠x:=λc y r z=>by subst z;rw[r]at mu;exact mu
 have ntup:∀c xs,H c=some (.tup xs)->c≠x:=λc xs r z=>by subst z;rw[r]at mu;exact mu
 by_cases hb:b=x
 ·subst hb;rw[ZE]at q;grind
 ·rw[Zl hb]at q
  by_cases hbe:b=e
  ·have q':H b=some (.own x):=by
    grind
   rw[q]at q';cases q';obtain⟨v,hv⟩:=heo;exact⟨v,by simp_all⟩
  ·refine(ok b u q).stay (λc v hc r=>k c v ?_ r) (λc r=>by rw[Zl (nown c b r)];exact r) λc xs r=>by rw[Zl (ntup c xs r)];exact r
   grind
end
structure Un (fs ex:List Addr)(H H':Hp)(h h':Heap):Prop where
 keep:∀b o,h.get? b=some o->H b=none->b∉fs->b∉ex->h'.get? b=some o
 slot:∀b o,h.get? b=some o->H b=none->b∈fs->b∉ex->∃sl,h'.get? b=some { o with slots:=sl }
 free:∀b o,h.get? b=some o->H b=none->b∉ex->H' b=none
 there:∀b o,h.get? b=some o->b∉ex->∃o',h'.get? b=some o'
 tups:∀b xs,H b=some (.tup xs)->H' b=some (.tup xs)
 frzs:∀b o u,H b=some (.frz o u)->H' b=some (.frz o u)
 tbls:∀b ps,H b=some (.tbl ps)->∃more,H' b=some (.tbl (ps++more))
section
variable {fs fs' ex ex':List Addr}{H H1 H2:Hp}{h h1 h2 h':Heap}{a x e:Addr}{o:HO}
theorem Un.any (u:Un fs ex H H1 h h1)(q:h.get? b=some ob)(n:H b=none)(hx:b∉ex):∃sl,h1.get? b=some { ob with slots:=sl }:=by
 by_cases hb:b∈fs
 ·exact u.slot b ob q n hb hx
 ·exact⟨ob.slots,u.keep b ob q n hb hx⟩
theorem Un.trans (a:Un fs ex H H1 h h1)(b:Un fs ex H1 H2 h1 h2):Un fs ex H H2 h h2 where
 keep:=λc ob q n hc hx=>b.keep c ob (a.keep c ob q n hc hx) (a.free c ob q n hx) hc hx
 slot:=λc ob q n hc hx=>by
  obtain⟨sl,e1⟩:=a.slot c ob q n hc hx;obtain⟨sl',e2⟩:=b.slot c _ e1 (a.free c ob q n hx) hc hx;exact⟨sl',e2⟩
 free:=λc ob q n hx=>by
  obtain⟨o',e1⟩:=a.there c ob q hx;exact b.free c o' e1 (a.free c ob q n hx) hx
 there:=λc ob q hx=>by
  obtain⟨o',e1⟩:=a.there c ob q hx;exact b.there c o' e1 hx
 tups:=λc xs q=>b.tups c xs (a.tups c xs q)
 frzs:=λc ob xs q=>b.frzs c ob xs (a.frzs c ob xs q)
 tbls:=λc ps q=>by
  obtain⟨m1,e1⟩:=a.tbls c ps q;obtain⟨m2,e2⟩:=b.tbls c _ e1;exact⟨m1++m2,by simp_all⟩
theorem Un.kept (k:∀b u,h.get? b=some u->h'.get? b=some u):Un fs ex H H h h':=
 ⟨λb ob q _ _ _=>k b ob q,λb ob q _ _ _=>⟨ob.slots,k b ob q⟩,λ_ _ _ n _=>n,λb ob q _=>⟨ob,k b ob q⟩,λ_ _ q=>q,λ_ _ _ q=>q,λ_ ps q=>⟨#[],by rw[q];simp⟩⟩
theorem Un.refl:Un fs ex H H h h:=Un.kept λ_ _ q=>q
theorem Un.laid (k:∀b u,h.get? b=some u->h'.get? b=some u)(hp:h.objs.size<=a)(hn:H a=none):Un fs ex H (Zi H a o) h h' where
 keep:=λb u q _ _ _=>k b u q
 slot:=λb u q _ _ _=>⟨u.slots,k b u q⟩
 free:=λb u q n _=>by rw[Zl (qA (qR (qy q) hp))];exact n
 there:=λb u q _=>⟨u,k b u q⟩
 tups:=λb xs q=>by rw[Zl (ZP q hn)];exact q
 frzs:=λb u xs q=>by rw[Zl (ZP q hn)];exact q
 tbls:=λb ps q=>⟨#[],by rw[Zl (ZP q hn),q];simp⟩
theorem Un.write (mu:Mut (H x))(he:e=x∨H e=some (.own x))(k:∀b u,b≠e->h.get? b=some u->h'.get? b=some u)(heo:∃u,h'.get? e=some u):Un fs ex H (Zi H x o) h h':=by
 have hx:∀b,H b=none->b≠x:=λb n z=>by subst z;rw[n]at mu;exact mu
 have hb:∀b,H b=none->b≠e:=λb n z=>by
  simp_all
 have hm:∀b u,H b=some u->¬Mut (some u)->b≠x:=λb u q nm z=>by simp_all
 refine⟨λb u q n _ _=>k b u (hb b n) q,λb u q n _ _=>⟨u.slots,k b u (hb b n) q⟩,λb u q n _=>by rw[Zl (hx b n)];exact n,λb u q _=>?_,
  λb xs q=>by rw[Zl (hm b _ q λz=>z)];exact q,λb u xs q=>by rw[Zl (hm b _ q λz=>z)];exact q,λb ps q=>⟨#[],by rw[Zl (hm b _ q λz=>z),q];simp⟩⟩
 by_cases hbe:b=e
 ·simp_all
 ·exact⟨u,k b u hbe q⟩
theorem Un.mono (u:Un fs ex H H1 h h1)(hs:∀b∈fs,b∈fs')(hx:∀b∈ex,b∈ex'):Un fs' ex' H H1 h h1:=
 ⟨λb ob q n hb he=>u.keep b ob q n (λz=>hb (hs b z)) λz=>he (hx b z),λ_ _ q n _ he=>u.any q n λz=>he (hx _ z),λb ob q n he=>u.free b ob q n λz=>he (hx b z),λb ob q he=>u.there b ob q λz=>he (hx b z),u.tups,u.frzs,u.tbls⟩
end
def trk (h:Heap)(H:Hp):List Addr:=(qj h.objs.size).filter λa=>(H a).isSome
def Vu (h:Heap)(H:Hp):Heap:=qaX h (trk h H)
theorem Zi8 (h:Heap)(H:Hp):(Vu h H).objs.size=h.objs.size:=qb2 _ _
theorem Zkz (e:h.get? b=some o)(n:H b=none):(Vu h H).get? b=some o:=
 qa3 _ e λhm=>by
  have q:=(qD.mp hm).2;simp_all
theorem ZmF (e:(Vu h H).get? b=some o):h.get? b=some o/\H b=none:=by
 have e':=qba (trk h H) e;refine⟨e',?_⟩
 cases q:H b with
 | none=>rfl
 | some x=>
  have hm:b∈trk h H:=qD.mpr ⟨qE.mpr (qy e'),by simp[q]⟩;have z:(Vu h H).get? b=none:=qb3 (trk h H) hm
  grind
structure Mod (K:qd)(mg:Str->Option Value)(base:Heap):Prop where
 kin:K.In base
 glob:base.Ns mainGlobals mg
 blt:∃mb,base.Ns builtinsNs mb/\∀x:Str,x≠"__name__"->mb x=xj x
 nolimit:base.NoLimit
structure Cx where
 prog:xB
 w:World
 K:qd
 mg:Str->Option Value
 base:Heap
 A:xC
 N:List Str
 s₀:Shared
 H₀:Hp
 env:Env
 outer:List Env
 stack:List Env
 ex:List Addr
 fn:Str->Bool
 calm:Bool
 pn:Qb
 xe:xD
def YE (l:List Env):List Addr:=l.filterMap (·.frame)
abbrev Cx.fs (X:Cx):List Addr:=YE X.outer
def Vis (sc:Scope)(x:Str):Prop:=sc.names.lookup x=some .local∨sc.names.lookup x=some .cell∨sc.names.lookup x=some .free
def W3 (sc:Scope)(x:Str):Prop:=sc.names.lookup x=some .local∨sc.names.lookup x=some .cell
def Look (env:Env)(h:Heap)(m:Str->Option Value)(x:Str)(u:Value):Prop:=
 (env.kindOf x=some .local/\m x=some u)∨((env.kindOf x=some .cell∨env.kindOf x=some .free)/\∃c,env.cells.lookup x=some c/\h.IsCell c (some u))
structure Cx.Ok (X:Cx):Prop where
 mod:Mod X.K X.mg X.base
 kind:X.env.scope.kind=.function
 glob:X.env.globals=mainGlobals
 blt:X.env.builtins=builtinsNs
 above:X.s₀.heap.objs.size<=X.env.locals
 inj:∀x y c,X.env.cells.lookup x=some c->X.env.cells.lookup y=some c->x=y
 has:∀x,(X.env.kindOf x=some .cell∨X.env.kindOf x=some .free)->∃c,X.env.cells.lookup x=some c
 cab:∀x c,X.fn x=true->X.env.cells.lookup x=some c->X.s₀.heap.objs.size<=c
 hd:X.calm=true->X.A.handled=none
 frames:X.A.frames=some X.stack
 stk:X.stack=X.outer∨(X.stack=X.env::X.outer/\X.env.frame=some X.env.locals)
 exf:∀b∈X.ex,b≠X.env.locals/\∀x c,X.env.cells.lookup x=some c->c≠b
 bs:∀b o,X.base.get? b=some o->X.s₀.heap.get? b=some o/\X.H₀ b=none
 bsz:X.base.objs.size<=X.s₀.heap.objs.size
 noex:∀b o,X.base.get? b=some o->b∉X.ex
 exfs:∀b∈X.ex,b∉X.fs
 funs:X.s₀.heap.FunFrames X.base X.outer
 frf:∀b∈X.fs,X.H₀ b=none
structure Inv (X:Cx)(jM:Qb)(σ:List (Option V))(H:Hp)(s:Shared):Prop where
 ok:X.Ok
 os:s.os=X.s₀.os
 bare:AllBare s.gens
 base:Un X.fs X.ex X.H₀ H X.s₀.heap s.heap
 loc:∃m,s.heap.Ns X.env.locals m/\∀(i:Nat) (x:Str) (v:V),X.N[i]?=some x->σ[i]?=some (some v)->Vis X.env.scope x->∃u,ZF v u/\Look X.env s.heap m x u
 cell:∀x c,X.env.cells.lookup x=some c->∃v,s.heap.IsCell c v
 free:H X.env.locals=none
 freeC:∀x c,X.env.cells.lookup x=some c->H c=none
 pin:∀p∈X.pn++jM,s.heap.get? p.1=some p.2/\H p.1=none/\p.1≠X.env.locals/\p.1∉X.fs/\∀v,p.2.data≠.cell v
 hok:Yp X.prog X.w H s.heap
 len:σ.length=X.N.length
section
variable {X:Cx}{jM:Qb}{σ:List (Option V)}{H H':Hp}{s:Shared}{h':Heap}
theorem Cx.Ok.nofr (ok:X.Ok)(e:X.base.get? b=some o):b∉X.fs:=λhb=>by
 have:=(ok.funs.mem hb).1
 grind
theorem Inv.bs (I:Inv X jM σ H s):∀b o,X.base.get? b=some o->s.heap.get? b=some o/\H b=none:=λb o e=>
 ⟨I.base.keep b o (I.ok.bs b o e).1 (I.ok.bs b o e).2 (I.ok.nofr e) (I.ok.noex b o e),I.base.free b o (I.ok.bs b o e).1 (I.ok.bs b o e).2 (I.ok.noex b o e)⟩
theorem Inv.bk (I:Inv X jM σ H s):∀b o,X.base.get? b=some o->s.heap.get? b=some o:=λb o e=>(I.bs b o e).1
theorem Inv.mod (I:Inv X jM σ H s):Mod X.K X.mg X.base:=I.ok.mod
theorem Inv.kIn (I:Inv X jM σ H s):X.K.In s.heap:=I.ok.mod.kin.keeps I.bk
theorem Inv.lt (I:Inv X jM σ H s):X.env.locals<s.heap.objs.size:=let ⟨_,hn,_⟩:=I.loc;hn.lt
theorem Inv.sz (I:Inv X jM σ H s):X.s₀.heap.objs.size<=s.heap.objs.size:=qY I.ok.above (qbq I.lt)
theorem Inv.nofs (I:Inv X jM σ H s){a:Addr}(h:s.heap.objs.size<=a):a∉X.fs:=λhb=>by
 obtain⟨_,o,ho,_⟩:=I.ok.funs.mem hb;exact absurd (qR (qy ho) (qY I.sz h)) (ye _)
theorem Inv.cne (I:Inv X jM σ H s):∀x c,X.env.cells.lookup x=some c->c≠X.env.locals:=λx c e z=>by
 obtain⟨v,o,ho,hd⟩:=I.cell x c e;obtain⟨m,⟨o',es,ep,ho',hd',_⟩,_⟩:=I.loc
 grind
theorem Inv.funs (I:Inv X jM σ H s):s.heap.FunFrames X.base X.outer:=by
 have all:∀(l:List Env),(∀b∈YE l,b∈X.fs)->X.s₀.heap.FunFrames X.base l->s.heap.FunFrames X.base l:=by
  intro l
  induction l with
  | nil=>intro _ _;trivial
  | cons env r ih=>
   intro hs hl;obtain⟨hk,⟨L,o,hf,hn,ho,hd⟩,hr⟩:=hl;have hL:=hs L (by unfold YE;simp_all);obtain⟨sl,e⟩:=I.base.slot L o ho (I.ok.frf L hL) hL λz=>I.ok.exfs L z hL;exact⟨hk,⟨L,_,hf,hn,e,hd⟩,ih (λb hb=>hs b (by unfold YE;rw[yH,hf];exact qZ _ hb)) hr⟩
 exact all X.outer (λ_ hb=>hb) I.ok.funs
theorem Inv.stack (I:Inv X jM σ H s):s.heap.FunFrames X.base X.stack:=by
 rcases I.ok.stk with e | ⟨e,hf⟩
 ·rw[e];exact I.funs
 ·rw[e]
  obtain⟨m,hn,_⟩:=I.loc;refine .cons (by rw[I.ok.kind];decide) hf hn ?_ I.funs;exact Heap.get?_none_of_le (qY I.ok.bsz I.ok.above)
theorem Inv.stkSub (I:Inv X jM σ H s):∀b∈YE X.stack,b∈X.env.locals::X.fs:=λb hb=>by
 rcases I.ok.stk with e | ⟨e,hf⟩
 ·simp_all
 ·rw[e]at hb
  unfold YE at hb;rw[yH,hf]at hb;exact hb
theorem Inv.stkFree (I:Inv X jM σ H s):∀b∈YE X.stack,H b=none:=λb hb=>by
 rcases qu.mp (I.stkSub b hb)with e | hb
 ·rw[e];exact I.free
 ·obtain⟨_,o,ho,_⟩:=I.ok.funs.mem hb
  exact I.base.free b o ho (I.ok.frf b hb) λz=>I.ok.exfs b z hb
theorem Inv.step {ch:List Addr}(I:Inv X jM σ H s)
  (hch:∀b∈ch,(b∈X.ex∨X.s₀.heap.objs.size<=b)/\b≠X.env.locals/\(∀x c,X.env.cells.lookup x=some c->c≠b)/\∀p∈X.pn++jM,p.1≠b)
  (keep:∀b o,b≠X.env.locals->b∉X.fs->b∉ch->s.heap.get? b=some o->H b=none->h'.get? b=some o)
  (slot:∀b o,b≠X.env.locals->b∈X.fs->b∉ch->s.heap.get? b=some o->H b=none->∃sl,h'.get? b=some { o with slots:=sl }) (free:∀b o,b∉ch->s.heap.get? b=some o->H b=none->H' b=none)
  (there:∀b o,b∉ch->s.heap.get? b=some o->∃o',h'.get? b=some o')
  (tups:∀b xs,H b=some (.tup xs)->H' b=some (.tup xs)) (frzs:∀b o u,H b=some (.frz o u)->H' b=some (.frz o u)) (tbls:∀b ps,H b=some (.tbl ps)->∃more,H' b=some (.tbl (ps++more)))
  (ns:∀m,s.heap.Ns X.env.locals m->h'.Ns X.env.locals m) (hok:Yp X.prog X.w H' h') (hg:AllBare g') :
  Inv X jM σ H' { s with heap:=h',gens:=g',drawn:=d',toks:=t' }:=by
 have neL:∀b o,X.s₀.heap.get? b=some o->b≠X.env.locals:=λb o e=>qA (qR (qy e) I.ok.above);have neC:∀b o,X.s₀.heap.get? b=some o->b∉X.ex->b∉ch:=λb o e hx hb=>by
  rcases (hch b hb).1 with z | z
  ·exact hx z
  ·exact absurd (qR (qy e) z) (ye _)
 have cellK:∀x c,X.env.cells.lookup x=some c->∀v,s.heap.IsCell c v->h'.IsCell c v:=λx c e v ⟨o,ho,hd⟩=>by
  have nch:c∉ch:=λz=>(hch c z).2.2.1 x c e rfl;by_cases hc:c∈X.fs
  ·obtain⟨sl,q⟩:=slot c o (I.cne x c e) hc nch ho (I.freeC x c e)
   exact⟨_,q,hd⟩
  ·exact⟨o,keep c o (I.cne x c e) hc nch ho (I.freeC x c e),hd⟩
 refine⟨I.ok,I.os,hg,⟨λb o e n hb hx=>?_,λb o e n hb hx=>?_,λb o e n hx=>?_,λb o e hx=>?_,λb xs e=>tups b xs (I.base.tups b xs e),λb o xs e=>frzs b o xs (I.base.frzs b o xs e),λb ps e=>?_⟩,?_,λx c e=>?_,?_,λx c e=>?_,λp hp=>?_,hok,I.len⟩
 ·exact keep b o (neL b o e) hb (neC b o e hx) (I.base.keep b o e n hb hx) (I.base.free b o e n hx)
 ·obtain⟨sl,e1⟩:=I.base.slot b o e n hb hx
  obtain⟨sl',e2⟩:=slot b _ (neL b o e) hb (neC b o e hx) e1 (I.base.free b o e n hx);exact⟨sl',e2⟩
 ·obtain⟨o',e1⟩:=I.base.there b o e hx
  exact free b o' (neC b o e hx) e1 (I.base.free b o e n hx)
 ·obtain⟨o',e1⟩:=I.base.there b o e hx
  exact there b o' (neC b o e hx) e1
 ·obtain⟨m1,e1⟩:=I.base.tbls b ps e
  obtain⟨m2,e2⟩:=tbls b _ e1;exact⟨m1++m2,by rw[e2,Array.append_assoc]⟩
 ·obtain⟨m,hn,hl⟩:=I.loc
  refine⟨m,ns m hn,λi x v e1 e2 e3=>?_⟩;obtain⟨u,r,l⟩:=hl i x v e1 e2 e3;refine⟨u,r,?_⟩;rcases l with l | ⟨k,c,e,z⟩
  ·exact .inl l
  ·exact .inr ⟨k,c,e,cellK x c e _ z⟩
 ·obtain⟨v,z⟩:=I.cell x c e
  exact⟨v,cellK x c e v z⟩
 ·obtain⟨m,⟨o,_,_,ho,_⟩,_⟩:=I.loc
  exact free _ o (λz=>(hch _ z).2.1 rfl) ho I.free
 ·obtain⟨v,o,ho,hd⟩:=I.cell x c e
  exact free c o (λz=>(hch c z).2.2.1 x c e rfl) ho (I.freeC x c e)
 ·obtain⟨e,n,ne,nf,d⟩:=I.pin p hp
  have nch:=λz=>(hch p.1 z).2.2.2 p hp rfl;exact⟨keep p.1 p.2 ne nf nch e n,free p.1 p.2 nch e n,ne,nf,d⟩
theorem Inv.un (I:Inv X jM σ H s)(u:Un X.fs [] H H' s.heap h')(hok:Yp X.prog X.w H' h'):Inv X jM σ H' { s with heap:=h',toks:=t' }:=by
 obtain⟨m,⟨o,es,ep,ho,r⟩,_⟩:=id I.loc;obtain⟨sl,hL⟩:=u.any ho I.free (by simp);exact I.step (ch:=[]) (λ_ z=>nomatch z) (λb o _ hb _ e n=>u.keep b o e n hb (by simp)) (λb o _ hb _ e n=>u.slot b o e n hb (by simp)) (λb o _ e n=>u.free b o e n (by simp)) (λb o _ e=>u.there b o e (by simp)) u.tups u.frzs u.tbls (λm' hm=>by
  obtain⟨o',es',ep',ho',r'⟩:=hm;rw[ho]at ho';cases ho';exact⟨_,es',ep',hL,r'⟩) hok I.bare
theorem Inv.call (I:Inv X jM σ H s)(u:Un (YE X.stack) ch H H' s.heap h')(hok:Yp X.prog X.w H' h')(hg:AllBare g')
  (hch:∀b∈ch,(b∈X.ex∨X.s₀.heap.objs.size<=b)/\b≠X.env.locals/\(∀x c,X.env.cells.lookup x=some c->c≠b)/\∀p∈X.pn++jM,p.1≠b) :
  Inv X jM σ H' { s with heap:=h',gens:=g',drawn:=d',toks:=t' }:=by
 obtain⟨m,⟨o,es,ep,ho,r⟩,_⟩:=id I.loc;obtain⟨sl,hL⟩:=u.any ho I.free λz=>(hch _ z).2.1 rfl;exact I.step hch (λb o hL hb hc e n=>u.keep b o e n (λz=>(qu.mp (I.stkSub b z)).elim hL hb) hc) (λb o _ _ hc e n=>u.any e n hc) (λb o hc e n=>u.free b o e n hc) (λb o hc e=>u.there b o e hc) u.tups u.frzs u.tbls (λm' hm=>by
  obtain⟨o',es',ep',ho',r'⟩:=hm;rw[ho]at ho';cases ho';exact⟨_,es',ep',hL,r'⟩) hok hg
theorem Inv.turned (I:Inv X jM σ H s)(k:∀b o,b≠it->s.heap.get? b=some o->h'.get? b=some o)(hn:H it=none)(hL:it≠X.env.locals)
  (h1:it∈X.ex∨X.s₀.heap.objs.size<=it) (h2:∀x c,X.env.cells.lookup x=some c->c≠it) (h3:∀p∈X.pn++jM,p.1≠it):Inv X jM σ H { s with heap:=h',toks:=t' }:=by
 have nit:∀b u,H b=some u->b≠it:=λb u e z=>by grind
 refine I.step (ch:=[it]) (λb hb=>?_) (λb o _ _ hc e _=>k b o (λz=>hc (by simp[z])) e) (λb o _ _ hc e _=>⟨o.slots,k b o (λz=>hc (by simp[z])) e⟩) (λ_ _ _ _ n=>n)
  (λb o hc e=>⟨o,k b o (λz=>hc (by simp[z])) e⟩) (λ_ _ e=>e) (λ_ _ _ e=>e) (λb ps e=>⟨#[],by rw[e];simp⟩) (λm hm=>?_) (λb u e=>?_) I.bare
 ·have e:=by simpa using hb
  subst e;exact⟨h1,hL,h2,h3⟩
 ·obtain⟨o,es,ep,ho,r⟩:=hm
  exact⟨o,es,ep,k _ o (ze hL) ho,r⟩
 ·refine(I.hok b u e).stay (λc v hc q=>k c v ?_ q) (λ_ q=>q) λ_ _ q=>q
  rcases hc with z | z
  ·rw[z];exact nit b u e
  ·exact nit c _ z
theorem Inv.tok (I:Inv X jM σ H s)(t:Nat):Inv X jM σ H { s with toks:=t }:=I.un Un.refl I.hok
theorem Inv.kept (I:Inv X jM σ H s)(k:∀b u,s.heap.get? b=some u->h'.get? b=some u):Inv X jM σ H { s with heap:=h',toks:=t' }:=I.un (Un.kept k) (I.hok.kept k)
theorem Inv.laid {a:Addr}(I:Inv X jM σ H s)(k:∀b u,s.heap.get? b=some u->h'.get? b=some u)(hp:s.heap.objs.size<=a)(new:Yq X.prog X.w (Zi H a o) h' a o) :
  Inv X jM σ (Zi H a o) { s with heap:=h',toks:=t' }:=I.un (Un.laid k hp (I.hok.fresh hp)) (I.hok.laid k hp new)
theorem Inv.write (I:Inv X jM σ H s)(mu:Mut (H x))(he:e=x∨H e=some (.own x))(k:∀b u,b≠e->s.heap.get? b=some u->h'.get? b=some u)(heo:∃u,h'.get? e=some u)
  (new:Yq X.prog X.w (Zi H x o) h' x o):Inv X jM σ (Zi H x o) { s with heap:=h',toks:=t' }:=I.un (Un.write mu he k heo) (I.hok.write mu he k heo new)
theorem Inv.pins_of (I:Inv X jM σ H s)(h:∀p∈pins',s.heap.get? p.1=some p.2/\H p.1=none/\p.1≠X.env.locals/\p.1∉X.fs/\∀v,p.2.data≠.cell v):Inv X pins' σ H s:=
 ⟨I.ok,I.os,I.bare,I.base,I.loc,I.cell,I.free,I.freeC,λp hp=>(qS.mp hp).elim (λz=>I.pin p (qM _ z)) (h p),I.hok,I.len⟩
theorem ZcQ {N:List Str}(hN:N.Nodup){i:Nat}(a:N[i]?=some x)(b:N[j]?=some x):i=j:=by
 obtain⟨h1,e1⟩:=qz.mp a;obtain⟨h2,e2⟩:=qz.mp b;exact(List.getElem_inj hN).mp (e1.trans e2.symm)
theorem Zi9 (I:Inv X jM σ H s)(hN:X.N.Nodup)(hi:X.N[i]?=some x)(hx:W3 X.env.scope x)(r:ZF v u)
  (h:∀s',Inv X jM (σ.set i (some v)) H s'->(∃a,zF a s.heap s'.heap/\(a=X.env.locals∨X.env.cells.lookup x=some a))->Q () s') (hf:X.fn x=true∨X.env.scope.names.lookup x=some .local:=by first | exact .inl rfl | exact .inr rfl | assumption):xf M A (storeName X.env x u) Q E s:=by
 obtain⟨m,hn,hl⟩:=id I.loc;have hcls:(X.env.scope.kind == .class||(X.env.scope.kind == .module&&X.env.locals != X.env.globals))=false:=by rw[I.ok.kind];rfl
 have hiσ:i < σ.length:=by rw[I.len];exact(qz.mp hi).1
 have cne:=I.cne;have tracked:∀{a:Addr} {h':Heap},(∃o,s.heap.get? a=some o/\H a=none)->zF a s.heap h'->Yp X.prog X.w H h':=λ{a h'} ha hs b ob e=>by
  obtain⟨_,_,hfree⟩:=ha;refine(I.hok b ob e).stay (λc w' hc q=>(hs.2 c ?_).trans q) (λ_ q=>q) λ_ _ q=>q;rintro rfl;rcases hc with rfl | hc
  ·rw[hfree]at e;cases e
  ·rw[hfree]at hc;cases hc
 rcases hx with hk | hk
 ·refine wpAny_storeName_local hk hn (λh' hn' hs=>?_) hcls
  obtain⟨oL,_,_,hoL,_⟩:=id hn;refine h _ ⟨I.ok,I.os,I.bare,⟨λb o e n hb hx=>?_,λb o e n hb hx=>?_,I.base.free,λb o e hx=>?_,I.base.tups,I.base.frzs,I.base.tbls⟩,⟨_,hn',λj y v' e1 e2 e3=>?_⟩,λy c e=>?_,I.free,I.freeC,λp hp=>?_,tracked ⟨oL,hoL,I.free⟩ hs,by simpa using I.len⟩ ⟨_,hs,.inl rfl⟩
  ·exact(hs.2 b (qA (qR (qy e) I.ok.above))).trans (I.base.keep b o e n hb hx)
  ·obtain⟨sl,e1⟩:=I.base.slot b o e n hb hx
   exact⟨sl,(hs.2 b (qA (qR (qy e) I.ok.above))).trans e1⟩
  ·obtain⟨o',e1⟩:=I.base.there b o e hx
   exact⟨o',(hs.2 b (qA (qR (qy e) I.ok.above))).trans e1⟩
  ·by_cases hj:j=i
   ·subst hj
    rw[hi]at e1;cases e1;rw[qV hiσ]at e2
    cases e2
    exact⟨u,r,.inl ⟨hk,by simp⟩⟩
   ·rw[qO (ze hj)]at e2
    obtain⟨u',r',q⟩:=hl j y v' e1 e2 e3;refine⟨u',r',?_⟩;rcases q with⟨k,e⟩ | ⟨k,c,e,z⟩
    ·refine .inl ⟨k,?_⟩
     have:y≠x:=λe=>hj (ZcQ hN e1 (e▸hi));simp[this,e]
    ·exact .inr ⟨k,c,e,z.sameBut hs (cne y c e)⟩
  ·obtain⟨w',z⟩:=I.cell y c e
   exact⟨w',z.sameBut hs (cne y c e)⟩
  ·obtain⟨e,n,ne,nf,d⟩:=I.pin p hp
   exact⟨(hs.2 p.1 ne).trans e,n,ne,nf,d⟩
 ·have hfn:X.fn x=true:=by
   rcases hf with z | z
   ·exact z
   ·rw[z]at hk;cases hk
  obtain⟨c,hc⟩:=I.ok.has x (.inl hk);obtain⟨w',z⟩:=I.cell x c hc;refine wpAny_storeName_cell I.ok.kind hk hc z (λh' hc' hs=>?_);obtain⟨oc,hoc,hocd⟩:=id z;refine h { s with heap:=h' } ⟨I.ok,I.os,I.bare,⟨λb o e n hb hx=>?_,λb o e n hb hx=>?_,I.base.free,λb o e hx=>?_,I.base.tups,I.base.frzs,I.base.tbls⟩,⟨m,hn.sameBut hs (ze (cne x c hc)),λj y v' e1 e2 e3=>?_⟩,λy c' e=>?_,I.free,I.freeC,λp hp=>?_,tracked ⟨oc,hoc,I.freeC x c hc⟩ hs,by simpa using I.len⟩ ⟨c,hs,.inr hc⟩
  ·exact(hs.2 b (qA (qR (qy e) (I.ok.cab x c hfn hc)))).trans (I.base.keep b o e n hb hx)
  ·obtain⟨sl,e1⟩:=I.base.slot b o e n hb hx
   exact⟨sl,(hs.2 b (qA (qR (qy e) (I.ok.cab x c hfn hc)))).trans e1⟩
  ·obtain⟨o',e1⟩:=I.base.there b o e hx
   exact⟨o',(hs.2 b (qA (qR (qy e) (I.ok.cab x c hfn hc)))).trans e1⟩
  ·by_cases hj:j=i
   ·subst hj
    rw[hi]at e1;cases e1;rw[qV hiσ]at e2
    cases e2
    exact⟨u,r,.inr ⟨.inl hk,c,hc,hc'⟩⟩
   ·rw[qO (ze hj)]at e2
    obtain⟨u',r',q⟩:=hl j y v' e1 e2 e3;refine⟨u',r',?_⟩;rcases q with q | ⟨k,c',e,z'⟩
    ·exact .inl q
    ·refine .inr ⟨k,c',e,z'.sameBut hs ?_⟩
     rintro rfl;exact hj (ZcQ hN e1 (I.ok.inj _ _ _ e hc▸hi))
  ·by_cases hcc:c'=c
   ·subst hcc;exact⟨_,hc'⟩
   ·obtain⟨w2,z2⟩:=I.cell y c' e
    exact⟨w2,z2.sameBut hs hcc⟩
  ·obtain⟨e,n,ne,nf,d⟩:=I.pin p hp
   refine⟨(hs.2 p.1 ?_).trans e,n,ne,nf,d⟩;intro q;simp_all
theorem ZbJ (I:Inv X jM σ H s)(hN:X.N.Nodup)(hi:X.N[i]?=some x)(hx:W3 X.env.scope x)(r:ZF v u)
  (h:∀s',Inv X jM (σ.set i (some v)) H s'->Q () s') (hf:X.fn x=true∨X.env.scope.names.lookup x=some .local:=by first | exact .inl rfl | exact .inr rfl | assumption):xf M A (storeName X.env x u) Q E s:=
 Zi9 I hN hi hx r (λs' I' _=>h s' I') hf
theorem Inv.call' (I:Inv X jM σ H s)(ho:s'.os=s.os)(u:Un (YE X.stack) ch H H' s.heap s'.heap)(hok:Yp X.prog X.w H' s'.heap)(hg:AllBare s'.gens)
  (hch:∀b∈ch,(b∈X.ex∨X.s₀.heap.objs.size<=b)/\b≠X.env.locals/\(∀x c,X.env.cells.lookup x=some c->c≠b)/\∀p∈X.pn++jM,p.1≠b):Inv X jM σ H' s':=by
 obtain⟨h',g',d',t',o'⟩:=s';have e:=ho;subst e;exact I.call u hok hg hch
end
abbrev XK:=Value->Option Addr->Hp->Prop
abbrev St:=List (Option V)
abbrev VK:=V->Hp->Prop
abbrev TE:=St->Hp->VK->Prop
abbrev TT:=St->Hp->(Bool->Hp->Prop)->Prop
abbrev TA:=St->Hp->(List V->Hp->Prop)->Prop
structure Ends where
 nx:St->Hp->Prop
 rt:VK
 bk:St->Hp->Prop:=λ_ _=>False
 ct:St->Hp->Prop:=λ_ _=>False
abbrev TS:=Ends->St->Hp->Prop
def EP (X:Cx)(jM:Qb)(σ:St)(Q:VK)(u:Value)(s':Shared):Prop:=∃v H',Inv X jM σ H' s'/\ZF v u/\Q v H'
def TP (X:Cx)(jM:Qb)(σ:St)(Q:Bool->Hp->Prop)(b:Bool)(s':Shared):Prop:=∃H',Inv X jM σ H' s'/\Q b H'
def AP (X:Cx)(jM:Qb)(σ:St)(Q:List V->Hp->Prop)(us:List Value)(s':Shared):Prop:=∃vs H',Inv X jM σ H' s'/\ZB vs us/\Q vs H'
def SP (X:Cx)(jM:Qb)(D:Ends)(f:Flow)(s':Shared):Prop:=
 match f with
 | .next=>∃σ' H',Inv X jM σ' H' s'/\D.nx σ' H'
 | .brk=>∃σ' H',Inv X jM σ' H' s'/\D.bk σ' H'
 | .cont=>∃σ' H',Inv X jM σ' H' s'/\D.ct σ' H'
 | .ret u=>∃v σ' H',Inv X jM σ' H' s'/\ZF v u/\D.rt v H'
def PE (X:Cx)(e:Expr)(t:TE):Prop:=
 ∀(jM:Qb) (s:Shared) (σ:St) (H:Hp) (Q:VK),Inv X jM σ H s->t σ H Q->xf (xz X.prog X.w) X.A (eval e X.env) (EP X jM σ Q) X.xe s
def PT (X:Cx)(e:Expr)(t:TT):Prop:=
 ∀(jM:Qb) (s:Shared) (σ:St) (H:Hp) (Q:Bool->Hp->Prop),Inv X jM σ H s->t σ H Q->xf (xz X.prog X.w) X.A (isTrue e X.env (eval e X.env)) (TP X jM σ Q) X.xe s
def PW (X:Cx)(e:Expr)(t:TT):Prop:=
 ∀(whole:Sem Value) (jM:Qb) (s:Shared) (σ:St) (H:Hp) (Q:Bool->Hp->Prop),Inv X jM σ H s->t σ H Q->xf (xz X.prog X.w) X.A (isTrue e X.env whole) (TP X jM σ Q) X.xe s
theorem PW.pt (h:PW X e t):PT X e t:=h _
def PA (X:Cx)(es:List Expr)(t:TA):Prop:=
 ∀(pos:Pos) (jM:Qb) (s:Shared) (σ:St) (H:Hp) (Q:List V->Hp->Prop),Inv X jM σ H s->t σ H Q->xf (xz X.prog X.w) X.A (spliced (backTo pos (xh es X.env))) (AP X jM σ Q) X.xe s
def PS (X:Cx)(st:Stmt)(t:TS):Prop:=
 ∀(jM:Qb) (s:Shared) (σ:St) (H:Hp) (D:Ends),Inv X jM σ H s->t D σ H->xf (xz X.prog X.w) X.A (exec st X.env) (SP X jM D) X.xe s
def XC (X:Cx)(st:List Stmt)(t:TS):Prop:=
 ∀(jM:Qb) (s:Shared) (σ:St) (H:Hp) (D:Ends),Inv X jM σ H s->t D σ H->xf (xz X.prog X.w) X.A (execs st X.env) (SP X jM D) X.xe s
theorem ZJ {t:Sem α}{Q Q':α->Shared->Prop}(h:xf M A t Q E s)(hQ:∀a s,Q a s->Q' a s):xf M A t Q' E s:=xc h hQ λ_ _ x=>x
section
variable {X:Cx}
def ZY (i:Nat):TE:=fun σ H Q=>∃v,σ[i]?=some (some v)/\Q v H
def tC (v:V):TE:=λ_ H Q=>Q v H
theorem Zon {pos:Pos}(hN:X.N[i]?=some x)(hv:Vis X.env.scope x)(hd:(x==("__debug__" : Str))=false:=by decide)(hcd:(x==("__classdict__" : Str))=false:=by decide):PE X (.Name x pos) (ZY i):=by
 intro jM s σ H Q I h;obtain⟨v,e,h⟩:=h;obtain⟨m,hn,hl⟩:=I.loc;obtain⟨u,r,l⟩:=hl i x v hN e hv;have fin:EP X jM σ Q u s:=⟨v,H,I,r,h⟩;rcases l with⟨hk,hm⟩ | ⟨hk,c,hc,hcell⟩
 ·exact wpAny_Name (wpAny_loadName_local I.ok.kind hk hn hm fin) hd
 ·rcases hk with hk | hk
  ·exact wpAny_Name (wpAny_loadName_cell I.ok.kind hk hc hcell fin) hd
  ·exact wpAny_Name (wpAny_loadName_free I.ok.kind hk hc hcell fin hcd) hd
theorem Xd:PE X (.Constant (.int i) j pos) (tC (.int i)):=λ_ _ _ H _ I h=>wpAny_Constant_int ⟨.int i,H,I.tok _,⟨_,rfl⟩,h⟩
theorem Zpv:PE X (.Constant (.bool b) j pos) (tC (.bl b)):=λ_ _ _ H _ I h=>Constant_bool ⟨.bl b,H,I,rfl,h⟩
theorem Zg5:PE X (.Constant .none j pos) (tC .non):=λ_ _ _ H _ I h=>Constant_none ⟨.non,H,I,rfl,h⟩
theorem XS:PE X (.Constant (.str x) j pos) (tC (.str x)):=λ_ _ _ H _ I h=>Calls.Constant_str ⟨.str x,H,I.tok _,⟨_,rfl⟩,h⟩
def Gl (X:Cx)(x:Str):Prop:=X.env.kindOf x=some .globalImplicit
theorem Bz {σ:St}(I:Inv X jM σ H s)(hg:Gl X x)(hm:X.mg x=some u)(h:Q u s)
  (hd:(x==("__debug__" : Str))=false:=by decide):xf (xz X.prog X.w) X.A (eval (.Name x pos) X.env) Q E s:=
 qbf I.ok.kind hg (Calls.loadGlobal_global (by rw[I.ok.glob];exact I.mod.glob.keeps I.bk) hm h) hd
theorem UB {E:xD}{σ:St}{pos:Pos}(I:Inv X jM σ H s)(hg:Gl X x)(hm:X.mg x=none)(hv:xj x=some u)(h:Q u s)
  (hn:x≠"__name__":=by decide) (hd:(x==("__debug__" : Str))=false:=by decide):xf (xz X.prog X.w) X.A (eval (.Name x pos) X.env) Q E s:=by
 obtain⟨mb,h1,h2⟩:=I.mod.blt;exact qbf I.ok.kind hg (Calls.loadGlobal_builtin (by rw[I.ok.glob];exact I.mod.glob.keeps I.bk) hm (by rw[I.ok.blt];exact h1.keeps I.bk) ((h2 x hn).trans hv) h) hd
theorem BA (hg:Gl X x)(hm:X.mg x=some u)(r:ZF v u)(hd:(x==("__debug__" : Str))=false:=by decide):PE X (.Name x pos) (tC v):=
 λ_ _ _ H _ I h=>Bz I hg hm ⟨v,H,I,r,h⟩ hd
theorem Zh9 {pos:Pos}(hg:Gl X x)(hm:X.mg x=none)(hv:xj x=some u)(r:ZF v u)(hn:x≠"__name__":=by decide)(hd:(x==("__debug__" : Str))=false:=by decide):PE X (.Name x pos) (tC v):=
 λ_ _ _ H _ I h=>UB I hg hm hv ⟨v,H,I,r,h⟩ hn hd
variable {a b:Expr}{ta tb:TE}{pos:Pos}
def tB (t:TE):TT:=fun σ H Q=>t σ H λx H1=>∃c,x=.bl c/\Q c H1
theorem Zoo (h:PE X e t)(he:∀whole,isTrue e X.env whole=(do let v<-whole;standAt e.pos;holding [v] (truthy v)):=by intro _;rfl):PT X e (tB t):=by
 intro jM s σ H Q I hw;refine isTrue_plain (ZJ (h jM s σ H _ I hw) λv s1 ⟨x,H1,I1,r1,q1⟩=>?_) (he _);obtain⟨d,rfl,q⟩:=q1
 cases r1
 exact wpAny_truthy_bool ⟨H1,I1,q⟩
variable {tA tB':TT}{rest:List Expr}
def tAnd (t u:TT):TT:=fun σ H Q=>t σ H λc H1=>if c=true then u σ H1 Q else Q false H1
def tOr (t u:TT):TT:=fun σ H Q=>t σ H λc H1=>if c=true then Q true H1 else u σ H1 Q
def tNot (t:TT):TT:=fun σ H Q=>t σ H λc H1=>Q (!c) H1
theorem Zia (ha:PT X a tA):PW X (.BoolOp .And [a] pos) tA:=by
 intro wh jM s σ H Q I h;refine isTrue_and (ZJ (ha jM s σ H Q I h) λc s1 e=>?_)
 cases c with
 | true=>exact isTrue_and_nil e
 | false=>exact e
theorem Zop (ha:PT X a tA):PW X (.BoolOp .Or [a] pos) tA:=by
 intro wh jM s σ H Q I h;refine isTrue_or (ZJ (ha jM s σ H Q I h) λc s1 e=>?_)
 cases c with
 | false=>exact isTrue_or_nil e
 | true=>exact e
theorem ZkA (ha:PT X a tA)(hb:PW X (.BoolOp .And (b::rest) pos) tB'):PW X (.BoolOp .And (a::b::rest) pos) (tAnd tA tB'):=by
 intro wh jM s σ H Q I h;refine isTrue_and (ZJ (ha jM s σ H _ I h) λc s1 ⟨H1,I1,q1⟩=>?_)
 cases c with
 | true=>exact hb wh jM s1 σ H1 Q I1 q1
 | false=>exact⟨H1,I1,q1⟩
theorem Zpw (ha:PT X a tA)(hb:PW X (.BoolOp .Or (b::rest) pos) tB'):PW X (.BoolOp .Or (a::b::rest) pos) (tOr tA tB'):=by
 intro wh jM s σ H Q I h;refine isTrue_or (ZJ (ha jM s σ H _ I h) λc s1 ⟨H1,I1,q1⟩=>?_)
 cases c with
 | true=>exact⟨H1,I1,q1⟩
 | false=>exact hb wh jM s1 σ H1 Q I1 q1
theorem Zoq (ha:PT X a tA):PT X (.UnaryOp .Not a pos) (tNot tA):=by
 intro jM s σ H Q I h;exact isTrue_not (ha jM s σ H (λc H1=>Q (!c) H1) I h)
def Zpx (ta tb:TE):TE:=fun σ H Q=>ta σ H λx H1=>∃c,x=.bl c/\if c=true then tb σ H1 Q else Q (.bl false) H1
def tOrV (ta tb:TE):TE:=fun σ H Q=>ta σ H λx H1=>∃c,x=.bl c/\if c=true then Q (.bl true) H1 else tb σ H1 Q
def Zpy (ta:TE):TE:=fun σ H Q=>ta σ H λx H1=>∃c,x=.bl c/\Q (.bl (!c)) H1
theorem Zg6 (h:PE X a t):PE X (.BoolOp op [a] pos) t:=λjM s σ H Q I hw=>BoolOp_one (h jM s σ H Q I hw)
theorem ZkB (ha:PE X a ta)(hb:PE X (.BoolOp .And (b::rest) pos) tb):PE X (.BoolOp .And (a::b::rest) pos) (Zpx ta tb):=by
 intro jM s σ H Q I h;refine BoolOp_and (ZJ (ha jM s σ H _ I h) λv s1 ⟨x,H1,I1,r1,q1⟩=>?_);obtain⟨c,rfl,q1⟩:=q1
 cases r1
 refine wpAny_truthy_bool ?_
 cases c with
 | true=>exact hb jM s1 σ H1 Q I1 q1
 | false=>exact⟨.bl false,H1,I1,rfl,q1⟩
theorem ZnO (ha:PE X a ta)(hb:PE X (.BoolOp .Or (b::rest) pos) tb):PE X (.BoolOp .Or (a::b::rest) pos) (tOrV ta tb):=by
 intro jM s σ H Q I h;refine BoolOp_or (ZJ (ha jM s σ H _ I h) λv s1 ⟨x,H1,I1,r1,q1⟩=>?_);obtain⟨c,rfl,q1⟩:=q1
 cases r1
 refine wpAny_truthy_bool ?_
 cases c with
 | false=>exact hb jM s1 σ H1 Q I1 q1
 | true=>exact⟨.bl true,H1,I1,rfl,q1⟩
theorem Zg7 (ha:PE X a ta):PE X (.UnaryOp .Not a pos) (Zpy ta):=by
 intro jM s σ H Q I h;refine UnaryOp_ (ZJ (ha jM s σ H _ I h) λv s1 ⟨x,H1,I1,r1,q1⟩=>?_);obtain⟨c,rfl,q1⟩:=q1
 cases r1
 exact not_of (wpAny_truthy_bool ⟨.bl (!c),H1,I1,rfl,q1⟩)
def tIf (t:TT)(ta tb:TE):TE:=fun σ H Q=>t σ H λc H1=>if c=true then ta σ H1 Q else tb σ H1 Q
theorem ZkC (hc:PT X c tA)(ha:PE X a ta)(hb:PE X b tb):PE X (.IfExp c a b pos) (tIf tA ta tb):=by
 intro jM s σ H Q I h;refine wpAny_IfExp (ZJ (hc jM s σ H _ I h) λd s1 ⟨H1,I1,q1⟩=>?_)
 cases d with
 | true=>exact ha jM s1 σ H1 Q I1 q1
 | false=>exact hb jM s1 σ H1 Q I1 q1
end
def ZD (K:qd)(H:Hp)(a:Addr)(xs:List V):Prop:=
 Rd H a (.lst xs)∨
  ∃(o:Obj) (jO:Array Value) (n:Nat),K.lookup a=some o/\o.cls=.type "list"/\o.dict=none/\o.data=.seq jO n/\jO.size<=xg/\ZB xs jO.toList
def ZO (K:qd)(H:Hp)(a:Addr)(xs:List V):Prop:=
 Rd H a (.tup xs)∨
  ∃(o:Obj) (jO:Array Value) (n:Nat),K.lookup a=some o/\o.cls=.type "tuple"/\o.data=.seq jO n/\jO.size<=xg/\ZB xs jO.toList
def absV:Value->Option V
 | .none=>some .non
 | .bool b=>some (.bl b)
 | .int i _=>some (.int i)
 | .str x _=>some (.str x)
 | .bytes b _=>some (.byt b)
 | .float b _=>some (.flt b)
 | .ref a=>some (.ref a)
 | .type n=>some (.ty n)
 | _=>none
theorem ZF.abs (r:ZF x u):absV u=some x:=by
 cases x with
 | non=>cases r;rfl
 | bl _=>cases r;rfl
 | int _=>obtain⟨t,rfl⟩:=r;rfl
 | str _=>obtain⟨t,rfl⟩:=r;rfl
 | byt _=>obtain⟨t,rfl⟩:=r;rfl
 | flt _=>obtain⟨t,rfl⟩:=r;rfl
 | ref _=>cases r;rfl
 | ty _=>cases r;rfl
theorem ZF.inj (r:ZF x u)(q:ZF y u):x=y:=zG (r.abs.symm.trans q.abs)
theorem ZB.inj:∀{xs ys:List V} {us:List Value},ZB xs us->ZB ys us->xs=ys
 | _,_,_,.nil,.nil=>rfl
 | _,_,_,.cons r t,.cons r' t'=>by rw[r.inj r',ZB.inj t t']
section
variable {X:Cx}{jM:Qb}{σ:St}{H:Hp}{s:Shared}{a:Addr}{xs ys:List V}
theorem ZD.of {K:qd}(h:H a=some (.lst xs)):ZD K H a xs:=.inl (.inl h)
theorem ZO.of {K:qd}(h:H a=some (.tup xs)):ZO K H a xs:=.inl (.inl h)
theorem Inv.list (I:Inv X jM σ H s)(h:ZD X.K H a xs):∃jO:List Value,ZB xs jO/\PlainL s.heap a jO.toArray/\xs.length<=xg:=by
 rcases h with h | ⟨o,jO,n,hk,hc,hd,hs,hz,r⟩
 ·obtain⟨z,jO,n,r,e⟩:=h.ok I.hok
  exact⟨jO,r,⟨_,n,e,rfl,rfl,rfl⟩,z⟩
 ·refine⟨jO.toList,r,⟨o,n,I.kIn a o hk,hc,hd,by omega⟩,?_⟩
  have e:=r.length
  grind
theorem Inv.tuple (I:Inv X jM σ H s)(h:ZO X.K H a xs):∃jO:List Value,ZB xs jO/\IsTup s.heap a jO.toArray/\xs.length<=xg:=by
 rcases h with h | ⟨o,jO,n,hk,hc,hs,hz,r⟩
 ·obtain⟨z,jO,r,p⟩:=h.ok I.hok
  exact⟨jO,r,p,z⟩
 ·refine⟨jO.toList,r,⟨o,I.kIn a o hk,hc,n,by omega⟩,?_⟩
  have e:=r.length;simp_all
theorem Inv.list_inj (I:Inv X jM σ H s)(h:ZD X.K H a xs)(h':ZD X.K H a ys):xs=ys:=by
 obtain⟨jO,r,⟨o,n,e,_,_,d⟩,_⟩:=I.list h;obtain⟨its',r',⟨o',n',e',_,_,d'⟩,_⟩:=I.list h';have:jO=its':=by grind
 subst this;exact r.inj r'
theorem Inv.tuple_inj (I:Inv X jM σ H s)(h:ZO X.K H a xs)(h':ZO X.K H a ys):xs=ys:=by
 obtain⟨jO,r,⟨o,e,_,n,d⟩,_⟩:=I.tuple h;obtain⟨its',r',⟨o',e',_,n',d'⟩,_⟩:=I.tuple h';have:jO=its':=by grind
 subst this;exact r.inj r'
end
abbrev Cx.wish (X:Cx)(E:xD):Cx:={ X with xe:=E }
abbrev Cx.nox (X:Cx):Cx:=X.wish λ_ _=>False
theorem Cx.Ok.wish {X:Cx}(ok:X.Ok)(E:xD):(X.wish E).Ok:=
 ⟨ok.mod,ok.kind,ok.glob,ok.blt,ok.above,ok.inj,ok.has,ok.cab,ok.hd,ok.frames,ok.stk,ok.exf,ok.bs,ok.bsz,ok.noex,ok.exfs,ok.funs,ok.frf⟩
theorem Cx.Ok.unwish {X:Cx}(ok:(X.wish E).Ok):X.Ok:=
 ⟨ok.mod,ok.kind,ok.glob,ok.blt,ok.above,ok.inj,ok.has,ok.cab,ok.hd,ok.frames,ok.stk,ok.exf,ok.bs,ok.bsz,ok.noex,ok.exfs,ok.funs,ok.frf⟩
section
variable {X:Cx}{jM:Qb}{σ:St}{H:Hp}{s:Shared}{E:xD}
theorem Inv.wish (I:Inv X jM σ H s)(E:xD):Inv (X.wish E) jM σ H s:=⟨I.ok.wish E,I.os,I.bare,I.base,I.loc,I.cell,I.free,I.freeC,I.pin,I.hok,I.len⟩
theorem Inv.unwish (I:Inv (X.wish E) jM σ H s):Inv X jM σ H s:=⟨I.ok.unwish,I.os,I.bare,I.base,I.loc,I.cell,I.free,I.freeC,I.pin,I.hok,I.len⟩
theorem SP.unwish (h:SP (X.wish E) jM D f s'):SP X jM D f s':=by
 cases f with
 | next=>obtain⟨σ',H',I,q⟩:=h;exact⟨σ',H',I.unwish,q⟩
 | brk=>obtain⟨σ',H',I,q⟩:=h;exact⟨σ',H',I.unwish,q⟩
 | cont=>obtain⟨σ',H',I,q⟩:=h;exact⟨σ',H',I.unwish,q⟩
 | ret u=>obtain⟨v,σ',H',I,r,q⟩:=h;exact⟨v,σ',H',I.unwish,r,q⟩
theorem PE.nox (h:PE X.nox e t):PE X e t:=λjM s σ H Q I hw=>
 xc (h jM s σ H Q (I.wish _) hw) (λ_ _ ⟨v,H',I',r,q⟩=>⟨v,H',I'.unwish,r,q⟩) λ_ _ z=>zj z
theorem PT.nox (h:PT X.nox e t):PT X e t:=λjM s σ H Q I hw=>
 xc (h jM s σ H Q (I.wish _) hw) (λ_ _ ⟨H',I',q⟩=>⟨H',I'.unwish,q⟩) λ_ _ z=>zj z
theorem XC.nox {st:List Stmt}(h:XC X.nox st t):XC X st t:=λjM s σ H D I hw=>
 xc (h jM s σ H D (I.wish _) hw) (λ_ _ q=>q.unwish) λ_ _ z=>zj z
end
section
variable {X:Cx}{st:Stmt}{rest:List Stmt}{t u:TS}{e:Expr}{te:TE}{pos:Pos}
def ZkD:TS:=λD σ H=>D.nx σ H
def Vv (t u:TS):TS:=λD σ H=>t { D with nx:=u D } σ H
theorem BB:XC X [] ZkD:=λ_ _ σ H _ I h=>wpAny_execs_nil ⟨σ,H,I,h⟩
theorem Xg (h1:PS X st t)(h2:XC X rest u):XC X (st::rest) (Vv t u):=by
 intro jM s σ H D I h;refine wpAny_execs_cons (ZJ (h1 jM s σ H { D with nx:=u D } I h) λf s1 q=>?_)
 cases f with
 | next=>
  obtain⟨σ',H',I',q⟩:=q;exact h2 jM s1 σ' H' D I' q
 | ret v=>exact q
 | brk=>exact q
 | cont=>exact q
theorem W9 (h1:PS X st t):XC X [st] t:=by
 intro jM s σ H D I h;refine wpAny_execs_cons (ZJ (h1 jM s σ H D I h) λf s1 q=>?_)
 cases f with
 | next=>exact wpAny_execs_nil q
 | ret v=>exact q
 | brk=>exact q
 | cont=>exact q
theorem Inv.quiet {σ:St}(I:Inv X jM σ H s):interactive X.env=false:=by simp[interactive,I.ok.kind]
def VP (te:TE):TS:=λD σ H=>te σ H λ_ H1=>D.nx σ H1
theorem BC (he:PE X e te)(hs:xr e none pos.line X.env=pure false:=by rfl):PS X (.Expr e pos) (VP te):=by
 intro jM s σ H D I h;exact wpAny_Expr_any (ZJ (he jM s σ H _ I h) λv s1 ⟨x,H1,I1,r1,q1⟩=>⟨σ,H1,I1,q1⟩) I.quiet hs
def tRet (te:TE):TS:=λD σ H=>te σ H D.rt
theorem Uc (he:PE X e te):PS X (.Return (some e) pos) (tRet te):=by
 intro jM s σ H D I h;exact wpAny_Return_some (ZJ (he jM s σ H _ I h) λv s1 ⟨x,H1,I1,r1,q1⟩=>⟨x,σ,H1,I1,r1,q1⟩)
def tIfS (c:TT)(t u:TS):TS:=λD σ H=>c σ H λb H1=>if b=true then t D σ H1 else u D σ H1
theorem BX (hc:PT X c tc)(ha:XC X a t)(hb:XC X b u):PS X (.If c a b pos) (tIfS tc t u):=by
 intro jM s σ H D I h;refine wpAny_If (ZJ (hc jM s σ H _ I h) λd s1 ⟨H1,I1,q1⟩=>?_)
 cases d with
 | true=>exact ha jM s1 σ H1 D I1 q1
 | false=>exact hb jM s1 σ H1 D I1 q1
end
abbrev TG:=V->St->Hp->(St->Hp->Prop)->Prop
abbrev TGs:=List V->St->Hp->(St->Hp->Prop)->Prop
def PG (X:Cx)(target:Expr)(t:TG):Prop:=
 ∀(jM:Qb) (s:Shared) (σ:St) (H:Hp) (v:V) (u:Value) (Q:St->Hp->Prop),Inv X jM σ H s->ZF v u->t v σ H Q->
  xf (xz X.prog X.w) X.A (assign target X.env u) (λ_ s'=>∃σ' H',Inv X jM σ' H' s'/\Q σ' H') X.xe s
def Bb (X:Cx)(ts:List Expr)(t:TGs):Prop:=
 ∀(jM:Qb) (s:Shared) (σ:St) (H:Hp) (vs:List V) (us:List Value) (Q:St->Hp->Prop),Inv X jM σ H s->ZB vs us->t vs σ H Q->
  xf (xz X.prog X.w) X.A (assignInOrder ((assignEach ts X.env).map (·.2)) us) (λ_ s'=>∃σ' H',Inv X jM σ' H' s'/\Q σ' H') X.xe s
abbrev TSet:=V->V->V->Hp->(Hp->Prop)->Prop
def PSet (X:Cx)(t:TSet):Prop:=
 ∀(jM:Qb) (s:Shared) (σ:St) (H:Hp) (o i v:V) (ov iv u:Value) (Q:Hp->Prop),Inv X jM σ H s->ZF o ov->ZF i iv->ZF v u->t o i v H Q->
  xf (xz X.prog X.w) X.A (setItem ov iv u) (λ_ s'=>∃H',Inv X jM σ H' s'/\Q H') X.xe s
section
variable {X:Cx}{pos:Pos}
def Wj (i:Nat):TG:=λv σ H Q=>Q (σ.set i (some v)) H
theorem WM (hN:X.N.Nodup)(hi:X.N[i]?=some x)(hx:W3 X.env.scope x)(hf:X.fn x=true∨X.env.scope.names.lookup x=some .local:=by first | exact .inl rfl | exact .inr rfl | assumption):PG X (.Name x pos) (Wj i):=by
 intro jM s σ H v u Q I r h;exact wpAny_assign_Name (ZbJ I hN hi hx r (λs' I'=>⟨_,H,I',h⟩) hf)
def gNil:TGs:=λvs σ H Q=>vs=[]/\Q σ H
def JV (t:TG)(u:TGs):TGs:=λvs σ H Q=>∃v r,vs=v::r/\t v σ H fun σ' H'=>u r σ' H' Q
theorem ZcE:Bb X [] gNil:=by
 intro jM s σ H vs us Q I r h;obtain⟨e,h⟩:=h;exact assignInOrder_nil ⟨σ,H,I,h⟩
theorem V8 (h1:PG X e t)(h2:Bb X es u)
  (hs:(assignEach (e::es) X.env).map (·.2)=assign e X.env::(assignEach es X.env).map (·.2):=by rfl):Bb X (e::es) (JV t u):=by
 intro jM s σ H vs us Q I r h;obtain⟨v,vr,e1,h⟩:=h;subst e1
 cases r with
 | cons r rr=>
  rw[hs];refine assignInOrder_cons (ZJ (h1 jM s σ H _ _ _ I r h) λ_ s1 ⟨σ1,H1,I1,q1⟩=>?_);exact h2 jM s1 σ1 H1 _ _ Q I1 rr q1
def gTup (K:qd)(n:Nat)(t:TGs):TG:=λv σ H Q=>∃a xs,v=.ref a/\ZO K H a xs/\xs.length=n/\t xs σ H Q
theorem ZkE {k:Nat}(hc:X.calm=true)(h:Bb X es t)
  (hn:(assignEach es X.env).length=n:=by rfl) (hst:(assignEach es X.env).findIdx? (·.1)=none:=by rfl):PG X (.Tuple es k pos) (gTup X.K n t):=by
 intro jM s σ H v u Q I r hw;obtain⟨a,xs,e1,hq,hl,hw⟩:=hw;subst e1
 cases r
 obtain⟨jO,rv,ht,hz⟩:=I.tuple hq;refine assign_Tuple_tuple (I.ok.hd hc) ht (by simp[hn,<-hl,rv.length]) hst λh' hx=>?_;have I1:Inv X jM σ H { s with heap:=h' }:=I.kept λb o e=>hx b o (qA (qy e)) e;exact h jM _ σ H xs _ Q I1 (by omega) hw
def gSub (to ti:TE)(t:TSet):TG:=λv σ H Q=>to σ H λo H1=>ti σ H1 λi H2=>t o i v H2 λH3=>Q σ H3
theorem Zor (ho:PE X o to)(hi:PE X i ti)(hs:PSet X t)
  (ha:∀v,assign (.Subscript o i pos) X.env v=(do
   let ov<-holding [v] (eval o X.env)
   let iv<-holding [v,ov] (eval i X.env)
   standAt pos
   holding [v,ov,iv] (setItem ov iv v)
   release [v,ov,iv] []):=by intro _;rfl):PG X (.Subscript o i pos) (gSub to ti t):=by
 intro jM s σ H v u Q I r h;rw[ha];refine xa (xu (ZJ (ho jM s σ H _ I h) λov s1 ⟨x,H1,I1,r1,q1⟩=>?_));refine xa (xu (ZJ (hi jM s1 σ H1 _ I1 q1) λiv s2 ⟨y,H2,I2,r2,q2⟩=>?_));refine xa (wpAny_standAt (xa (xu (ZJ (hs jM s2 σ H2 x y v ov iv u _ I2 r1 r2 r q2) λ_ s3 ⟨H3,I3,q3⟩=>?_))));exact wpAny_release ⟨σ,H3,I3,q3⟩
def Uo (te:TE)(g:TG):TS:=λD σ H=>te σ H λx H1=>g x σ H1 D.nx
theorem ZkF (he:PE X e te)(hg:PG X tg g)(hs:swapsWithSole [tg] e pos.line X.env=pure false:=by rfl)(hw:swappedStores [tg] e X.env=pure none:=by rfl)
  (h1:(assignEach [tg] X.env).map (·.2)=[assign tg X.env]:=by rfl):PS X (.Assign [tg] e pos) (Uo te g):=by
 intro jM s σ H D I h;refine wpAny_Assign_stores (ZJ (he jM s σ H _ I h) λv s1 ⟨x,H1,I1,r1,q1⟩=>?_) hs hw;rw[h1];exact ZJ (hg jM s1 σ H1 x v _ I1 r1 q1) λ_ s2 q=>q
theorem WE (hN:X.N.Nodup)(hi:X.N[i]?=some x)(hx:W3 X.env.scope x)(he:PE X e te)(hs:xr e (some (.Name x pos')) pos.line X.env=pure false:=by rfl)(hf:X.fn x=true∨X.env.scope.names.lookup x=some .local:=by first | exact .inl rfl | exact .inr rfl | assumption) :
  PS X (.Assign [.Name x pos'] e pos) (Uo te (Wj i)):=by
 intro jM s σ H D I h;refine wpAny_Assign_Name (ZJ (he jM s σ H _ I h) λv s1 ⟨y,H1,I1,r1,q1⟩=>?_) hs;exact ZbJ I1 hN hi hx r1 (λs2 I2=>⟨_,H1,I2,q1⟩) hf
end
section
variable {X:Cx}{pos:Pos}
def Zos (c:TT)(tb:TS):TS:=λD σ H=>∃W:Nat->St->Hp->Prop,(∃m,W m σ H)/\∀m σ H,W m σ H->
 c σ H λb H1=>if b=true then ∃N:St->Hp->Prop,(∀σ' H',N σ' H'->∃m',m'<m/\W m' σ' H')/\tb { D with nx:=N,ct:=N,bk:=D.nx } σ H1 else D.nx σ H1
theorem ZkG (hp:PassesOwn (xz X.prog X.w) X.A X.env X.xe)(hc:PT X c tc)(hb:XC X body tb):PS X (.While c body [] pos) (Zos tc tb):=by
 intro jM s σ H D I h;obtain⟨W,⟨m0,w0⟩,turn⟩:=h;refine wpAny_While (codeAny_whileLoop (λn s'=>∃σ' H',Inv X jM σ' H' s'/\W n σ' H') ?_ m0 ⟨σ,H,I,w0⟩);rintro n s1 ⟨σ1,H1,I1,w1⟩;refine wpAny_passesOwn hp (ZJ (hc jM s1 σ1 H1 _ I1 (turn n σ1 H1 w1)) λb s2 ⟨H2,I2,q2⟩=>?_)
 cases b with
 | true=>
  obtain⟨N,hN,q2⟩:=q2;refine wpAny_passesOwn hp (ZJ (hb jM s2 σ1 H2 _ I2 q2) λf s3 q3=>?_)
  cases f with
  | next=>
   obtain⟨σ3,H3,I3,n3⟩:=q3;obtain⟨m',hm,w3⟩:=hN σ3 H3 n3;exact⟨m',hm,σ3,H3,I3,w3⟩
  | cont=>
   obtain⟨σ3,H3,I3,n3⟩:=q3;obtain⟨m',hm,w3⟩:=hN σ3 H3 n3;exact⟨m',hm,σ3,H3,I3,w3⟩
  | brk=>exact q3
  | ret v=>exact q3
 | false=>
  exact wpAny_execs_nil ⟨σ1,H2,I2,q2⟩
end
structure It where
 go:Nat->Hp->Prop
 yld:Nat->Hp->V->Hp->Prop
 stop:Nat->Hp->Prop
def WI (X:Cx)(jM:Qb)(H:Hp)(b:Addr):Prop:=
 H b=none/\b≠X.env.locals/\b∉X.fs/\(b∈X.ex∨X.s₀.heap.objs.size<=b)/\(∀x c,X.env.cells.lookup x=some c->c≠b)/\∀p∈X.pn++jM,p.1≠b
theorem Inv.fpOk {σ:St}{b:Addr}(I:Inv X jM σ H s)(hb:s.heap.objs.size<=b)(hn:H' b=none):WI X jM H' b:=by
 refine⟨hn,qaj (qR I.lt hb),I.nofs hb,.inr (qY I.sz hb),λx c e z=>?_,λp hp z=>?_⟩
 ·obtain⟨v,q⟩:=I.cell x c e
  exact absurd (qR q.lt (by simp_all)) (ye _)
 ·exact absurd (qR (qy (I.pin p hp).1) (by simp_all)) (ye _)
structure Turn (P:xB)(w:World)(K:qd)(tg:Expr)(J:It)(fp:List Addr)(it:Addr)(tn:Nat->Heap->Prop):Prop where
 mem:it∈fp
 obj:∀i h,tn i h->∀b∈fp,∃o,h.get? b=some o/\∀v,o.data≠.cell v
 keep:∀i h h',tn i h->(∀b∈fp,∀o,h.get? b=some o->h'.get? b=some o)->tn i h'
 item:∀(X:Cx),X.prog=P->X.w=w->X.K=K->X.calm=true->∀(i:Nat) (jM:Qb) (s:Shared) (σ:St) (H:Hp) (E:xD),Inv X jM σ H s->(∀b∈fp,WI X jM H b)->tn i s.heap->J.go i H->
  xf (xz P w) X.A (pyNext (.ref it)) (λr s1=>∃u,r=some u/\
   xf (xz P w) X.A (letOwnedTupleGo tg (.ref it) u) (λ_ s2=>∃x H',Inv X jM σ H' s2/\ZF x u/\J.yld i H x H'/\tn (i+1) s2.heap/\∀b∈fp,H' b=none) E s1) E s
 done:∀(X:Cx),X.prog=P->X.w=w->X.K=K->X.calm=true->∀(i:Nat) (jM:Qb) (s:Shared) (σ:St) (H:Hp) (E:xD),Inv X jM σ H s->(∀b∈fp,WI X jM H b)->tn i s.heap->J.stop i H->
  xf (xz P w) X.A (pyNext (.ref it)) (λr s1=>r=none/\Inv X jM σ H s1) E s
 self:∀(A:xC) (i:Nat) (s:Shared) (Q:xD) (E:xD),tn i s.heap->Q (.ref it) s->xf (xz P w) A (pyIter (.ref it)) Q E s
abbrev TI:=St->Hp->(It->Hp->Prop)->Prop
def PIE (X:Cx)(jM:Qb)(σ:St)(tg:Expr)(R:It->Hp->Prop)(itv:Value)(s2:Shared):Prop:=
 ∃(it:Addr) (fp:List Addr) (tn:Nat->Heap->Prop) (J:It) (H':Hp),itv=.ref it/\Inv X jM σ H' s2/\Turn X.prog X.w X.K tg J fp it tn/\tn 0 s2.heap/\(∀b∈fp,WI X jM H' b)/\R J H'
def PI (X:Cx)(tg iter:Expr)(wi:TI):Prop:=
 ∀(jM:Qb) (s:Shared) (σ:St) (H:Hp) (R:It->Hp->Prop),Inv X jM σ H s->wi σ H R->
  xf (xz X.prog X.w) X.A (eval iter X.env) (λv s1=>xf (xz X.prog X.w) X.A (pyIter v) (PIE X jM σ tg R) X.xe s1) X.xe s
theorem ZkH (ho : s.heap.get? it = some o)(hc : o.cls = .type n)(hd : o.data = .fields vs)
    (hn : ["enumerate", "zip", "dict_itemiterator", "dict_reverseitemiterator", "odict_iterator", "itertools.zip_longest", "itertools.pairwise"].contains n = false) (hQ : Q () s) : xf M A (letOwnedTupleGo tg (.ref it) u) Q E s := by
  unfold letOwnedTupleGo
  cases tg <;> first
    | exact xb hQ
    | (cases u <;> first
        | exact xb hQ
        | (refine xa (wpAny_load ho ?_)
           rw[hc, hd];show xf M A (if (["enumerate", "zip", "dict_itemiterator", "dict_reverseitemiterator", "odict_iterator", "itertools.zip_longest", "itertools.pairwise"].contains n && vs[0]? == some (rawInt _)) = true then _ else _) Q E s;rw[if_neg (by intro h; rw[hn] at h; cases h)];exact xb hQ))
def Itl (K:qd)(a:Addr):It:=
 ⟨λi H=>∃xs x,ZD K H a xs/\xs[i]?=some x,λi H x H'=>H'=H/\∀xs,ZD K H a xs->xs[i]?=some x,λi H=>∃xs,ZD K H a xs/\xs.length<=i⟩
def Itt (K:qd)(a:Addr):It:=
 ⟨λi H=>∃xs x,ZO K H a xs/\xs[i]?=some x,λi H x H'=>H'=H/\∀xs,ZO K H a xs->xs[i]?=some x,λi H=>∃xs,ZO K H a xs/\xs.length<=i⟩
def Itr (lo:Int)(n:Nat):It:=⟨λi _=>i<n,λi H x H'=>H'=H/\x=.int (lo+i),λi _=>n<=i⟩
theorem Zja {K:qd}(a it:Addr):Turn P w K tg (Itl K a) [it] it (λi h=>h.IsListIter it a i) where
 mem:=by simp
 obj:=λi h st b hb=>by
  have e:b=it:=by simpa using hb
  subst e;obtain⟨o,e,c,d⟩:=st;exact⟨o,e,λv z=>by rw[d]at z;cases z⟩
 keep:=λi h h' st k=>st.at λo e=>k it (by simp) o e
 item:=by
  intro X hP hw hK hc i jM s σ H E I hf st hg;subst hP hw hK;obtain⟨xs,x,hq,hx⟩:=hg;obtain⟨jO,rv,p,hz⟩:=I.list hq;obtain⟨u,hu,ru⟩:=rv.get hx;obtain⟨f0,f1,f2,f3,f4,f5⟩:=hf it (by simp);refine wpAny_pyNext_list_item st p.isList (x:=u) (by simpa using hu) λh' st' sb=>?_;have I1:Inv X jM σ H { s with heap:=h' }:=I.turned (t':=s.toks) (λb o hb e=>(sb.2 b hb).trans e) f0 f1 f3 f4 f5;obtain⟨o,e,c,d⟩:=id st';exact⟨u,rfl,ZkH (s:={ s with heap:=h' }) e c d (by decide) ⟨x,H,I1,ru,⟨rfl,λys hy=>by rw[I.list_inj hy hq];exact hx⟩,st',λb hb=>(hf b hb).1⟩⟩
 done:=by
  intro X hP hw hK hc i jM s σ H E I hf st hg;subst hP hw hK;obtain⟨xs,hq,hx⟩:=hg;obtain⟨jO,rv,p,hz⟩:=I.list hq;obtain⟨f0,f1,f2,f3,f4,f5⟩:=hf it (by simp);have hl:=rv.length;exact wpAny_pyNext_list_end (I.ok.hd hc) st p.isList (by simp;omega) λh' eb=>⟨rfl,I.turned (λb o hb e=>eb b o hb e) f0 f1 f3 f4 f5⟩
 self:=λ_ _ _ _ _ st h=>wpAny_pyIter_listiter st h
theorem Zg8 {K:qd}(a it:Addr):Turn P w K tg (Itt K a) [it] it (λi h=>h.IsTupleIter it a i) where
 mem:=by simp
 obj:=λi h st b hb=>by
  have e:b=it:=by simpa using hb
  subst e;obtain⟨o,e,c,d⟩:=st;exact⟨o,e,λv z=>by rw[d]at z;cases z⟩
 keep:=λi h h' st k=>st.at λo e=>k it (by simp) o e
 item:=by
  intro X hP hw hK hc i jM s σ H E I hf st hg;subst hP hw hK;obtain⟨xs,x,hq,hx⟩:=hg;obtain⟨jO,rv,p,hz⟩:=I.tuple hq;obtain⟨u,hu,ru⟩:=rv.get hx;obtain⟨f0,f1,f2,f3,f4,f5⟩:=hf it (by simp);refine wpAny_pyNext_tuple_item st (show s.heap.IsTuple a jO.toArray from p) (x:=u) (by simpa using hu) λh' st' sb=>?_;have I1:Inv X jM σ H { s with heap:=h' }:=I.turned (t':=s.toks) (λb o hb e=>(sb.2 b hb).trans e) f0 f1 f3 f4 f5;obtain⟨o,e,c,d⟩:=id st';exact⟨u,rfl,ZkH (s:={ s with heap:=h' }) e c d (by decide) ⟨x,H,I1,ru,⟨rfl,λys hy=>by rw[I.tuple_inj hy hq];exact hx⟩,st',λb hb=>(hf b hb).1⟩⟩
 done:=by
  intro X hP hw hK hc i jM s σ H E I hf st hg;subst hP hw hK;obtain⟨xs,hq,hx⟩:=hg;obtain⟨jO,rv,p,hz⟩:=I.tuple hq;obtain⟨f0,f1,f2,f3,f4,f5⟩:=hf it (by simp);have hl:=rv.length;exact wpAny_pyNext_tuple_end (I.ok.hd hc) st (show s.heap.IsTuple a jO.toArray from p) (by simp;omega) λh' eb=>⟨rfl,I.turned (λb o hb e=>eb b o hb e) f0 f1 f3 f4 f5⟩
 self:=λ_ _ _ _ _ st h=>wpAny_pyIter_tupleiter st h
theorem Zg9 {K:qd}(it:Addr)(lo:Int)(n:Nat):Turn P w K tg (Itr lo n) [it] it (λi h=>IsRangeIter h it (lo+(i:Nat)*1) ((n:Int)-(i:Nat)) 1) where
 mem:=by simp
 obj:=λi h st b hb=>by
  have e:b=it:=by simpa using hb
  subst e;exact⟨_,st,λv z=>by
   have z':Data.fields _=Data.cell v:=z
   cases z'⟩
 keep:=λi h h' st k=>k it (by simp) _ st
 item:=by
  intro X hP hw hK hc i jM s σ H E I hf st hg;subst hP hw hK;obtain⟨f0,f1,f2,f3,f4,f5⟩:=hf it (by simp);have W:=Walks.range (prog:=X.prog) (w:=X.w) (I.ok.hd hc) it lo 1 n;refine W.item i s _ _ hg st λv h' tk hv st' kk=>?_;obtain⟨t,rfl⟩:=hv;have I1:Inv X jM σ H { s with heap:=h',toks:=tk }:=I.turned (λb o hb e=>kk b o (by simpa using hb) e) f0 f1 f3 f4 f5;refine⟨_,rfl,ZkH st' rfl rfl (by decide) ⟨.int (lo+i),H,I1,⟨t,?_⟩,⟨rfl,rfl⟩,st',λb hb=>(hf b hb).1⟩⟩;simp
 done:=by
  intro X hP hw hK hc i jM s σ H E I hf st hg;obtain⟨f0,f1,f2,f3,f4,f5⟩:=hf it (by simp);exact wpAny_pyNext_range_end (I.ok.hd hc) st (by have:n<=i:=hg;omega) λh' eb=>⟨rfl,I.turned (λb o hb e=>eb b o hb e) f0 f1 f3 f4 f5⟩
 self:=λ_ _ _ _ _ st h=>wpAny_pyIter_rangeiter st h
section
variable {X:Cx}{tg:Expr}
def ZkI (K:qd)(tl:TE):TI:=fun σ H R=>tl σ H λx H1=>∃a,x=.ref a/\(∃xs,ZD K H1 a xs)/\R (Itl K a) H1
def iTup (K:qd)(tl:TE):TI:=fun σ H R=>tl σ H λx H1=>∃a,x=.ref a/\(∃xs,ZO K H1 a xs)/\R (Itt K a) H1
theorem ZeX (hl:PE X l tl):PI X tg l (ZkI X.K tl):=by
 intro jM s σ H R I h;refine ZJ (hl jM s σ H _ I h) λv s1 ⟨x,H1,I1,r1,q1⟩=>?_;obtain⟨a,e,⟨xs,hq⟩,q⟩:=q1;subst e
 cases r1
 obtain⟨jO,rv,p,hz⟩:=I1.list hq;refine wpAny_pyIter_list p.isList ?_;refine⟨s1.heap.objs.size,[s1.heap.objs.size],_,_,H1,rfl,I1.kept λb o e=>qf _ e,Zja a _,⟨_,qq _ rfl,rfl,rfl⟩,λb hb=>?_,q⟩;have e:=by simpa using hb
 subst e;exact I1.fpOk (qp _) (I1.hok.fresh (qp _))
theorem Zot (hl:PE X l tl):PI X tg l (iTup X.K tl):=by
 intro jM s σ H R I h;refine ZJ (hl jM s σ H _ I h) λv s1 ⟨x,H1,I1,r1,q1⟩=>?_;obtain⟨a,e,⟨xs,hq⟩,q⟩:=q1;subst e
 cases r1
 obtain⟨jO,rv,p,hz⟩:=I1.tuple hq;refine wpAny_pyIter_tuple (show s1.heap.IsTuple a jO.toArray from p) ?_;refine⟨s1.heap.objs.size,[s1.heap.objs.size],_,_,H1,rfl,I1.kept λb o e=>qf _ e,Zg8 a _,⟨_,qq _ rfl,rfl,rfl⟩,λb hb=>?_,q⟩;have e:=by simpa using hb
 subst e;exact I1.fpOk (qp _) (I1.hok.fresh (qp _))
theorem ZfG {σ:St}{lo:Int}(I:Inv X jM σ H s)(h1:-(2 ^ 62)<=lo)(h2:lo<2 ^ 62)(h3:-(2 ^ 62)<=hi)(h4:hi<2 ^ 62)
  (q:R (Itr lo (hi-lo).toNat) H):xf (xz X.prog X.w) X.A (pyIter (.ref s.heap.objs.size)) (PIE X jM σ tg R) E { s with heap:=s.heap.push { cls:=.type "range",data:=.fields #[.int lo t,.int hi u,.int 1 v] },toks:=tk }:=by
 refine wpAny_pyIter_range (IsRange.new ..) (small_one h1 h2 h3 h4) ?_;have I1:Inv X jM σ H { s with heap:=s.heap.push { cls:=.type "range",data:=.fields #[.int lo t,.int hi u,.int 1 v] },toks:=tk }:=I.kept λb o e=>qf _ e;refine⟨(s.heap.push { cls:=.type "range",data:=.fields #[.int lo t,.int hi u,.int 1 v] }).objs.size,[(s.heap.push { cls:=.type "range",data:=.fields #[.int lo t,.int hi u,.int 1 v] }).objs.size],_,_,H,rfl,
  I1.kept λb o e=>qf _ e,Zg9 _ lo (hi-lo).toNat,?_,λb hb=>?_,q⟩
 ·have e1:lo+((0:Nat):Int)*1=lo:=by simp
  have e2:(((hi-lo).toNat:Nat):Int)-((0:Nat):Int)=yJ lo hi 1:=by rw[rangeSize_one];grind
  rw[e1,e2];exact qq _ rfl
 ·have e:b=(s.heap.push { cls:=.type "range",data:=.fields #[.int lo t,.int hi u,.int 1 v] }).objs.size:=by simpa using hb
  subst e;exact I1.fpOk (qp _) (I1.hok.fresh (qp _))
def ZnP (ta:TA):TI:=fun σ H R=>ta σ H λvs H1=>∃j:Int,vs=[.int j]/\-(2 ^ 62)<=j/\j<2 ^ 62/\R (Itr 0 j.toNat) H1
def Zpz (ta:TA):TI:=fun σ H R=>ta σ H λvs H1=>∃i j:Int,vs=[.int i,.int j]/\(-(2 ^ 62)<=i/\i<2 ^ 62/\-(2 ^ 62)<=j/\j<2 ^ 62)/\R (Itr i (j-i).toNat) H1
theorem Zb5 (hg:Gl X "range")(hm:X.mg "range" = none)(ha:PA X [a] ta)(hs:xh [a] X.env=[(false,eval a X.env)]:=by rfl):PI X tg (.Call (.Name "range" p) [a] [] pos) (ZnP ta):=by
 intro jM s σ H R I h;refine Call_ (UB I hg hm boot_range (ya (ZJ (ha pos jM s σ H _ I h) λus s1 ⟨vs,H1,I1,r1,q1⟩=>?_) hs rfl));obtain⟨j,e,q1,q2,q⟩:=q1;subst e
 cases r1 with
 | cons r rr=>
  cases rr
  obtain⟨t,rfl⟩:=r;exact call_range_1 (ZfG I1 (by omega) (by omega) q1 q2 (by simp_all))
theorem Zjb {p pos:Pos}(hg:Gl X "range")(hm:X.mg "range" = none)(ha:PA X [a,b] ta)(hs:xh [a,b] X.env=[(false,eval a X.env),(false,eval b X.env)]:=by rfl)(hs2:xh [b] X.env=[(false,eval b X.env)]:=by rfl) :
  PI X tg (.Call (.Name "range" p) [a,b] [] pos) (Zpz ta):=by
 intro jM s σ H R I h;refine Call_ (UB I hg hm boot_range (ya (ZJ (ha pos jM s σ H _ I h) λus s1 ⟨vs,H1,I1,r1,q1⟩=>?_) (by rw[hs,hs2]) (by rw[hs2];rfl)));obtain⟨i,j,e,⟨q1,q2,q3,q4⟩,q⟩:=q1;subst e
 cases r1 with
 | cons r rr=>
  cases rr with
  | cons r' rr=>
   cases rr
   obtain⟨t,rfl⟩:=r;obtain⟨t',rfl⟩:=r';exact call_range_2 (ZfG I1 q1 q2 q3 q4 q)
def tFor (wi:TI)(g:TG)(tb:TS):TS:=λD σ H=>wi σ H λJ H1=>∃W:Nat->Nat->St->Hp->Prop,(∃m,W 0 m σ H1)/\∀i m σ H,W i m σ H->
 (J.stop i H/\D.nx σ H)∨(J.go i H/\∃N:St->Hp->Prop,(∀σ' H',N σ' H'->∃m',m'<m/\W (i+1) m' σ' H')/\∀x H',J.yld i H x H'->g x σ H' fun σ2 H2=>tb { D with nx:=N,ct:=N,bk:=D.nx } σ2 H2)
def BO (fp:List Addr)(h:Heap):Qb:=fp.filterMap λb=>(h.get? b).map λo=>(b,o)
theorem Jz (hb:b∈fp)(e:h.get? b=some o):(b,o)∈BO fp h:=yO.mpr ⟨b,hb,by rw[e];rfl⟩
theorem Zjc (hp:p∈BO fp h):p.1∈fp/\h.get? p.1=some p.2:=by
 obtain⟨b,hb,e⟩:=yO.mp hp
 cases q:h.get? b with
 | none=>simp_all
 | some o=>
  rw[q]at e;have e':=zG e;subst e';exact⟨hb,q⟩
theorem Inv.pinned {σ:St}(I:Inv X jM σ H s)(hf:∀b∈fp,WI X jM H b)(ho:∀b∈fp,∃o,s.heap.get? b=some o/\∀v,o.data≠.cell v):Inv X (jM++BO fp s.heap) σ H s:=
 I.pins_of λp hp=>(qS.mp hp).elim (λz=>I.pin p (qk _ z)) λz=>by
  obtain⟨hb,e⟩:=Zjc z;obtain⟨f0,f1,f2,_⟩:=hf p.1 hb;obtain⟨o,e',d⟩:=ho p.1 hb;simp_all
theorem Inv.unpinned {σ:St}(I:Inv X (jM++pl) σ H s):Inv X jM σ H s:=I.pins_of λp hp=>I.pin p (qk _ (qM _ hp))
theorem ZkJ (hp:PassesOwn (xz X.prog X.w) X.A X.env X.xe)(hc:X.calm=true)(hi:PI X tg iter wi)(hg:PG X tg g)(hb:XC X body tb)
  (hs:∀x,foldedSetIterable iter X.env x=pure x:=by intro _;rfl):PS X (.For tg iter body [] pos) (tFor wi g tb):=by
 intro jM s σ H D I h;refine wpAny_For (ZJ (hi jM s σ H _ I h) λv s1 h1=>ZJ h1 λitv s2 h2=>?_) hs;obtain⟨it,fp,tn,J,H2,e,I2,T,jY,f2,W,⟨m0,w0⟩,turn⟩:=h2;subst e
 -- what stays true of the iterator's objects through the loop
 have stat:∀{H':Hp},(∀b∈fp,H' b=none)->∀b∈fp,WI X jM H' b:=λhn b hb=>⟨hn b hb,(f2 b hb).2⟩;refine codeAny_forLoop_any (λn s'=>∃i σ' H',Inv X jM σ' H' s'/\tn i s'.heap/\(∀b∈fp,H' b=none)/\W i n σ' H') ?_ m0 ⟨0,σ,H2,I2,jY,λb hb=>(f2 b hb).1,w0⟩;rintro n s3 ⟨i,σ3,H3,I3,st3,fr3,w3⟩;rcases turn i n σ3 H3 w3 with⟨stop,qn⟩ | ⟨go,N,hN,step⟩
 ·refine wpAny_passesOwn hp (ZJ (T.done X rfl rfl rfl hc i jM s3 σ3 H3 X.xe I3 (stat fr3) st3 stop) λr s4 ⟨hr,I4⟩=>?_)
  subst hr;exact wpAny_execs_nil ⟨σ3,H3,I4,qn⟩
 ·refine wpAny_passesOwn hp (ZJ (T.item X rfl rfl rfl hc i jM s3 σ3 H3 X.xe I3 (stat fr3) st3 go) λr s4 ⟨u,hr,h4⟩=>?_)
  subst hr;refine wpAny_passesOwn hp (ZJ h4 λ_ s5 ⟨x,H5,I5,r5,y5,st5,fr5⟩=>?_);have I5':=I5.pinned (stat fr5) (T.obj _ _ st5);refine wpAny_passesOwn hp (ZJ (hg _ s5 σ3 H5 x u _ I5' r5 (step x H5 y5)) λ_ s6 ⟨σ6,H6,I6,q6⟩=>?_);refine wpAny_passesOwn hp (ZJ (hb _ s6 σ6 H6 _ I6 q6) λf s7 q7=>?_);have again:∀{σ7:St} {H7:Hp},Inv X (jM++BO fp s5.heap) σ7 H7 s7->N σ7 H7->∃m,m<n/\∃i σ' H',Inv X jM σ' H' s7/\tn i s7.heap/\(∀b∈fp,H' b=none)/\W i m σ' H':=λ{σ7 H7} I7 n7=>by
   obtain⟨m',hm,w7⟩:=hN σ7 H7 n7;refine⟨m',hm,i+1,σ7,H7,I7.unpinned,T.keep _ _ _ st5 λb hb o e=>(I7.pin (b,o) (qk _ (qk _ (Jz hb e)))).1,λb hb=>?_,w7⟩;obtain⟨o,e,d⟩:=T.obj _ _ st5 b hb;exact(I7.pin (b,o) (qk _ (qk _ (Jz hb e)))).2.1
  cases f with
  | next=>obtain⟨σ7,H7,I7,n7⟩:=q7;exact again I7 n7
  | cont=>obtain⟨σ7,H7,I7,n7⟩:=q7;exact again I7 n7
  | brk=>obtain⟨σ7,H7,I7,q7⟩:=q7;exact⟨σ7,H7,I7.unpinned,q7⟩
  | ret v=>obtain⟨x7,σ7,H7,I7,r7,q7⟩:=q7;exact⟨x7,σ7,H7,I7.unpinned,r7,q7⟩
end
abbrev R2:=V->V->Hp->VK->Prop
def Yl (X:Cx)(f:Value->Value->Sem Value)(r:R2):Prop:=
 ∀(jM:Qb) (s:Shared) (σ:St) (H:Hp) (x y:V) (v u:Value) (Q:VK),Inv X jM σ H s->ZF x v->ZF y u->r x y H Q->
  xf (xz X.prog X.w) X.A (f v u) (EP X jM σ Q) X.xe s
def Xi (X:Cx)(f:Value)(r:List V->Hp->VK->Prop):Prop:=
 ∀(jM:Qb) (s:Shared) (σ:St) (H:Hp) (xs:List V) (us:List Value) (Q:VK),Inv X jM σ H s->ZB xs us->r xs H Q->
  xf (xz X.prog X.w) X.A (call f us) (EP X jM σ Q) X.xe s
def YN (r:R2)(ta tb:TE):TE:=fun σ H Q=>ta σ H λx H1=>tb σ H1 λy H2=>r x y H2 Q
def rI (C:Int->Int->Prop)(g:Int->Int->V):R2:=λx y H Q=>∃i j,x=.int i/\y=.int j/\C i j/\Q (g i j) H
def XO (g:Int->Int->V):R2:=λx y H Q=>∃i j,x=.int i/\y=.int j/\Q (g i j) H
section
variable {X:Cx}{a b c:Expr}{ta tb tc:TE}{pos:Pos}
theorem binT (ha:PE X a ta)(hb:PE X b tb){σ:St}{R:V->V->Hp->Prop}(I:Inv X jM σ H s)
  (h:ta σ H λx H1=>tb σ H1 λy H2=>R x y H2) {f:Value->Value->Sem Value}
  (hf:∀v u s2 x y H2,Inv X jM σ H2 s2->ZF x v->ZF y u->R x y H2->xf (xz X.prog X.w) X.A (f v u) Q X.xe s2) :
  xf (xz X.prog X.w) X.A (eval a X.env) (λv s₁=>xf (xz X.prog X.w) X.A (eval b X.env) (λu s₂=>xf (xz X.prog X.w) X.A (f v u) Q X.xe s₂) X.xe s₁) X.xe s:=by
 refine ZJ (ha jM s σ H _ I h) λv s1 ⟨x,H1,I1,r1,q1⟩=>?_;refine ZJ (hb jM s1 σ H1 _ I1 q1) λu s2 ⟨y,H2,I2,r2,q2⟩=>?_;exact hf v u s2 x y H2 I2 r1 r2 q2
theorem Xm (ho:Yl X (binaryOp op) r)(ha:PE X a ta)(hb:PE X b tb):PE X (.BinOp a op b pos) (YN r ta tb):=by
 intro jM s σ H Q I h;exact wpAny_BinOp (binT ha hb I h λv u s2 x y H2 I2 rx ry q=>ho jM s2 σ H2 x y v u Q I2 rx ry q)
theorem opI {g:Int->Int->Int}
  (rule:∀(i j:Int) (t u:Tok) (s:Shared) (Q:xD) (E:xD),C i j->Q (.int (g i j) s.toks) { s with toks:=s.toks+1 }->xf (xz X.prog X.w) X.A (f (.int i t) (.int j u)) Q E s) :
  Yl X f (rI C λi j=>.int (g i j)):=by
 intro jM s σ H x y v u Q I rx ry h;obtain⟨i,j,rfl,rfl,hc,q⟩:=h;obtain⟨t,rfl⟩:=rx;obtain⟨t',rfl⟩:=ry;exact rule i j t t' s _ _ hc ⟨.int (g i j),H,I.tok _,⟨_,rfl⟩,q⟩
theorem opI0 {g:Int->Int->Int}
  (rule:∀(i j:Int) (t u:Tok) (s:Shared) (Q:xD) (E:xD),Q (.int (g i j) s.toks) { s with toks:=s.toks+1 }->xf (xz X.prog X.w) X.A (f (.int i t) (.int j u)) Q E s) :
  Yl X f (XO λi j=>.int (g i j)):=by
 intro jM s σ H x y v u Q I rx ry h;obtain⟨i,j,rfl,rfl,q⟩:=h;obtain⟨t,rfl⟩:=rx;obtain⟨t',rfl⟩:=ry;exact rule i j t t' s _ _ ⟨.int (g i j),H,I.tok _,⟨_,rfl⟩,q⟩
theorem opB0 {g:Int->Int->Bool}
  (rule:∀(i j:Int) (t u:Tok) (s:Shared) (Q:xD) (E:xD),Q (.bool (g i j)) s->xf (xz X.prog X.w) X.A (f (.int i t) (.int j u)) Q E s) :
  Yl X f (XO λi j=>.bl (g i j)):=by
 intro jM s σ H x y v u Q I rx ry h;obtain⟨i,j,rfl,rfl,q⟩:=h;obtain⟨t,rfl⟩:=rx;obtain⟨t',rfl⟩:=ry;exact rule i j t t' s _ _ ⟨.bl (g i j),H,I,rfl,q⟩
def CDiv (i j:Int):Prop:=0<j/\j<1073741824
def CPow (i j:Int):Prop:=0<=j/\j<=1000000/\i.natAbs<2 ^ 64
def Up (i j:Int):Prop:=(-(2 ^ 64)<i/\i<2 ^ 64)∨(-(2 ^ 64)<j/\j<2 ^ 64)
theorem Up.ok (h:Up i j):IntMulOk i j:=by
 rcases h with⟨h1,h2⟩ | ⟨h1,h2⟩
 ·exact .of_left (intBits_le_64 h1 h2)
 ·exact .of_right (intBits_le_64 h1 h2)
theorem UC:Yl X (binaryOp .Add) (XO λi j=>.int (i+j)):=opI0 λ_ _ _ _ _ _ _ q=>add_int q
theorem Zou:Yl X (binaryOp .Sub) (XO λi j=>.int (i-j)):=opI0 λ_ _ _ _ _ _ _ q=>sub_int q
theorem U1:Yl X (binaryOp .Mult) (rI Up λi j=>.int (i*j)):=opI λ_ _ _ _ _ _ _ hc q=>mul_int q hc.ok
theorem Zib:Yl X (binaryOp .FloorDiv) (rI CDiv λi j=>.int (i / j)):=opI λi j _ _ _ _ _ hc q=>by
 have h1:=hc.1;have h2:=hc.2;exact floordiv_int (by omega) (by rw[Int.fdiv_eq_ediv_of_nonneg i (by omega)];exact q) (.inl (PyProof.noPylong_small (by omega)))
theorem U2:Yl X (binaryOp .Mod) (rI (λ_ j=>0<j) λi j=>.int (i % j)):=opI λi j _ _ _ _ _ hc q=>by
 exact mod_int' (by omega) (by rw[Int.fmod_eq_emod_of_nonneg i (by omega)];exact q)
theorem Zov:Yl X (binaryOp .Pow) (rI CPow λi j=>.int (i ^ j.toNat)):=opI λ_ _ _ _ _ _ _ hc q=>pow_int_small hc.1 hc.2.1 hc.2.2 q
end
section
variable {X:Cx}{a b c:Expr}{ta tb tc:TE}{pos:Pos}
theorem Zow {σ:St}(I:Inv X jM σ H s)(q:Q (.bl k) H)(e:k=k'):EP X jM σ Q (.bool k') s:=by
 subst e;exact⟨.bl k,H,I,rfl,q⟩
theorem ZnQ:Yl X (xk .Lt) (XO λi j=>.bl (decide (i<j))):=opB0 λ_ _ _ _ _ _ _ q=>lt_int q
theorem ZpA:Yl X (xk .LtE) (XO λi j=>.bl (decide (i<=j))):=opB0 λ_ _ _ _ _ _ _ q=>le_int q
theorem ZkK:Yl X (xk .Gt) (XO λi j=>.bl (decide (j<i))):=opB0 λ_ _ _ _ _ _ _ q=>gt_int q
theorem ZnR:Yl X (xk .GtE) (XO λi j=>.bl (decide (j<=i))):=opB0 λ_ _ _ _ _ _ _ q=>ge_int q
theorem Zox:Yl X (xk .Is) (λx y H Q=>y=.non/\Q (.bl (decide (x=.non))) H):=by
 intro jM s σ H x y v u Q I rx ry h;obtain⟨rfl,q⟩:=h
 cases ry
 refine is_none_gen (Zow I q ?_)
 cases x <;> first
  | (rfl)
  | (obtain⟨t,rfl⟩:=rx;rfl)
theorem Yl.or (h:Yl X f r)(h':Yl X f r'):Yl X f (λx y H Q=>r x y H Q∨r' x y H Q):=by
 intro jM s σ H x y v u Q I rx ry q;rcases q with q | q
 ·exact h jM s σ H x y v u Q I rx ry q
 ·exact h' jM s σ H x y v u Q I rx ry q
theorem JJ (b:Expr)(h:op≠.In:=by decide)(h2:op≠.NotIn:=by decide):behindInMarks op b=false:=by
 have e1:(op==CmpOp.In)=false:=by grind
 have e2:(op==CmpOp.NotIn)=false:=by grind
 cases b <;> simp[behindInMarks,e1,e2]
theorem ZmG (ho:Yl X (xk op) r)(ha:PE X a ta)(hb:PE X b tb)(hm:behindInMarks op b=false):PE X (.Compare a [op] [b] pos) (YN r ta tb):=by
 intro jM s σ H Q I h;exact wpAny_Compare1 (binT ha hb I h λv u s2 x y H2 I2 rx ry q=>ho jM s2 σ H2 x y v u Q I2 rx ry q) hm
def BY (t:TE):TT:=fun σ H Q=>t σ H λx H'=>∃k,x=.bl k/\Q k H'
theorem BD (ho:Yl X (xk op) r)(ha:PE X a ta)(hb:PE X b tb)(hm:behindInMarks op b=false):PT X (.Compare a [op] [b] pos) (BY (YN r ta tb)):=by
 intro jM s σ H Q I h;refine wpAny_isTrue_Compare1 (ZJ (ha jM s σ H _ I h) λv s1 ⟨x,H1,I1,r1,q1⟩=>ZJ (hb jM s1 σ H1 _ I1 q1) λu s2 ⟨y,H2,I2,r2,q2⟩=>
  ZJ (ho jM s2 σ H2 x y v u _ I2 r1 r2 q2) λc s3 ⟨z,H3,I3,r3,k,e,q3⟩=>?_) hm
 subst e
 cases r3
 exact wpAny_truthy_bool ⟨H3,I3,q3⟩
theorem BP:(xg:Nat)<2 ^ 63:=by decide
theorem XT (r:ZB [x] us):∃u,us=[u]/\ZF x u:=by
 cases r with
 | cons r1 r2=>cases r2;exact⟨_,rfl,r1⟩
theorem BZ (r:ZB [x,y] us):∃u w',us=[u,w']/\ZF x u/\ZF y w':=by
 cases r with
 | cons r1 r2=>
  cases r2 with
  | cons r3 r4=>cases r4;exact⟨_,_,rfl,r1,r3⟩
theorem Zjd (hc:X.calm=true):Xi X (.builtin "max") (λxs H Q=>∃i j,xs=[.int i,.int j]/\Q (.int (if j > i then j else i)) H):=by
 intro jM s σ H xs us Q I r h;obtain⟨i,j,rfl,q⟩:=h;obtain⟨u,w',rfl,⟨t,rfl⟩,⟨t',rfl⟩⟩:=BZ r;refine max_two_ints (I.ok.hd hc) λh' tk k=>⟨_,H,I.kept k,?_,q⟩;by_cases hj:j > i
 ·rw[if_pos hj,if_pos hj];exact⟨_,rfl⟩
 ·rw[if_neg hj,if_neg hj];exact⟨_,rfl⟩
theorem Zje (hc:X.calm=true):Xi X (.builtin "min") (λxs H Q=>∃i j,xs=[.int i,.int j]/\Q (.int (if j<i then j else i)) H):=by
 intro jM s σ H xs us Q I r h;obtain⟨i,j,rfl,q⟩:=h;obtain⟨u,w',rfl,⟨t,rfl⟩,⟨t',rfl⟩⟩:=BZ r;refine min_two_ints (I.ok.hd hc) λh' tk k=>⟨_,H,I.kept k,?_,q⟩;by_cases hj:j<i
 ·rw[if_pos hj,if_pos hj];exact⟨_,rfl⟩
 ·rw[if_neg hj,if_neg hj];exact⟨_,rfl⟩
theorem Zec:Xi X (.type "int") (λxs H Q=>(∃i,xs=[.int i]/\Q (.int i) H)∨∃k,xs=[.bl k]/\Q (.int (if k then 1 else 0)) H):=by
 intro jM s σ H xs us Q I r h;rcases h with⟨i,rfl,q⟩ | ⟨k,rfl,q⟩
 ·obtain⟨u,rfl,t,rfl⟩:=XT r
  exact call_int_int ⟨.int i,H,I,⟨_,rfl⟩,q⟩
 ·obtain⟨u,rfl,r1⟩:=XT r
  cases r1
  exact call_int_bool ⟨.int (if k then 1 else 0),H,I.tok _,⟨_,rfl⟩,q⟩
end
structure ObjM (h:Heap)(x dx C:Addr)(mA:Str->Option Value):Prop where
 obj:h.get? x=some (qbH C dx)
 ns:h.Ns1 dx mA
 ne:dx≠x
theorem Zjf {h:Heap}(n:h.Ns1 dx mA):∃od,h.get? dx=some od/\∀name,qbQ name od=some (mA name):=by
 obtain⟨o,es,ep,ho,hd,hk,_,hm⟩:=n;refine⟨o,ho,λname=>?_⟩;have e:=hm name;unfold nsFind findBy at e;rw[<-Array.find?_toList]at e;unfold qbQ;rw[hd];dsimp only;split
 ·simp_all
 ·rename_i q
  rw[q]at e;have a:es.toList.any (·.refKey)=false:=by
   rw[List.any_eq_false];intro y hy;obtain⟨z,t,hkey⟩:=hk y (Array.mem_toList_iff.mp hy);simp[DictEntry.refKey,hkey]
  grind
theorem ObjM.look (I:ObjM h x dx C mA):∃od,PySem.W.InstAt h x (qbH C dx) C (some od)/\∀name,qbQ name od=some (mA name):=
 let ⟨od,ho,hl⟩:=Zjf I.ns
 ⟨od,⟨I.obj,rfl,rfl,ho⟩,hl⟩
section
variable {prog:xB}{w:World}{A:xC}{E:xD}{s:Shared}{K:qd}{x dx C f:Addr}{mA:Str->Option Value}{name:Str}{v:Value}
end
theorem jx (r:VY (some v) o):∃u,o=some u/\ZF v u:=by
 cases o with
 | none=>exact(show False from r).elim
 | some u=>exact⟨u,rfl,r⟩
section
variable {P:xB}{w:World}{H H':Hp}{h h':Heap}{a C dx:Addr}{fs fs':List (Str×V)}
theorem ZmH (hok:Yp P w H h)(e:H a=some (.ins C dx fs)):∃mA,ObjM h a dx C mA/\(∀f,VY (fs.lookup f) (mA f))/\PySem.Within mA (fs.map (·.1))/\fs.length<=1000/\H dx=some (.own a):=by
 obtain⟨d,z,ne,ob,mA,n,r,q⟩:=(show Yq P w H h a (.ins C dx fs)from hok a _ e);exact⟨mA,⟨ob,n,ne⟩,r,q,z,d⟩
end
structure Cls (K:qd)(C:Addr):Prop where
 pg:PySem.W.plainGet K C Str.empty=true
 hd:PySem.W.hasDictIn K C=true
 po:PySem.W.plainOver K C=true
 sa:PySem.W.findIn K (.ref C) "__setattr__" = some (some (.builtin "object.__setattr__"))
theorem Cls.get {K:qd}(c:Cls K C)(f:Str):PySem.W.plainGet K C f=true:=c.pg
section
variable {X:Cx}{jM:Qb}{σ:St}{H:Hp}{s:Shared}{a C dx:Addr}{fs:List (Str×V)}{f:Str}{v:V}{A:xC}{E:xD}
end
section
variable {X:Cx}{o e value:Expr}{f:Str}{pos pos' tpos:Pos}{ta tv:TE}
end
section
variable {X:Cx}{jM:Qb}{σ:St}{H:Hp}{s:Shared}{A:xC}{E:xD}{Q:xD}{c:Value}{b:Bool}
inductive TyOf (K:qd)(H:Hp):V->Value->Prop where
 | non:TyOf K H .non (.type "NoneType")
 | bl (x:Bool):TyOf K H (.bl x) (.type "bool")
 | int (i:Int):TyOf K H (.int i) (.type "int")
 | str (x:Str):TyOf K H (.str x) (.type "str")
 | flt (x:UInt64):TyOf K H (.flt x) (.type "float")
 | lst {a:Addr} {xs:List V} (e:H a=some (.lst xs)):TyOf K H (.ref a) (.type "list")
 | frz {a:Addr} {o:Obj} {xs:List V} (e:H a=some (.frz o (.lst xs))):TyOf K H (.ref a) (.type "list")
 | tup {a:Addr} {xs:List V} (e:H a=some (.tup xs)):TyOf K H (.ref a) (.type "tuple")
 | dK {a:Addr} {kvs:List (ZG×V)} (e:H a=some (.dK kvs)):TyOf K H (.ref a) (.type "dict")
 | dT {a:Addr} {kvs:List (List ZG×V)} (e:H a=some (.dT kvs)):TyOf K H (.ref a) (.type "dict")
 | ins {a C dx:Addr} {fs:List (Str×V)} (e:H a=some (.ins C dx fs)) (cl:Cls K C) (ha:PySem.W.findIn K (.ref C) "__class__" = some (some (.builtin "object.__class__")))
   (hn:PySem.W.specialIn K (.builtin "object.__class__") "__get__" = some (some (.builtin "getset_descriptor.__get__"))) (htk:PySem.W.takesIn K (.builtin "object.__class__")=some true)
   (hm:PySem.W.mroIn K C (.type "object")=some true):TyOf K H (.ref a) (.ref C)
theorem Zjg (I:Inv X jM σ H s)(rx:ZF x u)(ty:TyOf X.K H x t)(e:yV X.K t c=some b)(h:∀tk,Q (.bool b) { s with toks:=tk }) :
  xf (xz X.prog X.w) A (call (.builtin "isinstance") [u,c]) Q E s:=by
 cases ty with
 | non=>cases (show u=qW from rx);exact zv PySem.W.kitx_none I.kIn yf e (λz=>nomatch z) h
 | bl y=>cases (show u=zP y from rx);exact zv PySem.W.kitx_bool I.kIn yf e (λz=>nomatch z) h
 | int i=>obtain⟨t,q⟩:=(show ∃t,u=qa9 i t from rx);cases q;exact zv PySem.W.kitx_int I.kIn yf e (λz=>nomatch z) h
 | str y=>obtain⟨t,q⟩:=(show ∃t,u=qcg y t from rx);cases q;exact zv PySem.W.kitx_str I.kIn yf e (λz=>nomatch z) h
 | flt y=>obtain⟨t,q⟩:=(show ∃t,u=Value.float y t from rx);cases q;exact zv PySem.W.kitx_float I.kIn yf e (λz=>nomatch z) h
 | @lst a xs ea=>
  cases (show u=qH a from rx)
  obtain⟨_,_,n,_,h1⟩:=(show Yq X.prog X.w H s.heap a (.lst xs)from I.hok a _ ea);exact zv PySem.W.kitx_list I.kIn ⟨_,h1,rfl⟩ e (λz=>nomatch z) h
 | @frz a ob xs ea=>
  cases (show u=qH a from rx)
  obtain⟨_,_,_,n,_,h1⟩:=(show Yq X.prog X.w H s.heap a (.frz ob (.lst xs))from I.hok a _ ea);exact zv PySem.W.kitx_list I.kIn ⟨_,h1,rfl⟩ e (λz=>nomatch z) h
 | @tup a xs ea=>
  cases (show u=qH a from rx)
  obtain⟨_,_,_,p⟩:=(show Yq X.prog X.w H s.heap a (.tup xs)from I.hok a _ ea);obtain⟨o,h1,h2,_⟩:=p;exact zv PySem.W.kitx_tuple I.kIn ⟨o,h1,h2⟩ e (λz=>nomatch z) h
 | @dK a kvs ea=>
  cases (show u=qH a from rx)
  obtain⟨_,_,vs,_,p⟩:=(show Yq X.prog X.w H s.heap a (.dK kvs)from I.hok a _ ea);obtain⟨o,es,ep,h1,h2,_⟩:=p;exact zv PySem.W.kitx_dict I.kIn ⟨o,h1,h2.1⟩ e (λz=>nomatch z) h
 | @dT a kvs ea=>
  cases (show u=qH a from rx)
  obtain⟨_,_,xs,_,o,es,ep,h1,h2,_⟩:=(show Yq X.prog X.w H s.heap a (.dT kvs)from I.hok a _ ea);exact zv PySem.W.kitx_dict I.kIn ⟨o,h1,h2.1⟩ e (λz=>nomatch z) h
 | @ins a C dx fs ea cl ha hn htk hm=>
  cases (show u=qH a from rx)
  obtain⟨mA,O,_⟩:=ZmH I.hok ea;obtain⟨od,J,_⟩:=O.look;exact zv (PySem.W.kitx_own (cl.get _) cl.hd ha hn htk hm) I.kIn J e (λz=>nomatch z) h
end
structure Room (k:Nat)(A:xC):Prop where
 hd:A.handled=none
 dp:A.depth+3*k+5<recursionLimit
 un:A.units+16*k+200<cLine
 gd:A.guards=some []
theorem Room.mono (r:Room k A)(h:j<=k):Room j A:=⟨r.hd,by have:=r.dp;omega,by have:=r.un;omega,r.gd⟩
theorem Room.deeper (r:Room (k+1) A)(env:Env):Room k (A.deeper env):=
 ⟨r.hd,by have:=r.dp;show A.depth+1+3*k+5<_;omega,by have:=r.un;show A.units+3+16*k+200<_;omega,r.gd⟩
theorem Room.in1 (r:Room (k+1) A):Room k A.in1:=
 ⟨r.hd,by have:=r.dp;grind,by have:=r.un;grind,r.gd⟩
theorem Room.depth (r:Room k A):A.depth<recursionLimit:=by have:=r.dp;omega
theorem Room.units (r:Room k A):A.units+64<cLine:=by have:=r.un;omega
theorem Room.units0 (r:Room k A):A.units<cLine:=by have:=r.un;omega
def XA:TA:=λ_ H Q=>Q [] H
def Xn (ta:TE)(tr:TA):TA:=fun σ H Q=>ta σ H λx H1=>tr σ H1 λxs H2=>Q (x::xs) H2
section
variable {X:Cx}{e:Expr}{es:List Expr}{te:TE}{t:TA}{pos:Pos}
theorem Yn:PA X [] XA:=λ_ _ _ _ H Q I h=>Calls.spliced_nil ⟨[],H,I,.nil,h⟩
theorem ZU (ha:PE X e te)(hr:PA X es t)(hs:xh (e::es) X.env=(false,eval e X.env)::xh es X.env:=by rfl):PA X (e::es) (Xn te t):=by
 intro pos jM s σ H Q I h;rw[hs];refine qbb (ZJ (ha jM s σ H _ I h) λu s1 ⟨x,H1,I1,r1,q1⟩=>?_);exact ZJ (hr pos jM s1 σ H1 _ I1 q1) λus s2 ⟨xs,H2,I2,r2,q2⟩=>⟨x::xs,H2,I2,.cons r1 r2,q2⟩
def tTup (t:TA):TE:=fun σ H Q=>t σ H λxs H1=>xs.length<=xg/\∀p,H1 p=none->Q (.ref p) (Zi H1 p (.tup xs))
def tLst (t:TA):TE:=fun σ H Q=>t σ H λxs H1=>xs.length<=xg/\∀p,H1 p=none->Q (.ref p) (Zi H1 p (.lst xs))
theorem Zha (h:PA X es t):PE X (.Tuple es x1 pos) (tTup t):=by
 intro jM s σ H Q I hq;refine wpAny_Tuple_spliced (ZJ (h pos jM s σ H _ I hq) λus s1 ⟨xs,H1,I1,r,z,q⟩=>⟨by rw[<-r.length];exact z,?_⟩);have hf:=I1.hok.fresh (qp _);refine⟨.ref s1.heap.objs.size,Zi H1 s1.heap.objs.size (.tup xs),I1.laid (λb u e=>qf _ e) (qp _) ?_,rfl,q _ hf⟩;exact⟨z,us,r,⟨_,qq _ rfl,rfl,_,rfl⟩⟩
theorem ZkL (h:PA X es t):PE X (.List es pos) (tLst t):=by
 intro jM s σ H Q I hq;refine wpAny_List_spliced (ZJ (h pos jM s σ H _ I hq) λus s1 ⟨xs,H1,I1,r,z,q⟩=>⟨by rw[<-r.length];exact z,?_⟩);have hf:=I1.hok.fresh (qp _);refine⟨.ref s1.heap.objs.size,Zi H1 s1.heap.objs.size (.lst xs),I1.laid (λb u e=>qf _ e) (qp _) ?_,rfl,q _ hf⟩;exact⟨z,us,0,r,qq _ rfl⟩
end
abbrev Sp:=List V->Hp->VK->XK->Prop
abbrev V3:=List Env->Hp->Shared->XK->xD
structure Env0 (P:xB)(w:World)(K:qd)(mg:Str->Option Value)(base:Heap)(A:xC)(outer:List Env)(s:Shared)(H:Hp):Prop where
 frames:A.frames=some outer
 mod:Mod K mg base
 bs:∀b o,base.get? b=some o->s.heap.get? b=some o/\H b=none
 bsz:base.objs.size<=s.heap.objs.size
 funs:s.heap.FunFrames base outer
 frf:∀b∈YE outer,H b=none
 hok:Yp P w H s.heap
 bare:AllBare s.gens
def CE (outer:List Env)(P:xB)(w:World)(H:Hp)(s:Shared)(Q:VK)(u:Value)(s':Shared):Prop:=
 ∃v H',s'.os=s.os/\AllBare s'.gens/\Un (YE outer) [] H H' s.heap s'.heap/\Yp P w H' s'.heap/\ZF v u/\Q v H'
def CR (CX:V3)(outer:List Env)(P:xB)(w:World)(H:Hp)(s:Shared)(Q:VK)(E:XK)(r:Result)(s':Shared):Prop:=
 match r with
 | .ok (.ret u)=>CE outer P w H s Q u s'
 | .ok _=>False
 | .error e=>CX outer H s E e s'
structure FnOk (P:xB)(w:World)(K:qd)(mg:Str->Option Value)(base:Heap)(CX:V3)(k:Nat)(f:Addr)(fd:xA)(ps:List Str)(sp:Sp):Prop where
 len:∀vs H Q E,sp vs H Q E->vs.length=ps.length
 run:∀(A:xC) (outer:List Env) (s:Shared) (H:Hp) (args:Args) (us:List Value) (vs:List V) (Q:VK) (E:XK),Room k A->Env0 P w K mg base A outer s H->BindsTo s fd args (ps.zip us)->ZB vs us->sp vs H Q E->
  xo (xz P w) A (.call (.ref f) args) (CR CX outer P w H s Q E) s
theorem FnOk.mono {K:qd}(F:FnOk P w K mg base CX j f fd ps sp)(h:j<=k) :
  FnOk P w K mg base CX k f fd ps sp:=⟨F.len,λA outer s H args us vs Q E hr=>F.run A outer s H args us vs Q E (hr.mono h)⟩
theorem FnOk.imp {K:qd}(F:FnOk P w K mg base CX k f fd ps sp)
  (h:∀vs H Q E,sp' vs H Q E->sp vs H Q E):FnOk P w K mg base CX k f fd ps sp':=
 ⟨λvs H Q E q=>F.len vs H Q E (h _ _ _ _ q),λA outer s H args us vs Q E hr he hb hv hs=>F.run A outer s H args us vs Q E hr he hb hv (h _ _ _ _ hs)⟩
theorem Env0.in1 {K:qd}(e:Env0 P w K mg base A outer s H) :
  Env0 P w K mg base A.in1 outer s H:=⟨e.frames,e.mod,e.bs,e.bsz,e.funs,e.frf,e.hok,e.bare⟩
section
variable {X:Cx}{jM:Qb}{σ:St}{H:Hp}{s s':Shared}
theorem Inv.env0 (I:Inv X jM σ H s):Env0 X.prog X.w X.K X.mg X.base X.A X.stack s H:=
 ⟨I.ok.frames,I.ok.mod,I.bs,qY I.ok.bsz I.sz,I.stack,I.stkFree,I.hok,I.bare⟩
theorem Inv.after (I:Inv X jM σ H s)(h:CE X.stack X.prog X.w H s Q u s'):EP X jM σ Q u s':=by
 obtain⟨v,H',os,bare,un,hok,r,q⟩:=h;obtain⟨hh,g,d,t,os'⟩:=s';obtain rfl:os'=s.os:=os;exact⟨v,H',I.call un hok bare (λb z=>absurd z (by simp)),r,q⟩
end
def ZnS (sp:Sp)(dvs:List V)(E:XK)(t:TA):TE:=fun σ H Q=>t σ H λvs H1=>sp (vs++dvs) H1 Q E
def XJ (K:qd)(fd:xA)(ps:List Str)(ds:List Value):Prop:=
 ∀(s:Shared) (us:List Value),K.In s.heap->(us++ds).length=ps.length->BindsTo s fd ⟨us,[]⟩ (ps.zip (us++ds))
theorem XJ.all {K:qd}(h:∀us:List Value,us.length=ps.length->bindArgs fd ⟨us,[]⟩=pure (ps.zip us)):XJ K fd ps []:=λs us _ hl=>by
 rw[zw]at hl⊢;exact .of_eq (h us hl)
def JK (CX:V3)(X:Cx)(E:XK):Prop:=∀(jM:Qb) (σ:St) (H:Hp) (s:Shared) (e:Value) (s':Shared),Inv X jM σ H s->CX X.stack H s E e s'->X.xe e s'
section
variable {X:Cx}{CX:V3}{k:Nat}{f C:Addr}{fd:xA}{ps:List Str}{sp:Sp}{dvs:List V}{ds:List Value}{E:XK}{x m:Str}{p pos apos:Pos}{e o:Expr}{es:List Expr}{ta:TE}{t:TA}
theorem ZkM {σ:St}(F:FnOk X.prog X.w X.K X.mg X.base CX k f fd ps sp)(hr:Room k X.A)(hb:XJ X.K fd ps ds)(hd:ZB dvs ds)(hx:JK CX X E)
  (I:Inv X jM σ H s) (r:ZB vs us) (h:sp (vs++dvs) H Q E):xf (xz X.prog X.w) X.A (call (.ref f) us) (EP X jM σ Q) X.xe s:=by
 have r2:=r.append hd;have hl:(us++ds).length=ps.length:=by rw[<-r2.length];exact F.len _ _ _ _ h
 refine xy (codeAny_mono (F.run X.A X.stack s H ⟨us,[]⟩ (us++ds) (vs++dvs) Q E hr I.env0 (hb s us I.kIn hl) r2 h) λr s' hq=>?_)
 cases r with
 | error e=>exact hx jM σ H s e s' I hq
 | ok fl=>
  cases fl with
  | ret u=>exact I.after hq
  | next=>exact zj hq
  | brk=>exact zj hq
  | cont=>exact zj hq
theorem BE (F:FnOk X.prog X.w X.K X.mg X.base CX k f fd ps sp)(hr:Room k X.A)(hg:Gl X x)(hm:X.mg x=some (.ref f))(hk:zt X.K (.ref f)=true)(hb:XJ X.K fd ps ds)(hd:ZB dvs ds)(hx:JK CX X E)
  (ha:PA X (e::es) t) (hdb:(x==("__debug__" : Str))=false:=by decide) (he:xh (e::es) X.env=(false,eval e X.env)::xh es X.env:=by rfl) (hpl:(backTo pos (xh es X.env)).any (·.1)=false:=by rfl) :
  PE X (.Call (.Name x p) (e::es) [] pos) (ZnS sp dvs E t):=by
 intro jM s σ H Q I h;refine wpAny_Call_Name_kw (Bz I hg hm ?_ hdb);refine PySem.W.callWith_K I.ok.mod.kin hk (ZJ (ha pos jM s σ H _ I h) λus s1 ⟨vs,H1,I1,r,q⟩=>⟨I1.kIn,?_⟩) he hpl;exact ZkM F hr hb hd hx I1 r q
end
def PK (X:Cx)(kws:List Keyword)(t:TA):Prop:=
 ∀(pos:Pos) (jM:Qb) (s:Shared) (σ:St) (H:Hp) (Q:List V->Hp->Prop),Inv X jM σ H s->t σ H Q->xf (xz X.prog X.w) X.A (evalAll ((xp pos (xi kws X.env)).map (·.2))) (AP X jM σ Q) X.xe s
section
variable {X:Cx}{CX:V3}{k:Nat}{f C:Addr}{fd:xA}{ps ks:List Str}{sp:Sp}{E:XK}{x m:Str}{p pos apos kpos:Pos}{e o:Expr}{es:List Expr}{kws:List Keyword}{te ta:TE}{t tk:TA}{nm:Option Str}
theorem Zoy:PK X [] XA:=λ_ _ _ _ H Q I h=>wpAny_evalAll_nil ⟨[],H,I,.nil,h⟩
theorem ZmI (ha:PE X e te)(hr:PK X kws t):PK X (⟨nm,e,kpos⟩::kws) (Xn te t):=by
 intro pos jM s σ H Q I h;refine wpAny_evalAll_cons (xa (ZJ (ha jM s σ H _ I h) λu s1 ⟨x,H1,I1,r1,q1⟩=>xa (wpAny_standAt (xb ?_))));exact ZJ (hr pos jM s1 σ H1 _ I1 q1) λus s2 ⟨xs,H2,I2,r2,q2⟩=>⟨x::xs,H2,I2,.cons r1 r2,q2⟩
variable {g:List Value->List Value->List Value}{gV:List V->List V->List V}
end
structure FnScope (N P:List Str)(sc:Scope):Prop where
 kind:sc.kind=.function
 co:sc.isCoroutine=false
 gen:sc.isGenerator=false
 nd:N.Nodup
 pre:N.take P.length=P
 par:∀x∈P,sc.names.lookup x=some .local∨sc.names.lookup x=some .cell
 nofree:∀y∈sc.names,y.2≠.free
theorem Zed {kindOf:Str->Option NameKind}:∀{binds:List (Str×Value)} {m:Str->Option Value},(∀v,(x,v)∉binds)->bindL kindOf binds m x=m x
 | [],_,_=>rfl
 | (n,v)::r,m,h=>by
  unfold bindL;rw[Zed λw hw=>h w (qZ _ hw)];split
  ·grind
  ·rfl
theorem Zee {kindOf:Str->Option NameKind}:∀{binds:List (Str×Value)} {m:Str->Option Value},(∀v,(x,v)∉binds)->bindC kindOf binds m x=m x
 | [],_,_=>rfl
 | (n,v)::r,m,h=>by
  unfold bindC;rw[Zee λw hw=>h w (qZ _ hw)];split
  ·rfl
  ·grind
theorem Zef {kindOf:Str->Option NameKind}:∀{P:List Str} {vs:List Value} {i:Nat} {m:Str->Option Value},P.Nodup->P[i]?=some x->vs[i]?=some v->kindOf x=some .local->
  bindL kindOf (P.zip vs) m x=some v
 | [],_,_,_,_,h,_,_=>by simp at h
 | _::_,[],_,_,_,_,h,_=>by simp at h
 | p::P,w::vs,0,m,nd,h1,h2,hk=>by
  simp at h1 h2;subst h1;subst h2;show bindL kindOf ((p,w)::P.zip vs) m p=_;unfold bindL;rw[Zed λv hv=>(zx.mp nd).1 (qaY hv).1,if_pos hk];simp
 | p::P,w::vs,i+1,m,nd,h1,h2,hk=>by
  show bindL kindOf ((p,w)::P.zip vs) m x=_;exact Zef (zx.mp nd).2 (by simpa using h1) (by simpa using h2) hk
theorem Zeg {kindOf:Str->Option NameKind}:∀{P:List Str} {vs:List Value} {i:Nat} {m:Str->Option Value},P.Nodup->P[i]?=some x->vs[i]?=some v->kindOf x≠some .local->
  bindC kindOf (P.zip vs) m x=some v
 | [],_,_,_,_,h,_,_=>by simp at h
 | _::_,[],_,_,_,_,h,_=>by simp at h
 | p::P,w::vs,0,m,nd,h1,h2,hk=>by
  simp at h1 h2;subst h1;subst h2;show bindC kindOf ((p,w)::P.zip vs) m p=_;unfold bindC;rw[Zee λv hv=>(zx.mp nd).1 (qaY hv).1,if_neg hk];simp
 | p::P,w::vs,i+1,m,nd,h1,h2,hk=>by
  show bindC kindOf ((p,w)::P.zip vs) m x=_;exact Zeg (zx.mp nd).2 (by simpa using h1) (by simpa using h2) hk
def start (N:List Str)(vs:List V):St:=vs.map some++qm (N.length-vs.length) none
def Wn (CX:V3)(P:xB)(w:World)(K:qd)(mg:Str->Option Value)(base:Heap)(N:List Str)(qual:Str)(scope:Scope)(f:Addr)(cd:Value)(A:xC)(outer:List Env)(s:Shared)(H:Hp)(E:XK):Cx where
 prog:=P
 w:=w
 K:=K
 mg:=mg
 base:=base
 A:=A.deeper (envOfC qual scope s.heap.objs.size f cd)
 N:=N
 s₀:=s
 H₀:=H
 env:=envOfC qual scope s.heap.objs.size f cd
 outer:=outer
 stack:=envOfC qual scope s.heap.objs.size f cd::outer
 ex:=[]
 calm:=true
 fn:=λ_=>true
 pn:=[]
 xe:=λe s'=>xf (xz P w) (A.deeper (envOfC qual scope s.heap.objs.size f cd)) (leaving (envOfC qual scope s.heap.objs.size f cd) e) (λ_ s''=>CX outer H s E e s'') (λe' s''=>CX outer H s E e' s'') s'
theorem ZfH {sc:Scope}(h:sc.names.lookup x=some .cell):∃c,(cellsFrom n sc.names []).lookup x=some c:=by
 have q:=qbM sc.names n [] (.inl h);exact zy.mp q
theorem Zjh {K:qd}
  (S:FnScope N ps scope) (hd:A.handled=none) (e0:Env0 P w K mg base A outer s H) (hl:vs.length=ps.length) (r:ZB vs us)
  (x:InCallC s s.heap.objs.size (bindL (envOfC qual scope s.heap.objs.size f cd).kindOf (ps.zip us) λ_=>none) (cellsFrom (s.heap.objs.size+1) scope.names []) (bindC (envOfC qual scope s.heap.objs.size f cd).kindOf (ps.zip us) λ_=>none) s1) :
  Inv (Wn CX P w K mg base N qual scope f cd A outer s H E) [] (start N vs) H s1:=by
 have hpl:ps.length<=N.length:=by have:=congrArg yR S.pre;rw[yg]at this;omega
 obtain⟨h1,tk,rfl,hk⟩:=x.done;have noA:∀b:Addr,b∉(Wn CX P w K mg base N qual scope f cd A outer s H E).ex:=λb z=>absurd (show b∈([]:List Addr)from z) (by simp);refine⟨⟨e0.mod,S.kind,rfl,rfl,qp _,λy z c h1 h2=>?_,λy hy=>?_,λy c _ h=>?_,λ_=>hd,qb4 e0.frames,.inr ⟨rfl,rfl⟩,λb z=>absurd z (noA b),e0.bs,e0.bsz,λb _ _=>noA b,λb z=>absurd z (noA b),e0.funs,e0.frf⟩,
  rfl,e0.bare,Un.kept hk,⟨_,x.toInCall.ns,λi y v h1 h2 h3=>?_⟩,λy c h=>⟨_,x.cell y c h⟩,e0.hok.fresh (qp _),λy c h=>?_,λp hp=>absurd (show p∈([]:Qb)from hp) (by simp),e0.hok.kept hk,?_⟩
 ·exact name_of_addr x.apart (zD h1) (zD h2)
 ·have hy:scope.names.lookup y=some .cell∨scope.names.lookup y=some .free:=hy
  rcases hy with hy | hy
  ·exact ZfH hy
  ·exact absurd rfl (S.nofree _ (zD hy))
 ·exact qbq (x.above y c (zD h))
 ·have hi:i<vs.length:=by
   unfold start at h2;by_cases hi:i<vs.length
   ·exact hi
   ·rw[zS (by simpa using hi)]at h2
    rw[z9]at h2;split at h2 <;> cases h2
  have ha:vs[i]?=some v:=by
   unfold start at h2;rw[zb (by simpa using hi),qG]at h2
   cases e:vs[i]? with
   | none=>rw[e]at h2;cases h2
   | some a=>rw[e]at h2;cases h2;rfl
  obtain⟨u,hu,rv⟩:=r.get ha;have hp:ps[i]?=some y:=by
   rw[<-S.pre,qak (by omega)];exact h1
  have ndP:ps.Nodup:=by rw[<-S.pre];exact S.nd.sublist (qaA _ _)
  refine⟨u,rv,?_⟩;rcases S.par y (zR hp)with k | k
  ·exact .inl ⟨k,Zef ndP hp hu k⟩
  ·obtain⟨c,e⟩:=ZfH (n:=s.heap.objs.size+1) k
   refine .inr ⟨.inl k,c,e,?_⟩;have q:=x.cell y c e;rw[Zeg ndP hp hu (by show scope.names.lookup y≠_;simp_all)]at q;exact q
 ·exact e0.hok.fresh (qbq (x.above y c (zD h)))
 ·unfold start
  show _=N.length
  grind
theorem Zic {K:qd}{kV:Value}
  (lk:K.lookup f=some ⟨oc,od,.func (yk name qual params body scope dV kV doc pm an cdv ct),osl⟩) (hcd:qas K cdv qual=true) (S:FnScope N ps scope)
  (len:∀vs H Q E,sp vs H Q E->vs.length=ps.length)
  (hbody:∀(A:xC) (outer:List Env) (s:Shared) (H:Hp) (vs:List V) (Q:VK) (E:XK),Room k (A.deeper (envOfC qual scope s.heap.objs.size f cdv))->sp vs H Q E->
   ∃t,XC (Wn CX P w K mg base N qual scope f cdv A outer s H E) body t/\t { nx:=λ_ H'=>Q .non H',rt:=Q } (start N vs) H) :
  FnOk P w K mg base CX (k+1) f (yk name qual params body scope dV kV doc pm an cdv ct) ps sp:=by
 refine⟨len,λA outer s H args us vs Q E hr e0 hb r hsp=>?_⟩;have hl:=len _ _ _ _ hsp;have KX:K.In s.heap:=e0.mod.kin.keeps λb o e=>(e0.bs b o e).1;have lim:s.heap.NoLimit:=e0.mod.nolimit.keeps λb o e=>(e0.bs b o e).1;have hkind:∀y∈ps.zip us,scope.names.lookup y.1=some .local∨(scope.names.lookup y.1=some .cell/\((cellsFrom (s.heap.objs.size+1) scope.names []).lookup y.1).isSome=true):=λ⟨n,v⟩ hy=>by
  rcases S.par n (qaY hy).1 with q | q
  ·exact .inl q
  ·exact .inr ⟨q,qbM _ _ _ (.inl q)⟩
 refine codeAny_call_function hr.depth (KX _ _ lk) rfl S.co S.gen rfl (PySem.W.codeRec_of KX hcd) (hb _ _ _ _ ?_);refine wpAny_newFunctionEnv_cells S.kind hkind λenv he s1 x=>?_;subst he;refine⟨lim.keeps x.toInCall.keep,codeAny_func ?_⟩;obtain⟨t,ht,hq⟩:=hbody A outer s H vs Q E (hr.deeper _) hsp;have I:Inv (Wn CX P w K mg base N qual scope f cdv A outer s H E) [] (start N vs) H s1:=Zjh S hr.hd e0 hl r x;refine xc (ht [] s1 (start N vs) H _ I hq) (λfl s' hs=>?_) λe s' hs=>hs;have fin:∀{σ':St} {H':Hp} {v:V} {u:Value},Inv (Wn CX P w K mg base N qual scope f cdv A outer s H E) [] σ' H' s'->ZF v u->Q v H'->CE outer P w H s Q u s':=
  λ{σ' H' v u} J rv q=>⟨v,H',J.os,J.bare,J.base,J.hok,rv,q⟩
 cases fl with
 | ret u=>
  obtain⟨v,σ',H',J,rv,q⟩:=hs;exact fin J rv q
 | next=>
  obtain⟨σ',H',J,q⟩:=hs;exact fin (v:=V.non) J rfl q
 | brk=>
  obtain⟨_,_,_,q⟩:=hs;simp_all
 | cont=>
  obtain⟨_,_,_,q⟩:=hs;simp_all
section
variable {X:Cx}{x:Str}{p pos:Pos}{e:Expr}{es:List Expr}{t:TA}{id T:String}{r:List V->Hp->VK->Prop}
def tCB (r:List V->Hp->VK->Prop)(t:TA):TE:=fun σ H Q=>t σ H λvs H1=>r vs H1 Q
theorem V9 (hc:Xi X (.builtin id) r)(hg:Gl X x)(hm:X.mg x=none)(hv:xj x=some (.builtin id))(ha:PA X (e::es) t)(hn:x≠"__name__":=by decide)(hdb:(x==("__debug__" : Str))=false:=by decide)
  (he:xh (e::es) X.env=(false,eval e X.env)::xh es X.env:=by rfl) (hpl:(backTo pos (xh es X.env)).any (·.1)=false:=by rfl):PE X (.Call (.Name x p) (e::es) [] pos) (tCB r t):=by
 intro jM s σ H Q I h;refine wpAny_Call_Name_kw (UB I hg hm hv ?_ hn hdb);exact PyProof.Rows.callWith_builtin1 (ZJ (ha pos jM s σ H _ I h) λus s1 ⟨vs,H1,I1,r1,q1⟩=>hc jM s1 σ H1 vs us Q I1 r1 q1) he hpl
theorem UU (hc:Xi X (.type T) r)(hg:Gl X x)(hm:X.mg x=none)(hv:xj x=some (.type T))(ha:PA X (e::es) t)(hn:x≠"__name__":=by decide)(hdb:(x==("__debug__" : Str))=false:=by decide)
  (he:xh (e::es) X.env=(false,eval e X.env)::xh es X.env:=by rfl) (hpl:(backTo pos (xh es X.env)).any (·.1)=false:=by rfl):PE X (.Call (.Name x p) (e::es) [] pos) (tCB r t):=by
 intro jM s σ H Q I h;refine wpAny_Call_Name_kw (UB I hg hm hv ?_ hn hdb);exact ya (ZJ (ha pos jM s σ H _ I h) λus s1 ⟨vs,H1,I1,r1,q1⟩=>hc jM s1 σ H1 vs us Q I1 r1 q1) he hpl
end
end L2
namespace HT
def lexLt:List Int->List Int->Bool
 | [],[]=>false
 | [],_::_=>true
 | _::_,[]=>false
 | x::xs,y::ys=>if x=y then lexLt xs ys else decide (x<y)
theorem Zhb (x y:Int)(xs ys:List Int):lexLt (x::xs) (y::ys)=if x=y then lexLt xs ys else decide (x<y):=rfl
theorem ZdQ:lexLt [] []=false:=rfl
theorem ZcR (y:Int)(ys:List Int):lexLt [] (y::ys)=true:=rfl
theorem ZcS (x:Int)(xs:List Int):lexLt (x::xs) []=false:=rfl
theorem ZkN (A:xC)(s:Shared)(a:Int)(t:Tok)(c:Int)(u:Tok):∃e,y6 A s (.int a t) (.int c u) e/\(e=true↔a=c):=
 ⟨(a==c),y6.int_int a t c u,by simp⟩
theorem ZkO (A:xC)(s:Shared)(a:Int)(t:Tok)(c:Int)(u:Tok)(prog:xB)(w:World)(E:xD)(Q:xD)(h:Q (.bool (decide (a<c))) s) :
  xf (xz prog w) A (richCompare .Lt (.int a t) (.int c u)) Q E s:=
 (PyProof.Rows.lt_int h:xf (xz prog w) A (xk .Lt (.int a t) (.int c u)) Q E s)
section
open PySem.SeqAt
open PySem.AutoSeq1 (wpAny_loadPart')
open PySem.MeetsSeq PySem.MeetsSeq2 PySem.MeetsSeq3
theorem ZdR (l b:Addr)(items items2:Array Value)(n n2:Nat)(dd dd2:Option Addr)(sl sl2:Array (Option Value))(ns ms:List Int)(hi:IntsAre items.toList ns)(hj:IntsAre items2.toList ms) :
  Meets (Builtin.«tuple.__lt__» ⟨[.ref l,.ref b],[]⟩)
   (λ_ R s=>s.heap.get? l=some { cls:=.type "tuple",dict:=dd,data:=.seq items n,slots:=sl }/\s.heap.get? b=some { cls:=.type "tuple",dict:=dd2,data:=.seq items2 n2,slots:=sl2 }/\
    R (.ok (.ret (.bool (lexLt ns ms)))) s):=
 .of_wp λprog w A R s h=>by
  obtain⟨hp,g,d,tk,os⟩:=s;obtain⟨hl,hb,h⟩:=h;have f2:=yD;have z1:items.size=ns.length:=by rw[<-hi.length];simp
  have z2:items2.size=ms.length:=by rw[<-hj.length];simp
  wp_walk using wpAny_loadPart' hl,wpAny_loadPart' hb,wpAny_forIn_list _ (λrest b s'=>b.1=none/\s'=⟨hp,g,d,tk,os⟩/\∃(vs ws:List Value) (ns' ms':List Int),rest=vs.zip ws/\
   IntsAre vs ns'/\IntsAre ws ms'/\ns'.length+items2.size=ms'.length+items.size/\R (.ok (.ret (.bool (lexLt ns' ms')))) ⟨hp,g,d,tk,os⟩) _
  case turn=>
   rintro⟨y,x⟩ rest b s' ⟨hb',rfl,vs,ws,ns',ms',hz,hvi,hwi,jW,hR⟩
   cases hvi with
   | nil=>rw[List.zip_nil_left]at hz;cases hz
   | cons a t hvi'=>
    cases hwi with
    | nil=>rw[List.zip_nil_right]at hz;cases hz
    | cons c u hwi'=>
     rw[List.zip_cons_cons]at hz;injection hz with hyx hrest;injection hyx with hy hx;subst hy hx;rw[Zhb]at hR;simp only[zB]at jW;obtain⟨e,he,hiff⟩:=ZkN A.in1 ⟨hp,g,d,tk,os⟩ a t c u;refine xa (he prog w _ _ ?_)
     cases e with
     | true=>
      rw[if_pos (hiff.mp rfl)]at hR
      wp_walk
      exact⟨rfl,rfl,_,_,_,_,hrest,hvi',hwi',by omega,hR⟩
     | false=>
      rw[if_neg (λq=>absurd (hiff.mpr q) yt)]at hR;have hri:=ZkO A.in1 ⟨hp,g,d,tk,os⟩ a t c u prog w
      wp_walk using hri
      exact⟨_,rfl,by simpa using hR⟩
  case fin=>
   rintro⟨b1,b2⟩ s' ⟨hb',rfl,vs,ws,ns',ms',hz,hvi,hwi,jW,hR⟩;simp only at hb';subst hb';have hv:lexLt ns' ms'=decide (items.size<items2.size):=by
    cases hvi with
    | nil=>
     cases hwi with
     | nil=>
      simp only[yw]at jW;rw[ZdQ];exact(decide_eq_false (by omega)).symm
     | cons c u hw=>
      simp only[yw,zB]at jW;rw[ZcR];exact(decide_eq_true (by omega)).symm
    | cons a t hv=>
     cases hwi with
     | nil=>
      simp only[yw,zB]at jW;rw[ZcS];exact(decide_eq_false (by omega)).symm
     | cons c u hw=>
      rw[List.zip_cons_cons]at hz
      cases hz
   rw[hv]at hR
   wp_walk
   exact⟨_,rfl,by simpa[Builtin.Tuple.tupleCompareSizes]using hR⟩
  case h=>
   exact⟨rfl,rfl,items.toList,items2.toList,ns,ms,rfl,hi,hj,by omega,h⟩
end
section
variable {prog:xB}{w:World}{A:xC}{E:xD}{s:Shared}
theorem lt_tupInts (hl:IsTup s.heap l items)(hb:IsTup s.heap b items2)(hi:IntsAre items.toList ns)(hj:IntsAre items2.toList ms)
  (hu:A.units<cLine) (h:Q (.bool (lexLt ns ms)) s):xf (xz prog w) A (xk .Lt (.ref l) (.ref b)) Q E s:=by
 obtain⟨⟨cls,dd,data,sl⟩,ho,hc,n,hd⟩:=id hl;obtain⟨⟨cls2,dd2,data2,sl2⟩,ho2,hc2,n2,hd2⟩:=id hb;subst hc hd hc2 hd2;exact richCompare_meets_room (op:=.Lt) ⟨_,ho,rfl⟩ ⟨_,ho2,rfl⟩ PySem.F.slot_tuple_lt PySem.F.entry_tuple_lt (PySem.F.args_tuple_lt_2 _ _) (ZdR l b items items2 n n2 dd dd2 sl sl2 ns ms hi hj)
  ⟨ho,ho2,show zP (lexLt ns ms)≠qb5/\Q (.bool (lexLt ns ms)) s from⟨(λx=>nomatch x),h⟩⟩ hu
theorem cat_tup (ht:IsTup s.heap t vs.toArray)(hb:IsTup s.heap b ws.toArray)(hv:vs≠[])
  (h1:ws=[]->Q (.ref t) s) (h2:ws≠[]->Q (.ref s.heap.objs.size) { s with heap:=s.heap.push { cls:=.type "tuple",data:=.seq (vs++ws).toArray } })
  (hsz:vs.length+ws.length<=xg):xf (xz prog w) A (binaryOp .Add (.ref t) (.ref b)) Q E s:=by
 obtain⟨⟨cls,dd,data,sl⟩,ho,hc,n,hd⟩:=id ht;obtain⟨⟨cls2,dd2,data2,sl2⟩,ho2,hc2,n2,hd2⟩:=id hb;subst hc hd hc2 hd2;have e:vs.toArray++ws.toArray=(vs++ws).toArray:=by simp
 by_cases hw:ws=[]
 ·exact concat_meets ⟨_,ho,rfl⟩ ⟨_,ho2,rfl⟩ noFill_tuple_add seq_tuple_add qaF qau (qal _ _)
   (tuple_addW1 t b vs.toArray ws.toArray n n2 dd dd2 sl sl2 (by simpa using hv) (by simp[hw])) ⟨ho,ho2,h1 hw⟩
 ·refine concat_meets ⟨_,ho,rfl⟩ ⟨_,ho2,rfl⟩ noFill_tuple_add seq_tuple_add qaF qau (qal _ _)
   (tuple_addW2 t b vs.toArray ws.toArray n n2 dd dd2 sl sl2 (by simpa using hv) (by simp_all) (by omega)) ⟨ho,ho2,?_⟩
  rw[e];exact h2 hw
end
end HT
namespace L2
theorem WR:∀{us:List Value},ZB (ns.map V.int) us->IntsAre us ns:=by
 induction ns with
 | nil=>intro us r;cases r;exact .nil
 | cons n ns ih=>
  intro us r
  cases r with
  | cons r1 r2=>
   obtain⟨t,e⟩:=r1;subst e;exact .cons n t (ih r2)
section
variable {X:Cx}{e:Expr}{te:TE}{lo hi:Option Expr}{tl th:TO}{pos p2:Pos}
def rLtT (K:qd):R2:=λx y H Q=>∃a b ns ms,x=.ref a/\y=.ref b/\ZO K H a (ns.map V.int)/\ZO K H b (ms.map V.int)/\Q (.bl (HT.lexLt ns ms)) H
theorem Zoz (hu:X.A.units<cLine):Yl X (xk .Lt) (rLtT X.K):=by
 intro jM s σ H x y v u Q I rx ry h;obtain⟨a,b,ns,ms,rfl,rfl,ha,hb,q⟩:=h
 cases rx
 cases ry
 obtain⟨jO,r1,p1,_⟩:=I.tuple ha;obtain⟨kb,r2,p2,_⟩:=I.tuple hb;have i1:=WR r1;have i2:=WR r2;exact HT.lt_tupInts p1 p2 i1 i2 hu ⟨.bl (HT.lexLt ns ms),H,I,rfl,q⟩
def ZpB (K:qd):R2:=λx y H Q=>∃a b xs ys,x=.ref a/\y=.ref b/\ZO K H a xs/\ZO K H b ys/\xs≠[]/\xs.length+ys.length<=xg/\
 (ys=[]->Q (.ref a) H)/\(ys≠[]->∀p,H p=none->Q (.ref p) (Zi H p (.tup (xs++ys))))
theorem ZB.nil_iff (r:ZB xs us):us=[]↔xs=[]:=by
 cases r with
 | nil=>simp
 | cons _ _=>simp
theorem ZmJ:Yl X (binaryOp .Add) (ZpB X.K):=by
 intro jM s σ H x y v u Q I rx ry h;obtain⟨a,b,xs,ys,rfl,rfl,ha,hb,hx,hz,q1,q2⟩:=h
 cases rx
 cases ry
 obtain⟨jO,r1,p1,_⟩:=I.tuple ha;obtain⟨kb,r2,p2,_⟩:=I.tuple hb;refine HT.cat_tup p1 p2 (λz=>hx (r1.nil_iff.mp z)) (λz=>⟨.ref a,H,I,rfl,q1 (r2.nil_iff.mp z)⟩) (λz=>?_) (by rw[<-r1.length,<-r2.length];exact hz);refine⟨.ref s.heap.objs.size,_,I.laid (λb ob q=>qf _ q) (qp _) ?_,rfl,q2 (λw=>z (r2.nil_iff.mpr w)) _ (I.hok.fresh (qp _))⟩;exact⟨by simp_all,_,r1.append r2,qch _ _⟩
end
def V4 (n:Nat)(i:Int):Option Nat:=if 0<=i then (if i<n then some i.toNat else none)else if -(n:Int)<=i then some (i+n).toNat else none
def WA {α:Type}(xs:List α)(i:Int):Option α:=(V4 xs.length i).bind λj=>xs[j]?
theorem Zid (h:V4 n i=some j):seqIndex? i n=some j/\j<n/\-(n:Int)<=i/\i<n:=by
 unfold V4 at h;by_cases h0:0<=i
 ·rw[if_pos h0]at h
  by_cases h1:i<n
  ·rw[if_pos h1]at h
   have e:=zG h;exact⟨by rw[seqIndex_of h0 h1,e],by omega,by omega,h1⟩
  ·simp_all
 ·rw[if_neg h0]at h
  by_cases h1:-(n:Int)<=i
  ·rw[if_pos h1]at h
   have e:=zG h;exact⟨by rw[seqIndex_neg (by omega) h1,e],by omega,h1,by omega⟩
  ·simp_all
theorem Zie {xs:List α}{v:α}(h:WA xs i=some v):∃j,seqIndex? i xs.length=some j/\xs[j]?=some v/\j<xs.length/\-(xs.length:Int)<=i/\i<xs.length:=by
 unfold WA at h
 cases e:V4 xs.length i with
 | none=>simp_all
 | some j=>
  rw[e]at h;obtain⟨h1,h2,h3,h4⟩:=Zid e;exact⟨j,h1,h,h2,h3,h4⟩
theorem X7 {xs:List α}{j:Nat}{v:α}(h:xs[j]?=some v):WA xs (j:Int)=some v:=by
 have hj:=(qz.mp h).1;have e:V4 xs.length (j:Int)=some j:=by
  unfold V4;simp_all
 unfold WA;rw[e];exact h
def Zif (b:Expr):Prop:=∀o i,subscripted b false o i=operate [o,i] (getItem o i)
def Ut (X:Cx)(r:R2):Prop:=
 ∀(value slice:Expr) (jM:Qb) (s:Shared) (σ:St) (H:Hp) (x y:V) (v u:Value) (Q:VK),Inv X jM σ H s->ZF x v->ZF y u->r x y H Q->
  subscripted slice false v u=operate [v,u] (getItem v u)->xf (xz X.prog X.w) X.A (subscriptTail value slice v u) (EP X jM σ Q) X.xe s
def MtR (X:Cx)(id:String)(r:V->List V->Hp->VK->Prop):Prop:=
 ∀(jM:Qb) (s:Shared) (σ:St) (H:Hp) (x:V) (xs:List V) (v:Value) (us:List Value) (Q:VK),Inv X jM σ H s->ZF x v->ZB xs us->r x xs H Q->
  xf (xz X.prog X.w) X.A (call (.builtin id) (v::us)) (EP X jM σ Q) X.xe s
section
variable {X:Cx}{a b:Expr}{ta tb:TE}{pos:Pos}
theorem Ut.or (h:Ut X r)(h':Ut X r'):Ut X (λx y H Q=>r x y H Q∨r' x y H Q):=by
 intro value slice jM s σ H x y v u Q I rx ry q hs;rcases q with q | q
 ·exact h value slice jM s σ H x y v u Q I rx ry q hs
 ·exact h' value slice jM s σ H x y v u Q I rx ry q hs
theorem JW (hr:Ut X r)(ha:PE X a ta)(hb:PE X b tb)(hs:Zif b):PE X (.Subscript a b pos) (YN r ta tb):=by
 intro jM s σ H Q I h;exact Subscript_ (binT ha hb I h λv u s2 x y H2 I2 rx ry q=>hr a b jM s2 σ H2 x y v u Q I2 rx ry q (hs _ _))
def rIxL (K:qd):R2:=λx y H Q=>∃p xs i v,x=.ref p/\y=.int i/\ZD K H p xs/\WA xs i=some v/\Q v H
def rIxT (K:qd):R2:=λx y H Q=>∃p xs i v,x=.ref p/\y=.int i/\ZO K H p xs/\WA xs i=some v/\Q v H
theorem BF:Ut X (rIxL X.K):=by
 intro value slice jM s σ H x y v u Q I rx ry h hs;obtain⟨p,xs,i,z,rfl,rfl,hq,he,q⟩:=h
 cases rx
 obtain⟨t,rfl⟩:=ry;obtain⟨jO,r,pl,hz⟩:=I.list hq;obtain⟨j,h1,h2,h3,h4,h5⟩:=Zie he;obtain⟨w,ew,rw'⟩:=r.get h2;have hl:=r.length;have hn:=BP;have fin:EP X jM σ Q w s:=⟨z,H,I,rw',q⟩;by_cases h0:0<=i
 ·have hj:i.toNat=j:=by
   rw[seqIndex_of h0 h5]at h1;exact zG h1
  exact item_listR pl.isList h0 (by omega) (by rw[hj];simpa using ew) fin hs
 ·have hj:(i+(jO.toArray.size:Int)).toNat=j:=by
   rw[seqIndex_neg (by omega) h4]at h1;simp_all
  exact subscriptTail_builtinR pl.isList.typeIs slot_list_getitem.lookup
   (wpAny_getItem_list_neg pl.isList (by omega) (by simp_all) (by omega) (by rw[hj];simpa using ew) ⟨rfl,fin⟩) hs
theorem ZkP:Ut X (rIxT X.K):=by
 intro value slice jM s σ H x y v u Q I rx ry h hs;obtain⟨p,xs,i,z,rfl,rfl,hq,he,q⟩:=h
 cases rx
 obtain⟨t,rfl⟩:=ry;obtain⟨jO,r,pl,hz⟩:=I.tuple hq;obtain⟨j,h1,h2,h3,h4,h5⟩:=Zie he;obtain⟨w,ew,rw'⟩:=r.get h2;have hl:=r.length;have hn:=BP;have fin:EP X jM σ Q w s:=⟨z,H,I,rw',q⟩;exact subscriptTail_builtinR pl.typeIs slot_tuple_getitem.lookup
  (getItem_tuple (j:=j) pl (by omega) (by omega) (by simp_all) (by simpa using ew) ⟨rfl,fin⟩) hs
theorem Zhc (jO:List Value)(n j:Nat)(u:Value):zm (·.setIfInBounds j u) { cls:=.type "list",data:=.seq jO.toArray n } = { cls:=.type "list",data:=.seq (jO.set j u).toArray n }:=by
 simp[zm]
theorem Inv.lst {σ:St}(I:Inv X jM σ H s)(h:H p=some (.lst xs)) :
  ∃(jO:List Value) (n:Nat),ZB xs jO/\s.heap.get? p=some { cls:=.type "list",data:=.seq jO.toArray n }/\xs.length<=xg:=by
 obtain⟨z,jO,n,r,e⟩:=I.hok p _ h;exact⟨jO,n,r,e,z⟩
theorem Inv.lstUpd {σ:St}{jO:List Value}(I:Inv X jM σ H s)(h:H p=some (.lst xs))
  (ho:s.heap.get? p=some { cls:=.type "list",data:=.seq jO.toArray n }) (hf:f { cls:=.type "list",data:=.seq jO.toArray n } = { cls:=.type "list",data:=.seq its'.toArray n' }) (r:ZB ys its') (hz:ys.length<=xg) (t:Nat) :
  Inv X jM σ (Zi H p (.lst ys)) { s with heap:=s.heap.update p f,toks:=t }:=by
 have e:(s.heap.update p f).get? p=some { cls:=.type "list",data:=.seq its'.toArray n' }:=by
  rw[zX f ho (by rw[hf] <;> rfl),hf]
 refine I.write (by rw[h];trivial) (.inl rfl) (λb u hb q=>(zV _ _ (ze hb)).trans q) ⟨_,e⟩ ?_;exact⟨hz,its',n',r,e⟩
def ZnT:V->V->V->Hp->(Hp->Prop)->Prop:=λo i v H Q=>∃p xs k j,o=.ref p/\i=.int k/\H p=some (.lst xs)/\V4 xs.length k=some j/\Q (Zi H p (.lst (xs.set j v)))
theorem ZkQ:PSet X ZnT:=by
 intro jM s σ H o i v ov iv u Q I ro ri rv h;obtain⟨p,xs,k,j,rfl,rfl,hp,hj,q⟩:=h
 cases ro
 obtain⟨t,rfl⟩:=ri;obtain⟨jO,n,r,ho,hz⟩:=I.lst hp;obtain⟨h1,h2,h3,h4⟩:=Zid hj;have hl:=r.length;have hn:=BP;have I':Inv X jM σ (Zi H p (.lst (xs.set j v))) { s with heap:=s.heap.update p (zm (·.setIfInBounds j u)) }:=
  I.lstUpd hp ho (Zhc jO n j u) (r.set rv j) (by rw[ym];exact hz) s.toks
 by_cases h0:0<=k
 ·have hk:k.toNat=j:=by
   rw[seqIndex_of h0 h4]at h1;exact zG h1
  exact PySem.W.ki_setAt ho h0 (by omega) (by rw[zf,<-hl];exact h4) (by rw[hk];exact⟨_,I',q⟩)
 ·have hk:(k+(jO.toArray.size:Int)).toNat=j:=by
   rw[seqIndex_neg (by omega) h3]at h1;simp_all
  exact PySem.W.ki_setBack ho (by omega) (by simp_all) (by omega) (by rw[hk];exact⟨_,I',q⟩)
theorem Zap:Xi X (.builtin "len") (λxs H Q=>∃p ys,xs=[.ref p]/\(ZD X.K H p ys∨ZO X.K H p ys)/\Q (.int ys.length) H):=by
 intro jM s σ H xs us Q I r h;obtain⟨p,ys,rfl,hq,q⟩:=h;obtain⟨u,rfl,rx⟩:=XT r
 cases rx
 have hn:=BP;rcases hq with hq | hq
 ·obtain⟨jO,r',pl,hz⟩:=I.list hq
  have jW:=r'.length;exact Calls.call_len_list pl.isList (by simp only[zf] <;> omega) ⟨.int ys.length,H,I.tok _,⟨s.toks+1,by simp_all⟩,q⟩
 ·obtain⟨jO,r',pl,hz⟩:=I.tuple hq
  have jW:=r'.length;exact len_tuple pl (by simp only[zf] <;> omega) ⟨.int ys.length,H,I.tok _,⟨s.toks+1,by simp_all⟩,q⟩
theorem ZeY:Xi X (.type "list") (λxs H Q=>∃p ys,xs=[.ref p]/\(ZD X.K H p ys∨ZO X.K H p ys)/\∀l,H l=none->Q (.ref l) (Zi H l (.lst ys))):=by
 intro jM s σ H xs us Q I r h;obtain⟨p,ys,rfl,hq,q⟩:=h;obtain⟨u,rfl,rx⟩:=XT r
 cases rx
 have fin:∀(jO:List Value),ZB ys jO->ys.length<=xg->∀(h':Heap) (c':Nat),(∀b o',s.heap.get? b=some o'->h'.get? b=some o')->
   h'.get? s.heap.objs.size=some { cls:=.type "list",dict:=none,data:=.seq jO.toArray c',slots:=#[] }->EP X jM σ Q (.ref s.heap.objs.size) { s with heap:=h' }:=λjO r' hz h' c' kp e=>
  ⟨.ref s.heap.objs.size,_,I.laid kp (qp _) (show Yq X.prog X.w _ h' _ (.lst ys)from⟨hz,jO,c',r',e⟩),rfl,q _ (I.hok.fresh (qp _))⟩
 rcases hq with hq | hq
 ·obtain⟨jO,r',pl,hz⟩:=I.list hq
  have jW:=r'.length;obtain⟨o,ho,hc,n,hd⟩:=pl.isList;exact call_list_seq p (.inl rfl) ho hc hd (λh' c' kp e=>fin jO r' hz h' c' kp e) (by simp_all)
 ·obtain⟨jO,r',pl,hz⟩:=I.tuple hq
  have jW:=r'.length;obtain⟨o,ho,hc,n,hd⟩:=pl;exact call_list_seq p (.inr rfl) ho hc hd (λh' c' kp e=>fin jO r' hz h' c' kp e) (by simp_all)
theorem ZdS:Xi X (.type "tuple") (λxs H Q=>∃p ys,xs=[.ref p]/\((ZD X.K H p ys/\∀l,H l=none->Q (.ref l) (Zi H l (.tup ys)))∨(ZO X.K H p ys/\Q (.ref p) H))):=by
 intro jM s σ H xs us Q I r h;obtain⟨p,ys,rfl,h⟩:=h;obtain⟨u,rfl,rx⟩:=XT r
 cases rx
 rcases h with⟨hq,q⟩ | ⟨hq,q⟩
 ·obtain⟨jO,r',pl,hz⟩:=I.list hq
  have jW:=r'.length;refine call_tuple_list pl.isList (λh' kp=>?_) (by simp_all);have I1:Inv X jM σ H { s with heap:=h' }:=I.kept kp;have I2:Inv X jM σ (Zi H h'.objs.size (.tup ys)) { s with heap:=h'.push { cls:=.type "tuple",data:=.seq jO.toArray } }:=
   I1.laid (λb o e=>qf _ e) (qp _) (show Yq X.prog X.w _ _ _ (.tup ys)from⟨hz,jO,r',qch _ _⟩)
  exact⟨.ref h'.objs.size,_,I2,rfl,q _ (I1.hok.fresh (qp _))⟩
 ·obtain⟨jO,r',pl,hz⟩:=I.tuple hq
  exact call_tuple_same pl ⟨.ref p,H,I,rfl,q⟩
def tyV (K:qd)(T:String)(x:V)(H:Hp):Prop:=match x with
 | .str _=>T = "str"
 | .int _=>T = "int"
 | .ref p=>(T = "list"/\∃xs,ZD K H p xs)∨(T = "tuple"/\∃o,K.lookup p=some o/\o.cls=.type "tuple"/\o.dict=none)∨
   (T = "dict"/\((∃kvs,H p=some (.dK kvs))∨∃kvs,H p=some (.dT kvs)))∨(T = "set"/\∃S n,H p=some (.set S n))
 | _=>False
theorem ZoA {σ:St}(I:Inv X jM σ H s)(r:ZF x v)(ty:tyV X.K T x H) :
  s.TypeIs v T/\∀a,v=.ref a->∃ob,s.heap.get? a=some ob/\ob.dict=none:=by
 cases x with
 | str z=>
  obtain⟨t,rfl⟩:=r
  cases (show T = "str" from ty)
  exact⟨typeIs_str s z t,λ_ e=>nomatch e⟩
 | int i=>
  obtain⟨t,rfl⟩:=r
  cases (show T = "int" from ty)
  exact⟨typeIs_int s i t,λ_ e=>nomatch e⟩
 | ref p=>
  cases r
  rcases ty with⟨rfl,xs,hq⟩ | ⟨rfl,o,hk,hc,hd⟩ | ⟨rfl,hk⟩ | ⟨rfl,S,n,hk⟩
  ·obtain⟨jO,_,pl,_⟩:=I.list hq
   refine⟨pl.isList.typeIs,λa e=>?_⟩
   cases e
   obtain⟨o,n,e,c,hd,_⟩:=pl;exact⟨o,e,hd⟩
  ·refine⟨⟨o,I.kIn p o hk,hc⟩,λa e=>?_⟩
   cases e
   exact⟨o,I.kIn _ o hk,hd⟩
  ·have z:∃o,s.heap.get? p=some o/\o.ExactDict:=by
    rcases hk with⟨kvs,hk⟩ | ⟨kvs,hk⟩
    ·obtain⟨_,_,_,_,o,_,_,e,ex,_⟩:=I.hok p _ hk
     exact⟨o,e,ex⟩
    ·obtain⟨_,_,_,_,o,_,_,e,ex,_⟩:=I.hok p _ hk
     exact⟨o,e,ex⟩
   obtain⟨o,e,ex⟩:=z;refine⟨⟨o,e,ex.1⟩,λa e2=>?_⟩
   cases e2
   exact⟨o,e,ex.2.1⟩
  ·obtain⟨o,_,_,_,e,ex,_⟩:=I.hok p _ hk
   refine⟨⟨o,e,ex.1⟩,λa e2=>?_⟩
   cases e2
   exact⟨o,e,ex.2.1⟩
 | _=>exact zj ty
def VB (K:qd)(T:String)(r:V->List V->Hp->VK->Prop)(to:TE)(t:TA):TE:=fun σ H Q=>to σ H λx H1=>tyV K T x H1/\t σ H1 λxs H2=>r x xs H2 Q
variable {o e:Expr}{es:List Expr}{to:TE}{t:TA}{name:Str}{apos cpos:Pos}{T id:String}{r:V->List V->Hp->VK->Prop}
theorem U8 (pa:PlainAttrs T)(slot:Slot T name id)(hty:typeOf (.builtin id)=pure (.type "method_descriptor"))(hm:MtR X id r)(ho:PE X o to)(ha:PA X (e::es) t)
  (hbase:xq o name X.env (eval o X.env)=eval o X.env:=by rfl)
  (hfew:((backTo cpos (xh (e::es) X.env)).all (λx=>!x.1)&&(xp cpos (xi [] X.env)).all (λx=>x.1.isSome)
   && decide ((e::es).length+([]:List Keyword).length+(if ([]:List Keyword).isEmpty then 0 else 1)<30))=true:=by rfl)
  (hline:(apos.endLine==cpos.line)=true:=by rfl) (hs:xh (e::es) X.env=(false,eval e X.env)::xh es X.env:=by rfl) (hplain:(backTo cpos (xh es X.env)).any (·.1)=false:=by rfl) :
  PE X (.Call (.Attribute o name apos) (e::es) [] cpos) (VB X.K T r to t):=by
 intro jM s σ H Q I h;refine wpAny_Call_method_late hbase hfew hline rfl (ZJ (ho jM s σ H _ I h) λv s1 ⟨x,H1,I1,r1,ty,q1⟩=>?_);obtain⟨h1,h2⟩:=ZoA I1 r1 ty;refine⟨T,id,pa,slot,hty,h1,h2,?_⟩;have hA:=ha cpos jM s1 σ H1 _ I1 q1;rw[hs]at hA⊢;refine qaG (by show(false||(backTo cpos (xh es X.env)).any (·.1))=false;rw[hplain] <;> rfl) (qaZ ?_);exact ZJ hA λus s2 ⟨vs,H2,I2,r2,q2⟩=>hm jM s2 σ H2 x vs v us Q I2 r1 r2 q2
end
def MtM (X:Cx)(id:String)(r:V->List V->Hp->VK->Prop):Prop:=
 ∀(jM:Qb) (s:Shared) (σ:St) (H:Hp) (x:V) (xs:List V) (v:Value) (us:List Value) (Q:VK),Inv X jM σ H s->ZF x v->ZB xs us->r x xs H Q->
  xf (xz X.prog X.w) X.A (call (.builtin id) (v::us)) (EP X jM σ Q) X.xe s
theorem ZB.one:∀{x:V} {us:List Value},ZB [x] us->∃u,us=[u]/\ZF x u
 | _,_,.cons r .nil=>⟨_,rfl,r⟩
theorem ZB.two:∀{x y:V} {us:List Value},ZB [x,y] us->∃u v,us=[u,v]/\ZF x u/\ZF y v
 | _,_,_,.cons r (.cons q .nil)=>⟨_,_,rfl,r,q⟩
theorem ZB.eraseIdx:∀{xs:List V} {us:List Value} (i:Nat),ZB xs us->ZB (xs.eraseIdx i) (us.eraseIdx i)
 | _,_,_,.nil=>.nil
 | _,_,0,.cons _ t=>t
 | _,_,i+1,.cons r t=>.cons r (ZB.eraseIdx i t)
theorem ZB.rep (h:ZB xs us):∀k:Nat,ZB (qm k xs).flatten (qm k us).flatten
 | 0=>.nil
 | k+1=>by
  exact ZB.append h (ZB.rep h k)
theorem Zeh {α:Type}:∀(l:List α) (i:Nat),(l.eraseIdx i).length<=l.length
 | [],_=>qp _
 | _::_,0=>qa8 _
 | _::r,i+1=>Nat.succ_le_succ (Zeh r i)
theorem Zb6 (jO:List Value):∀(k:Nat) (jT:List Value),
  qa0 (λx1 x2=>x1++x2) jT.toArray (qm k jO.toArray)=(jT++(qm k jO).flatten).toArray
 | 0,jT=>by simp
 | k+1,jT=>by
  have e:jT.toArray++jO.toArray=(jT++jO).toArray:=by simp
  have e2:(jT++jO)++(qm k jO).flatten=jT++(qm (k+1) jO).flatten:=by
   grind
  rw[<-e2,<-Zb6 jO k (jT++jO),<-e,List.replicate_succ,List.foldl_cons]
section
variable {X:Cx}{jM:Qb}{σ:St}{H:Hp}{s:Shared}{l b:Addr}{xs ys zs:List V}
theorem Inv.lset {jO:List Value}(I:Inv X jM σ H s)(hH:H l=some (.lst xs))
  (e:s.heap.get? l=some { cls:=.type "list",data:=.seq jO.toArray n }) (hf:f jO.toArray=its'.toArray) (hv:ZB ys its') (hz:ys.length<=xg) :
  Inv X jM σ (Zi H l (.lst ys)) { s with heap:=s.heap.update l (zm f),toks:=t' }:=by
 have q:=PySem.IsL.update e f;rw[hf]at q;refine I.write (by rw[hH];exact trivial) (.inl rfl) (λb' u hb hu=>(zV s.heap (zm f) (ze hb)).trans hu) ⟨_,q⟩ ?_;exact⟨hz,its',_,hv,q⟩
theorem Inv.lnew (I:Inv X jM σ H s)(hv:ZB ys jO)(hz:ys.length<=xg) :
  Inv X jM σ (Zi H s.heap.objs.size (.lst ys)) { s with heap:=s.heap.push { cls:=.type "list",data:=.seq jO.toArray },toks:=t' }:=
 I.laid (λ_ _ q=>qf _ q) (qp _) ⟨hz,jO,0,hv,qq _ rfl⟩
theorem Inv.fresh (I:Inv X jM σ H s):H s.heap.objs.size=none:=I.hok.fresh (qp _)
theorem Inv.lstM (I:Inv X jM σ H s)(hH:H l=some (.lst xs)):xs.length<=xg/\∃(jO:List Value) (n:Nat),ZB xs jO/\xs.length=jO.length/\s.heap.get? l=some { cls:=.type "list",data:=.seq jO.toArray n }:=by
 obtain⟨z,jO,n,r,e⟩:=I.hok l _ hH;exact⟨z,jO,n,r,r.length,e⟩
theorem ZfI (h:n<=xg):yE n=false:=by
 unfold yE
 grind
end
section
variable {X:Cx}
def BG:V->List V->Hp->VK->Prop:=λx vs H Q=>∃l xs y,x=.ref l/\vs=[y]/\H l=some (.lst xs)/\xs.length<xg/\Q .non (Zi H l (.lst (xs ++ [y])))
theorem Zb7:MtM X "list.append" BG:=by
 intro jM s σ H x vs v us Q I rx rv h;obtain⟨l,xs,y,rfl,rfl,hH,hz,q⟩:=h
 cases rx
 obtain⟨u,rfl,ru⟩:=rv.one;obtain⟨z,jO,n,r,hl,e⟩:=I.lstM hH;refine call_meets F.slot_list_append ⟨_,e,rfl⟩ F.entry_list_append (F.args_list_append_2 _ _) (PySem.list_append l jO.toArray n u (by grind)) ⟨e,?_⟩;refine⟨.non,_,I.lset hH e (by simp) (r.append (.cons ru .nil)) ?_,rfl,q⟩
 grind
def ZcF:V->List V->Hp->VK->Prop:=λx vs H Q=>∃l b xs zs,x=.ref l/\vs=[.ref b]/\H l=some (.lst xs)/\H b=some (.lst zs)/\xs.length+zs.length<=xg/\Q .non (Zi H l (.lst (xs++zs)))
theorem Zji:MtM X "list.extend" ZcF:=by
 intro jM s σ H x vs v us Q I rx rv h;obtain⟨l,b,xs,zs,rfl,rfl,hH,hB,hz,q⟩:=h
 cases rx
 obtain⟨u,rfl,ru⟩:=rv.one
 cases ru
 obtain⟨z,jO,n,r,hl,e⟩:=I.lstM hH;obtain⟨z2,kb,n2,r2,hl2,e2⟩:=I.lstM hB;have hsz:jO.toArray.size+kb.toArray.size<=xg:=by grind
 have hlong:¬(!jO.toArray.isEmpty&&yE (jO.toArray.size+kb.toArray.size))=true:=by
  rw[ZfI hsz];simp
 refine call_meets F.slot_list_extend ⟨_,e,rfl⟩ F.entry_list_extend (F.args_list_extend_2 _ _)
  (AutoSeq1.list_extend_list_list_0 l jO.toArray n b kb.toArray n2 hlong (by grind) (by omega)) ⟨e,e2,?_⟩
 refine⟨.non,_,I.lset hH e (by simp) (r.append r2) ?_,rfl,q⟩;simp_all
def Zhd:V->List V->Hp->VK->Prop:=λx vs H Q=>∃l xs i k y,x=.ref l/\vs=[.int i]/\H l=some (.lst xs)/\-(2 ^ 63)<=i/\i<2 ^ 63/\seqIndex? i xs.length=some k/\xs[k]?=some y/\Q y (Zi H l (.lst (xs.eraseIdx k)))
theorem ZfJ:MtM X "list.pop" Zhd:=by
 intro jM s σ H x vs v us Q I rx rv h;obtain⟨l,xs,i,k,y,rfl,rfl,hH,h1,h2,hk,hy,q⟩:=h
 cases rx
 obtain⟨u,rfl,ru⟩:=rv.one;obtain⟨t,rfl⟩:=ru;obtain⟨z,jO,n,r,hl,e⟩:=I.lstM hH;obtain⟨w,hw,rw'⟩:=r.get hy;refine call_meets F.slot_list_pop ⟨_,e,rfl⟩ F.entry_list_pop (F.args_list_pop_2 _ _)
  (MeetsSeq.list_pop_at l jO.toArray n i t k w (fitsIndex_both h1 h2) (by simp_all) (by simp_all) (by simp_all)) ⟨e,?_⟩
 refine⟨y,_,I.lset hH e ?_ (r.eraseIdx k) ?_,rw',q⟩
 ·simp
 ·have:=Zeh xs k
  omega
def rCat:R2:=λx y H Q=>∃l b xs zs,x=.ref l/\y=.ref b/\H l=some (.lst xs)/\H b=some (.lst zs)/\xs.length+zs.length<=xg/\∀p,H p=none->Q (.ref p) (Zi H p (.lst (xs++zs)))
theorem ZoB:Yl X (binaryOp .Add) rCat:=by
 intro jM s σ H x y v u Q I rx ry h;obtain⟨l,b,xs,zs,rfl,rfl,hH,hB,hz,q⟩:=h
 cases rx
 cases ry
 obtain⟨z,jO,n,r,hl,e⟩:=I.lstM hH;obtain⟨z2,kb,n2,r2,hl2,e2⟩:=I.lstM hB;refine PySem.P.add_list e e2 ?_ (by simp_all);have ea:jO.toArray++kb.toArray=(jO++kb).toArray:=by simp
 rw[ea];exact⟨.ref _,_,I.lnew (r.append r2) (by simp_all),rfl,q _ I.fresh⟩
def rRep:R2:=λx y H Q=>∃l k xs,x=.ref l/\y=.int k/\H l=some (.lst xs)/\-(2 ^ 63)<=k/\k<2 ^ 63/\xs.length*k.toNat<=xg/\
 ∀p,H p=none->Q (.ref p) (Zi H p (.lst (qm k.toNat xs).flatten))
theorem ZeZ {α:Type}(xs:List α)(k:Nat):(qm k xs).flatten.length=k*xs.length:=by
 simp
theorem ZoC:Yl X (binaryOp .Mult) rRep:=by
 intro jM s σ H x y v u Q I rx ry h;obtain⟨l,k,xs,rfl,rfl,hH,h1,h2,hz,q⟩:=h
 cases rx
 obtain⟨t,rfl⟩:=ry;obtain⟨z,jO,n,r,hl,e⟩:=I.lstM hH;have jW:jO.toArray.size*k.toNat<=xg:=by rw[zf,<-hl];exact hz
 have hcap:¬jO.toArray.size*k.toNat > (2 ^ 63-1) / 8:=by
  have:(xg:Nat)<=(2 ^ 63-1) / 8:=by decide
  omega
 have hfit:¬(!Builtin.List.listFitsIndex k)=true:=by
  rw[fitsIndex_both h1 h2];exact yt
 have hlong:¬yE (jO.toArray.size*k.toNat)=true:=by
  rw[ZfI jW];exact yt
 have hnew:qa0 (λx1 x2=>x1++x2) #[] (qm (if jO.toArray.isEmpty=true then 0 else k.toNat) jO.toArray)=(qm k.toNat jO).flatten.toArray:=by
  have f0:∀m,qa0 (λx1 x2=>x1++x2) #[] (qm m jO.toArray)=(qm m jO).flatten.toArray:=λm=>by
   have:=Zb6 jO m [];simp_all
  rw[f0]
  cases jO with
  | nil=>simp
  | cons a r'=>rfl
 refine wpAny_binaryOp_repeat_ref (by decide) ⟨_,e,rfl⟩ (λs'=>typeIs_int s' k t) noFill_list_mul qa1 yn repeat_list qaP.lookup
  (call_meets yn (typeIs_int s k t) qaQ (qaB _ _) (int___rmul___int_list k t l jO.toArray n)
   ⟨e,rfl,⟨_,e,rfl⟩,call_meets F.slot_list_mul ⟨_,e,rfl⟩ F.entry_list_mul (F.args_list_mul_2 _ _) (AutoListH.list___mul___list_int_3 l jO.toArray n k t hfit hcap hlong) ⟨e,?_⟩⟩)
 rw[hnew];exact⟨.ref _,_,I.lnew (r.rep k.toNat) (by rw[ZeZ,qci];exact hz),rfl,q _ I.fresh⟩
end
section
variable {prog:xB}{w:World}{A:xC}{E:xD}{s:Shared}
end
section
variable {X:Cx}
end
section
variable {κ:Type}[DecidableEq κ]
def ZR (kvs:List (κ×V))(k:κ):Option V:=(kvs.find? λkv=>decide (kv.1=k)).map (·.2)
def Yf (kvs:List (κ×V))(k:κ)(v:V):List (κ×V):=
 if (kvs.any λkv=>decide (kv.1=k))=true then kvs.map (λkv=>if kv.1=k then (kv.1,v)else kv)else kvs ++ [(k,v)]
theorem Wr {p:κ×V}(e:p.1=k):ZR (p::r) k=some p.2:=by simp[ZR,e]
theorem Ws {p:κ×V}(e:¬p.1=k):ZR (p::r) k=ZR r k:=by simp[ZR,e]
theorem Bv (k:κ):∀kvs:List (κ×V),(kvs.any λkv=>decide (kv.1=k))=(ZR kvs k).isSome
 | []=>rfl
 | p::r=>by
  rw[qbg];by_cases e:p.1=k
  ·simp only[Wr e,decide_eq_true e,Bool.true_or,Option.isSome_some]
  ·rw[Ws e,decide_eq_false e];exact Bv k r
theorem ZfK (k j:κ)(y:V):∀kvs:List (κ×V),ZR (kvs.map λkv=>if kv.1=k then (kv.1,y)else kv) j=(ZR kvs j).map λx=>if j=k then y else x
 | []=>rfl
 | p::r=>by
  have ih:=ZfK k j y r;rw[zT];by_cases h:p.1=k
  ·rw[if_pos h]
   by_cases e:p.1=j
   ·rw[Wr (p:=(p.1,y)) e,Wr e,qbI,if_pos (e.symm.trans h)]
   ·rw[Ws (p:=(p.1,y)) e,Ws e,ih]
  ·rw[if_neg h]
   by_cases e:p.1=j
   ·rw[Wr e,Wr e,qbI,if_neg (λz=>h (e.trans z))]
   ·rw[Ws e,Ws e,ih]
theorem Zei (k j:κ)(y:V):∀kvs:List (κ×V),ZR kvs k=none->ZR (kvs ++ [(k,y)]) j=if j=k then some y else ZR kvs j
 | [],_=>by
  by_cases e:k=j
  ·rw[if_pos e.symm];exact Wr e
  ·rw[if_neg (λz=>e z.symm)];exact Ws e
 | p::r,hn=>by
  rw[List.cons_append];have hk:¬p.1=k:=λz=>by rw[Wr z]at hn;cases hn
  rw[Ws hk]at hn;have ih:=Zei k j y r hn;by_cases e:p.1=j
  ·rw[Wr e,Wr e,if_neg (λz=>hk (e.trans z))]
  ·rw[Ws e,Ws e,ih]
theorem ZfL (kvs:List (κ×V))(k j:κ)(y:V):ZR (Yf kvs k y) j=if j=k then some y else ZR kvs j:=by
 unfold Yf;by_cases a:(kvs.any λkv=>decide (kv.1=k))=true
 ·rw[if_pos a,ZfK]
  rw[Bv]at a;by_cases e:j=k
  ·obtain⟨x,hx⟩:=zy.mp a
   grind
  ·simp_all
 ·rw[if_neg a]
  refine Zei k j y kvs ?_;rw[Bv]at a;simp_all
theorem Uw (kvs:List (κ×V))(k:κ)(v:V):(Yf kvs k v).length<=kvs.length+1:=by
 unfold Yf;split
 ·simp
 ·simp
theorem ZfM {kvs:List (κ×V)}(v:V)(h:ZR kvs k=none):Yf kvs k v=kvs ++ [(k,v)]:=by
 unfold Yf;rw[Bv,h];rfl
theorem VY.isSome_eq (r:VY o u):o.isSome=u.isSome:=by
 cases o with
 | none=>cases u with
  | none=>rfl
  | some _=>exact(show False from r).elim
 | some _=>cases u with
  | none=>exact(show False from r).elim
  | some _=>rfl
theorem VY.getD (r:VY o u)(rd:ZF d d'):ZF (o.getD d) (u.getD d'):=by
 cases o with
 | none=>cases u with
  | none=>exact rd
  | some _=>exact(show False from r).elim
 | some _=>cases u with
  | none=>exact(show False from r).elim
  | some _=>exact r
theorem KV.val (r:KV kvs vs)(k:κ):VY (ZR kvs k) (valueAt vs k):=by
 induction r with
 | nil=>exact yf
 | @cons p q ps qs h t ih=>
  obtain⟨h1,h2⟩:=h;by_cases e:p.1=k
  ·have e':=h1.symm.trans e
   have b:valueAt (q::qs) k=some q.2:=by simp[valueAt,e']
   rw[Wr e,b];exact h2
  ·have e':¬q.1=k:=λz=>e (h1.trans z)
   have b:valueAt (q::qs) k=valueAt qs k:=by simp[valueAt,e']
   rw[Ws e,b];exact ih
theorem KV.any (r:KV kvs vs)(k:κ):(kvs.any λkv=>decide (kv.1=k))=vs.any λkv=>decide (kv.1=k):=by
 induction r with
 | nil=>rfl
 | cons h t ih=>simp_all
theorem KV.repl (r:KV kvs vs)(k:κ)(ry:ZF y u) :
  KV (kvs.map λkv=>if kv.1=k then (kv.1,y)else kv) (vs.map λkv=>if kv.1=k then (kv.1,u)else kv):=by
 induction r with
 | nil=>exact .nil
 | @cons p q ps qs h t ih=>
  refine .cons ?_ ih;by_cases e:p.1=k
  ·simp_all
  ·simp_all
theorem KV.put (r:KV kvs vs)(k:κ)(ry:ZF y u):KV (Yf kvs k y) (stored vs k u):=by
 unfold Yf stored;rw[r.any k];by_cases e:(vs.any λkv=>decide (kv.1=k))=true
 ·rw[if_pos e,if_pos e];exact r.repl k ry
 ·rw[if_neg e,if_neg e];exact Paired.snoc r ⟨rfl,ry⟩
theorem KV.length {kvs:List (κ×V)}(r:KV kvs vs):kvs.length=vs.length:=qbe r
end
theorem UF (r:ZF (kV k) u):(XW P w).is k u=true:=by
 cases k with
 | inl i=>obtain⟨t,e⟩:=(show ∃t,u=qa9 i t from r);subst e;exact ZfE P w i t
 | inr x=>obtain⟨t,e⟩:=(show ∃t,u=qcg x t from r);subst e;exact ZfF P w x t
theorem Zej:∀{ks:List ZG} {us:List Value},ZB (ks.map kV) us->ItemsAre (XW P w) ks us
 | [],_,r=>by cases r;exact .nil
 | k::ks,_,r=>by
  cases r with
  | cons h t=>exact .cons (UF h) (Zej t)
abbrev KT (H:Hp):List (List ZG×V)->List (List ZG×Addr×Value)->Prop:=Paired λp q=>p.1=q.1/\H q.2.1=some (.tup (p.1.map kV))/\ZF p.2 q.2.2
theorem KT.val (r:KT H kvs xs)(k:List ZG):VY (ZR kvs k) ((atKey xs k).map (·.2)):=by
 induction r with
 | nil=>exact yf
 | @cons p q ps qs h t ih=>
  obtain⟨h1,_,h2⟩:=h;by_cases e:p.1=k
  ·have e':=h1.symm.trans e
   have b:atKey (q::qs) k=some q.2:=by simp[atKey,e']
   rw[Wr e,b];exact h2
  ·have e':¬q.1=k:=λz=>e (h1.trans z)
   have b:atKey (q::qs) k=atKey qs k:=by simp[atKey,e']
   rw[Ws e,b];exact ih
theorem KT.repl (r:KT H kvs xs)(k:List ZG)(ry:ZF y u) :
  KT H (kvs.map λkv=>if kv.1=k then (kv.1,y)else kv) (xs.map (putAt k u)):=by
 induction r with
 | nil=>exact .nil
 | @cons p q ps qs h t ih=>
  refine .cons ?_ ih;unfold putAt;by_cases e:p.1=k
  ·simp_all
  ·simp_all
theorem KT.put (r:KT H kvs xs)(k:List ZG)(hb:H b=some (.tup (k.map kV)))(ry:ZF y u) :
  KT H (Yf kvs k y) (storedH xs k b u):=by
 have e:(kvs.any λkv=>decide (kv.1=k))=(atKey xs k).isSome:=by
  rw[Bv,(r.val k).isSome_eq,qbk]
 unfold Yf storedH;rw[e];by_cases q:(atKey xs k).isSome=true
 ·rw[if_pos q,if_pos q];exact r.repl k ry
 ·rw[if_neg q,if_neg q];exact Paired.snoc r ⟨rfl,hb,ry⟩
theorem KT.keeps (r:KT H kvs xs)(ht:∀b ys,H b=some (.tup ys)->H' b=some (.tup ys)):KT H' kvs xs:=
 ju r λ_ _ z=>⟨z.1,ht _ _ z.2.1,z.2.2⟩
section
variable {P:xB}{w:World}{H:Hp}{h:Heap}{a:Addr}
theorem ZnU (ok:Yp P w H h)(e:Rd H a u):Yq P w H h a u:=e.ok ok
theorem Uj (ok:Yp P w H h)(e:Rd H a (.dK kvs)):kvs.length<=xg/\(a==sysModules)=false/\∃vs,KV kvs vs/\h.DictOf (XW P w) a vs:=
 show Yq P w H h a (.dK kvs)from ZnU ok e
theorem ZkR (ok:Yp P w H h)(e:H a=some (.dK kvs)):kvs.length<=xg/\(a==sysModules)=false/\∃vs,KV kvs vs/\h.DictOf (XW P w) a vs:=Uj ok (.inl e)
theorem U3 (ok:Yp P w H h)(e:H a=some (.tup (ks.map kV))):(tupleKind (XW P w)).is h ks a:=by
 obtain⟨_,jO,r,o,h1,h2,n,h3⟩:=(show Yq P w H h a (.tup (ks.map kV))from ok a _ e);exact⟨o,jO.toArray,n,h1,h2,h3,by simpa using Zej r⟩
theorem U9 (ok:Yp P w H h)(e:Rd H a (.dT kvs)):kvs.length<=xg/\(a==sysModules)=false/\
  ∃xs,KT H kvs xs/\h.DictOfH (tupleKind (XW P w)) a xs:=by
 obtain⟨z,y,xs,r,o,es,ep,h1,h2,h3,h4,h5⟩:=(show Yq P w H h a (.dT kvs)from ZnU ok e);refine⟨z,y,xs,r,o,es,ep,h1,h2,h3,h4,λx hx=>?_,h5⟩;have all:∀{l:List (List ZG×V)} {m:List (List ZG×Addr×Value)},KT H l m->∀x∈m,(tupleKind (XW P w)).is h x.1 x.2.1:=by
  intro l m q
  induction q with
  | nil=>simp
  | @cons p q ps qs hq t ih=>
   intro x hx;rcases qu.mp hx with e | hx
   ·exact U3 ok (by simp_all)
   ·exact ih x hx
 exact all r x hx
theorem ZnV (ok:Yp P w H h)(e:H a=some (.dT kvs)):kvs.length<=xg/\(a==sysModules)=false/\
  ∃xs,KT H kvs xs/\h.DictOfH (tupleKind (XW P w)) a xs:=U9 ok (.inl e)
end
def Xr (H:Hp)(a:Addr)(y:V)(r:Option V):Prop:=
 (∃kvs k,Rd H a (.dK kvs)/\y=kV k/\r=ZR kvs k)∨∃kvs k b,Rd H a (.dT kvs)/\y=.ref b/\H b=some (.tup (k.map kV))/\r=ZR kvs k
def WJ (H:Hp)(a:Addr)(y v:V)(H':Hp):Prop:=
 (∃kvs k,H a=some (.dK kvs)/\y=kV k/\kvs.length<xg/\H'=Zi H a (.dK (Yf kvs k v)))∨
 ∃kvs k b,H a=some (.dT kvs)/\y=.ref b/\H b=some (.tup (k.map kV))/\kvs.length<xg/\H'=Zi H a (.dT (Yf kvs k v))
theorem Xr.k {k:ZG}(e:H a=some (.dK kvs)):Xr H a (kV k) (ZR kvs k):=.inl ⟨kvs,k,.inl e,rfl,rfl⟩
theorem Xr.t {k:List ZG}(e:H a=some (.dT kvs))(eb:H b=some (.tup (k.map kV))):Xr H a (.ref b) (ZR kvs k):=.inr ⟨kvs,k,b,.inl e,rfl,eb,rfl⟩
theorem WJ.k {k:ZG}(e:H a=some (.dK kvs))(hl:kvs.length<xg):WJ H a (kV k) v (Zi H a (.dK (Yf kvs k v))):=.inl ⟨kvs,k,e,rfl,hl,rfl⟩
theorem WJ.t {k:List ZG}(e:H a=some (.dT kvs))(eb:H b=some (.tup (k.map kV)))(hl:kvs.length<xg) :
  WJ H a (.ref b) v (Zi H a (.dT (Yf kvs k v))):=.inr ⟨kvs,k,b,e,rfl,eb,hl,rfl⟩
section
variable {X:Cx}{jM:Qb}{σ:St}{H:Hp}{s:Shared}{a:Addr}{y v:V}{u r:Value}{o:Option V}{A:xC}{E:xD}
theorem Inv.big (I:Inv X jM σ H s):sysModules<s.heap.objs.size:=by
 have h:=(I.mod.glob.keeps I.bk).lt;exact yF (by decide) h
theorem Zjj (hu:A.units+1<cLine)(I:Inv X jM σ H s)(g:Xr H a y (some v))(ry:ZF y u)(h:∀w' s',Inv X jM σ H s'->ZF v w'->Q w' s') :
  xf (xz X.prog X.w) A (getItem (.ref a) u) Q E s:=by
 rcases g with⟨kvs,k,e,ey,l⟩ | ⟨kvs,k,b,e,ey,eb,l⟩
 ·subst ey
  obtain⟨z,hd,vs,rel,dd⟩:=Uj I.hok e;obtain⟨w',hw,rw'⟩:=jx (by rw[l];exact rel.val k);exact wpAny_getItem_of (UF ry) dd.mapOf hw (h w' _ (I.tok _) rw')
 ·subst ey
  cases (show u=qH b from ry)
  obtain⟨z,hd,xs,rel,dd⟩:=U9 I.hok e;obtain⟨w',hw,rw'⟩:=jx (by rw[l];exact rel.val k);obtain⟨p,hp,hp2⟩:=qbN.mp hw;refine wpAny_getItem_heap (tupleKind_room_in1 hu) (U3 I.hok eb) dd hp ?_;rw[hp2];exact h w' _ (I.tok _) rw'
theorem d_in (hu:A.units+1<cLine)(I:Inv X jM σ H s)(g:Xr H a y o)(ry:ZF y u)(h:∀s',Inv X jM σ H s'->Q (.bool o.isSome) s') :
  xf (xz X.prog X.w) A (xk .In u (.ref a)) Q E s:=by
 rcases g with⟨kvs,k,e,ey,l⟩ | ⟨kvs,k,b,e,ey,eb,l⟩
 ·subst ey
  obtain⟨z,hd,vs,rel,dd⟩:=Uj I.hok e;refine wpAny_in_of (UF ry) hd dd.mapOf ?_;rw[<-(rel.val k).isSome_eq,<-l];exact h _ (I.tok _)
 ·subst ey
  cases (show u=qH b from ry)
  obtain⟨z,hd,xs,rel,dd⟩:=U9 I.hok e;refine wpAny_in_heap (tupleKind_room_in1 hu) (U3 I.hok eb) hd dd ?_;have q:=(rel.val k).isSome_eq;rw[qbk]at q;rw[<-q,<-l];exact h _ (I.tok _)
theorem ZmK (hu:A.units+1<cLine)(I:Inv X jM σ H s)(g:Xr H a y o)(ry:ZF y u)(h:∀s',Inv X jM σ H s'->Q (.bool (!o.isSome)) s') :
  xf (xz X.prog X.w) A (xk .NotIn u (.ref a)) Q E s:=by
 rcases g with⟨kvs,k,e,ey,l⟩ | ⟨kvs,k,b,e,ey,eb,l⟩
 ·subst ey
  obtain⟨z,hd,vs,rel,dd⟩:=Uj I.hok e;refine wpAny_notIn_of (UF ry) hd dd.mapOf ?_;rw[<-(rel.val k).isSome_eq,<-l];exact h _ (I.tok _)
 ·subst ey
  cases (show u=qH b from ry)
  obtain⟨z,hd,xs,rel,dd⟩:=U9 I.hok e;refine wpAny_notIn_heap (tupleKind_room_in1 hu) (U3 I.hok eb) hd dd ?_;have q:=(rel.val k).isSome_eq;rw[qbk]at q;rw[<-q,<-l];exact h _ (I.tok _)
theorem BH (I:Inv X jM σ H s)(mu:Mut (H a))(hs:zF a s.heap h')(he:∃q,h'.get? a=some q)(new:Yq X.prog X.w (Zi H a ob) h' a ob) :
  Inv X jM σ (Zi H a ob) { s with heap:=h',toks:=t' }:=
 I.write mu (.inl rfl) (λb q hb z=>(hs.2 b hb).trans z) he new
theorem Zhe (z:kvs.length<=xg)(hd:(a==sysModules)=false)(rel:KV kvs vs)(dd:h'.DictOf (XW P w) a vs) :
  Yq P w H' h' a (.dK kvs):=⟨z,hd,vs,rel,dd⟩
theorem Zjk (hu:A.units+1<cLine)(I:Inv X jM σ H s)(g:WJ H a y v H')(ry:ZF y u)(rv:ZF v r)(h:∀s',Inv X jM σ H' s'->Q () s') :
  xf (xz X.prog X.w) A (setItem (.ref a) u r) Q E s:=by
 rcases g with⟨kvs,k,e,ey,l,eH⟩ | ⟨kvs,k,b,e,ey,eb,l,eH⟩
 ·subst ey eH
  obtain⟨z,hd,vs,rel,dd⟩:=ZkR I.hok e;have hz:vs.length<=xg:=by rw[<-rel.length];exact z
  have hl:(Yf kvs k v).length<=xg:=by have:=Uw kvs k v;omega
  refine wpAny_setItem_pairs (hsz:=hz) (UF ry) dd λh' dd' hs=>h _ ?_;have he:∃q,h'.get? a=some q:=let ⟨q,_,_,hq,_⟩:=dd';⟨q,hq⟩;exact BH I (by rw[e];exact yf) hs he (Zhe hl hd (rel.put k rv) dd')
 ·subst ey eH
  cases (show u=qH b from ry)
  obtain⟨z,hd,xs,rel,dd⟩:=ZnV I.hok e;have hz:xs.length<=xg:=by rw[<-qbe rel];exact z
  have hl:(Yf kvs k v).length<=xg:=by have:=Uw kvs k v;omega
  refine wpAny_setItem_heap (tupleKind_room_in1 hu) (U3 I.hok eb) dd λh' dd' hs=>h _ ?_;obtain⟨q,es,ep,hq,h2,h3,h4,_,h5⟩:=dd';refine BH I (by rw[e];exact yf) hs ⟨q,hq⟩ ⟨hl,hd,_,(rel.put k eb rv).keeps λc ys ec=>?_,q,es,ep,hq,h2,h3,h4,h5⟩;rw[Zl (ZnN ec e (λz=>nomatch z))];exact ec
end
section
variable {X:Cx}{jM:Qb}{σ:St}{H:Hp}{s:Shared}{a:Addr}{kvs:List (ZG×V)}{k:ZG}{u:Value}{A:xC}{E:xD}
end
def NoSl (i:Expr):Prop:=∀ov iv,subscripted i false ov iv=operate [ov,iv] (getItem ov iv)
theorem ZmL {id:String}
  (hl:typeLookup (.type T) "__getitem__" = pure (some (.builtin id))) (hs:NoSl slice)
  (h:xf (xz prog w) A (eval value env) (λo s₁=>xf (xz prog w) A (eval slice env) (λi s₂=>s₂.TypeIs o T/\xf (xz prog w) A (getItem o i) Q E s₂) E s₁) E s) :
  xf (xz prog w) A (eval (.Subscript value slice pos) env) Q E s:=by
 refine Subscript_ (xc h (λo s₁ h₁=>xc h₁ (λi s₂ h₂=>?_) λ_ _ x=>x) λ_ _ x=>x);obtain⟨hT,h₂⟩:=h₂;refine xa ?_;refine xa (wpAny_specialOf hT hl ?_);have fin:xf (xz prog w) A (subscripted slice false o i) (λr s₃=>xf (xz prog w) A (letTemporaryGo value o r >>= λ_=>pure r) Q E s₃) E s₂:=by
  rw[hs o i];exact wpAny_operating (xc h₂ (λr s₃ h₃=>xa (wpAny_letTemporaryGo (xb h₃))) λ_ _ x=>x)
 first
  | exact xb (xa fin)
  | rfl
  | rfl
theorem ZfN {σ:St}(I:Inv X jM σ H s)(g:Xr H a y o):s.TypeIs (.ref a) "dict":=by
 rcases g with⟨kvs,k,e,_,_⟩ | ⟨kvs,k,b,e,_,_,_⟩
 ·obtain⟨_,_,vs,_,dd⟩:=Uj I.hok e
  exact dd.typeIs
 ·obtain⟨_,_,xs,_,dd⟩:=U9 I.hok e
  exact dd.typeIs
def Zig (td ty:TE):TE:=fun σ H Q=>td σ H λx H1=>ty σ H1 λy H2=>∃a v,x=.ref a/\Xr H2 a y (some v)/\Q v H2
def ZnW (td ty tv:TE):TS:=λD σ H=>tv σ H λv H1=>td σ H1 λx H2=>ty σ H2 λy H3=>∃a H4,x=.ref a/\WJ H3 a y v H4/\D.nx σ H4
section
variable {X:Cx}{o i e value:Expr}{pos pos' tpos:Pos}{td ty tv:TE}
theorem WT (hu:X.A.units+1<cLine)(ho:PE X o td)(hi:PE X i ty)(hs:NoSl i):PE X (.Subscript o i pos) (Zig td ty):=by
 intro jM s σ H Q I h;refine ZmL PySem.F.slot_dict_getitem.lookup hs (ZJ (ho jM s σ H _ I h) λu s1 ⟨x,H1,I1,rx,q1⟩=>ZJ (hi jM s1 σ H1 _ I1 q1) λiv s2 ⟨y,H2,I2,ry,a,v,ex,g,q2⟩=>?_);subst ex;obtain rfl:u=qH a:=rx;exact⟨ZfN I2 g,Zjj hu I2 g ry λw' s3 I3 rw'=>⟨v,H2,I3,rw',q2⟩⟩
theorem Ze0 (hu:X.A.units+1<cLine)(ho:PE X o td)(hi:PE X i ty)(hv:PE X value tv)(hs:xr value (some (.Subscript o i pos')) pos.line X.env=pure false) :
  PS X (.Assign [.Subscript o i pos'] value pos) (ZnW td ty tv):=by
 intro jM s σ H D I h;refine wpAny_Assign_Subscript (ZJ (hv jM s σ H _ I h) λr s1 ⟨v,H1,I1,rv,q1⟩=>ZJ (ho jM s1 σ H1 _ I1 q1) λu s2 ⟨x,H2,I2,rx,q2⟩=>ZJ (hi jM s2 σ H2 _ I2 q2) λiv s3 ⟨y,H3,I3,ry,a,H4,ex,g,q3⟩=>?_) hs;subst ex;obtain rfl:u=qH a:=rx;exact Zjk hu I3 g ry rv λs4 I4=>⟨σ,H4,I4,q3⟩
end
theorem ZcT (h:Heap)(hb:sysModules<h.objs.size):Yq P w H (h.push { cls:=.type "dict",data:=.dict #[] }) h.objs.size (.dK []):=
 ⟨za _,beq_eq_false_iff_ne.mpr (ze (qA hb)),[],.nil,Heap.DictOf.new h⟩
theorem ZkS (h:Heap)(hb:sysModules<h.objs.size):Yq P w H (h.push { cls:=.type "dict",data:=.dict #[] }) h.objs.size (.dT []):=
 ⟨za _,beq_eq_false_iff_ne.mpr (ze (qA hb)),[],.nil,_,#[],0,qq _ rfl,⟨rfl,rfl,rfl⟩,rfl,rfl,qbR⟩
def ZoD:TE:=λ_ H Q=>∀p,H p=none->Q (.ref p) (Zi H p (.dK []))
section
variable {X:Cx}{pos:Pos}
theorem ZkT:PE X (.Dict [] [] pos) ZoD:=λjM s σ H Q I h=>
 wpAny_Dict_empty ⟨.ref s.heap.objs.size,_,I.laid (λ_ _ q=>qf _ q) (qp _) (ZcT s.heap I.big),rfl,h _ (I.hok.fresh (qp _))⟩
end
def Zhf:List (TE×TE)->St->Hp->(List (V×V)->Hp->Prop)->Prop
 | [],_,H,Q=>Q [] H
 | (tk,tv)::r,σ,H,Q=>tk σ H λx H1=>tv σ H1 λy H2=>Zhf r σ H2 λps H3=>Q ((x,y)::ps) H3
abbrev VV:List (V×V)->List (Value×Value)->Prop:=Paired λp q=>ZF p.1 q.1/\ZF p.2 q.2
def PPs (X:Cx)(pos:Pos)(keys:List (Option Expr))(values:List Expr)(trs:List (TE×TE)):Prop:=
 ∀(jM:Qb) (s:Shared) (σ:St) (H:Hp) (Q:List (V×V)->Hp->Prop),Inv X jM σ H s->Zhf trs σ H Q->
  xf (xz X.prog X.w) X.A (evalPairs (pairTrees keys values X.env pos)) (λvs s'=>∃ps H',Inv X jM σ H' s'/\VV ps vs/\Q ps H') X.xe s
theorem ZmM:PPs X pos [] [] []:=λjM s σ H Q I h=>pairTrees_nil_walk ⟨[],H,I,.nil,h⟩
theorem ZcU (hk:PE X k tk)(hv:PE X v tv)(hr:PPs X pos ks vs trs) :
  PPs X pos (some k::ks) (v::vs) ((tk,tv)::trs):=λjM s σ H Q I h=>
 pairTrees_cons_walk (ZJ (hk jM s σ H _ I h) λu s1 ⟨x,H1,I1,rx,q1⟩=>ZJ (hv jM s1 σ H1 _ I1 q1) λw2 s2 ⟨y,H2,I2,ry,q2⟩=>
  ZJ (hr jM s2 σ H2 _ I2 q2) λws s3 ⟨ps,H3,I3,rel,q3⟩=>⟨(x,y)::ps,H3,I3,.cons ⟨rx,ry⟩ rel,q3⟩)
def U4 (kvs more:List (ZG×V)):List (ZG×V):=more.foldl (λjT kv=>Yf jT kv.1 kv.2) kvs
theorem KV.merge:∀{more:List (ZG×V)} {rs:List (ZG×Value)} {kvs:List (ZG×V)} {vs:List (ZG×Value)},KV more rs->KV kvs vs->KV (U4 kvs more) (merged vs rs):=by
 intro more rs kvs vs r
 induction r generalizing kvs vs with
 | nil=>intro q;exact q
 | @cons p q ps qs h t ih=>
  intro r0;have e:KV (Yf kvs p.1 p.2) (stored vs q.1 q.2):=by
   have:=r0.put p.1 h.2;simp_all
  exact ih e
theorem Zbq:∀(more kvs:List (ZG×V)),(U4 kvs more).length<=kvs.length+more.length
 | [],kvs=>by show kvs.length<=kvs.length+0;omega
 | p::r,kvs=>by
  have h1:=Zbq r (Yf kvs p.1 p.2);have h2:=Uw kvs p.1 p.2;show(U4 (Yf kvs p.1 p.2) r).length<=_
  grind
theorem ZcV:∀{kvs:List (ZG×V)} {ws:List (Value×Value)},VV (kvs.map λkv=>(kV kv.1,kv.2)) ws->∃rs,Carries (XW P w) ws rs/\KV kvs rs
 | [],_,r=>by cases r;exact⟨[],yf,.nil⟩
 | p::kvs,_,r=>by
  cases r with
  | @cons a b as bs h t=>
   obtain⟨rs,c,q⟩:=ZcV t;obtain⟨b1,b2⟩:=b;exact⟨(p.1,b2)::rs,⟨UF h.1,rfl,c⟩,.cons ⟨rfl,h.2⟩ q⟩
def ZnX (trs:List (TE×TE)):TE:=fun σ H Q=>∀p,H p=none->Zhf trs σ (Zi H p (.dK [])) λps H2=>H2 p=some (.dK [])/\∃kvs:List (ZG×V),ps=kvs.map (λkv=>(kV kv.1,kv.2))/\kvs.length<=15/\Q (.ref p) (Zi H2 p (.dK (U4 [] kvs)))
theorem ZmN (h:PPs X pos keys values trs)(hall:keys.all (·.isSome)=true)(hl:keys.length=values.length)(h0:keys≠[])
  (h15:keys.length<=15):PE X (.Dict keys values pos) (ZnX trs):=by
 intro jM s σ H Q I q;have hn:=I.hok.fresh (qp s.heap.objs.size);have I1:=I.laid (t':=s.toks) (λ_ _ q=>qf _ q) (qp _) (ZcT s.heap I.big);refine wpAny_Dict_walk (knd:=XW X.prog X.w) hall hl h0 h15 (ZJ (h jM _ σ _ _ I1 (q _ hn)) λws s2 ⟨ps,H2,I2,rel,e,kvs,ep,lk,q2⟩=>?_);subst ep;obtain⟨rs,c,rk⟩:=ZcV rel;obtain⟨z,hd,vs0,r0,dd⟩:=ZkR I2.hok e
 cases r0
 refine⟨rs,c,dd,λh' dd' hs=>⟨.ref s.heap.objs.size,_,?_,rfl,q2⟩⟩;have hz:(U4 [] kvs).length<=xg:=by
  have h1:=Zbq kvs [];rw[yw]at h1;rw[sizeLine_eq];omega
 have he:∃q,h'.get? s.heap.objs.size=some q:=let ⟨q,_,_,hq,_⟩:=dd';⟨q,hq⟩;exact BH I2 (by rw[e];exact yf) hs he (Zhe hz hd (rk.merge .nil) dd')
structure M2 (X:Cx)(o:Expr)(m:Str)(apos:Pos)(e f:Expr)(cpos:Pos):Prop where
 base:xq o m X.env (eval o X.env)=eval o X.env
 few:((backTo cpos (xh [e,f] X.env)).all (λx=>!x.1)&&(xp cpos (xi [] X.env)).all (λx=>x.1.isSome)
  && decide (([e,f]:List Expr).length+([]:List Keyword).length+(if ([]:List Keyword).isEmpty then 0 else 1)<30))=true
 line:(apos.endLine==cpos.line)=true
 trees:backTo cpos (xh [e,f] X.env)=[(false,eval e X.env),(false,eval f X.env)]
def IsD (H:Hp)(a:Addr):Prop:=(∃kvs,Rd H a (.dK kvs))∨∃kvs,Rd H a (.dT kvs)
theorem ZkU {σ:St}(I:Inv X jM σ H s)(d:IsD H a) :
  s.TypeIs (.ref a) "dict"/\(∀b,qH a=.ref b->∃ob,s.heap.get? b=some ob/\ob.dict=none)/\(a==sysModules)=false:=by
 rcases d with⟨kvs,e⟩ | ⟨kvs,e⟩
 ·obtain⟨_,hd,vs,_,dd⟩:=Uj I.hok e
  refine⟨dd.typeIs,λb q=>?_,hd⟩
  cases q
  obtain⟨ob,_,_,h1,h2,_⟩:=dd;exact⟨ob,h1,h2.2.1⟩
 ·obtain⟨_,hd,xs,_,dd⟩:=U9 I.hok e
  refine⟨dd.typeIs,λb q=>?_,hd⟩
  cases q
  obtain⟨ob,_,_,h1,h2,_⟩:=dd;exact⟨ob,h1,h2.2.1⟩
section
variable {X:Cx}{jM:Qb}{σ:St}{H:Hp}{s:Shared}{a:Addr}{y d:V}{u r:Value}{o:Option V}{A:xC}{E:xD}
theorem ZoE (hu:A.units+1<cLine)(I:Inv X jM σ H s)(g:Xr H a y o)(ry:ZF y u)(rd:ZF d r)(h:∀w' s',Inv X jM σ H s'->ZF (o.getD d) w'->Q w' s') :
  xf (xz X.prog X.w) A (call (.builtin "dict.get") [.ref a,u,r]) Q E s:=by
 rcases g with⟨kvs,k,e,ey,l⟩ | ⟨kvs,k,b,e,ey,eb,l⟩
 ·subst ey
  obtain⟨z,hd,vs,rel,dd⟩:=Uj I.hok e;refine call_meetsIn qaU dd.typeIs qbO (qbC _ _ _) (meets_dict_get_default (XW X.prog X.w) a (UF ry) hd r) ⟨_,dd.mapOf,h _ _ (I.tok _) ?_⟩;rw[l];exact(rel.val k).getD rd
 ·subst ey
  cases (show u=qH b from ry)
  obtain⟨z,hd,xs,rel,dd⟩:=U9 I.hok e;refine call_meetsIn qaU dd.typeIs qbO (qbC _ _ _) (meetsH_dict_get_default (tupleKind (XW X.prog X.w)) a b hd r) ⟨tupleKind_room_in1 hu,k,xs,U3 I.hok eb,dd,h _ _ (I.tok _) ?_⟩;rw[l];exact(rel.val k).getD rd
end
def ZoF (td ty tx:TE):TE:=fun σ H Q=>td σ H λx H1=>∃a,x=.ref a/\IsD H1 a/\ty σ H1 λy H2=>tx σ H2 λz H3=>∃o,Xr H3 a y o/\Q (o.getD z) H3
section
variable {X:Cx}{o e f:Expr}{apos cpos:Pos}{td ty tx:TE}
theorem ZkV (hu:X.A.units+1<cLine)(ho:PE X o td)(he:PE X e ty)(hf:PE X f tx)(m:M2 X o "get" apos e f cpos):PE X (.Call (.Attribute o "get" apos) [e,f] [] cpos) (ZoF td ty tx):=by
 intro jM s σ H Q I h;refine wpAny_Call_method m.base m.few m.line qbD qaU PySem.F.type_dict_get (ZJ (ho jM s σ H _ I h) λu s1 ⟨x,H1,I1,rx,a,ex,d,q1⟩=>?_);subst ex;obtain rfl:u=qH a:=rx;obtain⟨t1,t2,_⟩:=ZkU I1 d;refine⟨t1,t2,?_⟩;rw[m.trees];refine qaG rfl (qaZ (qbb (ZJ (he jM s1 σ H1 _ I1 q1) λiv s2 ⟨y,H2,I2,ry,q2⟩=>
  qbb (ZJ (hf jM s2 σ H2 _ I2 q2) λfv s3 ⟨z,H3,I3,rz,ov,g,q3⟩=>Calls.spliced_nil ?_))))
 exact ZoE hu I3 g ry rz λw' s4 I4 rw'=>⟨_,H3,I4,rw',q3⟩
end
section
variable {X:Cx}{jM:Qb}{σ:St}{H:Hp}{s:Shared}{a:Addr}{kvs:List (ZG×V)}{A:xC}{E:xD}
end
section
variable {X:Cx}{jM:Qb}{σ:St}{H:Hp}{s:Shared}{a:Addr}{y:V}{u:Value}{A:xC}{E:xD}
end
end L2
namespace Att
open PySem.W PySem.Calls
theorem Zcy:∀(ns:List Int) (vs:List Value),WellAll P h vs (ns.map WData.int)->IntsAre vs ns:=by
 intro ns
 induction ns with
 | nil=>
  intro vs w
  cases w
  exact .nil
 | cons n ns ih=>
  intro vs w
  cases w with
  | cons a b=>
   cases a
   exact .cons _ _ (ih _ b)
theorem Zjl {l:OpenLaw}(hn:l.most=some n)
  (hpre:l.row.toRowW.claim.pre args=true) (hwl:WellAll P h vals args) :
  ∃a vs ns,vals=[qH a]/\args=[WData.list (ns.map WData.int)]/\h.get? a=some { cls:=.type "list",data:=.seq vs.toArray }/\IntsAre vs ns/\ns.length<=n:=by
 have hsh:=(pre_splitW hpre).1;have hc:l.pre.holds [] { args:=args }=true:=(pre_splitW hpre).2;obtain⟨d,r,rfl,h1,h2⟩:=hasAllW_cons hsh;obtain rfl:=hasAllW_nil h2;obtain⟨xs,rfl,h3⟩:=hasW_list h1;obtain⟨ns,rfl⟩:=items_int h3;have jW:ns.length<=n:=by
  have h4:(WTm.not (.lt (.lit (.int (n:Int))) (.len (.arg 0)))).holds [] { args:=[.list (ns.map .int)] }=true:=by
   have h4:=(holds_andW hc).1;simp_all
  have h5:=condW_of h4 (w_not (w_lt w_lit (w_len_list (w_arg rfl))));simp_all
 cases hwl with
 | cons w1 w2=>
  cases w2
  cases w1 with
  | list ho hall=>exact⟨_,_,ns,rfl,rfl,ho,Zcy ns _ hall,jW⟩
theorem Zjm (l:OpenLaw)(args:List WData):l.row.toRowW.claim.post args (.bool true) args=true:=
 postW_of
  (show WShape.has [] (.bool true) .bool=true by rfl)
  (show(WTm.eq .res (.lit (.bool true))).value [] { args:=args,res:=some (.bool true),after:=args }=some (.bool (true==true))from w_eq_bool (w_res rfl) w_lit) rfl
theorem attach_call {l:OpenLaw}
  (hn:l.most=some n) (hdf:d.params.defaults=[])
  (call:∀(w:World) (s₀ s₁:Shared) (mg mb:Str->Option Value) (fa:Addr) (o:Obj) (pm cd doc:Value) (a:Addr) (vs:List Value) (ns:List Int),
   Ground q loose [] XP w s₀ mg mb s₁.heap->YP w s₁.heap->
   s₁.heap.get? fa=some o->o.data=.func (docDef d.name d.params d.body d.scope pm cd doc)->s₁.heap.CodeRec cd d.name->mg d.name=some (.ref fa)->
   s₁.heap.get? a=some { cls:=.type "list",data:=.seq vs.toArray }->IntsAre vs ns->ns.length<=n->s₁.gens = #[]->
   xo (xz l.prog w) callerA (.call (.ref fa) ⟨[.ref a],[]⟩) (λr s'=>r=.ok (.ret (.bool true))/\OldK s₁.heap s'.heap/\s'.os=s₁.os/\AllBare s'.gens) s₁) :
  WalkO q loose XP YP l.row.toRowW d [] (λf vs=>qb6 f vs):=by
 intro w s₀ s₁ mg mb G Y fa o pm cd doc dV kV ho hd hcd hD hmg hg args vals as hpre hlay hrd hwl hlo;obtain rfl:dV=.none:=Dflts.none hD hdf;obtain rfl:kV=.none:=Dflts.noKw hD;obtain⟨a,vs,ns,rfl,rfl,hobj,hints,jW⟩:=Zjl hn hpre hwl;refine enter_call (codeAny_mono (call w s₀ s₁ mg mb fa o pm cd doc a vs ns G Y ho (fd_plain hd) hcd hmg hobj hints jW hg) λr s' hq=>?_);obtain⟨rfl,h2,h3,h4⟩:=hq;exact⟨.inl ⟨.bool true,.bool true,[],rfl,λ_=>rfl,.bool true,Zjm l _,λ_=>⟨qbl,λ_ hm=>(nomatch hm)⟩⟩,h2,h3,h4⟩
section
variable {prog:xB}{w:World}{A:xC}{E:xD}{s:Shared}{K:Frag}
end
end Att
namespace L2
theorem Zek:∀{vs:List Value} {ns:List Int},IntsAre vs ns->ZB (ns.map V.int) vs
 | _,_,.nil=>.nil
 | _,_,.cons n t h=>.cons ⟨t,rfl⟩ (Zek h)
def Va (s:Stmt):Arguments:=match s with
 | .FunctionDef _ a _ _ _ _ _ _ _ _=>a
 | _=>{ posonlyargs:=[],args:=[],vararg:=none,kwonlyargs:=[],kw_defaults:=[],kwarg:=none,defaults:=[] }
def Wt (s:Stmt):List Stmt:=match s with
 | .FunctionDef _ _ b _ _ _ _ _ _ _=>b
 | _=>[]
def Zw (s:Stmt):Scope:=match s with
 | .FunctionDef _ _ _ _ _ _ sc _ _ _=>sc
 | _=>{ kind:=.function,names:=[],isGenerator:=false,isCoroutine:=false }
abbrev ZN:V3:=λ_ _ _ _ _ _=>False
abbrev E0:XK:=λ_ _ _=>False
theorem B0:JK ZN X E0:=λ_ _ _ _ _ _ _ h=>h.elim
structure Fun (K:qd)(x qual:Str)(st:Stmt)(f:Addr)(fd:xA):Prop where
 ex:∃(oc:Value) (od:Option Addr) (kV doc pm:Value) (an:Option Addr) (cdv ct:Value) (osl:Array (Option Value)),
  fd=yk x qual (Va st) (Wt st) (Zw st) .none kV doc pm an cdv ct/\K.lookup f=some ⟨oc,od,.func fd,osl⟩/\qas K cdv qual=true
 kp:zt K (.ref f)=true
section
variable {P:xB}{w:World}{K:qd}{mg:Str->Option Value}{base:Heap}
theorem Fun.ok {st:Stmt}(F:Fun K x qual st f fd)(S:FnScope N ps (Zw st))(len:∀vs H Q E,sp vs H Q E->vs.length=ps.length)
  (hbody:∀(cdv:Value) (A:xC) (outer:List Env) (s:Shared) (H:Hp) (vs:List V) (Q:VK) (E:XK),Room k (A.deeper (envOfC qual (Zw st) s.heap.objs.size f cdv))->sp vs H Q E->
   ∃t,XC (Wn ZN P w K mg base N qual (Zw st) f cdv A outer s H E).nox (Wt st) t/\t { nx:=λ_ H'=>Q .non H',rt:=Q } (start N vs) H):FnOk P w K mg base ZN (k+1) f fd ps sp:=by
 obtain⟨oc,od,kV,doc,pm,an,cdv,ct,osl,rfl,lk,hcd⟩:=F.ex;refine Zic lk hcd S len λA outer s H vs Q E hr hsp=>?_;obtain⟨t,h,q⟩:=hbody cdv A outer s H vs Q E hr hsp;exact⟨t,h.nox,q⟩
theorem Fun.binds {st:Stmt}(F:Fun K x qual st f fd)
  (h:∀(kV doc pm:Value) (an:Option Addr) (cdv ct:Value) (us:List Value),us.length=ps.length->bindArgs (yk x qual (Va st) (Wt st) (Zw st) .none kV doc pm an cdv ct) ⟨us,[]⟩=pure (ps.zip us)):XJ K fd ps []:=by
 obtain⟨oc,od,kV,doc,pm,an,cdv,ct,osl,rfl,lk,hcd⟩:=F.ex;exact .all (h kV doc pm an cdv ct)
theorem ZoG {st:Stmt}{kV:Value}(l:K.lookup f=some ⟨oc,od,.func (yk x qual (Va st) (Wt st) (Zw st) .none kV doc pm an cdv ct),osl⟩)
  (c:qas K cdv qual=true) (k:zt K (.ref f)=true):Fun K x qual st f (yk x qual (Va st) (Wt st) (Zw st) .none kV doc pm an cdv ct):=⟨⟨oc,od,kV,doc,pm,an,cdv,ct,osl,rfl,l,c⟩,k⟩
end
theorem hu_of (hr:Room k A):A.units+1<cLine:=Nat.lt_of_le_of_lt (Nat.add_le_add_left (by decide:1<=64) _) hr.units
section
variable {X:Cx}
theorem pv (i:Nat){pos:Pos}(hN:X.N[i]?=some x:=by rfl)(hv:Vis X.env.scope x:=by first | exact qK rfl | exact zL (qK rfl) | exact zL (zL rfl))(hd:(x==("__debug__" : Str))=false:=by decide)
  (hcd:(x==("__classdict__" : Str))=false:=by decide):PE X (.Name x pos) (ZY i):=Zon hN hv hd hcd
end
theorem VZ {A:Prop}(h:B):if false=true then A else B:=by
 grind
theorem WY {A:Prop}(h:A):if true=true then A else B:=by
 exact h
section
variable {X:Cx}
end
section
variable {κ:Type}[DecidableEq κ]
end
theorem ZfO (I:Nat->Shared->Prop)
  (turn:∀n s,I n s->xf (xz prog w) A (pyNext it) (λr s₁=>match r with
   | none=>R (.ok .next) s₁
   | some v=>xf (xz prog w) A (letOwnedTupleGo target it v) (λ_ s₁'=>xf (xz prog w) A (assign target env v) (λ_ s₂=>
     xf (xz prog w) A (forIn ifs true λc r=>if r=true then do let ok<-isTrue c env (eval c env);pure (yP ok)else pure (yP r)) (λok s₃=>
      if ok=true then xf (xz prog w) A (eval elt env) (λx s₄=>
       xf (xz prog w) A (call (.builtin "list.append") [jT,x]) (λ_ s₅=>∃m,m<n/\I m s₅) (notedBy (xz prog w) A env λe s'=>R (.error e) s') s₄) (notedBy (xz prog w) A env λe s'=>R (.error e) s') s₃
      else ∃m,m<n/\I m s₃) (notedBy (xz prog w) A env λe s'=>R (.error e) s') s₂) (notedBy (xz prog w) A env λe s'=>R (.error e) s') s₁') (notedBy (xz prog w) A env λe s'=>R (.error e) s') s₁) (notedBy (xz prog w) A env λe s'=>R (.error e) s') s)
  (n:Nat) (h:I n s) :
  xo (xz prog w) A (.compLoop (.ListComp elt [⟨target,iter,ifs,0⟩] scope pos) 0 it jT env) R s:=by
 refine codeAny_loop rfl I (λn s hI=>?_) n h;show xf _ A ((compTurn (.ListComp elt [⟨target,iter,ifs,0⟩] scope pos) 0 it jT env).onRaise (λx=>do noteFrame x env;theTreesLotGoes x)) _ _ s;refine wpAny_noted ?_;rw[compTurn_list];refine xa (wpAny_standAt (xa (xc (turn n s hI) (λr s₁ h₁=>?_) λ_ _ h'=>h')))
 cases r with
 | none=>exact xb h₁
 | some v=>
  refine xa (xc h₁ (λ_ s₁' h₁'=>?_) λ_ _ h'=>h');refine xa (xc h₁' (λ_ s₂ h₂=>xa (xc h₂ (λok s₃ h₃=>?_) λ_ _ h'=>h')) λ_ _ h'=>h')
  cases ok with
  | false=>exact xb ⟨rfl,h₃⟩
  | true=>
   exact xa (xa (xc h₃ (λx s₄ h₄=>xa (xc h₄ (λ_ s₅ h₅=>xb (xb ⟨rfl,h₅⟩)) λ_ _ h'=>h')) λ_ _ h'=>h'))
def blk (X:Cx)(jM:Qb)(N':List Str)(scope:Scope)(cl:List (Str×Addr))(C:Addr)(s:Shared)(H:Hp)(fp:List Addr):Cx where
 prog:=X.prog
 w:=X.w
 K:=X.K
 mg:=X.mg
 base:=X.base
 A:=X.A
 N:=N'
 s₀:=s
 H₀:=H
 env:=compEnvC scope cl C X.env
 outer:=X.stack
 stack:=X.stack
 ex:=fp
 fn:=λ_=>false
 calm:=X.calm
 pn:=X.pn++jM
 xe:=λ_ _=>False
def Vw (X:Cx)(ifs:List Expr)(t:TT):Prop:=
 ∀(jM:Qb) (s:Shared) (σ:St) (H:Hp) (Q:Bool->Hp->Prop),Inv X jM σ H s->t σ H Q->
  xf (xz X.prog X.w) X.A (forIn ifs true λc r=>if r=true then do let ok<-isTrue c X.env (eval c X.env);pure (yP ok)else pure (yP r)) (TP X jM σ Q) X.xe s
def Zih:TT:=λ_ H Q=>Q true H
theorem ZfP:Vw X [] Zih:=λ_ _ _ H _ I h=>xb ⟨H,I,h⟩
theorem ZfQ (h:PT X c t):Vw X [c] t:=λjM s σ H Q I hq=>wpAny_tests_one (h jM s σ H Q I hq)
structure BlkOk (X:Cx)(N':List Str)(src:List (Option Nat))(scope:Scope)(cl:List (Str×Addr)):Prop where
 clos:closureFor scope X.env=pure cl
 nocell:∀y∈scope.names,y.2≠.cell
 kind:scope.kind=.function
 names:∀y∈scope.names,y.2=.local->scope.names.lookup y.1=some .local
 len:src.length=N'.length
 cells:∀x c,cl.lookup x=some c->X.env.cells.lookup x=some c
 has:∀x,((relabel scope X.env).names.lookup x=some .cell∨(relabel scope X.env).names.lookup x=some .free)->∃c,cl.lookup x=some c
 from_:∀(i j:Nat) x,src[i]?=some (some j)->N'[i]?=some x->X.N[j]?=some x/\(X.env.kindOf x=some .cell∨X.env.kindOf x=some .free)/\((relabel scope X.env).names.lookup x=some .cell∨(relabel scope X.env).names.lookup x=some .free)
def VQ (src:List (Option Nat))(σ:St):St:=src.map λo=>o.bind λj=>(σ[j]?).bind id
theorem ZmO {σ:St}{C:Addr}
  (B:BlkOk X N' src scope cl) (I:Inv X jM σ H s) (hf:∀b∈fp,WI X jM H b) (hC:s.heap.objs.size<=C) (hCf:∀b∈fp,b≠C)
  (hs:s1.os=s.os) (hg:s1.gens=s.gens) (hk:∀b o,s.heap.get? b=some o->s1.heap.get? b=some o) (hn:s1.heap.Ns C m):Inv (blk X jM N' scope cl C s H fp) [] (VQ src σ) H s1:=by
 have noC:∀b o,s.heap.get? b=some o->b≠C:=λb o e=>qA (qR (qy e) hC);refine⟨⟨I.ok.mod,B.kind,I.ok.glob,I.ok.blt,hC,λx y c h1 h2=>I.ok.inj x y c (B.cells _ _ h1) (B.cells _ _ h2),λx hx=>B.has x hx,λx c hf _=>(by cases hf),I.ok.hd,I.ok.frames,.inl rfl,λb hb=>?_,I.bs,qY I.ok.bsz I.sz,λb o e hb=>?_,λb hb z=>?_,I.stack,I.stkFree⟩,
  hs,by rw[hg];exact I.bare,Un.kept hk,⟨m,hn,λi x v h1 h2 h3=>?_⟩,λx c e=>?_,I.hok.fresh hC,λx c e=>I.freeC x c (B.cells _ _ e),λp hp=>?_,I.hok.kept hk,?_⟩
 ·obtain⟨f0,f1,f2,f3,f4,f5⟩:=hf b hb
  exact⟨hCf b hb,λx c e=>f4 x c (B.cells _ _ e)⟩
 ·obtain⟨f0,f1,f2,f3,f4,f5⟩:=hf b hb
  rcases f3 with z | z
  ·exact I.ok.noex b o e z
  ·exact absurd (qR (qy (I.ok.bs b o e).1) z) (ye _)
 ·obtain⟨f0,f1,f2,f3,f4,f5⟩:=hf b hb
  rcases qu.mp (I.stkSub b z)with e | e
  ·exact f1 e
  ·exact f2 e
 ·have h2':(VQ src σ)[i]?=some (some v):=h2
  unfold VQ at h2';rw[qG]at h2'
  cases e:src[i]? with
  | none=>rw[e]at h2';cases h2'
  | some o=>
   rw[e]at h2'
   cases o with
   | none=>simp at h2'
   | some j=>
    obtain⟨q1,q2,q3⟩:=B.from_ i j x e h1;have hj:σ[j]?=some (some v):=by
     simp only[qbI,Option.bind_some,Option.some.injEq]at h2'
     cases e2:σ[j]? with
     | none=>rw[e2]at h2';cases h2'
     | some o2=>rw[e2]at h2';simp at h2';rw[h2']
    obtain⟨mm,hnn,hl⟩:=I.loc;have vis:Vis X.env.scope x:=by
     rcases q2 with z | z
     ·exact .inr (.inl z)
     ·exact .inr (.inr z)
    obtain⟨u,r,l⟩:=hl j x v q1 hj vis;refine⟨u,r,?_⟩;rcases l with⟨k,_⟩ | ⟨_,c,ec,z⟩
    ·rcases q2 with z | z <;> rw[z]at k <;> cases k
    ·obtain⟨c',ec'⟩:=B.has x q3
     have ee:c'=c:=by
      have:=B.cells _ _ ec';rw[ec]at this;simp_all
     subst ee;obtain⟨o,ho,hd⟩:=z;exact .inr ⟨q3,c',ec',o,hk _ _ ho,hd⟩
 ·obtain⟨v,o,ho,hd⟩:=I.cell x c (B.cells _ _ e)
  exact⟨v,o,hk _ _ ho,hd⟩
 ·have hp':p∈X.pn++jM:=by simpa[blk]using hp
  obtain⟨e,n,ne,nf,d⟩:=I.pin p hp';refine⟨hk _ _ e,n,noC _ _ e,λz=>?_,d⟩;rcases qu.mp (I.stkSub p.1 z)with q | q
  ·exact ne q
  ·exact nf q
 ·show(VQ src σ).length=N'.length
  unfold VQ;rw[qh,B.len]
def JX (src:List (Option Nat))(wi:TI)(g:TG)(tt:TT)(te:TE):TE:=fun σ H Q=>wi σ H λJ H1=>∀p,H1 p=none->
 ∃W:Nat->Nat->St->Hp->Prop,(∃m,W 0 m (VQ src σ) (Zi H1 p (.lst [])))/\∀i m σ2 H2,W i m σ2 H2->
  (J.stop i H2/\Q (.ref p) H2)∨(J.go i H2/\∀x H3,J.yld i H2 x H3->g x σ2 H3 fun σ4 H4=>tt σ4 H4 λok H5=>
   if ok=true then te σ4 H5 λy H6=>∃xs,H6 p=some (.lst xs)/\xs.length<xg/\∃m',m'<m/\W (i+1) m' σ4 (Zi H6 p (.lst (xs ++ [y])))
   else ∃m',m'<m/\W (i+1) m' σ4 H5)
theorem Zel
  {σ:St} {Qp:Addr->Hp->Prop} {RR:Value->Addr->Result->Shared->Prop}
  (hc:X.calm=true) (B:BlkOk X N' src scope cl)
  (hg:∀jM C s H fp,PG (blk X jM N' scope cl C s H fp) tg g) (ht:∀jM C s H fp,Vw (blk X jM N' scope cl C s H fp) ifs tt) (he:∀jM C s H fp,PE (blk X jM N' scope cl C s H fp) elt te)
  (I2:Inv X jM σ H2 s₂) (T:Turn X.prog X.w X.K tg J fp it tn) (jY:tn 0 s₂.heap) (f2:∀b∈fp,WI X jM H2 b)
  (q2:∀p,H2 p=none->∃W:Nat->Nat->St->Hp->Prop,(∃m,W 0 m (VQ src σ) (Zi H2 p (.lst [])))/\∀i m σ2 H2,W i m σ2 H2->
   (J.stop i H2/\Qp p H2)∨(J.go i H2/\∀x H3,J.yld i H2 x H3->g x σ2 H3 fun σ4 H4=>tt σ4 H4 λok H5=>
    if ok=true then te σ4 H5 λy H6=>∃xs,H6 p=some (.lst xs)/\xs.length<xg/\∃m',m'<m/\W (i+1) m' σ4 (Zi H6 p (.lst (xs ++ [y])))
    else ∃m',m'<m/\W (i+1) m' σ4 H5))
  (hfin:∀p C s6 H5 mm,Inv X jM σ H5 s6->s6.heap.Ns C mm->WI X jM H5 C->Qp p H5->RR (.ref p) C (.ok .next) s6) :
  xf (xz X.prog X.w) X.A (newList []) (λjT s₃=>xf (xz X.prog X.w) X.A (newFunctionEnv scope X.env.globals cl [] X.env.qual none .none (some X.env)) (λcenv s₄=>
   xo (xz X.prog X.w) X.A (.compStart (.ListComp elt [⟨tg,iter,ifs,0⟩] scope pos) 0 (.ref it) jT { cenv with scope:=relabel scope X.env }) (RR jT cenv.locals) s₄) E s₃) E s₂:=by
 have fpold:∀b∈fp,b<s₂.heap.objs.size:=λb hb=>by
  obtain⟨o,e,_⟩:=T.obj _ _ jY b hb;exact qy e
 have q2:=q2 s₂.heap.objs.size (I2.hok.fresh (qp _));obtain⟨W,⟨m0,w0⟩,turn⟩:=q2
 -- the new list
 refine xl ?_;have I3:Inv X jM σ (Zi H2 s₂.heap.objs.size (.lst [])) { s₂ with heap:=s₂.heap.push { cls:=.type "list",dict:=none,data:=.seq ([]:List Value).toArray } }:=
  I2.lnew (t':=s₂.toks) (ys:=[]) .nil (za _)
 have st3:tn 0 (s₂.heap.push { cls:=.type "list",dict:=none,data:=.seq ([]:List Value).toArray }):=T.keep _ _ _ jY λb _ o e=>qf _ e;have f3:∀b∈fp,WI X jM (Zi H2 s₂.heap.objs.size (.lst [])) b:=λb hb=>by
  obtain⟨f0,f1⟩:=f2 b hb;exact⟨by rw[Zl (qA (fpold b hb))];exact f0,f1⟩
 generalize hs3:({ s₂ with heap:=s₂.heap.push { cls:=.type "list",dict:=none,data:=.seq ([]:List Value).toArray } }:Shared)=s₃ at I3;have st3':tn 0 s₃.heap:=by rw[<-hs3];exact st3
 have lt3:s₂.heap.objs.size<s₃.heap.objs.size:=by rw[<-hs3];show _<(Heap.push _ _).objs.size;rw[zu];exact yh _
 refine wpAny_newFunctionEnv B.nocell (by intro y hy;simp at hy) (λh₁ hns₁ hsb₁=>?_) B.kind;have kp1:∀b o,s₃.heap.get? b=some o->h₁.get? b=some o:=λb o e=>hsb₁.extBut b o (qA (qy e)) (qf _ e);have I4:=ZmO (s1:={ s₃ with heap:=h₁,toks:=s₃.toks+([]:List (Str×Value)).length }) (C:=s₃.heap.objs.size) B I3 f3 (qp _) (λb hb=>qA (yF (fpold b hb) lt3)) rfl rfl kp1 hns₁;have st4:tn 0 h₁:=T.keep _ _ _ st3' λb _ o e=>kp1 b o e;show xo (xz X.prog X.w) X.A (.compStart (.ListComp elt [⟨tg,iter,ifs,0⟩] scope pos) 0 (.ref it) (.ref s₂.heap.objs.size) (compEnvC scope cl s₃.heap.objs.size X.env)) (RR (.ref s₂.heap.objs.size) s₃.heap.objs.size) _;generalize hs4:({ s₃ with heap:=h₁,toks:=s₃.toks+([]:List (Str×Value)).length }:Shared)=s₄ at I4;have st4':tn 0 s₄.heap:=by rw[<-hs4];exact st4
 have blkX:∀{b:Addr} {H':Hp},b∈fp->H' b=none->WI (blk X jM N' scope cl s₃.heap.objs.size s₃ (Zi H2 s₂.heap.objs.size (.lst [])) fp) [] H' b:=λ{b H'} hb hn=>by
  obtain⟨f0,f1,f2',f3',f4',f5'⟩:=f3 b hb;refine⟨hn,qA (yF (fpold b hb) lt3),λz=>?_,.inl hb,λx c e=>f4' x c (B.cells _ _ e),λp hp=>?_⟩
  ·rcases qu.mp (I3.stkSub b z)with e | e
   ·exact f1 e
   ·exact f2' e
  ·exact f5' p (by simpa[blk]using hp)
 have loop:xo (xz X.prog X.w) X.A (.compLoop (.ListComp elt [⟨tg,iter,ifs,0⟩] scope pos) 0 (.ref it) (.ref s₂.heap.objs.size) (compEnvC scope cl s₃.heap.objs.size X.env)) (RR (.ref s₂.heap.objs.size) s₃.heap.objs.size) s₄:=by
  refine ZfO (λn s'=>∃i σ' H',Inv (blk X jM N' scope cl s₃.heap.objs.size s₃ (Zi H2 s₂.heap.objs.size (.lst [])) fp) [] σ' H' s'/\tn i s'.heap/\(∀b∈fp,H' b=none)/\W i n σ' H') ?_ m0 ⟨0,_,_,I4,st4',λb hb=>(f3 b hb).1,w0⟩;rintro n s5 ⟨i,σ5,H5,I5,st5,fr5,w5⟩;rcases turn i n σ5 H5 w5 with⟨stop,qn⟩ | ⟨go,step⟩
  ·refine xc (T.done (blk X jM N' scope cl s₃.heap.objs.size s₃ (Zi H2 s₂.heap.objs.size (.lst [])) fp) rfl rfl rfl hc i [] s5 σ5 H5 (λ_ _=>False) I5 (λb hb=>blkX hb (fr5 b hb)) st5 stop) (λr s6 ⟨hr,I6⟩=>?_) λ_ _ f=>f.elim
   subst hr;obtain⟨mm,hnn,_⟩:=id I6.loc;have nC:H5 s₃.heap.objs.size=none:=I6.free;have J1:Inv X jM σ H5 s6:=by
    refine I3.call' (ch:=fp) I6.os I6.base I6.hok I6.bare λb hb=>?_;obtain⟨f0,f1,f2',f3',f4',f5'⟩:=f3 b hb;exact⟨f3',f1,f4',f5'⟩
   exact hfin _ _ s6 H5 mm J1 hnn (I3.fpOk (qp _) nC) qn
  ·refine xc (T.item (blk X jM N' scope cl s₃.heap.objs.size s₃ (Zi H2 s₂.heap.objs.size (.lst [])) fp) rfl rfl rfl hc i [] s5 σ5 H5 (λ_ _=>False) I5 (λb hb=>blkX hb (fr5 b hb)) st5 go) (λr s6 ⟨u,hr,h6⟩=>?_) λ_ _ f=>f.elim
   subst hr;refine xc h6 (λ_ s7 ⟨x,H7,I7,r7,y7,st7,fr7⟩=>?_) λ_ _ f=>f.elim;have I7':=I7.pinned (λb hb=>blkX hb (fr7 b hb)) (T.obj _ _ st7);refine xc (hg _ _ _ _ _ _ s7 σ5 H7 x u _ I7' r7 (step x H7 y7)) (λ_ s8 ⟨σ8,H8,I8,q8⟩=>?_) λ_ _ f=>f.elim;refine xc (ht _ _ _ _ _ _ s8 σ8 H8 _ I8 q8) (λok s9 ⟨H9,I9,q9⟩=>?_) λ_ _ f=>f.elim;have again:∀{σ7:St} {H7:Hp} {sz:Shared},Inv (blk X jM N' scope cl s₃.heap.objs.size s₃ (Zi H2 s₂.heap.objs.size (.lst [])) fp) ([]++BO fp s7.heap) σ7 H7 sz->(∃m',m'<n/\W (i+1) m' σ7 H7)->
     ∃m,m<n/\∃i σ' H',Inv (blk X jM N' scope cl s₃.heap.objs.size s₃ (Zi H2 s₂.heap.objs.size (.lst [])) fp) [] σ' H' sz/\tn i sz.heap/\(∀b∈fp,H' b=none)/\W i m σ' H':=λ{σ7 H7 sz} Iz ⟨m',hm,wz⟩=>by
    refine⟨m',hm,i+1,σ7,H7,Iz.unpinned,T.keep _ _ _ st7 λb hb o e=>(Iz.pin (b,o) (qk _ (qk _ (Jz hb e)))).1,λb hb=>?_,wz⟩;obtain⟨o,e,d⟩:=T.obj _ _ st7 b hb;exact(Iz.pin (b,o) (qk _ (qk _ (Jz hb e)))).2.1
   cases ok with
   | false=>
    show ∃m,m<n/\_;exact again I9 (by simpa using q9)
   | true=>
    have q9':te σ8 H9 λy H6=>∃xs,H6 s₂.heap.objs.size=some (.lst xs)/\xs.length<xg/\∃m',m'<n/\W (i+1) m' σ8 (Zi H6 s₂.heap.objs.size (.lst (xs ++ [y]))):=by simpa using q9
    show xf _ _ _ _ _ _;refine xc (he _ _ _ _ _ _ s9 σ8 H9 _ I9 q9') (λy sA ⟨yv,HA,IA,rA,xs,eA,zA,mA⟩=>?_) λ_ _ f=>f.elim;refine xc (Zb7 (X:=blk X jM N' scope cl s₃.heap.objs.size s₃ (Zi H2 s₂.heap.objs.size (.lst [])) fp) _ sA σ8 HA (.ref s₂.heap.objs.size) [yv] (.ref s₂.heap.objs.size) [y] (λ_ HB=>HB=Zi HA s₂.heap.objs.size (.lst (xs ++ [yv]))) IA rfl (.cons rA .nil) ⟨_,xs,yv,rfl,rfl,eA,zA,rfl⟩) (λ_ sB ⟨_,HB,IB,_,eB⟩=>?_) λ_ _ f=>f.elim;subst eB;exact again IB mA
 exact codeAny_compStart_list loop (T.self _ 0 _ _ _ st4' loop)
theorem Zii
  (hc:X.calm=true) (B:BlkOk X N' src scope cl) (hi:PI X tg iter wi)
  (hg:∀jM C s H fp,PG (blk X jM N' scope cl C s H fp) tg g) (ht:∀jM C s H fp,Vw (blk X jM N' scope cl C s H fp) ifs tt) (he:∀jM C s H fp,PE (blk X jM N' scope cl C s H fp) elt te)
  (hs:∀x,foldedSetIterable iter X.env x=pure x:=by intro _;rfl):PE X (.ListComp elt [⟨tg,iter,ifs,0⟩] scope pos) (JX src wi g tt te):=by
 intro jM s σ H Q I h;refine wpAny_comprehension_free rfl hs B.clos B.kind B.names (xc (hi jM s σ H _ I h) (λxv s₁ h₁=>xc h₁ (λit s₂ h₂=>?_) λ_ _ e=>e) λ_ _ e=>e);obtain⟨it,fp,tn,J,H2,e,I2,T,jY,f2,q2⟩:=h₂;subst e;refine Zel hc B hg ht he I2 T jY f2 q2 ?_;intro p C s6 H5 mm J1 hnn fC qn;refine⟨mm,hnn,λh' sb=>?_⟩;obtain⟨c0,c1,c2,c3,c4,c5⟩:=fC;exact⟨.ref p,H5,J1.turned (λb o hb e=>(sb.2 b hb).trans e) c0 c1 c3 c4 c5,rfl,qn⟩
theorem ZmP {spos:Pos}
  (hN:X.N.Nodup) (hi':X.N[i]?=some x) (hx:W3 X.env.scope x)
  (hc:X.calm=true) (B:BlkOk X N' src scope cl) (hi:PI X tg iter wi)
  (hg:∀jM C s H fp,PG (blk X jM N' scope cl C s H fp) tg g) (ht:∀jM C s H fp,Vw (blk X jM N' scope cl C s H fp) ifs tt) (he:∀jM C s H fp,PE (blk X jM N' scope cl C s H fp) elt te)
  (hsw:xr (.ListComp elt [⟨tg,iter,ifs,0⟩] scope pos) (some (.Name x pos')) spos.line X.env=pure true:=by rfl)
  (hs:∀x,foldedSetIterable iter X.env x=pure x:=by intro _;rfl)
  (hf:X.fn x=true∨X.env.scope.names.lookup x=some .local:=by first | exact .inl rfl | exact .inr rfl | assumption) :
  PS X (.Assign [.Name x pos'] (.ListComp elt [⟨tg,iter,ifs,0⟩] scope pos) spos) (λD σ H=>JX src wi g tt te σ H λy H1=>D.nx (σ.set i (some y)) H1):=by
 intro jM s σ H D I h;rw[exec_Assign_Name_used _ _ _ _ hsw];refine xa (wpAny_standAt (xa ?_));show xf _ _ (do let _<-comprehension (.ListComp elt [⟨tg,iter,ifs,0⟩] scope pos) scope X.env _ (newList []) false (eval iter X.env) (some (assign (.Name x pos') X.env))) _ _ s;refine xa (xc (wpAny_comprehension_free (use:=some (assign (.Name x pos') X.env)) (Q:=λ_ s'=>SP X jM D .next s') rfl hs B.clos B.kind B.names
  (xc (hi jM s σ H _ I h) (λxv s₁ h₁=>xc h₁ (λit s₂ h₂=>?_) λ_ _ e=>e) λ_ _ e=>e)) (λ_ s' hq=>xb (xb hq)) λ_ _ e=>e)
 obtain⟨it,fp,tn,J,H2,e,I2,T,jY,f2,q2⟩:=h₂;subst e;refine Zel (RR:=λjT C=>compPost (xz X.prog X.w) X.A X.xe (some (assign (.Name x pos') X.env)) (λ_ s'=>SP X jM D .next s') jT C) (Qp:=λp H=>D.nx (σ.set i (some (.ref p))) H) hc B hg ht he I2 T jY f2 q2 ?_;intro p C s6 H5 mm J1 hnn fC qn;obtain⟨oC,es,ep,hoC,hdC,hrC⟩:=id hnn;have fC':∀b∈[C],WI X jM H5 b:=by
  intro b hb;have e:b=C:=by simpa using hb
  rw[e];exact fC
 have oC':∀b∈[C],∃o,s6.heap.get? b=some o/\∀v,o.data≠.cell v:=by
  intro b hb;have e:b=C:=by simpa using hb
  rw[e];exact⟨oC,hoC,λv z=>by rw[hdC]at z;cases z⟩
 have J2:=J1.pinned fC' oC';refine xc (WM hN hi' hx hf _ s6 σ H5 (.ref p) (.ref p) (fun σ' H'=>σ'=σ.set i (some (.ref p))/\H'=H5) J2 rfl ⟨rfl,rfl⟩) (λ_ s7 ⟨σ7,H7,I7,e7,e7'⟩=>?_) λ_ _ e=>e;subst e7 e7';have pC:=I7.pin (C,oC) (qk _ (qk _ (Jz (by simp) hoC)));refine⟨mm,⟨oC,es,ep,pC.1,hdC,hrC⟩,λh' sb=>?_⟩;obtain⟨c0,c1,c2,c3,c4,c5⟩:=fC;exact⟨_,_,(I7.unpinned).turned (λb o hb e=>(sb.2 b hb).trans e) c0 c1 c3 c4 c5,qn⟩
end L2
namespace TF
open L2
inductive D where
 | non | bl (b:Bool) | int (i:Int) | str (x:Str) | tup (xs:List D) | lst (xs:List D)
 | dk (kvs:List (ZG×V)) | dt (kvs:List (List ZG×V)) | du (kvs:List (List ZG×V)) | df (kvs:List (ZG×V)) | pen | ty (n:String) | clo (t:Nat) (caps:List D)
abbrev St:=L2.St
abbrev Pn:=List Int×List Int
abbrev M (α:Type):=Pn->Option (α×Pn)
abbrev Zc:=List (Option D)
def Zy {α:Type}(a:α):M α:=λs=>some (a,s)
def Zm {α β:Type}(m:M α)(k:α->M β):M β:=λs=>match m s with | none=>none | some p=>k p.1 p.2
def Zq {α:Type}:M α:=λ_=>none
def YU {α:Type}(o:Option α):M α:=λs=>match o with | none=>none | some a=>some (a,s)
theorem Zs {m:M α}{k:α->M β}{b:β}(h:Zm m k s=some (b,s')):∃a s1,m s=some (a,s1)/\k a s1=some (b,s'):=by
 unfold Zm at h
 cases e:m s with
 | none=>simp_all
 | some p=>rw[e]at h;exact⟨p.1,p.2,rfl,h⟩
theorem ZC {a b:α}(h:Zy a s=some (b,s')):b=a/\s'=s:=by
 unfold Zy at h
 grind
theorem WD {o:Option α}{b:α}(h:YU o s=some (b,s')):o=some b/\s'=s:=by
 unfold YU at h
 cases e:o with
 | none=>simp_all
 | some a=>simp_all
structure Gh where
 fp:Addr->Prop
 rd:Addr->Prop
 pen:V
 st:Pn->Hp->Prop
 mono:∀s H H',st s H->(∀b o,rd b->H b=some o->H' b=some o)->(∀b φ,H b=some (.ext φ)->H' b=some (.ext φ))->st s H'
 sub:∀b,fp b->rd b
 dom:∀s H b,st s H->rd b->∃o,H b=some o
 ntp:∀s H b vs,st s H->fp b->H b≠some (.tup vs)
 clo:Nat->V->List V->Prop:=λ_ _ _=>False
mutual
def Zo (G:Gh)(H:Hp):D->V->Prop
 | .non,v=>v=.non
 | .bl b,v=>v=.bl b
 | .int i,v=>v=.int i
 | .str x,v=>v=.str x
 | .tup ds,v=>∃a vs,v=.ref a/\¬G.fp a/\H a=some (.tup vs)/\Zk G H ds vs
 | .lst ds,v=>∃a vs,v=.ref a/\¬G.fp a/\H a=some (.lst vs)/\Zk G H ds vs
 | .dk kvs,v=>∃a,v=.ref a/\¬G.fp a/\H a=some (.dK kvs)
 | .dt kvs,v=>∃a o,v=.ref a/\¬G.fp a/\H a=some (.frz o (.dT kvs))
 | .du kvs,v=>∃a,v=.ref a/\¬G.fp a/\H a=some (.dT kvs)
 | .df kvs,v=>∃a o,v=.ref a/\¬G.fp a/\H a=some (.frz o (.dK kvs))
 | .pen,v=>v=G.pen
 | .ty n,v=>v=.ty n
 | .clo t ds,v=>∃vs,G.clo t v vs/\Zk G H ds vs
def Zk (G:Gh)(H:Hp):List D->List V->Prop
 | [],vs=>vs=[]
 | d::ds,vs=>∃v r,vs=v::r/\Zo G H d v/\Zk G H ds r
end
def Zz (G:Gh)(H H':Hp):Prop:=∀b o,¬G.fp b->H b=some o->H' b=some o
theorem Zz.refl (G:Gh)(H:Hp):Zz G H H:=λ_ _ _ e=>e
theorem Zz.trans (a:Zz G H H1)(b:Zz G H1 H2):Zz G H H2:=λc o n e=>b c o n (a c o n e)
mutual
theorem Zo.ext {G:Gh}{H H':Hp}(e:Zz G H H'):∀{d:D} {v:V},Zo G H d v->Zo G H' d v
 | .non,_,h=>h
 | .bl _,_,h=>h
 | .int _,_,h=>h
 | .str _,_,h=>h
 | .tup ds,v,h=>by
  unfold Zo at h⊢;obtain⟨a,vs,e1,n,e2,r⟩:=h;exact⟨a,vs,e1,n,e _ _ n e2,Zk.ext e r⟩
 | .lst ds,v,h=>by
  unfold Zo at h⊢;obtain⟨a,vs,e1,n,e2,r⟩:=h;exact⟨a,vs,e1,n,e _ _ n e2,Zk.ext e r⟩
 | .dk kvs,v,h=>by
  unfold Zo at h⊢;obtain⟨a,e1,n,e2⟩:=h;exact⟨a,e1,n,e _ _ n e2⟩
 | .dt kvs,v,h=>by
  unfold Zo at h⊢;obtain⟨a,o,e1,n,e2⟩:=h;exact⟨a,o,e1,n,e _ _ n e2⟩
 | .df kvs,v,h=>by
  unfold Zo at h⊢;obtain⟨a,o,e1,n,e2⟩:=h;exact⟨a,o,e1,n,e _ _ n e2⟩
 | .du kvs,v,h=>by
  unfold Zo at h⊢;obtain⟨a,e1,n,e2⟩:=h;exact⟨a,e1,n,e _ _ n e2⟩
 | .pen,_,h=>h
 | .ty _,_,h=>h
 | .clo t ds,v,h=>by
  unfold Zo at h⊢;obtain⟨vs,c,r⟩:=h;exact⟨vs,c,Zk.ext e r⟩
theorem Zk.ext {G:Gh}{H H':Hp}(e:Zz G H H'):∀{ds:List D} {vs:List V},Zk G H ds vs->Zk G H' ds vs
 | [],_,h=>h
 | d::ds,vs,h=>by
  unfold Zk at h⊢;obtain⟨v,r,e1,r1,r2⟩:=h;exact⟨v,r,e1,Zo.ext e r1,Zk.ext e r2⟩
end
section
variable {G:Gh}{H:Hp}
theorem jc:Zo G H (.tup ds) v↔∃a vs,v=.ref a/\¬G.fp a/\H a=some (.tup vs)/\Zk G H ds vs:=by rfl
theorem jb:Zo G H (.lst ds) v↔∃a vs,v=.ref a/\¬G.fp a/\H a=some (.lst vs)/\Zk G H ds vs:=by rfl
theorem jj:Zo G H (.dk kvs) v↔∃a,v=.ref a/\¬G.fp a/\H a=some (.dK kvs):=by rfl
theorem jm:Zo G H (.dt kvs) v↔∃a o,v=.ref a/\¬G.fp a/\H a=some (.frz o (.dT kvs)):=by rfl
theorem jn:Zo G H (.du kvs) v↔∃a,v=.ref a/\¬G.fp a/\H a=some (.dT kvs):=by rfl
theorem jr:Zo G H (.df kvs) v↔∃a o,v=.ref a/\¬G.fp a/\H a=some (.frz o (.dK kvs)):=by rfl
theorem ja:Zo G H (.int i) v↔v=.int i:=by rfl
theorem je:Zo G H (.bl b) v↔v=.bl b:=by rfl
theorem jh:Zo G H (.str b) v↔v=.str b:=by rfl
theorem jg:Zo G H .non v↔v=.non:=by rfl
theorem jo:Zo G H .pen v↔v=G.pen:=by rfl
theorem js:Zo G H (.ty n) v↔v=.ty n:=by rfl
theorem jz:Zo G H (.clo t ds) v↔∃vs,G.clo t v vs/\Zk G H ds vs:=by rfl
theorem Zk.nil_iff:Zk G H [] vs↔vs=[]:=by rfl
theorem jd:Zk G H (d::ds) vs↔∃v r,vs=v::r/\Zo G H d v/\Zk G H ds r:=by
 rfl
theorem Zk.length:∀{ds:List D} {vs:List V},Zk G H ds vs->ds.length=vs.length
 | [],vs,h=>by rw[Zk.nil_iff.mp h];rfl
 | d::ds,vs,h=>by
  obtain⟨v,r,rfl,_,h2⟩:=jd.mp h;simp[Zk.length h2]
theorem Zk.get:∀{ds:List D} {vs:List V} {i:Nat} {d:D},Zk G H ds vs->ds[i]?=some d->∃v,vs[i]?=some v/\Zo G H d v
 | [],_,_,_,_,e=>by simp at e
 | d::ds,vs,0,d',h,e=>by
  obtain⟨v,r,rfl,h1,_⟩:=jd.mp h;simp_all
 | d::ds,vs,i+1,d',h,e=>by
  obtain⟨v,r,rfl,_,h2⟩:=jd.mp h;obtain⟨u,e1,e2⟩:=Zk.get h2 (by simpa using e);simp_all
theorem Zk.append:∀{ds es:List D} {vs us:List V},Zk G H ds vs->Zk G H es us->Zk G H (ds++es) (vs++us)
 | [],es,vs,us,h,h'=>by rw[Zk.nil_iff.mp h];exact h'
 | d::ds,es,vs,us,h,h'=>by
  obtain⟨v,r,rfl,h1,h2⟩:=jd.mp h;exact jd.mpr ⟨v,r++us,rfl,h1,Zk.append h2 h'⟩
theorem Zk.one (h:Zo G H d v):Zk G H [d] [v]:=jd.mpr ⟨v,[],rfl,h,Zk.nil_iff.mpr rfl⟩
theorem Zk.cons (h:Zo G H d v)(h2:Zk G H ds vs):Zk G H (d::ds) (v::vs):=jd.mpr ⟨v,vs,rfl,h,h2⟩
end
def Nt (o:Option HO):Prop:=∃u,o=some u/\∀vs,u≠.tup vs
theorem Nt.no (h:Nt o)(e:o=none):False:=by
 obtain⟨u,q,_⟩:=h
 grind
structure Gr (G:Gh)(Hf H Hf' H':Hp):Prop where
 hh:Zz G H H'
 ff:Zz G Hf Hf'
 fh:Zz G Hf' H'
 nw:∀b,¬G.fp b->Hf b=none->Nt (H b)->Hf' b=none
theorem Gr.refl (e:Zz G Hf H):Gr G Hf H Hf H:=⟨.refl _ _,.refl _ _,e,λ_ _ h _=>h⟩
theorem Gr.trans (a:Gr G Hf H jV H1)(b:Gr G jV H1 j6 H2):Gr G Hf H j6 H2:=
 ⟨a.hh.trans b.hh,a.ff.trans b.ff,b.fh,λc n h1 h2=>b.nw c n (a.nw c n h1 h2) (let ⟨u,e,nt⟩:=h2;⟨u,a.hh c u n e,nt⟩)⟩
theorem Gr.new (e:Zz G Hf H)(hp:H p=none)(nf:¬G.fp p):Gr G Hf H (Zi Hf p o) (Zi H p o) where
 hh:=λb u n q=>by rw[Zl (ZP q hp)];exact q
 ff:=λb u n q=>by rw[Zl (ZP (e b u n q) hp)];exact q
 fh:=λb u n q=>by
  by_cases hb:b=p
  ·subst hb;rw[ZE]at q⊢;exact q
  ·rw[Zl hb]at q⊢;exact e b u n q
 nw:=λb n h1 h2=>by
  by_cases hb:b=p
  ·subst hb;exact(h2.no hp).elim
  ·rw[Zl hb];exact h1
theorem Gh.nofp {G:Gh}(h:G.st s H)(hp:H p=none):¬G.fp p:=λf=>by
 obtain⟨o,e⟩:=G.dom s H p h (G.sub p f)
 grind
theorem jB {G:Gh}(h:G.st s H)(hp:H p=none):¬G.rd p:=λf=>by
 obtain⟨o,e⟩:=G.dom s H p h f
 grind
theorem Gh.grow {G:Gh}(h:G.st s H)(hp:H p=none):G.st s (Zi H p o):=G.mono s H _ h (λb u _ q=>by
 rw[Zl (ZP q hp)];exact q) λb φ q=>by
 rw[Zl (ZP q hp)];exact q
def Ja:D->Prop
 | .lst _=>True
 | .dk _=>True
 | .dt _=>True
 | .du _=>True
 | _=>False
def Z7 (G:Gh)(H Hf':Hp)(d:D)(v:V):Prop:=∀a,v=.ref a->Ja d->H a=none/\∀ds,d=.lst ds->∃vs Hm,Hf' a=some (.lst vs)/\Hm a=none/\Zz G Hm Hf'/\Zk G Hm ds vs
theorem Z7.old (e:Zz G H H')(r:∀a,v=.ref a->Ja d->¬G.fp a)(h:Z7 G H' Hf' d v):Z7 G H Hf' d v:=λa ea m=>by
 refine⟨?_,(h a ea m).2⟩
 cases q:H a with
 | none=>rfl
 | some o=>
  have:=e a o (r a ea m) q;rw[(h a ea m).1]at this;cases this
theorem Zo.nofp (r:Zo G H d v):∀a,v=.ref a->Ja d->¬G.fp a:=λa e m=>by
 cases d with
 | lst ds=>obtain⟨b,vs,e1,n,_⟩:=jb.mp r;grind
 | dk ds=>obtain⟨b,e1,n,_⟩:=jj.mp r;simp_all
 | dt ds=>obtain⟨b,_,e1,n,_⟩:=jm.mp r;simp_all
 | du ds=>obtain⟨b,e1,n,_⟩:=jn.mp r;simp_all
 | _=>exact m.elim
def YM (G:Gh)(H:Hp)(σ:St)(ρ:Zc):Prop:=∀(i:Nat) (d:D),ρ[i]?=some (some d)->∃v,σ[i]?=some (some v)/\Zo G H d v
theorem YM.ext (h:YM G H σ ρ)(e:Zz G H H'):YM G H' σ ρ:=λi d q=>let ⟨v,a,b⟩:=h i d q;⟨v,a,b.ext e⟩
def PD (X:Cx)(G:Gh)(fr:Bool)(e:Expr)(f:Zc->M D):Prop:=
 ∃t,PE X e t/\∀(σ:St) (Hf H:Hp) (ρ:Zc) (s:Pn) (d:D) (s':Pn) (Q:VK),Zz G Hf H->YM G Hf σ ρ->G.st s H->f ρ s=some (d,s')->
  (∀v Hf' H',Gr G Hf H Hf' H'->G.st s' H'->Zo G Hf' d v->(fr=true->Z7 G H Hf' d v)->Q v H')->t σ H Q
def X1 (X:Cx)(G:Gh)(e:Expr)(f:Zc->M Bool):Prop:=
 ∃t,PT X e t/\∀(σ:St) (Hf H:Hp) (ρ:Zc) (s:Pn) (b:Bool) (s':Pn) (Q:Bool->Hp->Prop),Zz G Hf H->YM G Hf σ ρ->G.st s H->f ρ s=some (b,s')->
  (∀Hf' H',Gr G Hf H Hf' H'->G.st s' H'->Q b H')->t σ H Q
def WO (X:Cx)(G:Gh)(es:List Expr)(f:Zc->M (List D)):Prop:=
 ∃t,PA X es t/\∀(σ:St) (Hf H:Hp) (ρ:Zc) (s:Pn) (ds:List D) (s':Pn) (Q:List V->Hp->Prop),Zz G Hf H->YM G Hf σ ρ->G.st s H->f ρ s=some (ds,s')->
  (∀vs Hf' H',Gr G Hf H Hf' H'->G.st s' H'->Zk G Hf' ds vs->Q vs H')->t σ H Q
section
variable {X:Cx}{G:Gh}
theorem PD.weak (h:PD X G fr e f):PD X G false e f:=by
 obtain⟨t,p,q⟩:=h;exact⟨t,p,fun σ Hf H ρ s d s' Q e1 e2 e3 e4 k=>q σ Hf H ρ s d s' Q e1 e2 e3 e4 λv Hf' H' g1 g2 g3 _=>k v Hf' H' g1 g2 g3 (λz=>by cases z)⟩
def Za (i:Nat):Zc->M D:=fun ρ=>YU ((ρ[i]?).bind id)
def dC (d:D):Zc->M D:=λ_=>Zy d
theorem ZoH (i:Nat)(h:PE X (.Name x pos) (ZY i)):PD X G false (.Name x pos) (Za i):=by
 refine⟨_,h,fun σ Hf H ρ s d s' Q e1 e2 e3 e4 k=>?_⟩;obtain⟨e,rfl⟩:=WD e4;have e':ρ[i]?=some (some d):=by
  cases q:ρ[i]? with
  | none=>simp_all
  | some o=>simp_all
 obtain⟨v,h1,h2⟩:=e2 i d e';exact⟨v,h1,k v Hf H (.refl e1) e3 h2 (λz=>by cases z)⟩
theorem Z7.scal (h:Ja d->False):Z7 G H Hf' d v:=λ_ _ m=>(h m).elim
theorem ZV:PD X G true (.Constant (.int i) j pos) (dC (.int i)):=by
 refine⟨_,Xd,fun σ Hf H ρ s d s' Q e1 e2 e3 e4 k=>?_⟩;obtain⟨rfl,rfl⟩:=ZC e4;exact k _ Hf H (.refl e1) e3 (ja.mpr rfl) λ_=>.scal λz=>z
theorem X8:PD X G true (.Constant (.bool b) j pos) (dC (.bl b)):=by
 refine⟨_,Zpv,fun σ Hf H ρ s d s' Q e1 e2 e3 e4 k=>?_⟩;obtain⟨rfl,rfl⟩:=ZC e4;exact k _ Hf H (.refl e1) e3 (je.mpr rfl) λ_=>.scal λz=>z
theorem ZkW:PD X G true (.Constant .none j pos) (dC .non):=by
 refine⟨_,Zg5,fun σ Hf H ρ s d s' Q e1 e2 e3 e4 k=>?_⟩;obtain⟨rfl,rfl⟩:=ZC e4;exact k _ Hf H (.refl e1) e3 (jg.mpr rfl) λ_=>.scal λz=>z
theorem ZoI:PD X G true (.Constant (.str x) j pos) (dC (.str x)):=by
 refine⟨_,XS,fun σ Hf H ρ s d s' Q e1 e2 e3 e4 k=>?_⟩;obtain⟨rfl,rfl⟩:=ZC e4;exact k _ Hf H (.refl e1) e3 (jh.mpr rfl) λ_=>.scal λz=>z
def Ze:Zc->M (List D):=λ_=>Zy []
def Zb (f:Zc->M D)(g:Zc->M (List D)):Zc->M (List D):=fun ρ=>Zm (f ρ) λd=>Zm (g ρ) λds=>Zy (d::ds)
theorem Zn:WO X G [] Ze:=by
 refine⟨_,Yn,fun σ Hf H ρ s d s' Q e1 e2 e3 e4 k=>?_⟩;obtain⟨rfl,rfl⟩:=ZC e4;exact k _ Hf H (.refl e1) e3 (Zk.nil_iff.mpr rfl)
theorem Zf (h:PD X G fr e f)(hr:WO X G es g)(hs:xh (e::es) X.env=(false,eval e X.env)::xh es X.env:=by rfl):WO X G (e::es) (Zb f g):=by
 obtain⟨t,p,q⟩:=h;obtain⟨u,p2,q2⟩:=hr;refine⟨_,ZU p p2 hs,fun σ Hf H ρ s ds s' Q e1 e2 e3 e4 k=>?_⟩;obtain⟨d,s1,a1,a2⟩:=Zs e4;obtain⟨r,s2,a3,a4⟩:=Zs a2;obtain⟨rfl,rfl⟩:=ZC a4;refine q σ Hf H ρ s d s1 _ e1 e2 e3 a1 λv jV H1 g1 jX r1 _=>?_;refine q2 σ jV H1 ρ s1 r _ _ g1.fh (e2.ext g1.ff) jX a3 λvs j6 H2 g2 jY r2=>?_;exact k _ j6 H2 (g1.trans g2) jY (Zk.cons (r1.ext g2.ff) r2)
def ZZ (f:Zc->M (List D)):Zc->M D:=fun ρ=>Zm (f ρ) λds=>if ds.length<=xg then Zy (.tup ds)else Zq
def Y4 (f:Zc->M (List D)):Zc->M D:=fun ρ=>Zm (f ρ) λds=>if ds.length<=xg then Zy (.lst ds)else Zq
theorem YQ {α:Type}{c:Prop}[Decidable c]{a:M α}{s s':Pn}{b:α}(h:(if c then a else Zq) s=some (b,s')):c/\a s=some (b,s'):=by
 split at h
 ·simp_all
 ·cases h
theorem Z7.mk (e:Zz G Hf H)(hp:H p=none)(nf:¬G.fp p)(r:Zk G Hf ds vs):Z7 G H (Zi Hf p (.lst vs)) (.lst ds) (.ref p):=λa ea _=>by
 cases ea
 refine⟨hp,λds' ed=>?_⟩
 cases ed
 have hf:Hf p=none:=by
  cases q:Hf p with
  | none=>rfl
  | some o=>rw[e p o nf q]at hp;cases hp
 exact⟨vs,Hf,ZE,hf,λb o n q=>by rw[Zl (ZP q hf)];exact q,r⟩
theorem Xe (h:WO X G es f):PD X G true (.Tuple es x1 pos) (ZZ f):=by
 obtain⟨t,p,q⟩:=h;refine⟨_,Zha p,fun σ Hf H ρ s d s' Q e1 e2 e3 e4 k=>?_⟩;obtain⟨ds,s1,a1,a2⟩:=Zs e4;obtain⟨hl,a3⟩:=YQ a2;obtain⟨rfl,rfl⟩:=ZC a3;refine q σ Hf H ρ s ds s' _ e1 e2 e3 a1 λvs jV H1 g1 jX r1=>⟨by rw[<-r1.length];exact hl,λp hp=>?_⟩;have nf:=Gh.nofp jX hp;have g2:=Gr.new (o:=.tup vs) g1.fh hp nf;exact k (.ref p) _ _ (g1.trans g2) (Gh.grow jX hp) (jc.mpr ⟨p,vs,rfl,nf,ZE,r1.ext g2.ff⟩) λ_=>.scal λz=>z
theorem Vb (h:WO X G es f):PD X G true (.List es pos) (Y4 f):=by
 obtain⟨t,p,q⟩:=h;refine⟨_,ZkL p,fun σ Hf H ρ s d s' Q e1 e2 e3 e4 k=>?_⟩;obtain⟨ds,s1,a1,a2⟩:=Zs e4;obtain⟨hl,a3⟩:=YQ a2;obtain⟨rfl,rfl⟩:=ZC a3;refine q σ Hf H ρ s ds s' _ e1 e2 e3 a1 λvs jV H1 g1 jX r1=>⟨by rw[<-r1.length];exact hl,λp hp=>?_⟩;have nf:=Gh.nofp jX hp;have g2:=Gr.new (o:=.lst vs) g1.fh hp nf;refine k (.ref p) _ _ (g1.trans g2) (Gh.grow jX hp) (jb.mpr ⟨p,vs,rfl,nf,ZE,r1.ext g2.ff⟩) λ_=>Z7.old g1.hh (λa ea _=>by simp_all) (Z7.mk g1.fh hp nf r1)
def XD (X:Cx)(G:Gh)(f:Value->Value->Sem Value)(g:D->D->Option D):Prop:=
 ∃r,Yl X f r/\∀(Hf H:Hp) (s:Pn) (x y:V) (d e c:D) (Q:VK),Zz G Hf H->G.st s H->Zo G Hf d x->Zo G Hf e y->g d e=some c->
  (∀v Hf' H',Gr G Hf H Hf' H'->G.st s H'->Zo G Hf' c v->Z7 G H Hf' c v->Q v H')->r x y H Q
def Zd (g:D->D->Option D)(a b:Zc->M D):Zc->M D:=fun ρ=>Zm (a ρ) λd=>Zm (b ρ) λe=>YU (g d e)
theorem op2D
  (qa:∀(σ:St) (Hf H:Hp) (ρ:Zc) (s:Pn) (d:D) (s':Pn) (Q:VK),Zz G Hf H->YM G Hf σ ρ->G.st s H->fa ρ s=some (d,s')->(∀v Hf' H',Gr G Hf H Hf' H'->G.st s' H'->Zo G Hf' d v->Q v H')->ta σ H Q)
  (qb:∀(σ:St) (Hf H:Hp) (ρ:Zc) (s:Pn) (d:D) (s':Pn) (Q:VK),Zz G Hf H->YM G Hf σ ρ->G.st s H->fb ρ s=some (d,s')->(∀v Hf' H',Gr G Hf H Hf' H'->G.st s' H'->Zo G Hf' d v->Q v H')->tb σ H Q)
  (qo:∀(Hf H:Hp) (s:Pn) (x y:V) (d e c:D) (Q:VK),Zz G Hf H->G.st s H->Zo G Hf d x->Zo G Hf e y->g d e=some c->(∀v Hf' H',Gr G Hf H Hf' H'->G.st s H'->Zo G Hf' c v->Z7 G H Hf' c v->Q v H')->r x y H Q)
  (σ:St) (Hf H:Hp) (ρ:Zc) (s:Pn) (d:D) (s':Pn) (Q:VK) (e1:Zz G Hf H) (e2:YM G Hf σ ρ) (e3:G.st s H) (e4:Zd g fa fb ρ s=some (d,s'))
  (k:∀v Hf' H',Gr G Hf H Hf' H'->G.st s' H'->Zo G Hf' d v->Z7 G H Hf' d v->Q v H'):YN r ta tb σ H Q:=by
 obtain⟨da,s1,a1,a2⟩:=Zs e4;obtain⟨db,s2,a3,a4⟩:=Zs a2;obtain⟨a5,rfl⟩:=WD a4;refine qa σ Hf H ρ s da s1 _ e1 e2 e3 a1 λx jV H1 g1 jX r1=>?_;refine qb σ jV H1 ρ s1 db _ _ g1.fh (e2.ext g1.ff) jX a3 λy j6 H2 g2 jY r2=>?_;refine qo j6 H2 _ x y da db d Q g2.fh jY (r1.ext g2.ff) r2 a5 λv Hf3 H3 g3 st3 r3 fz=>?_;exact k v Hf3 H3 ((g1.trans g2).trans g3) st3 r3 (Z7.old (g1.hh.trans g2.hh) r3.nofp fz)
theorem PD.drop (h:PD X G fr e f):∃t,PE X e t/\∀(σ:St) (Hf H:Hp) (ρ:Zc) (s:Pn) (d:D) (s':Pn) (Q:VK),Zz G Hf H->YM G Hf σ ρ->G.st s H->f ρ s=some (d,s')->
  (∀v Hf' H',Gr G Hf H Hf' H'->G.st s' H'->Zo G Hf' d v->Q v H')->t σ H Q:=by
 obtain⟨t,p,q⟩:=h;exact⟨t,p,fun σ Hf H ρ s d s' Q a b c d' k=>q σ Hf H ρ s d s' Q a b c d' λv Hf' H' g1 g2 g3 _=>k v Hf' H' g1 g2 g3⟩
theorem WV (ho:XD X G (binaryOp op) g)(ha:PD X G r1 a fa)(hb:PD X G r2 b fb):PD X G true (.BinOp a op b pos) (Zd g fa fb):=by
 obtain⟨r,po,qo⟩:=ho;obtain⟨ta,pa,qa⟩:=ha.drop;obtain⟨tb,pb,qb⟩:=hb.drop;exact⟨_,Xm po pa pb,fun σ Hf H ρ s d s' Q e1 e2 e3 e4 k=>op2D qa qb qo σ Hf H ρ s d s' Q e1 e2 e3 e4 λv Hf' H' g1 g2 g3 fz=>k v Hf' H' g1 g2 g3 λ_=>fz⟩
theorem Vc (ho:XD X G (xk op) g)(ha:PD X G r1 a fa)(hb:PD X G r2 b fb)
  (hm:behindInMarks op b=false:=by first | exact JJ _ | with_unfolding_all rfl):PD X G true (.Compare a [op] [b] pos) (Zd g fa fb):=by
 obtain⟨r,po,qo⟩:=ho;obtain⟨ta,pa,qa⟩:=ha.drop;obtain⟨tb,pb,qb⟩:=hb.drop;exact⟨_,ZmG po pa pb hm,fun σ Hf H ρ s d s' Q e1 e2 e3 e4 k=>op2D qa qb qo σ Hf H ρ s d s' Q e1 e2 e3 e4 λv Hf' H' g1 g2 g3 fz=>k v Hf' H' g1 g2 g3 λ_=>fz⟩
def asB (f:Zc->M D):Zc->M Bool:=fun ρ=>Zm (f ρ) λd=>match d with | .bl b=>Zy b | _=>Zq
theorem ZfR (h:asB f ρ s=some (b,s')):f ρ s=some (.bl b,s'):=by
 obtain⟨d,s1,a1,a2⟩:=Zs h
 cases d with
 | bl c=>obtain⟨rfl,rfl⟩:=ZC a2;exact a1
 | _=>cases a2
theorem YV (ho:XD X G (xk op) g)(ha:PD X G r1 a fa)(hb:PD X G r2 b fb)
  (hm:behindInMarks op b=false:=by first | exact JJ _ | with_unfolding_all rfl):X1 X G (.Compare a [op] [b] pos) (asB (Zd g fa fb)):=by
 obtain⟨r,po,qo⟩:=ho;obtain⟨ta,pa,qa⟩:=ha.drop;obtain⟨tb,pb,qb⟩:=hb.drop;refine⟨_,BD po pa pb hm,fun σ Hf H ρ s c s' Q e1 e2 e3 e4 k=>?_⟩;exact op2D qa qb qo σ Hf H ρ s (.bl c) s' _ e1 e2 e3 (ZfR e4) λv Hf' H' g1 g2 g3 fz=>⟨c,je.mp g3,k Hf' H' g1 g2⟩
theorem Wu (h:PD X G fr e f)(he:∀whole,isTrue e X.env whole=(do let v<-whole;standAt e.pos;holding [v] (truthy v)):=by intro _;rfl):X1 X G e (asB f):=by
 obtain⟨t,p,q⟩:=h;refine⟨_,Zoo p he,fun σ Hf H ρ s c s' Q e1 e2 e3 e4 k=>?_⟩;exact q σ Hf H ρ s (.bl c) s' _ e1 e2 e3 (ZfR e4) λv Hf' H' g1 g2 g3 fz=>⟨c,je.mp g3,k Hf' H' g1 g2⟩
def Wa (f:Zc->M Bool):Zc->M Bool:=fun ρ=>Zm (f ρ) λb=>Zy (!b)
theorem Ub (h:X1 X G a f):X1 X G (.UnaryOp .Not a pos) (Wa f):=by
 obtain⟨t,p,q⟩:=h;refine⟨_,Zoq p,fun σ Hf H ρ s c s' Q e1 e2 e3 e4 k=>?_⟩;obtain⟨b,s1,a1,a2⟩:=Zs e4;obtain⟨rfl,rfl⟩:=ZC a2;exact q σ Hf H ρ s b s' _ e1 e2 e3 a1 λHf' H' g1 g2=>k Hf' H' g1 g2
def XZ (f g:Zc->M Bool):Zc->M Bool:=fun ρ=>Zm (f ρ) λb=>if b=true then g ρ else Zy false
def X2 (f g:Zc->M Bool):Zc->M Bool:=fun ρ=>Zm (f ρ) λb=>if b=true then Zy true else g ρ
def X3 (X:Cx)(G:Gh)(e:Expr)(f:Zc->M Bool):Prop:=
 ∃t,PW X e t/\∀(σ:St) (Hf H:Hp) (ρ:Zc) (s:Pn) (b:Bool) (s':Pn) (Q:Bool->Hp->Prop),Zz G Hf H->YM G Hf σ ρ->G.st s H->f ρ s=some (b,s')->
  (∀Hf' H',Gr G Hf H Hf' H'->G.st s' H'->Q b H')->t σ H Q
theorem X3.pt (h:X3 X G e f):X1 X G e f:=by
 obtain⟨t,p,q⟩:=h;exact⟨t,p.pt,q⟩
theorem JD (h:X1 X G a f):X3 X G (.BoolOp .And [a] pos) f:=by
 obtain⟨t,p,q⟩:=h;exact⟨t,Zia p,q⟩
theorem BI (h:X1 X G a f):X3 X G (.BoolOp .Or [a] pos) f:=by
 obtain⟨t,p,q⟩:=h;exact⟨t,Zop p,q⟩
theorem JF {rest:List Expr}(h:X1 X G a f)(h2:X3 X G (.BoolOp .And (b::rest) pos) g):X3 X G (.BoolOp .And (a::b::rest) pos) (XZ f g):=by
 obtain⟨t,p,q⟩:=h;obtain⟨u,p2,q2⟩:=h2;refine⟨_,ZkA p p2,fun σ Hf H ρ s c s' Q e1 e2 e3 e4 k=>?_⟩;obtain⟨b,s1,a1,a2⟩:=Zs e4;refine q σ Hf H ρ s b s1 _ e1 e2 e3 a1 λjV H1 g1 jX=>?_
 cases b with
 | true=>exact q2 σ jV H1 ρ s1 c s' _ g1.fh (e2.ext g1.ff) jX a2 λj6 H2 g2 jY=>k j6 H2 (g1.trans g2) jY
 | false=>obtain⟨rfl,rfl⟩:=ZC a2;exact k jV H1 g1 jX
theorem UD {rest:List Expr}(h:X1 X G a f)(h2:X3 X G (.BoolOp .Or (b::rest) pos) g):X3 X G (.BoolOp .Or (a::b::rest) pos) (X2 f g):=by
 obtain⟨t,p,q⟩:=h;obtain⟨u,p2,q2⟩:=h2;refine⟨_,Zpw p p2,fun σ Hf H ρ s c s' Q e1 e2 e3 e4 k=>?_⟩;obtain⟨b,s1,a1,a2⟩:=Zs e4;refine q σ Hf H ρ s b s1 _ e1 e2 e3 a1 λjV H1 g1 jX=>?_
 cases b with
 | true=>obtain⟨rfl,rfl⟩:=ZC a2;exact k jV H1 g1 jX
 | false=>exact q2 σ jV H1 ρ s1 c s' _ g1.fh (e2.ext g1.ff) jX a2 λj6 H2 g2 jY=>k j6 H2 (g1.trans g2) jY
def WK (f g:Zc->M D):Zc->M D:=fun ρ=>Zm (f ρ) λd=>match d with | .bl true=>g ρ | .bl false=>Zy (.bl false) | _=>Zq
def Bc (f g:Zc->M D):Zc->M D:=fun ρ=>Zm (f ρ) λd=>match d with | .bl true=>Zy (.bl true) | .bl false=>g ρ | _=>Zq
def J6 (f:Zc->M D):Zc->M D:=fun ρ=>Zm (f ρ) λd=>match d with | .bl b=>Zy (.bl (!b)) | _=>Zq
theorem BQ (h:PD X G fr a f):PD X G false (.BoolOp op [a] pos) f:=by
 obtain⟨t,p,q⟩:=h.weak;exact⟨t,Zg6 p,q⟩
theorem BR {rest:List Expr}(h:PD X G r1 a f)(h2:PD X G r2 (.BoolOp .And (b::rest) pos) g):PD X G false (.BoolOp .And (a::b::rest) pos) (WK f g):=by
 obtain⟨t,p,q⟩:=h.drop;obtain⟨u,p2,q2⟩:=h2.drop;refine⟨_,ZkB p p2,fun σ Hf H ρ s c s' Q e1 e2 e3 e4 k=>?_⟩;obtain⟨d,s1,a1,a2⟩:=Zs e4;refine q σ Hf H ρ s d s1 _ e1 e2 e3 a1 λv jV H1 g1 jX r1=>?_
 cases d with
 | bl b=>
  cases b with
  | true=>exact⟨true,je.mp r1,WY (q2 σ jV H1 ρ s1 c s' _ g1.fh (e2.ext g1.ff) jX a2 λv j6 H2 g2 jY r2=>k v j6 H2 (g1.trans g2) jY r2 (λz=>by cases z))⟩
  | false=>obtain⟨rfl,rfl⟩:=ZC a2;exact⟨false,je.mp r1,VZ (k _ jV H1 g1 jX (je.mpr rfl) (λz=>by cases z))⟩
 | _=>cases a2
theorem ZpC {rest:List Expr}(h:PD X G r1 a f)(h2:PD X G r2 (.BoolOp .Or (b::rest) pos) g):PD X G false (.BoolOp .Or (a::b::rest) pos) (Bc f g):=by
 obtain⟨t,p,q⟩:=h.drop;obtain⟨u,p2,q2⟩:=h2.drop;refine⟨_,ZnO p p2,fun σ Hf H ρ s c s' Q e1 e2 e3 e4 k=>?_⟩;obtain⟨d,s1,a1,a2⟩:=Zs e4;refine q σ Hf H ρ s d s1 _ e1 e2 e3 a1 λv jV H1 g1 jX r1=>?_
 cases d with
 | bl b=>
  cases b with
  | false=>exact⟨false,je.mp r1,VZ (q2 σ jV H1 ρ s1 c s' _ g1.fh (e2.ext g1.ff) jX a2 λv j6 H2 g2 jY r2=>k v j6 H2 (g1.trans g2) jY r2 (λz=>by cases z))⟩
  | true=>obtain⟨rfl,rfl⟩:=ZC a2;exact⟨true,je.mp r1,WY (k _ jV H1 g1 jX (je.mpr rfl) (λz=>by cases z))⟩
 | _=>cases a2
theorem ZkX (h:PD X G r1 a f):PD X G true (.UnaryOp .Not a pos) (J6 f):=by
 obtain⟨t,p,q⟩:=h.drop;refine⟨_,Zg7 p,fun σ Hf H ρ s c s' Q e1 e2 e3 e4 k=>?_⟩;obtain⟨d,s1,a1,a2⟩:=Zs e4;refine q σ Hf H ρ s d s1 _ e1 e2 e3 a1 λv jV H1 g1 jX r1=>?_
 cases d with
 | bl b=>obtain⟨rfl,rfl⟩:=ZC a2;exact⟨b,je.mp r1,k _ jV H1 g1 jX (je.mpr rfl) λ_=>.scal λz=>z⟩
 | _=>cases a2
def dIf (c:Zc->M Bool)(f g:Zc->M D):Zc->M D:=fun ρ=>Zm (c ρ) λb=>if b=true then f ρ else g ρ
theorem ZpD (hc:X1 X G c fc)(ha:PD X G r1 a f)(hb:PD X G r2 b g):PD X G false (.IfExp c a b pos) (dIf fc f g):=by
 obtain⟨tc,pc,qc⟩:=hc;obtain⟨ta,pa,qa⟩:=ha.drop;obtain⟨tb,pb,qb⟩:=hb.drop;refine⟨_,ZkC pc pa pb,fun σ Hf H ρ s d s' Q e1 e2 e3 e4 k=>?_⟩;obtain⟨b,s1,a1,a2⟩:=Zs e4;refine qc σ Hf H ρ s b s1 _ e1 e2 e3 a1 λjV H1 g1 jX=>?_
 cases b with
 | true=>exact WY (qa σ jV H1 ρ s1 d s' _ g1.fh (e2.ext g1.ff) jX a2 λv j6 H2 g2 jY r2=>k v j6 H2 (g1.trans g2) jY r2 (λz=>by cases z))
 | false=>exact VZ (qb σ jV H1 ρ s1 d s' _ g1.fh (e2.ext g1.ff) jX a2 λv j6 H2 g2 jY r2=>k v j6 H2 (g1.trans g2) jY r2 (λz=>by cases z))
def Wk (X:Cx)(G:Gh)(f:Value)(g:List D->Option D):Prop:=
 ∃r,Xi X f r/\∀(Hf H:Hp) (s:Pn) (xs:List V) (ds:List D) (c:D) (Q:VK),Zz G Hf H->G.st s H->Zk G Hf ds xs->g ds=some c->
  (∀v Hf' H',Gr G Hf H Hf' H'->G.st s H'->Zo G Hf' c v->Z7 G H Hf' c v->Q v H')->r xs H Q
def Zx (g:List D->Option D)(fs:Zc->M (List D)):Zc->M D:=fun ρ=>Zm (fs ρ) λds=>YU (g ds)
theorem Xc {id:String}{p pos:Pos}(hc:Wk X G (.builtin id) g)(hg:Gl X x)(hm:X.mg x=none)(hv:xj x=some (.builtin id))(ha:WO X G (e::es) fs)
  (hn:x≠"__name__":=by decide) (hdb:(x==("__debug__" : Str))=false:=by decide)
  (he:xh (e::es) X.env=(false,eval e X.env)::xh es X.env:=by rfl) (hpl:(backTo pos (xh es X.env)).any (·.1)=false:=by rfl):PD X G true (.Call (.Name x p) (e::es) [] pos) (Zx g fs):=by
 obtain⟨r,pr,qr⟩:=hc;obtain⟨t,pa,qa⟩:=ha;refine⟨_,V9 pr hg hm hv pa hn hdb he hpl,fun σ Hf H ρ s d s' Q e1 e2 e3 e4 k=>?_⟩;obtain⟨ds,s1,a1,a2⟩:=Zs e4;obtain⟨a3,rfl⟩:=WD a2;refine qa σ Hf H ρ s ds _ _ e1 e2 e3 a1 λvs jV H1 g1 jX r1=>?_;exact qr jV H1 _ vs ds d Q g1.fh jX r1 a3 λv j6 H2 g2 jY r2 fz=>k v j6 H2 (g1.trans g2) jY r2 λ_=>Z7.old g1.hh r2.nofp fz
theorem VH {p pos:Pos}(hc:Wk X G (.type T) g)(hg:Gl X x)(hm:X.mg x=none)(hv:xj x=some (.type T))(ha:WO X G (e::es) fs)
  (hn:x≠"__name__":=by decide) (hdb:(x==("__debug__" : Str))=false:=by decide)
  (he:xh (e::es) X.env=(false,eval e X.env)::xh es X.env:=by rfl) (hpl:(backTo pos (xh es X.env)).any (·.1)=false:=by rfl):PD X G true (.Call (.Name x p) (e::es) [] pos) (Zx g fs):=by
 obtain⟨r,pr,qr⟩:=hc;obtain⟨t,pa,qa⟩:=ha;refine⟨_,UU pr hg hm hv pa hn hdb he hpl,fun σ Hf H ρ s d s' Q e1 e2 e3 e4 k=>?_⟩;obtain⟨ds,s1,a1,a2⟩:=Zs e4;obtain⟨a3,rfl⟩:=WD a2;refine qa σ Hf H ρ s ds _ _ e1 e2 e3 a1 λvs jV H1 g1 jX r1=>?_;exact qr jV H1 _ vs ds d Q g1.fh jX r1 a3 λv j6 H2 g2 jY r2 fz=>k v j6 H2 (g1.trans g2) jY r2 λ_=>Z7.old g1.hh r2.nofp fz
def IxD (X:Cx)(G:Gh)(g:D->D->Option D):Prop:=
 ∃r,Ut X r/\∀(Hf H:Hp) (s:Pn) (x y:V) (d e c:D) (Q:VK),Zz G Hf H->G.st s H->Zo G Hf d x->Zo G Hf e y->g d e=some c->
  (∀v,Zo G Hf c v->Q v H)->r x y H Q
theorem Z1 (ho:IxD X G g)(ha:PD X G r1 a fa)(hb:PD X G r2 b fb)(hs:Zif b:=by intro _ _;rfl):PD X G false (.Subscript a b pos) (Zd g fa fb):=by
 obtain⟨r,po,qo⟩:=ho;obtain⟨ta,pa,qa⟩:=ha.drop;obtain⟨tb,pb,qb⟩:=hb.drop;refine⟨_,JW po pa pb hs,fun σ Hf H ρ s d s' Q e1 e2 e3 e4 k=>?_⟩;obtain⟨da,s1,a1,a2⟩:=Zs e4;obtain⟨db,s2,a3,a4⟩:=Zs a2;obtain⟨a5,rfl⟩:=WD a4;refine qa σ Hf H ρ s da s1 _ e1 e2 e3 a1 λx jV H1 g1 jX r1=>?_;refine qb σ jV H1 ρ s1 db _ _ g1.fh (e2.ext g1.ff) jX a3 λy j6 H2 g2 jY r2=>?_;exact qo j6 H2 _ x y da db d Q g2.fh jY (r1.ext g2.ff) r2 a5 λv r3=>k v j6 H2 (g1.trans g2) jY r3 (λz=>by cases z)
def Ys (n:Nat)(fr:Bool)(GG:Gh->Prop)(F:List D->M D):Sp:=λvs H Q _=>∃(G:Gh) (Hf:Hp) (ds:List D) (s:Pn) (d:D) (s':Pn),GG G/\vs.length=n/\Zz G Hf H/\Zk G Hf ds vs/\G.st s H/\F ds s=some (d,s')/\
 ∀v Hf' H',Gr G Hf H Hf' H'->G.st s' H'->Zo G Hf' d v->(fr=true->Z7 G H Hf' d v)->Q v H'
def Zu (F:List D->M D)(fs:Zc->M (List D)):Zc->M D:=fun ρ=>Zm (fs ρ) F
theorem ZmQ {p pos:Pos}
  (FN:FnOk X.prog X.w X.K X.mg X.base CX k f fd ps (Ys n fr GG F)) (hG:GG G) (hr:Room k X.A) (hg:Gl X x) (hm:X.mg x=some (.ref f)) (hk:zt X.K (.ref f)=true) (hb:XJ X.K fd ps []) (hx:JK CX X E)
  (ha:WO X G (e::es) fs) (jW:(e::es).length=n:=by rfl) (hal:∀ρ s ds s',fs ρ s=some (ds,s')->ds.length=(e::es).length)
  (hdb:(x==("__debug__" : Str))=false:=by decide) (he:xh (e::es) X.env=(false,eval e X.env)::xh es X.env:=by rfl) (hpl:(backTo pos (xh es X.env)).any (·.1)=false:=by rfl) :
  PD X G fr (.Call (.Name x p) (e::es) [] pos) (Zu F fs):=by
 obtain⟨t,pa,qa⟩:=ha;refine⟨_,BE FN hr hg hm hk hb .nil hx pa hdb he hpl,fun σ Hf H ρ s d s' Q e1 e2 e3 e4 k=>?_⟩;obtain⟨ds,s1,a1,a2⟩:=Zs e4;refine qa σ Hf H ρ s ds _ _ e1 e2 e3 a1 λvs jV H1 g1 jX r1=>?_;refine⟨G,jV,ds,s1,d,s',hG,by rw[zw,<-r1.length,hal _ _ _ _ a1];exact jW,g1.fh,by simp_all,jX,a2,λv j6 H2 g2 jY r2 fz=>?_⟩;exact k v j6 H2 (g1.trans g2) jY r2 λz=>Z7.old g1.hh r2.nofp (fz z)
theorem Y5 (h:∀ρ s ds s',g ρ s=some (ds,s')->ds.length=n):∀ρ s ds s',Zb f g ρ s=some (ds,s')->ds.length=n+1:=fun ρ s ds s' q=>by
 obtain⟨d,s1,a1,a2⟩:=Zs q;obtain⟨r,s2,a3,a4⟩:=Zs a2;obtain⟨rfl,rfl⟩:=ZC a4;simp[h _ _ _ _ a3]
theorem Ua:∀ρ s ds s',Ze ρ s=some (ds,s')->ds.length=0:=fun ρ s ds s' q=>by
 obtain⟨rfl,rfl⟩:=ZC q;rfl
end
mutual
def XY:D->Bool
 | .tup ds=>Ud ds
 | .lst _=>false
 | .dk _=>false
 | .dt _=>false
 | .du _=>false
 | .df _=>false
 | .clo _ _=>false
 | _=>true
def Ud:List D->Bool
 | []=>true
 | d::ds=>XY d&&Ud ds
end
mutual
theorem Zo.only {G:Gh}{H H':Hp}(e:∀b vs,¬G.fp b->H b=some (.tup vs)->H' b=some (.tup vs)):∀{d:D} {v:V},XY d=true->Zo G H d v->Zo G H' d v
 | .non,_,_,h=>h
 | .bl _,_,_,h=>h
 | .int _,_,_,h=>h
 | .str _,_,_,h=>h
 | .tup ds,v,n,h=>by
  obtain⟨a,vs,e1,nf,e2,r⟩:=jc.mp h;exact jc.mpr ⟨a,vs,e1,nf,e _ _ nf e2,Zk.only e (by simpa[XY]using n) r⟩
 | .lst ds,v,n,h=>by simp[XY]at n
 | .dk kvs,v,n,h=>by simp[XY]at n
 | .dt kvs,v,n,h=>by simp[XY]at n
 | .du kvs,v,n,h=>by simp[XY]at n
 | .df kvs,v,n,h=>by simp[XY]at n
 | .pen,_,_,h=>h
 | .ty _,_,_,h=>h
 | .clo _ _,v,n,h=>by simp[XY]at n
theorem Zk.only {G:Gh}{H H':Hp}(e:∀b vs,¬G.fp b->H b=some (.tup vs)->H' b=some (.tup vs)):∀{ds:List D} {vs:List V},Ud ds=true->Zk G H ds vs->Zk G H' ds vs
 | [],_,_,h=>h
 | d::ds,vs,n,h=>by
  obtain⟨v,r,e1,r1,r2⟩:=jd.mp h;have n':XY d=true/\Ud ds=true:=by simpa[Ud]using n
  exact jd.mpr ⟨v,r,e1,Zo.only e n'.1 r1,Zk.only e n'.2 r2⟩
end
def Ue (G:Gh)(Hf H:Hp)(a:Addr):D->Prop
 | .lst ds=>∃vs,H a=some (.lst vs)/\Zk G Hf ds vs
 | .dk kvs=>H a=some (.dK kvs)
 | .dt kvs=>∃o,H a=some (.frz o (.dT kvs))
 | .du kvs=>H a=some (.dT kvs)
 | _=>False
theorem Ue.there (h:Ue G Hf H a d):∃o,H a=some o/\∀vs,o≠.tup vs:=by
 cases d with
 | lst ds=>obtain⟨vs,e,_⟩:=h;simp_all
 | dk kvs=>exact⟨_,h,λ_ z=>by cases z⟩
 | dt kvs=>obtain⟨o,h⟩:=h;simp_all
 | du kvs=>exact⟨_,h,λ_ z=>by cases z⟩
 | _=>exact h.elim
theorem Ue.keep (h:Ue G Hf H a d)(e:Zz G Hf Hf')(ha:∀o,H a=some o->H' a=some o):Ue G Hf' H' a d:=by
 cases d with
 | lst ds=>obtain⟨vs,q,r⟩:=h;exact⟨vs,ha _ q,r.ext e⟩
 | dk kvs=>exact ha _ h
 | dt kvs=>obtain⟨o,h⟩:=h;exact⟨o,ha _ h⟩
 | du kvs=>exact ha _ h
 | _=>exact h.elim
theorem Ue.rep (h:Ue G Hf H a d)(nf:¬G.fp a)(e:Zz G Hf Hf')(ha:∀o,H a=some o->Hf' a=some o):Zo G Hf' d (.ref a):=by
 cases d with
 | lst ds=>obtain⟨vs,q,r⟩:=h;exact jb.mpr ⟨a,vs,rfl,nf,ha _ q,r.ext e⟩
 | dk kvs=>exact jj.mpr ⟨a,rfl,nf,ha _ h⟩
 | dt kvs=>obtain⟨o,h⟩:=h;exact jm.mpr ⟨a,o,rfl,nf,ha _ h⟩
 | du kvs=>exact jn.mpr ⟨a,rfl,nf,ha _ h⟩
 | _=>exact h.elim
structure Jf (G:Gh)(own:List Nat)(kn jS H0:Hp)(σ:St)(Hf H:Hp)(ρ:Zc):Prop where
 len:σ.length=ρ.length
 kn:Zz G kn Hf
 gr:Gr G jS H0 Hf H
 fz:∀(i:Nat) (d:D),i∉own->ρ[i]?=some (some d)->∃v,σ[i]?=some (some v)/\Zo G Hf d v
 ow:∀(i:Nat) (d:D),i∈own->ρ[i]?=some (some d)->∃a,σ[i]?=some (some (.ref a))/\¬G.rd a/\Hf a=none/\H0 a=none/\Ue G Hf H a d
 ne:∀(i j:Nat) (a:Addr) (di dj:D),i∈own->j∈own->i≠j->ρ[i]?=some (some di)->ρ[j]?=some (some dj)->σ[i]?=some (some (.ref a))->σ[j]?=some (some (.ref a))->False
def J (G:Gh)(own:List Nat)(kn jS H0:Hp)(σ:St)(H:Hp)(ρ:Zc):Prop:=∃Hf,Jf G own kn jS H0 σ Hf H ρ
def Yk (own:List Nat)(ρ:Zc):Zc:=ρ.mapIdx λi o=>if i∈own then none else o
theorem ZcW (ρ:Zc):Yk [] ρ=ρ:=by
 unfold Yk;apply yT;simp
theorem ZkY (h:(Yk own ρ)[i]?=some (some d)):i∉own/\ρ[i]?=some (some d):=by
 unfold Yk at h;simp_all
section
variable {X:Cx}{G:Gh}{own:List Nat}{kn jS H0 Hf H:Hp}{σ:St}{ρ:Zc}
theorem Jf.envA (j:Jf G own kn jS H0 σ Hf H ρ):YM G Hf σ (Yk own ρ):=λi d e=>by
 obtain⟨n,q⟩:=ZkY e;exact j.fz i d n q
theorem jt (h:¬G.rd a):¬G.fp a:=λz=>h (G.sub a z)
theorem Jf.grow (j:Jf G own kn jS H0 σ Hf H ρ)(g:Gr G Hf H Hf' H'):Jf G own kn jS H0 σ Hf' H' ρ where
 len:=j.len
 kn:=j.kn.trans g.ff
 gr:=j.gr.trans g
 fz:=λi d n e=>let ⟨v,a,b⟩:=j.fz i d n e;⟨v,a,b.ext g.ff⟩
 ow:=λi d m e=>by
  obtain⟨a,h1,h2,h3,h4,h5⟩:=j.ow i d m e;have nf:=jt h2;refine⟨a,h1,h2,?_,h4,h5.keep g.ff λo q=>g.hh a o nf q⟩;exact g.nw a nf h3 h5.there
 ne:=j.ne
noncomputable def wide (jS H0 H:Hp):Hp:=λb=>open Classical in if jS b=none/\Nt (H0 b)then none else H b
theorem WS:Zz G (wide jS H0 H) H:=λb o _ e=>by
 unfold wide at e
 grind
theorem Jf.wideF (j:Jf G own kn jS H0 σ Hf H ρ):Zz G Hf (wide jS H0 H):=λb o n e=>by
 unfold wide;split
 ·rename_i h
  rw[j.gr.nw b n h.1 h.2]at e;cases e
 ·exact j.gr.fh b o n e
theorem Jf.envB (j:Jf G own kn jS H0 σ Hf H ρ):YM G (wide jS H0 H) σ ρ:=λi d e=>by
 by_cases m:i∈own
 ·obtain⟨a,h1,h2,h3,h4,h5⟩:=j.ow i d m e
  refine⟨_,h1,h5.rep (jt h2) j.wideF λo q=>?_⟩;unfold wide;rw[if_neg (λz=>z.2.no h4)];exact q
 ·obtain⟨v,h1,h2⟩:=j.fz i d m e
  exact⟨v,h1,h2.ext j.wideF⟩
theorem Jf.grW (j:Jf G own kn jS H0 σ Hf H ρ)(g:Gr G (wide jS H0 H) H Hf' H'):Gr G jS H0 Hf' H' where
 hh:=j.gr.hh.trans g.hh
 ff:=λb o n e=>g.ff b o n (j.wideF b o n (j.gr.ff b o n e))
 fh:=g.fh
 nw:=λb n h1 h2=>g.nw b n (by unfold wide;simp_all) (let ⟨u,e,nt⟩:=h2;⟨u,j.gr.hh b u n e,nt⟩)
def okB:D->Bool
 | .lst ds=>Ud ds
 | .dk _=>true
 | .dt _=>true
 | .du _=>true
 | _=>false
theorem ZmR (h:okB d=true):Ja d:=by
 cases d <;> first | trivial | (rfl)
theorem Jf.growB (j:Jf G own kn jS H0 σ Hf H ρ)(g:Gr G (wide jS H0 H) H Hf' H') :
  ∃Hf'',Jf G own kn jS H0 σ Hf'' H' ρ/\Zz G Hf Hf''/\(∀d v,XY d=true->Zo G Hf' d v->Zo G Hf'' d v)/\∀d v,okB d=true->Z7 G H Hf' d v->Zo G Hf' d v->Zo G Hf'' d v/\Z7 G H Hf'' d v:=by
 classical
 -- the owned addresses are left out again
 let OA:Addr->Prop:=λb=>∃i d,i∈own/\ρ[i]?=some (some d)/\σ[i]?=some (some (.ref b))
 have oaH:∀b,OA b->Hf b=none/\¬G.rd b/\∃o,H b=some o/\∀vs,o≠.tup vs:=λb ⟨i,d,m,e,q⟩=>by
  obtain⟨a,h1,h2,h3,h4,h5⟩:=j.ow i d m e;rw[q]at h1;cases h1;exact⟨h3,h2,h5.there⟩
 have W:=j.grW g;refine⟨λb=>if OA b then none else Hf' b,?_⟩;have fF:Zz G Hf (λb=>if OA b then none else Hf' b):=λb o n e=>by
  have:¬OA b:=λz=>by rw[(oaH b z).1]at e;cases e
  show(if OA b then none else Hf' b)=_;rw[if_neg this];exact g.ff b o n (j.wideF b o n e)
 have Fh:Zz G (λb=>if OA b then none else Hf' b) H':=λb o n e=>by
  have e':(if OA b then none else Hf' b)=some o:=e;split at e'
  ·cases e'
  ·exact g.fh b o n e'
 have tupK:∀b vs,¬G.fp b->Hf' b=some (.tup vs)->(if OA b then none else Hf' b)=some (.tup vs):=λb vs nf e=>by
  have:¬OA b:=λz=>by
   obtain⟨_,_,o,q,nt⟩:=oaH b z;have q1:=g.hh b o nf q;have q2:=g.fh b _ nf e;rw[q1]at q2;exact nt vs (zG q2)
  rw[if_neg this];exact e
 have frK:∀a,H a=none->¬OA a:=λa e z=>by
  obtain⟨_,_,o,q,nt⟩:=oaH a z;rw[e]at q;cases q
 refine⟨⟨j.len,j.kn.trans fF,⟨W.hh,j.gr.ff.trans fF,Fh,λb n h1 h2=>?_⟩,λi d n e=>?_,λi d m e=>?_,j.ne⟩,fF,λd v n r=>Zo.only tupK n r,λd v ok fr r=>?_⟩
 ·show(if OA b then none else Hf' b)=none
  split
  ·rfl
  ·exact W.nw b n h1 h2
 ·obtain⟨v,a,b⟩:=j.fz i d n e
  exact⟨v,a,b.ext fF⟩
 ·obtain⟨a,h1,h2,h3,h4,h5⟩:=j.ow i d m e
  refine⟨a,h1,h2,?_,h4,h5.keep fF λo q=>g.hh a o (jt h2) q⟩;show(if OA a then none else Hf' a)=none;rw[if_pos ⟨i,d,m,e,h1⟩]
 ·cases d with
  | lst ds=>
   obtain⟨a,vs,e,n,q,r'⟩:=jb.mp r;have na:=frK a (fr a e trivial).1;have ea:(if OA a then none else Hf' a)=some (.lst vs):=by rw[if_neg na];exact q
   refine⟨jb.mpr ⟨a,vs,e,n,ea,Zk.only tupK ok r'⟩,λb eb m=>?_⟩;rw[e]at eb;cases eb;refine⟨(fr a e trivial).1,λds' ed=>?_⟩
   cases ed
   refine⟨vs,λb=>if b=a then none else if OA b then none else Hf' b,ea,if_pos rfl,λb o nb eb=>?_,?_⟩
   ·have eb':(if b=a then none else if OA b then none else Hf' b)=some o:=eb
    split at eb'
    ·cases eb'
    ·exact eb'
   ·refine Zk.only (λb ws nb eb=>?_) ok r'
    have hba:b≠a:=λz=>by rw[z,q]at eb;cases eb
    show(if b=a then none else if OA b then none else Hf' b)=_;rw[if_neg hba];exact tupK b ws nb eb
  | dk ds=>
   obtain⟨a,e,n,q⟩:=jj.mp r;have na:=frK a (fr a e trivial).1;refine⟨jj.mpr ⟨a,e,n,?_⟩,λb eb m=>⟨(fr b eb m).1,λds' ed=>by cases ed⟩⟩;show(if OA a then none else Hf' a)=_;rw[if_neg na];exact q
  | dt ds=>
   obtain⟨a,o,e,n,q⟩:=jm.mp r;have na:=frK a (fr a e trivial).1;refine⟨jm.mpr ⟨a,o,e,n,?_⟩,λb eb m=>⟨(fr b eb m).1,λds' ed=>by cases ed⟩⟩;simp_all
  | du ds=>
   obtain⟨a,e,n,q⟩:=jn.mp r;have na:=frK a (fr a e trivial).1;refine⟨jn.mpr ⟨a,e,n,?_⟩,λb eb m=>⟨(fr b eb m).1,λds' ed=>by cases ed⟩⟩;simp_all
  | _=>exact absurd (ZmR ok) (λz=>z)
theorem Jf.set (j:Jf G own kn jS H0 σ Hf H ρ)(ho:∀k,k∈own'->k≠i/\k∈own)(hk:∀k,k∈own->k≠i->k∈own')(r:Zo G Hf d v):Jf G own' kn jS H0 (σ.set i (some v)) Hf H (ρ.set i (some d)) where
 len:=by simp[j.len]
 kn:=j.kn
 gr:=j.gr
 fz:=λk c n e=>by
  by_cases h:i=k
  ·subst h
   have hl:i < ρ.length:=by
    have:=(qz.mp e).1;simp_all
   rw[qV hl]at e
   cases e
   exact⟨v,qV (by rw[j.len];exact hl),r⟩
  ·rw[qO h]at e⊢
   exact j.fz k c (λz=>n (hk k z (ze h))) e
 ow:=λk c m e=>by
  have h:=ze (ho k m).1;rw[qO h]at e⊢;exact j.ow k c (ho k m).2 e
 ne:=λk l a dk dl mk ml n ek el sk sl=>by
  have h:=ze (ho k mk).1;have h':=ze (ho l ml).1;rw[qO h]at ek sk;rw[qO h']at el sl;exact j.ne k l a dk dl (ho k mk).2 (ho l ml).2 n ek el sk sl
def Ze1:D->Bool
 | .lst _=>true
 | .dk _=>true
 | .dt _=>true
 | .du _=>true
 | _=>false
theorem Zhg (h:Ze1 d=true):Ja d:=by
 cases d <;> first | trivial | (rfl)
theorem Jf.setOwn (j0:Jf G own kn jS H0 σ Hq Hb ρ)(j:Jf G own kn jS H0 σ Hf H ρ)(ho:∀k,k∈own'↔k=i∨k∈own)(st:G.st s Hb)(hb:Zz G Hb H)(hq:Zz G Hq Hf)
  (r:Zo G Hf d v) (fr:Z7 G Hb Hf d v) (ok:Ze1 d=true):∃Hf',Jf G own' kn jS H0 (σ.set i (some v)) Hf' H (ρ.set i (some d)):=by
 classical
 have mu:=Zhg ok;obtain⟨a,ea,nfa⟩:∃a,v=.ref a/\¬G.fp a:=by
  cases d with
  | lst ds=>obtain⟨a,vs,e,n,_⟩:=jb.mp r;exact⟨a,e,n⟩
  | dk ds=>obtain⟨a,e,n,_⟩:=jj.mp r;exact⟨a,e,n⟩
  | dt ds=>obtain⟨a,_,e,n,_⟩:=jm.mp r;exact⟨a,e,n⟩
  | du ds=>obtain⟨a,e,n,_⟩:=jn.mp r;exact⟨a,e,n⟩
  | _=>exact mu.elim
 subst ea;have fra:Hb a=none:=(fr a rfl mu).1;have hqa:Hq a=none:=by
  cases e:Hq a with
  | none=>rfl
  | some o=>rw[j0.gr.fh a o nfa e]at fra;cases fra
 have h0a:H0 a=none:=by
  cases e:H0 a with
  | none=>rfl
  | some o=>rw[j0.gr.hh a o nfa e]at fra;cases fra
 have qF:Zz G Hq (λb=>if b=a then none else Hf b):=λb o n e=>by
  have:b≠a:=λz=>by rw[z,hqa]at e;cases e
  show(if b=a then none else Hf b)=_;rw[if_neg this];exact hq b o n e
 have oldA:∀k c,k∈own->ρ[k]?=some (some c)->σ[k]?≠some (some (.ref a)):=λk c m e z=>by
  obtain⟨b,h1,_,_,_,h5⟩:=j0.ow k c m e;rw[z]at h1;cases h1;obtain⟨o,q,_⟩:=h5.there;rw[fra]at q;cases q
 refine⟨λb=>if b=a then none else Hf b,by simp[j.len],j0.kn.trans qF,⟨j.gr.hh,j0.gr.ff.trans qF,λb o n e=>?_,λb n h1 h2=>?_⟩,λk c n e=>?_,λk c m e=>?_,λk l b dk dl mk ml n ek el sk sl=>?_⟩
 ·have e':(if b=a then none else Hf b)=some o:=e
  split at e'
  ·cases e'
  ·exact j.gr.fh b o n e'
 ·show(if b=a then none else Hf b)=none
  split
  ·rfl
  ·exact j.gr.nw b n h1 h2
 ·have h:i≠k:=λz=>n ((ho k).mpr (.inl z.symm))
  rw[qO h]at e⊢;obtain⟨v,q1,q2⟩:=j0.fz k c (λz=>n ((ho k).mpr (.inr z))) e;exact⟨v,q1,q2.ext qF⟩
 ·by_cases h:i=k
  ·subst h
   have hl:i < ρ.length:=by
    have:=(qz.mp e).1;simpa using this
   rw[qV hl]at e
   cases e
   refine⟨a,qV (by rw[j.len];exact hl),jB st fra,by show(if a=a then none else Hf a)=none;rw[if_pos rfl],h0a,?_⟩
   cases d with
   | lst ds=>
    obtain⟨a',vs,e',n',q',r'⟩:=jb.mp r
    cases e'
    obtain⟨ws,Hm,f1,f2,f3,f4⟩:=(fr a rfl mu).2 ds rfl;rw[q']at f1;cases f1;refine⟨vs,j.gr.fh a _ n' q',f4.ext λb o nb eb=>?_⟩;have:b≠a:=λz=>by rw[z,f2]at eb;cases eb
    show(if b=a then none else Hf b)=_;rw[if_neg this];exact f3 b o nb eb
   | dk ds=>obtain⟨a',e',n',q'⟩:=jj.mp r;cases e';exact j.gr.fh a _ n' q'
   | dt ds=>obtain⟨a',o',e',n',q'⟩:=jm.mp r;cases e';exact⟨o',j.gr.fh a _ n' q'⟩
   | du ds=>obtain⟨a',e',n',q'⟩:=jn.mp r;cases e';exact j.gr.fh a _ n' q'
   | _=>exact mu.elim
  ·have m':k∈own:=((ho k).mp m).resolve_left (ze h)
   rw[qO h]at e⊢;obtain⟨b,h1,h2,h3,h4,h5⟩:=j0.ow k c m' e;obtain⟨b',g1,g2,g3,g4,g5⟩:=j.ow k c m' e;rw[h1]at g1;cases g1;refine⟨b,h1,h2,?_,h4,h5.keep qF λo q=>hb b o (jt h2) q⟩;show(if b=a then none else Hf b)=none;split
   ·rfl
   ·exact g3
 ·by_cases hk:i=k
  ·subst hk
   have h':i≠l:=n;have hl:i < σ.length:=by
    have:=(qz.mp sk).1;simpa using this
   rw[qV hl]at sk
   cases sk
   rw[qO h']at el sl;exact oldA l dl (((ho l).mp ml).resolve_left (ze h')) el sl
  ·by_cases hl':i=l
   ·subst hl'
    have hl:i < σ.length:=by
     have:=(qz.mp sl).1;simp_all
    simp_all
   ·rw[qO hk]at ek sk
    rw[qO hl']at el sl;exact j.ne k l b dk dl (((ho k).mp mk).resolve_left (ze hk)) (((ho l).mp ml).resolve_left (ze hl')) n ek el sk sl
theorem Jf.freeze (j:Jf G own kn jS H0 σ Hf H ρ)(ho:∀k,k∈own'->k∈own):∃Hf',Jf G own' kn jS H0 σ Hf' H ρ:=by
 classical
 let OA:Addr->Prop:=λb=>∃i d,i∈own/\i∉own'/\ρ[i]?=some (some d)/\σ[i]?=some (some (.ref b))
 have oaH:∀b,OA b->Hf b=none/\H0 b=none:=λb ⟨i,d,m,_,e,q⟩=>by
  obtain⟨a,h1,h2,h3,h4,h5⟩:=j.ow i d m e;rw[q]at h1;cases h1;exact⟨h3,h4⟩
 have fF:Zz G Hf (λb=>if OA b then H b else Hf b):=λb o n e=>by
  have:¬OA b:=λz=>by rw[(oaH b z).1]at e;cases e
  show(if OA b then H b else Hf b)=_;rw[if_neg this];exact e
 refine⟨λb=>if OA b then H b else Hf b,j.len,j.kn.trans fF,⟨j.gr.hh,j.gr.ff.trans fF,λb o n e=>?_,λb n h1 h2=>?_⟩,λk c n e=>?_,λk c m e=>?_,λk l b dk dl mk ml=>j.ne k l b dk dl (ho k mk) (ho l ml)⟩
 ·have e':(if OA b then H b else Hf b)=some o:=e
  split at e'
  ·exact e'
  ·exact j.gr.fh b o n e'
 ·have:=λz=>h2.no (oaH b z).2
  rw[if_neg this];exact j.gr.nw b n h1 h2
 ·by_cases m:k∈own
  ·obtain⟨a,h1,h2,h3,h4,h5⟩:=j.ow k c m e
   refine⟨_,h1,h5.rep (jt h2) fF λo q=>?_⟩;rw[if_pos ⟨k,c,m,n,e,h1⟩];exact q
  ·obtain⟨v,h1,h2⟩:=j.fz k c m e
   exact⟨v,h1,h2.ext fF⟩
 ·obtain⟨a,h1,h2,h3,h4,h5⟩:=j.ow k c (ho k m) e
  refine⟨a,h1,h2,?_,h4,h5.keep fF λo q=>q⟩;have:¬OA a:=λ⟨i,d,mi,ni,ei,qi⟩=>j.ne i k a d c mi (ho k m) (λz=>ni (z▸m)) ei e qi h1;simp_all
end
theorem Jf.setF {kn:Hp}(j:Jf G own kn jS H0 σ Hf H ρ)(hi:i∉own)(r:Zo G Hf d v):Jf G own kn jS H0 (σ.set i (some v)) Hf H (ρ.set i (some d)):=
 j.set (λk m=>⟨λz=>hi (by simp_all),m⟩) (λk m _=>m) r
def X4 (G:Gh)(fr:Bool)(t:TE)(f:Zc->M D):Prop:=
 ∀(σ:St) (Hf H:Hp) (ρ:Zc) (s:Pn) (d:D) (s':Pn) (Q:VK),Zz G Hf H->YM G Hf σ ρ->G.st s H->f ρ s=some (d,s')->
  (∀v Hf' H',Gr G Hf H Hf' H'->G.st s' H'->Zo G Hf' d v->(fr=true->Z7 G H Hf' d v)->Q v H')->t σ H Q
def WZ (G:Gh)(own:List Nat)(fr:Bool)(t:TE)(f:Zc->M D):Prop:=
 ∀(kn jS H0:Hp) (σ:St) (Hf H:Hp) (ρ:Zc) (s:Pn) (d:D) (s':Pn) (Q:VK),Jf G own kn jS H0 σ Hf H ρ->G.st s H->f ρ s=some (d,s')->
  (∀v Hf' H',Jf G own kn jS H0 σ Hf' H' ρ->Zz G Hf Hf'->Zz G H H'->G.st s' H'->Zo G Hf' d v->(fr=true->Z7 G H Hf' d v)->Q v H')->t σ H Q
section
variable {X:Cx}{G:Gh}{own:List Nat}{fr:Bool}{t:TE}{f:Zc->M D}
theorem X4.a (h:X4 G fr t f):WZ G own fr t (fun ρ=>f (Yk own ρ)):=λkn jS H0 σ Hf H ρ s d s' Q j st e k=>
 h σ Hf H (Yk own ρ) s d s' Q j.gr.fh j.envA st e λv Hf' H' g st' r fz=>k v Hf' H' (j.grow g) g.ff g.hh st' r fz
theorem X4.n (h:X4 G fr t f):WZ G [] fr t f:=λkn jS H0 σ Hf H ρ s d s' Q j st e k=>
 h.a kn jS H0 σ Hf H ρ s d s' Q j st (by show f (Yk [] ρ) s=_;rw[ZcW];exact e) k
theorem Zjn (h:XY d=true):¬Ja d:=by
 cases d <;> first | exact(λz=>z) | (simp[XY]at h)
def Xa (fr:Bool)(f:Zc->M D):Zc->M D:=fun ρ=>Zm (f ρ) λd=>if (XY d||(fr&&okB d))=true then Zy d else Zq
theorem Zhh (h:f ρ s=some (d,s'))(c:(XY d||(fr&&okB d))=true):Xa fr f ρ s=some (d,s'):=by
 unfold Xa Zm;rw[h];show(if (XY d||(fr&&okB d))=true then Zy d else Zq) s'=_;rw[if_pos c];rfl
theorem X4.b (h:X4 G fr t f):WZ G own fr t (Xa fr f):=λkn jS H0 σ Hf H ρ s d s' Q j st e k=>by
 obtain⟨d1,s1,a1,a2⟩:=Zs e;obtain⟨c,a3⟩:=YQ a2;obtain⟨rfl,rfl⟩:=ZC a3;refine h σ _ H ρ s d s' Q WS j.envB st a1 λv Hf' H' g st' r fz=>?_;obtain⟨F,j',fF,q1,q2⟩:=j.growB g;rcases qcc.mp c with c | c
 ·exact k v F H' j' fF g.hh st' (q1 d v c r) λz a ea m=>absurd m (Zjn c)
 ·obtain⟨c1,c2⟩:=yB.mp c
  obtain⟨x1,x2⟩:=q2 d v c2 (fz c1) r;exact k v F H' j' fF g.hh st' x1 λ_=>x2
inductive Out where
 | nx (ρ:Zc) | rt (d:D) | bk (ρ:Zc) | ct (ρ:Zc)
def Post (G:Gh)(ob own':List Nat)(kn jS H0:Hp)(fr:Bool)(out:Out)(s':Pn)(E:Ends):Prop:=match out with
 | .nx ρ=>∀σ H,J G own' kn jS H0 σ H ρ->G.st s' H->E.nx σ H
 | .bk ρ=>∀σ H,J G ob kn jS H0 σ H ρ->G.st s' H->E.bk σ H
 | .ct ρ=>∀σ H,J G ob kn jS H0 σ H ρ->G.st s' H->E.ct σ H
 | .rt d=>∀v Hf' H',Gr G jS H0 Hf' H'->G.st s' H'->Zo G Hf' d v->(fr=true->Z7 G H0 Hf' d v)->E.rt v H'
def Bd (G:Gh)(ob own own':List Nat)(fr:Bool)(t:TS)(g:Zc->M Out):Prop:=
 ∀(kn jS H0:Hp) (σ:St) (H:Hp) (ρ:Zc) (s:Pn) (out:Out) (s':Pn) (E:Ends),J G own kn jS H0 σ H ρ->G.st s H->g ρ s=some (out,s')->Post G ob own' kn jS H0 fr out s' E->t E σ H
def YI (X:Cx)(G:Gh)(ob own own':List Nat)(fr:Bool)(st:Stmt)(g:Zc->M Out):Prop:=∃t,PS X st t/\Bd G ob own own' fr t g
def Wc (X:Cx)(G:Gh)(ob own own':List Nat)(fr:Bool)(sts:List Stmt)(g:Zc->M Out):Prop:=∃t,XC X sts t/\Bd G ob own own' fr t g
variable {ob own' own2:List Nat}
theorem YI.frz {st:Stmt}(h:YI X G ob own2 own' fr st g)(hs:∀k,k∈own2->k∈own:=by decide):YI X G ob own own' fr st g:=by
 obtain⟨t,p,q⟩:=h;exact⟨t,p,λkn jS H0 σ H ρ s out s' E ⟨Hf,j⟩ st e po=>q kn jS H0 σ H ρ s out s' E (j.freeze hs) st e po⟩
def Zp:Zc->M Out:=fun ρ=>Zy (.nx ρ)
def Zg (g1 g2:Zc->M Out):Zc->M Out:=fun ρ=>Zm (g1 ρ) λo=>match o with | .nx ρ'=>g2 ρ' | .rt d=>Zy (.rt d) | .bk ρ'=>Zy (.bk ρ') | .ct ρ'=>Zy (.ct ρ')
theorem Ye (hs:∀k,k∈own'->k∈own:=by decide):Wc X G ob own own' fr [] Zp:=⟨_,BB,λkn jS H0 σ H ρ s out s' E ⟨Hf,j⟩ st e p=>by
 obtain⟨rfl,rfl⟩:=ZC e;exact p σ H (j.freeze hs) st⟩
theorem Z6 {st:Stmt}(h:YI X G ob own own2 fr st g1)(h2:Wc X G ob own2 own' fr sts g2):Wc X G ob own own' fr (st::sts) (Zg g1 g2):=by
 obtain⟨t,p,q⟩:=h;obtain⟨u,p2,q2⟩:=h2;refine⟨_,Xg p p2,λkn jS H0 σ H ρ s out s' E j st e po=>?_⟩;obtain⟨o,s1,a1,a2⟩:=Zs e;refine q kn jS H0 σ H ρ s o s1 _ j st a1 ?_
 cases o with
 | nx ρ1=>exact fun σ1 H1 j1 jX=>q2 kn jS H0 σ1 H1 ρ1 s1 out s' E j1 jX a2 po
 | rt d=>obtain⟨rfl,rfl⟩:=ZC a2;exact po
 | bk ρ1=>obtain⟨rfl,rfl⟩:=ZC a2;exact po
 | ct ρ1=>obtain⟨rfl,rfl⟩:=ZC a2;exact po
def ZL (f:Zc->M D):Zc->M Out:=fun ρ=>Zm (f ρ) λd=>Zy (.rt d)
theorem YG (h:PD X G fr e f):YI X G ob own own' fr (.Return (some e) pos) (ZL f):=by
 obtain⟨t,p,q⟩:=h;refine⟨_,Uc p,λkn jS H0 σ H ρ s out s' E ⟨Hf,j⟩ st e po=>?_⟩;obtain⟨d,s1,a1,a2⟩:=Zs e;obtain⟨rfl,rfl⟩:=ZC a2;exact q σ _ H ρ s d s' _ WS j.envB st a1 λv Hf' H' g st' r fz=>po v Hf' H' (j.grW g) st' r λz=>Z7.old j.gr.hh r.nofp (fz z)
theorem Zby (hi:i∈own)(h:PE X (.Name x pos') (ZY i)):YI X G ob own own' true (.Return (some (.Name x pos')) pos) (ZL (Za i)):=by
 refine⟨_,Uc h,λkn jS H0 σ H ρ s out s' E ⟨Hf,j⟩ st e po=>?_⟩;obtain⟨d,s1,a1,a2⟩:=Zs e;obtain⟨rfl,rfl⟩:=ZC a2;obtain⟨e1,rfl⟩:=WD a1;have e':ρ[i]?=some (some d):=by
  cases q:ρ[i]? with
  | none=>simp_all
  | some o=>simp_all
 obtain⟨v,h1,h2⟩:=j.envB i d e';obtain⟨a,g1,g2,g3,g4,g5⟩:=j.ow i d hi e';rw[g1]at h1;cases h1;refine⟨_,g1,po (.ref a) _ H (j.grW (.refl WS)) st h2 λ_ b eb _=>?_⟩
 cases eb
 refine⟨g4,λds ed=>?_⟩;subst ed;obtain⟨vs,q1,q2⟩:=g5;refine⟨vs,Hf,?_,g3,j.wideF,q2⟩;unfold wide;rw[if_neg (λz=>z.2.no g4)];exact q1
def Yw (c:Zc->M Bool)(g1 g2:Zc->M Out):Zc->M Out:=fun ρ=>Zm (c ρ) λb=>if b=true then g1 ρ else g2 ρ
theorem BS (hc:X1 X G c fc)(ha:Wc X G ob own own' fr a g1)(hb:Wc X G ob own own' fr b g2):YI X G ob own own' fr (.If c a b pos) (Yw fc g1 g2):=by
 obtain⟨tc,pc,qc⟩:=hc;obtain⟨ta,pa,qa⟩:=ha;obtain⟨tb,pb,qb⟩:=hb;refine⟨_,BX pc pa pb,λkn jS H0 σ H ρ s out s' E ⟨Hf,j⟩ st e po=>?_⟩;obtain⟨b,s1,a1,a2⟩:=Zs e;refine qc σ _ H ρ s b s1 _ WS j.envB st a1 λHf' H' g st'=>?_;obtain⟨F,j',fF,q1,q2⟩:=j.growB g
 cases b with
 | true=>exact WY (qa kn jS H0 σ H' ρ s1 out s' E ⟨F,j'⟩ st' a2 po)
 | false=>exact VZ (qb kn jS H0 σ H' ρ s1 out s' E ⟨F,j'⟩ st' a2 po)
def J7 (X:Cx)(G:Gh)(fr:Bool)(i:Nat)(st:Stmt)(f:Zc->M D):Prop:=∃te,PS X st (λE σ H=>te σ H λy H1=>E.nx (σ.set i (some y)) H1)/\X4 G fr te f
theorem YC {pos:Pos}(hN:X.N.Nodup)(hi:X.N[i]?=some x)(hx:W3 X.env.scope x)(he:PD X G fr e f)(hs:xr e (some (.Name x pos')) pos.line X.env=pure false:=by rfl)
  (hf:X.fn x=true∨X.env.scope.names.lookup x=some .local:=by first | exact .inl rfl | exact .inr rfl | assumption):J7 X G fr i (.Assign [.Name x pos'] e pos) f:=by
 obtain⟨t,p,q⟩:=he;exact⟨t,WE hN hi hx p hs hf,q⟩
def ZS (i:Nat)(f:Zc->M D):Zc->M Out:=fun ρ=>Zm (f ρ) λd=>Zy (.nx (ρ.set i (some d)))
theorem ZfS {st:Stmt}(hp:PS X st (λE σ H=>te σ H λy H1=>E.nx (σ.set i (some y)) H1))(hy:WZ G own fr te f)(hi:i∉own):YI X G ob own own fr' st (ZS i f):=
 ⟨_,hp,λkn jS H0 σ H ρ s out s' E ⟨Hf,j⟩ st e po=>by
  obtain⟨d,s1,a1,a2⟩:=Zs e;obtain⟨rfl,rfl⟩:=ZC a2;exact hy kn jS H0 σ Hf H ρ s d s' _ j st a1 λv Hf' H' j' e1 e2 st' r fz=>po _ H' ⟨Hf',j'.setF hi r⟩ st'⟩
theorem Y3 {st:Stmt}(h:J7 X G fr i st f):YI X G ob [] [] fr' st (ZS i f):=let ⟨_,p,q⟩:=h;ZfS p q.n (by simp)
theorem ZfT {st:Stmt}(h:J7 X G fr i st f)(hi:i∉own:=by decide):YI X G ob own own fr' st (ZS i (fun ρ=>f (Yk own ρ))):=let ⟨_,p,q⟩:=h;ZfS p q.a hi
def Wo (i:Nat)(f:Zc->M D):Zc->M Out:=fun ρ=>Zm (f ρ) λd=>if Ze1 d=true then Zy (.nx (ρ.set i (some d)))else Zq
theorem ZfU {st:Stmt}(hp:PS X st (λE σ H=>te σ H λy H1=>E.nx (σ.set i (some y)) H1))(hy:WZ G own true te f)(ho:∀k,k∈own'↔k=i∨k∈own):YI X G ob own own' fr' st (Wo i f):=
 ⟨_,hp,λkn jS H0 σ H ρ s out s' E ⟨Hf,j⟩ st e po=>by
  obtain⟨d,s1,a1,a2⟩:=Zs e;obtain⟨ok,a3⟩:=YQ a2;obtain⟨rfl,rfl⟩:=ZC a3;exact hy kn jS H0 σ Hf H ρ s d s' _ j st a1 λv Hf' H' j' e1 e2 st' r fz=>po _ H' (j.setOwn j' ho st e2 e1 r (fz rfl) ok) st'⟩
theorem Uz {st:Stmt}(h:J7 X G true i st f):YI X G ob [] [i] fr' st (Wo i f):=let ⟨_,p,q⟩:=h;ZfU p q.n (by simp)
theorem ZkZ {st:Stmt}(h:J7 X G true i st f)(ho:∀k,k∈own'↔k=i∨k∈own:=by intro k;simp;try omega):YI X G ob own own' fr' st (Wo i (fun ρ=>f (Yk own ρ))):=let ⟨_,p,q⟩:=h;ZfU p q.a ho
inductive Sets (G:Gh)(Hf:Hp)(ok:Nat->Prop):St->Zc->St->Zc->Prop
 | nil {σ ρ}:Sets G Hf ok σ ρ σ ρ
 | cons {σ ρ σ' ρ'} {i:Nat} {d:D} {v:V}:ok i->Zo G Hf d v->Sets G Hf ok (σ.set i (some v)) (ρ.set i (some d)) σ' ρ'->Sets G Hf ok σ ρ σ' ρ'
def Vf (X:Cx)(G:Gh)(tg:Expr)(ok:Nat->Prop)(τ:D->Zc->Option Zc):Prop:=
 ∃g,PG X tg g/\∀(x:V) (σ:St) (Hf H:Hp) (d:D) (ρ ρ':Zc) (Q:St->Hp->Prop),Zz G Hf H->Zo G Hf d x->τ d ρ=some ρ'->(∀σ',Sets G Hf ok σ ρ σ' ρ'->Q σ' H)->g x σ H Q
def Zv (i:Nat):D->Zc->Option Zc:=λd ρ=>some (ρ.set i (some d))
theorem XF (hN:X.N.Nodup)(hi:X.N[i]?=some x)(hx:W3 X.env.scope x)(oi:ok i)(hf:X.fn x=true∨X.env.scope.names.lookup x=some .local:=by first | exact .inl rfl | exact .inr rfl | assumption):Vf X G (.Name x pos) ok (Zv i):=
 ⟨_,WM hN hi hx hf,λx σ Hf H d ρ ρ' Q e r q k=>by
  cases q
  exact k _ (.cons oi r .nil)⟩
def VR (i j:Nat):D->Zc->Option Zc:=λd ρ=>match d with | .tup [a,b]=>some ((ρ.set i (some a)).set j (some b)) | _=>none
theorem ZcX {pos px py:Pos}{k:Nat}(hc:X.calm=true)(hN:X.N.Nodup)(hi:X.N[i]?=some x)(hj:X.N[j]?=some y)(hx:W3 X.env.scope x)(hy:W3 X.env.scope y)(oi:ok i)(oj:ok j)
  (hfx:X.fn x=true∨X.env.scope.names.lookup x=some .local:=by first | exact .inl rfl | exact .inr rfl | assumption) (hfy:X.fn y=true∨X.env.scope.names.lookup y=some .local:=by first | exact .inl rfl | exact .inr rfl | assumption)
  (hn:(assignEach [.Name x px,.Name y py] X.env).length=2:=by rfl) (hst:(assignEach [.Name x px,.Name y py] X.env).findIdx? (·.1)=none:=by rfl)
  (hp:Bb X [.Name x px,.Name y py] (JV (Wj i) (JV (Wj j) gNil))):Vf X G (.Tuple [.Name x px,.Name y py] k pos) ok (VR i j):=
 ⟨_,ZkE hc hp hn hst,λx σ Hf H d ρ ρ' Q e r q k=>by
  match d,q,r with
  | .tup [a,b],q,r=>
   cases q
   obtain⟨ad,vs,rfl,n,h,rl⟩:=jc.mp r;obtain⟨v1,r1,rfl,q1,q2⟩:=jd.mp rl;obtain⟨v2,r2,rfl,q3,q4⟩:=jd.mp q2;have:=Zk.nil_iff.mp q4;subst this;exact⟨ad,_,rfl,ZO.of (e _ _ n h),rfl,v1,_,rfl,v2,_,rfl,rfl,k _ (.cons oi q1 (.cons oj q3 .nil))⟩⟩
theorem Sets.jf (h:Sets G Hf (λi=>i∉own) σ ρ σ' ρ'):Jf G own kn jS H0 σ Hf H ρ->Jf G own kn jS H0 σ' Hf H ρ':=by
 induction h with
 | nil=>simp
 | cons o r _ ih=>exact λj=>ih (j.setF o r)
def Vx (G:Gh)(J:It)(Hf':Hp)(ds:List D):Prop:=
 ∀(i:Nat) (j6 H2:Hp) (s:Pn),Zz G Hf' j6->Zz G j6 H2->G.st s H2->
  (∀d,ds[i]?=some d->J.go i H2/\∀x H3,J.yld i H2 x H3->∃Hf3,Gr G j6 H2 Hf3 H3/\G.st s H3/\Zo G Hf3 d x)/\(i=ds.length->J.stop i H2)
def WP (X:Cx)(G:Gh)(tg iter:Expr)(f:Zc->M (List D)):Prop:=
 ∃wi,PI X tg iter wi/\∀(σ:St) (Hf H:Hp) (ρ:Zc) (s:Pn) (ds:List D) (s':Pn) (R:It->Hp->Prop),Zz G Hf H->YM G Hf σ ρ->G.st s H->f ρ s=some (ds,s')->
  (∀J Hf' H',Gr G Hf H Hf' H'->G.st s' H'->Vx G J Hf' ds->R J H')->wi σ H R
theorem Vx.range {lo:Int}(e:ds=(qj n).map λ(i:Nat)=>D.int (lo+i)):Vx G (Itr lo n) Hf ds:=λi j6 H2 s e1 e2 st=>by
 subst e;refine⟨λd q=>?_,λq=>by show n<=i;rw[q];simp⟩;have hi:i<n:=by
  have:=(qz.mp q).1;simp_all
 have hd:d=.int (lo+i):=by
  simp_all
 subst hd;refine⟨hi,λx H3 y=>?_⟩;obtain⟨y1,y2⟩:=y;subst y1 y2;exact⟨j6,.refl e2,st,ja.mpr rfl⟩
theorem Vx.list {K:qd}(nf:¬G.fp a)(h:Hf a=some (.lst vs))(r:Zk G Hf ds vs):Vx G (Itl K a) Hf ds:=λi j6 H2 s e1 e2 st=>by
 have h2:ZD K H2 a vs:=ZD.of (e2 _ _ nf (e1 _ _ nf h));refine⟨λd q=>?_,λq=>⟨vs,h2,by rw[q,r.length];simp⟩⟩;obtain⟨v,q1,q2⟩:=r.get q;refine⟨⟨vs,v,h2,q1⟩,λx H3 ⟨y1,y2⟩=>?_⟩;subst y1;have e:=y2 vs h2;rw[q1]at e;cases e;exact⟨j6,.refl e2,st,q2.ext e1⟩
theorem Vx.tup {K:qd}(nf:¬G.fp a)(h:Hf a=some (.tup vs))(r:Zk G Hf ds vs):Vx G (Itt K a) Hf ds:=λi j6 H2 s e1 e2 st=>by
 have h2:ZO K H2 a vs:=ZO.of (e2 _ _ nf (e1 _ _ nf h));refine⟨λd q=>?_,λq=>⟨vs,h2,by rw[q,r.length];simp⟩⟩;obtain⟨v,q1,q2⟩:=r.get q;refine⟨⟨vs,v,h2,q1⟩,λx H3 ⟨y1,y2⟩=>?_⟩;subst y1;have e:=y2 vs h2;rw[q1]at e;cases e;exact⟨j6,.refl e2,st,q2.ext e1⟩
def Yt (lo:Int)(n:Nat):List D:=(qj n).map λ(i:Nat)=>D.int (lo+i)
def ZW (f:Zc->M D):Zc->M (List D):=fun ρ=>Zm (f ρ) λd=>match d with | .int j=>if -(2 ^ 62)<=j/\j<2 ^ 62 then Zy (Yt 0 j.toNat)else Zq | _=>Zq
theorem VE (hg:Gl X "range")(hm:X.mg "range" = none)(ha:PD X G r1 a f)(hs:xh [a] X.env=[(false,eval a X.env)]:=by rfl):WP X G tg (.Call (.Name "range" p) [a] [] pos) (ZW f):=by
 obtain⟨t,pa,qa⟩:=ha.drop;refine⟨_,Zb5 hg hm (ZU pa Yn (by rw[hs];rfl)) hs,fun σ Hf H ρ s ds s' R e1 e2 e3 e4 k=>?_⟩;obtain⟨d,s1,a1,a2⟩:=Zs e4
 cases d with
 | int j=>
  obtain⟨c,a3⟩:=YQ a2;obtain⟨rfl,rfl⟩:=ZC a3;refine qa σ Hf H ρ s _ _ _ e1 e2 e3 a1 λv jV H1 g st r=>?_;rw[ja.mp r];exact⟨j,rfl,c.1,c.2,k _ jV H1 g st (.range rfl)⟩
 | _=>cases a2
def ZcG (f g:Zc->M D):Zc->M (List D):=fun ρ=>Zm (f ρ) λd=>Zm (g ρ) λe=>match d,e with | .int i,.int j=>if -(2 ^ 62)<=i/\i<2 ^ 62/\-(2 ^ 62)<=j/\j<2 ^ 62 then Zy (Yt i (j-i).toNat)else Zq | _,_=>Zq
def ZX (f:Zc->M D):Zc->M (List D):=fun ρ=>Zm (f ρ) λd=>match d with | .lst ds=>Zy ds | _=>Zq
def Uk (f:Zc->M D):Zc->M (List D):=fun ρ=>Zm (f ρ) λd=>match d with | .tup ds=>Zy ds | _=>Zq
theorem Wi (hl:PD X G r1 l f):WP X G tg l (ZX f):=by
 obtain⟨t,pa,qa⟩:=hl.drop;refine⟨_,ZeX pa,fun σ Hf H ρ s ds s' R e1 e2 e3 e4 k=>?_⟩;obtain⟨d,s1,a1,a2⟩:=Zs e4
 cases d with
 | lst es=>
  obtain⟨rfl,rfl⟩:=ZC a2;refine qa σ Hf H ρ s _ _ _ e1 e2 e3 a1 λv jV H1 g st r=>?_;obtain⟨a,vs,rfl,nf,h,rl⟩:=jb.mp r;exact⟨a,rfl,⟨vs,ZD.of (g.fh _ _ nf h)⟩,k _ jV H1 g st (.list nf h rl)⟩
 | _=>cases a2
theorem Ze2 (hl:PD X G r1 l f):WP X G tg l (Uk f):=by
 obtain⟨t,pa,qa⟩:=hl.drop;refine⟨_,Zot pa,fun σ Hf H ρ s ds s' R e1 e2 e3 e4 k=>?_⟩;obtain⟨d,s1,a1,a2⟩:=Zs e4
 cases d with
 | tup es=>
  obtain⟨rfl,rfl⟩:=ZC a2;refine qa σ Hf H ρ s _ _ _ e1 e2 e3 a1 λv jV H1 g st r=>?_;obtain⟨a,vs,rfl,nf,h,rl⟩:=jc.mp r;exact⟨a,rfl,⟨vs,ZO.of (g.fh _ _ nf h)⟩,k _ jV H1 g st (.tup nf h rl)⟩
 | _=>cases a2
def Wx (τ:D->Zc->Option Zc)(body:Zc->M Out):List D->Zc->M Out
 | [],ρ=>Zy (.nx ρ)
 | d::ds,ρ=>Zm (YU (τ d ρ)) fun ρ1=>Zm (body ρ1) λo=>match o with | .nx ρ2=>Wx τ body ds ρ2 | .ct ρ2=>Wx τ body ds ρ2 | .bk ρ2=>Zy (.nx ρ2) | .rt d=>Zy (.rt d)
def YS (fi:Zc->M (List D))(τ:D->Zc->Option Zc)(body:Zc->M Out):Zc->M Out:=fun ρ=>Zm (fi ρ) λds=>Wx τ body ds ρ
def PDIJ (X:Cx)(G:Gh)(own:List Nat)(tg iter:Expr)(f:Zc->M (List D)):Prop:=
 ∃wi,PI X tg iter wi/\∀(kn jS H0:Hp) (σ:St) (Hf H:Hp) (ρ:Zc) (s:Pn) (ds:List D) (s':Pn) (R:It->Hp->Prop),Jf G own kn jS H0 σ Hf H ρ->G.st s H->f ρ s=some (ds,s')->
  (∀J Hf' H',Jf G own kn jS H0 σ Hf' H' ρ->Zz G Hf Hf'->G.st s' H'->Vx G J Hf' ds->R J H')->wi σ H R
theorem WP.a (h:WP X G tg iter fi):PDIJ X G own tg iter (fun ρ=>fi (Yk own ρ)):=by
 obtain⟨wi,p,q⟩:=h;exact⟨wi,p,λkn jS H0 σ Hf H ρ s ds s' R j st e k=>q σ Hf H _ s ds s' R j.gr.fh j.envA st e λJ Hf' H' g st' it=>k J Hf' H' (j.grow g) g.ff st' it⟩
theorem WP.n (h:WP X G tg iter fi):PDIJ X G [] tg iter fi:=by
 obtain⟨wi,p,q⟩:=h.a;exact⟨wi,p,λkn jS H0 σ Hf H ρ s ds s' R j st e k=>q kn jS H0 σ Hf H ρ s ds s' R j st (by show fi (Yk [] ρ) s=_;rw[ZcW];exact e) k⟩
theorem Wh (hg:Gl X "range")(hm:X.mg "range" = none)(ha:PD X G r1 a f)(hs:xh [a] X.env=[(false,eval a X.env)]:=by rfl):PDIJ X G own tg (.Call (.Name "range" p) [a] [] pos) (ZW f):=by
 obtain⟨t,pa,qa⟩:=ha.drop;refine⟨_,Zb5 hg hm (ZU pa Yn (by rw[hs];rfl)) hs,λkn jS H0 σ Hf H ρ s ds s' R j st e4 k=>?_⟩;obtain⟨d,s1,a1,a2⟩:=Zs e4
 cases d with
 | int i=>
  obtain⟨c,a3⟩:=YQ a2;obtain⟨rfl,rfl⟩:=ZC a3;refine qa σ _ H ρ s _ _ _ WS j.envB st a1 λv jV H1 g st r=>?_;obtain⟨F,j',fF,q1,q2⟩:=j.growB g;rw[ja.mp r];exact⟨i,rfl,c.1,c.2,k _ F H1 j' fF st (.range rfl)⟩
 | _=>cases a2
theorem ZfV {tg:Expr}{p pos:Pos}(hg:Gl X "range")(hm:X.mg "range" = none)(ha:PD X G r1 a f)(hb:PD X G r2 b f2)
  (hs:xh [a,b] X.env=[(false,eval a X.env),(false,eval b X.env)]:=by rfl) (hs2:xh [b] X.env=[(false,eval b X.env)]:=by rfl):PDIJ X G own tg (.Call (.Name "range" p) [a,b] [] pos) (ZcG f f2):=by
 obtain⟨t,pa,qa⟩:=ha.drop;obtain⟨u,pb,qb⟩:=hb.drop;refine⟨_,Zjb hg hm (ZU pa (ZU pb Yn (by rw[hs2];rfl)) (by rw[hs,hs2])) hs hs2,λkn jS H0 σ Hf H ρ s ds s' R j st e4 k=>?_⟩;obtain⟨d,s1,a1,a2⟩:=Zs e4;obtain⟨d2,s2,a3,a4⟩:=Zs a2
 match d,d2,a4,a1,a3 with
 | .int i,.int l,a4,a1,a3=>
  obtain⟨c,a5⟩:=YQ a4;obtain⟨rfl,rfl⟩:=ZC a5;refine qa σ _ H ρ s _ _ _ WS j.envB st a1 λv jV H1 g st r=>?_;refine qb σ jV H1 ρ s1 _ _ _ g.fh (j.envB.ext g.ff) st a3 λv2 j6 H2 g2 jY r2=>?_;obtain⟨F,j',fF,q1,q2⟩:=j.growB (g.trans g2);rw[ja.mp r,ja.mp r2];exact⟨i,l,rfl,c,k _ F H2 j' fF jY (.range rfl)⟩
theorem Jf.weak {kn:Hp}(j:Jf G own kn' jS H0 σ Hf H ρ)(e:Zz G kn kn'):Jf G own kn jS H0 σ Hf H ρ:=⟨j.len,e.trans j.kn,j.gr,j.fz,j.ow,j.ne⟩
theorem XG (hp:PassesOwn (xz X.prog X.w) X.A X.env X.xe)(hc:X.calm=true)(hi:PDIJ X G own tg iter fi)(hg:Vf X G tg (λi=>i∉own) τ)(hb:Wc X G own own own fr body g)
  (hs:∀x,foldedSetIterable iter X.env x=pure x:=by intro _;rfl):YI X G ob own own fr (.For tg iter body [] pos) (YS fi τ g):=by
 obtain⟨wi,pi,qi⟩:=hi;obtain⟨gt,pg,qg⟩:=hg;obtain⟨tb,pb,qb⟩:=hb;refine⟨_,ZkJ hp hc pi pg pb hs,λkn jS H0 σ H ρ s out s' E ⟨Hf,j⟩ st e po=>?_⟩;obtain⟨ds,s1,a1,a2⟩:=Zs e;refine qi kn jS H0 σ Hf H ρ s ds s1 _ j st a1 λJt jV H1 j1 e1 jX it=>?_;refine⟨λi m σ2 H2=>∃ρ2 s2,J G own jV jS H0 σ2 H2 ρ2/\G.st s2 H2/\Wx τ g (ds.drop i) ρ2 s2=some (out,s')/\i<=ds.length/\m=ds.length-i,⟨_,ρ,s1,⟨jV,⟨j1.len,.refl _ _,j1.gr,j1.fz,j1.ow,j1.ne⟩⟩,jX,a2,za _,rfl⟩,?_⟩;rintro i m σ2 H2 ⟨ρ2,s2,⟨j6,j2⟩,jY,eq2,hle,rfl⟩;obtain⟨i1,i2⟩:=it i j6 H2 s2 j2.kn j2.gr.fh jY;by_cases hlt:i<ds.length
 ·have hd:ds.drop i=ds[i]::ds.drop (i+1):=qaf hlt
  rw[hd]at eq2;obtain⟨ρ3,s3,b1,b2⟩:=Zs eq2;obtain⟨b1',e3⟩:=WD b1;subst e3;obtain⟨o,s4,b3,b4⟩:=Zs b2;obtain⟨go,yl⟩:=i1 ds[i] (by simp[hlt]);refine .inr ⟨go,fun σ' H'=>∃ρ5 s5,J G own jV jS H0 σ' H' ρ5/\G.st s5 H'/\Wx τ g (ds.drop (i+1)) ρ5 s5=some (out,s'),fun σ' H' ⟨ρ5,s5,j5,st5,q5⟩=>⟨_,by omega,ρ5,s5,j5,st5,q5,hlt,rfl⟩,λx H3 y3=>?_⟩;obtain⟨Hf3,g3,st3,r3⟩:=yl x H3 y3;have j3:=j2.grow g3;refine qg x σ2 Hf3 H3 ds[i] ρ2 ρ3 _ g3.fh r3 b1' fun σ3 sets=>?_;have j4:=sets.jf j3;refine qb jV jS H0 σ3 H3 ρ3 s3 o s4 _ ⟨Hf3,j4⟩ st3 b3 ?_
  cases o with
  | nx ρ5=>exact fun σ5 H5 j5 st5=>⟨ρ5,s4,j5,st5,b4⟩
  | ct ρ5=>exact fun σ5 H5 j5 st5=>⟨ρ5,s4,j5,st5,b4⟩
  | bk ρ5=>
   obtain⟨rfl,rfl⟩:=ZC b4;exact fun σ5 H5 ⟨Hf5,j5⟩ st5=>po σ5 H5 ⟨Hf5,j5.weak (j.kn.trans e1)⟩ st5
  | rt d=>
   obtain⟨rfl,rfl⟩:=ZC b4;exact po
 ·have hd:ds.drop i=[]:=qb7.mpr (by omega)
  rw[hd]at eq2;obtain⟨rfl,rfl⟩:=ZC eq2;exact .inl ⟨i2 (by omega),po σ2 H2 ⟨j6,j2.weak (j.kn.trans e1)⟩ jY⟩
end
def runB (n k:Nat)(g:Zc->M Out):List D->M D:=λds=>if ds.length=k then Zm (g (ds.map some++qm (n-k) none)) λo=>match o with | .rt d=>Zy d | .nx _=>Zy .non | _=>Zq else Zq
theorem XE {K:qd}{st:Stmt}
  (F:Fun K x qual st f fd) (S:FnScope N ps (Zw st))
  (hb:∀(cdv:Value) (A:xC) (outer:List Env) (s:Shared) (H:Hp) (E:XK),Room k (A.deeper (envOfC qual (Zw st) s.heap.objs.size f cdv))->∀G,GG G->Wc (Wn ZN P w K mg base N qual (Zw st) f cdv A outer s H E).nox G [] [] own fr (Wt st) g) :
  FnOk P w K mg base ZN (k+1) f fd ps (Ys ps.length fr GG (runB N.length ps.length g)):=by
 refine F.ok S (λvs H Q E h=>?_) λcdv A outer s H vs Q E hr h=>?_
 ·obtain⟨G,Hf,ds,pn,d,pn',_,e,_⟩:=h
  exact e
 ·obtain⟨G,Hf,ds,pn,d,pn',hG,el,e1,r,st',eF,k'⟩:=h
  obtain⟨t,p,q⟩:=hb cdv A outer s H E hr G hG;refine⟨t,p,?_⟩;obtain⟨hl,a0⟩:=YQ eF;obtain⟨o,s1,a1,a2⟩:=Zs a0;have hpl:ps.length<=N.length:=by have:=congrArg yR S.pre;rw[yg]at this;omega
  have j0:Jf G [] Hf Hf H (L2.start N vs) Hf H (ds.map some++qm (N.length-ps.length) none):=by
   refine⟨?_,.refl _ _,.refl e1,λi d n e=>?_,λi d m e=>?_,λi j a di dj mi mj n e=>?_⟩
   ·unfold L2.start;simp;omega
   ·have hi:i<ds.length:=by
     by_cases hi:i<ds.length
     ·exact hi
     ·rw[zS (by simpa using hi),z9]at e
      split at e <;> cases e
    have e':ds[i]?=some d:=by
     rw[zb (by simpa using hi),qG]at e
     cases q:ds[i]? with
     | none=>rw[q]at e;cases e
     | some c=>rw[q]at e;simp at e;rw[e]
    obtain⟨v,h1,h2⟩:=r.get e';refine⟨v,?_,h2⟩;unfold L2.start;rw[zb (by simp;rw[<-r.length];exact hi),qG,h1];rfl
   ·exact absurd m (by simp)
   ·exact absurd mi (by simp)
  refine q Hf Hf H (L2.start N vs) H _ pn o s1 _ ⟨Hf,j0⟩ st' a1 ?_
  cases o with
  | rt c=>
   obtain⟨rfl,rfl⟩:=ZC a2;exact λv Hf' H' g' jY r2 fz=>k' v Hf' H' g' jY r2 fz
  | nx ρ'=>
   obtain⟨rfl,rfl⟩:=ZC a2;exact fun σ' H' ⟨Hf',j'⟩ jY=>k' .non Hf' H' j'.gr jY (jg.mpr rfl) λ_=>.scal λz=>z
  | bk ρ'=>cases a2
  | ct ρ'=>cases a2
def tOf (G:Gh)(fr:Bool)(f:Zc->M D):TE:=fun σ H Q=>∃(Hf:Hp) (ρ:Zc) (s:Pn) (d:D) (s':Pn),Zz G Hf H/\YM G Hf σ ρ/\G.st s H/\f ρ s=some (d,s')/\
 ∀v Hf' H',Gr G Hf H Hf' H'->G.st s' H'->Zo G Hf' d v->(fr=true->Z7 G H Hf' d v)->Q v H'
def Ji (G:Gh)(f:Zc->M Bool):TT:=fun σ H Q=>∃(Hf:Hp) (ρ:Zc) (s:Pn) (b:Bool) (s':Pn),Zz G Hf H/\YM G Hf σ ρ/\G.st s H/\f ρ s=some (b,s')/\
 ∀Hf' H',Gr G Hf H Hf' H'->G.st s' H'->Q b H'
def gOf (G:Gh)(ok:Nat->Prop)(τ:D->Zc->Option Zc):TG:=λx σ H Q=>∃(Hf:Hp) (d:D) (ρ ρ':Zc),Zz G Hf H/\Zo G Hf d x/\τ d ρ=some ρ'/\∀σ',Sets G Hf ok σ ρ σ' ρ'->Q σ' H
section
variable {X:Cx}{G:Gh}{own:List Nat}{fr:Bool}{f:Zc->M D}
theorem PD.canon (h:PD X G fr e f):PE X e (tOf G fr f):=by
 obtain⟨t,p,q⟩:=h;exact λjM s σ H Q I ⟨Hf,ρ,pn,d,pn',a1,a2,a3,a4,k⟩=>p jM s σ H Q I (q σ Hf H ρ pn d pn' Q a1 a2 a3 a4 k)
theorem X1.canon {f:Zc->M Bool}(h:X1 X G e f):PT X e (Ji G f):=by
 obtain⟨t,p,q⟩:=h;exact λjM s σ H Q I ⟨Hf,ρ,pn,d,pn',a1,a2,a3,a4,k⟩=>p jM s σ H Q I (q σ Hf H ρ pn d pn' Q a1 a2 a3 a4 k)
theorem Vf.canon (h:Vf X G tg ok τ):PG X tg (gOf G ok τ):=by
 obtain⟨t,p,q⟩:=h;exact λjM s σ H v u Q I r ⟨Hf,d,ρ,ρ',a1,a2,a3,k⟩=>p jM s σ H v u Q I r (q v σ Hf H d ρ ρ' Q a1 a2 a3 k)
def WF (src:List (Option Nat))(ρ:Zc):Zc:=src.map λo=>o.bind λj=>(ρ[j]?).bind id
theorem Zhi (h:YM G Hf σ ρ):YM G Hf (VQ src σ) (WF src ρ):=λi d e=>by
 unfold WF at e;rw[qG]at e
 cases q:src[i]? with
 | none=>simp_all
 | some o=>
  rw[q]at e
  cases o with
  | none=>simp at e
  | some j=>
   have hj:ρ[j]?=some (some d):=by
    cases e2:ρ[j]? with
    | none=>simp_all
    | some o2=>simp_all
   obtain⟨v,h1,h2⟩:=h j d hj;unfold VQ;simp_all
theorem Sets.len (h:Sets G Hf ok σ ρ σ' ρ'):(σ.length=ρ.length->σ'.length=ρ'.length)/\σ'.length=σ.length:=by
 induction h with
 | nil=>simp
 | cons _ _ _ ih=>simp_all
theorem Sets.env (h:Sets G Hf ok σ ρ σ' ρ'):σ.length=ρ.length->YM G Hf σ ρ->YM G Hf σ' ρ':=by
 induction h with
 | nil=>simp
 | @cons σ ρ σ' ρ' i d v o r _ ih=>
  intro hl he;refine ih (by simp[hl]) λk c e=>?_;by_cases h:i=k
  ·subst h
   have hk:i < ρ.length:=by
    have:=(qz.mp e).1;simp_all
   simp_all
  ·rw[qO h]at e⊢
   exact he k c e
theorem Sets.envOld (h:Sets G Hf ok σ ρ σ' ρ')(h0:∀i d,ok i->ρ0[i]?≠some (some d)):YM G Hf σ ρ0->YM G Hf σ' ρ0:=by
 induction h with
 | nil=>simp
 | @cons σ ρ σ' ρ' i d v o r _ ih=>
  intro he;refine ih λk c e=>?_;have hne:i≠k:=λz=>h0 k c (z▸o) e;rw[qO hne];exact he k c e
def Jb (τ:D->Zc->Option Zc)(ft:Zc->M Bool)(fe:Zc->M D)(ρ:Zc):List D->M (List D)
 | []=>Zy []
 | d::ds=>Zm (YU (τ d ρ)) fun ρ1=>Zm (ft ρ1) λb=>if b=true then Zm (fe ρ1) λc=>Zm (Jb τ ft fe ρ ds) λr=>Zy (c::r)else Jb τ ft fe ρ ds
def ZQ (src:List (Option Nat))(fi:Zc->M (List D))(τ:D->Zc->Option Zc)(ft:Zc->M Bool)(fe:Zc->M D):Zc->M D:=fun ρ=>
 Zm (fi ρ) λds=>if ds.length<=xg then Zm (Jb τ ft fe (WF src ρ) ds) λr=>Zy (.lst r)else Zq
def Yc:Zc->M Bool:=λ_=>Zy true
theorem ZfW
  (qi:∀(σ:St) (Hf H:Hp) (ρ:Zc) (s:Pn) (ds:List D) (s':Pn) (R:It->Hp->Prop),Zz G Hf H->YM G Hf σ ρ->G.st s H->fi ρ s=some (ds,s')->
   (∀J Hf' H',Gr G Hf H Hf' H'->G.st s' H'->Vx G J Hf' ds->R J H')->wi σ H R) :
  X4 G true (JX src wi (gOf G (λi=>src[i]?=some none) τ) (Ji G ft) (tOf G r1 fe)) (ZQ src fi τ ft fe):=by
 intro σ Hf H ρ s d s' Q e1 e2 e3 e4 k;obtain⟨ds,s1,a1,a2⟩:=Zs e4;obtain⟨hz,a3⟩:=YQ a2;obtain⟨r,s2,a4,a5⟩:=Zs a3;obtain⟨rfl,rfl⟩:=ZC a5;refine qi σ Hf H ρ s ds s1 _ e1 e2 e3 a1 λJt jV H1 g1 jX it=>?_;intro p hp;have nrp:=jB jX hp;have nfp:=jt nrp;have hf1p:jV p=none:=by
  cases e:jV p with
  | none=>rfl
  | some o=>rw[g1.fh p o nfp e]at hp;cases hp
 have h0:∀(i:Nat) (d:D),src[i]?=some none->(WF src ρ)[i]?≠some (some d):=λi d e q=>by
  unfold WF at q;rw[qG,e]at q;simp at q
 refine⟨λi m σ2 H2=>∃(j6:Hp) (s2:Pn) (vs:List V) (jT rest:List D),i<=ds.length/\m=ds.length-i/\Gr G jV H1 j6 H2/\YM G j6 σ2 (WF src ρ)/\σ2.length=(WF src ρ).length/\G.st s2 H2/\j6 p=none/\H2 p=some (.lst vs)/\Zk G j6 jT vs/\jT.length<=i/\
  Jb τ ft fe (WF src ρ) (ds.drop i) s2=some (rest,s')/\jT++rest=r,⟨_,jV,s1,[],[],r,za _,rfl,?_,?_,?_,Gh.grow jX hp,hf1p,ZE,Zk.nil_iff.mpr rfl,qp _,a4,rfl⟩,?_⟩
 ·refine⟨λb o n e=>?_,.refl _ _,λb o n e=>?_,λb n h1 h2=>h1⟩
  ·rw[Zl (ZP e hp)];exact e
  ·rw[Zl (ZP e hf1p)];exact g1.fh b o n e
 ·exact Zhi (e2.ext g1.ff)
 ·unfold VQ WF;simp
 ·rintro i m σ2 H2 ⟨j6,sz,vs,jT,rest,hle,rfl,g2,env2,len2,jY,hfp2,hp2,racc,hacc,eq2,hr⟩
  obtain⟨i1,i2⟩:=it i j6 H2 sz g2.ff g2.fh jY;by_cases hlt:i<ds.length
  ·have hd:ds.drop i=ds[i]::ds.drop (i+1):=qaf hlt
   rw[hd]at eq2;obtain⟨ρ3,s3,b1,b2⟩:=Zs eq2;obtain⟨b1',e3'⟩:=WD b1;subst e3';obtain⟨bo,s4,b3,b4⟩:=Zs b2;obtain⟨go,yl⟩:=i1 ds[i] (by simp[hlt]);refine .inr ⟨go,λx H3 y3=>?_⟩;obtain⟨Hf3,g3,st3,r3⟩:=yl x H3 y3;refine⟨Hf3,ds[i],WF src ρ,ρ3,g3.fh,r3,b1',fun σ4 sets=>?_⟩;have env2':=env2.ext g3.ff;have env4:=sets.env len2 env2';have env4':=sets.envOld h0 env2';refine⟨Hf3,ρ3,s3,bo,s4,g3.fh,env4,st3,b3,λHf5 H5 g5 st5=>?_⟩;have g25:=g3.trans g5;have hfp5:Hf5 p=none:=g25.nw p nfp hfp2 ⟨_,hp2,λ_ z=>by cases z⟩;have hp5:H5 p=some (.lst vs):=g25.hh p _ nfp hp2
   cases bo with
   | false=>
    refine VZ ⟨ds.length-(i+1),by omega,Hf5,s4,vs,jT,rest,hlt,rfl,g2.trans g25,env4'.ext g5.ff,by rw[<-len2];exact sets.len.2,st5,hfp5,hp5,racc.ext g25.ff,by omega,?_,hr⟩;exact b4
   | true=>
    have b4':Zm (fe ρ3) (λc=>Zm (Jb τ ft fe (WF src ρ) (ds.drop (i+1))) λr=>Zy (c::r)) s4=some (rest,s'):=b4;obtain⟨c,s6,b5,b6⟩:=Zs b4';obtain⟨rr,s7,b7,b8⟩:=Zs b6;obtain⟨rfl,rfl⟩:=ZC b8;refine WY ⟨Hf5,ρ3,s4,c,s6,g5.fh,env4.ext g5.ff,st5,b5,λv Hf6 H6 g6 st6 r6 _=>?_⟩;have hfp6:Hf6 p=none:=g6.nw p nfp hfp5 ⟨_,hp5,λ_ z=>by cases z⟩;have hp6:H6 p=some (.lst vs):=g6.hh p _ nfp hp5;have hl:vs.length<xg:=by rw[<-racc.length];omega
    refine⟨vs,hp6,hl,ds.length-(i+1),by omega,Hf6,s6,vs ++ [v],jT ++ [c],rr,hlt,rfl,?_,(env4'.ext g5.ff).ext g6.ff,by rw[<-len2];exact sets.len.2,?_,hfp6,ZE,(racc.ext (g25.ff.trans g6.ff)).append (.one r6),by simp;omega,b7,by rw[<-hr];simp⟩
    ·have gg:=(g2.trans g25).trans g6
     refine⟨λb o n e=>?_,gg.ff,λb o n e=>?_,gg.nw⟩
     ·rw[Zl (ZP e hp)];exact gg.hh b o n e
     ·rw[Zl (ZP e hfp6)];exact gg.fh b o n e
    ·refine G.mono _ _ _ st6 (λb o rb e=>?_) λb φ e=>?_
     ·have:b≠p:=λz=>nrp (z▸rb)
      rw[Zl this];exact e
     ·have:b≠p:=λz=>by rw[z,hp6]at e;cases e
      rw[Zl this];exact e
  ·have hd:ds.drop i=[]:=qb7.mpr (by omega)
   rw[hd]at eq2;obtain⟨rfl,rfl⟩:=ZC eq2;refine .inl ⟨i2 (by omega),?_⟩;rw[zw]at hr;subst hr;refine k (.ref p) (Zi j6 p (.lst vs)) H2 (g1.trans ⟨g2.hh,λb o n e=>?_,λb o n e=>?_,λb n h1 h2=>?_⟩) jY (jb.mpr ⟨p,vs,rfl,nfp,ZE,racc.ext λb o n e=>?_⟩) λ_ a ea _=>?_
   ·rw[Zl (ZP (g2.ff b o n e) hfp2)];exact g2.ff b o n e
   ·by_cases hb:b=p
    ·subst hb;rw[ZE]at e;rw[hp2];exact e
    ·rw[Zl hb]at e;exact g2.fh b o n e
   ·have:b≠p:=λz=>h2.no (z▸hp)
    rw[Zl this];exact g2.nw b n h1 h2
   ·rw[Zl (ZP e hfp2)];exact e
   ·cases ea
    refine⟨?_,λds' ed=>?_⟩
    ·cases q:H p with
     | none=>rfl
     | some o=>rw[g1.hh p o nfp q]at hp;cases hp
    ·cases ed
     exact⟨vs,j6,ZE,hfp2,λb o n e=>by rw[Zl (ZP e hfp2)];exact e,racc⟩
theorem Wl:Vw X [] (Ji G Yc):=λjM s σ H Q I ⟨Hf,ρ,pn,b,pn',a1,a2,a3,a4,k⟩=>by
 obtain⟨rfl,rfl⟩:=ZC a4;exact ZfP jM s σ H Q I (k Hf H (.refl a1) a3)
theorem Vr (h:X1 X G c ft):Vw X [c] (Ji G ft):=ZfQ h.canon
theorem Jf.put {kn:Hp}(j:Jf G own kn jS H0 σ Hf H ρ)(hi:i∈own)(e:ρ[i]?=some (some d))(sa:σ[i]?=some (some (.ref a)))
  (new:Ue G Hf (Zi H a o') a d'):Jf G own kn jS H0 σ Hf (Zi H a o') (ρ.set i (some d')):=by
 obtain⟨a',h1,h2,h3,h4,h5⟩:=j.ow i d hi e;rw[sa]at h1;cases h1;have il:i < ρ.length:=(qz.mp e).1;refine⟨by simp[j.len],j.kn,⟨λb o n q=>?_,j.gr.ff,λb o n q=>?_,j.gr.nw⟩,λk c n q=>?_,λk c m q=>?_,λk l b dk dl mk ml n ek el sk sl=>?_⟩
 ·rw[Zl (ZP q h4)];exact j.gr.hh b o n q
 ·rw[Zl (ZP q h3)];exact j.gr.fh b o n q
 ·have hne:i≠k:=λz=>n (z▸hi)
  rw[qO hne]at q;exact j.fz k c n q
 ·by_cases hk:i=k
  ·subst hk
   rw[qV il]at q
   cases q
   exact⟨a,sa,h2,h3,h4,new⟩
  ·rw[qO hk]at q
   obtain⟨b,g1,g2,g3,g4,g5⟩:=j.ow k c m q;have hab:b≠a:=λz=>j.ne i k a d c hi m hk e q sa (z▸g1);exact⟨b,g1,g2,g3,g4,g5.keep (.refl _ _) λo z=>by rw[Zl hab];exact z⟩
 ·have ek':∃d,ρ[k]?=some (some d):=by
   by_cases hk:i=k
   ·exact⟨d,hk▸e⟩
   ·simp_all
  have el':∃d,ρ[l]?=some (some d):=by
   by_cases hl:i=l
   ·exact⟨d,hl▸e⟩
   ·simp_all
  obtain⟨_,ek'⟩:=ek';obtain⟨_,el'⟩:=el';exact j.ne k l b _ _ mk ml n ek' el' sk sl
theorem JG (j:Jf G own kn jS H0 σ Hf H ρ)(hi:i∈own)(e:ρ[i]?=some (some (.lst ds))) :
  ∃a vs,σ[i]?=some (some (.ref a))/\¬G.rd a/\H a=some (.lst vs)/\Zk G Hf ds vs:=by
 obtain⟨a,h1,h2,h3,h4,vs,h5,h6⟩:=j.ow i _ hi e;exact⟨a,vs,h1,h2,h5,h6⟩
theorem JH {ρ:Zc}{i:Nat}(h:(ρ[i]?).bind id=some d):ρ[i]?=some (some d):=by
 cases q:ρ[i]? with
 | none=>simp_all
 | some o=>simp_all
theorem jq (st:G.st s H)(h:¬G.rd a)
  (hx:∀φ,H a≠some (.ext φ):=by intro φ z;first | (have z2:=z.symm.trans (by assumption:_=some (L2.HO.lst _));cases z2) | (have z2:=z.symm.trans (by assumption:_=some (L2.HO.dK _));cases z2) | (have z2:=z.symm.trans (by assumption:_=some (L2.HO.dT _));cases z2)):G.st s (Zi H a o):=G.mono _ _ _ st (λb u rb e=>by
 have:b≠a:=λz=>h (z▸rb);rw[Zl this];exact e) λb φ e=>by
 have:b≠a:=λz=>hx φ (z▸e);rw[Zl this];exact e
def V0 (i:Nat)(f:Zc->M D):Zc->M Out:=fun ρ=>Zm (f ρ) λd=>match (ρ[i]?).bind id with
 | some (.lst ds)=>if ds.length<xg then Zy (.nx (ρ.set i (some (.lst (ds ++ [d])))))else Zq
 | _=>Zq
theorem Zij (hi:i∈own)(hy:WZ G own r1 te f) :
  Bd G ob own own fr (VP (VB X.K "list" BG (ZY i) (Xn te XA))) (V0 i f):=λkn jS H0 σ H ρ s out s' E ⟨Hf,j⟩ st e po=>by
 obtain⟨d,s1,a1,a2⟩:=Zs e
 cases hb:(ρ[i]?).bind id with
 | none=>rw[hb]at a2;cases a2
 | some c=>
  rw[hb]at a2
  cases c with
  | lst ds=>
   have a2':=a2;obtain⟨c2,a3⟩:=YQ a2';obtain⟨rfl,rfl⟩:=ZC a3;have ei:=JH hb;obtain⟨a,vs,h1,h2,h3,h4⟩:=JG j hi ei;refine⟨_,h1,.inl ⟨rfl,vs,ZD.of h3⟩,?_⟩;refine hy kn jS H0 σ Hf H ρ s d s' _ j st a1 λv Hf' H' j' e1 e2 st' r fz=>?_;obtain⟨a',vs',h1',h2',h3',h4'⟩:=JG j' hi ei;rw[h1]at h1';cases h1';refine⟨a,vs',v,rfl,rfl,h3',by rw[<-h4'.length];exact c2,?_⟩;exact po σ _ ⟨Hf',j'.put hi ei h1 ⟨vs' ++ [v],ZE,h4'.append (.one r)⟩⟩ (jq st' h2)
  | _=>cases a2
theorem Zb8 {pos p2 p3:Pos}(hv:PE X (.Name x p1) (ZY i))(p:PE X e te)
  (hbase:xq (.Name x p1) "append" X.env (eval (.Name x p1) X.env)=eval (.Name x p1) X.env:=by rfl)
  (hfew:((backTo p3 (xh [e] X.env)).all (λx=>!x.1)&&(xp p3 (xi [] X.env)).all (λx=>x.1.isSome)
   && decide ([e].length+([]:List Keyword).length+(if ([]:List Keyword).isEmpty then 0 else 1)<30))=true:=by rfl)
  (hline:(p2.endLine==p3.line)=true:=by rfl) (hs:xh [e] X.env=(false,eval e X.env)::xh [] X.env:=by rfl)
  (hsw:xr (.Call (.Attribute (.Name x p1) "append" p2) [e] [] p3) none pos.line X.env=pure false:=by rfl) :
  PS X (.Expr (.Call (.Attribute (.Name x p1) "append" p2) [e] [] p3) pos) (VP (VB X.K "list" BG (ZY i) (Xn te XA))):=
 BC (U8 zN qbr qbs Zb7 hv (ZU p Yn hs) hbase hfew hline hs rfl) hsw
section
variable {i:Nat}{x:Str}{e:Expr}{pos p1 p2 p3:Pos}{r1:Bool}{ob:List Nat}{st:Stmt}
theorem ZfX (hi:i∈own)(he:PD X G r1 e f)(hp:∀te,PE X e te->PS X st (VP (VB X.K "list" BG (ZY i) (Xn te XA)))):YI X G ob own own fr st (V0 i (fun ρ=>f (Yk own ρ))):=by
 obtain⟨t,p,q⟩:=he;exact⟨_,hp t p,Zij hi (X4.a q)⟩
theorem Zk0 (hi:i∈own)(he:PD X G r1 e f)(hp:∀te,PE X e te->PS X st (VP (VB X.K "list" BG (ZY i) (Xn te XA)))):YI X G ob own own fr st (V0 i (Xa r1 f)):=by
 obtain⟨t,p,q⟩:=he;exact⟨_,hp t p,Zij hi (X4.b q)⟩
end
end
section
variable {X:Cx}{G:Gh}
def dI (C:Int->Int->Bool)(g:Int->Int->D):D->D->Option D
 | .int i,.int j=>if C i j=true then some (g i j)else none
 | _,_=>none
theorem Ze3 (h:dI C g d e=some c):∃i j,d=.int i/\e=.int j/\C i j=true/\c=g i j:=by
 match d,e,h with
 | .int i,.int j,h=>
  have h':(if C i j=true then some (g i j)else none)=some c:=h;simp_all
theorem ZpE {g:Int->Int->Int}(h:Yl X f (rI C λi j=>.int (g i j)))(hc:∀i j,Cb i j=true->C i j):XD X G f (dI Cb λi j=>.int (g i j)):=
 ⟨_,h,λHf H s x y d e c Q e1 st rx ry q k=>by
  obtain⟨i,j,rfl,rfl,hcb,rfl⟩:=Ze3 q;exact⟨i,j,ja.mp rx,ja.mp ry,hc i j hcb,k _ Hf H (.refl e1) st (ja.mpr rfl) (.scal λz=>z)⟩⟩
theorem ZoJ {g:Int->Int->Int}(h:Yl X f (XO λi j=>.int (g i j))):XD X G f (dI (λ_ _=>true) λi j=>.int (g i j)):=
 ⟨_,h,λHf H s x y d e c Q e1 st rx ry q k=>by
  obtain⟨i,j,rfl,rfl,hcb,rfl⟩:=Ze3 q;exact⟨i,j,ja.mp rx,ja.mp ry,k _ Hf H (.refl e1) st (ja.mpr rfl) (.scal λz=>z)⟩⟩
theorem Zhj {g:Int->Int->Bool}(h:Yl X f (XO λi j=>.bl (g i j))):XD X G f (dI (λ_ _=>true) λi j=>.bl (g i j)):=
 ⟨_,h,λHf H s x y d e c Q e1 st rx ry q k=>by
  obtain⟨i,j,rfl,rfl,hcb,rfl⟩:=Ze3 q;exact⟨i,j,ja.mp rx,ja.mp ry,k _ Hf H (.refl e1) st (je.mpr rfl) (.scal λz=>z)⟩⟩
def dSub:=dI (λ_ _=>true) λi j=>.int (i-j)
def B1 (i j:Int):Bool:=(decide (-(2 ^ 64)<i)&&decide (i<2 ^ 64))||(decide (-(2 ^ 64)<j)&&decide (j<2 ^ 64))
def dMul:=dI B1 λi j=>.int (i*j)
def dMod:=dI (λ_ j=>decide (0<j)) λi j=>.int (i % j)
theorem ZmS:XD X G (binaryOp .Sub) dSub:=ZoJ Zou
theorem Zik:XD X G (binaryOp .Mult) dMul:=ZpE U1 λi j h=>by
 simp only[B1,qag,zK,decide_eq_true_eq]at h;exact h
def Vg:=dI (λ_ _=>true) λi j=>.bl (decide (i<=j))
def dGt:=dI (λ_ _=>true) λi j=>.bl (decide (j<i))
def Js:=dI (λ_ _=>true) λi j=>.bl (decide (j<=i))
theorem Zhk:XD X G (xk .LtE) Vg:=Zhj ZpA
theorem Zk1:XD X G (xk .Gt) dGt:=Zhj ZkK
theorem ZoK:XD X G (xk .GtE) Js:=Zhj ZnR
def ZH:List D->Option (List Int)
 | []=>some []
 | .int i::ds=>(ZH ds).map (i :: ·)
 | _::_=>none
theorem Wq:∀{ds:List D} {ns:List Int},ZH ds=some ns->ds=ns.map D.int
 | [],ns,h=>by simp[ZH]at h;subst h;rfl
 | .int i::ds,ns,h=>by
  cases e:ZH ds with
  | none=>simp[ZH,e]at h
  | some ms=>simp[ZH,e]at h;subst h;simp[Wq e]
 | .non::_,_,h=>by simp[ZH]at h
 | .bl _::_,_,h=>by simp[ZH]at h
 | .str _::_,_,h=>by simp[ZH]at h
 | .tup _::_,_,h=>by simp[ZH]at h
 | .lst _::_,_,h=>by simp[ZH]at h
 | .dk _::_,_,h=>by simp[ZH]at h
 | .dt _::_,_,h=>by simp[ZH]at h
 | .du _::_,_,h=>by simp[ZH]at h
 | .df _::_,_,h=>by simp[ZH]at h
 | .pen::_,_,h=>by simp[ZH]at h
 | .ty _::_,_,h=>by simp[ZH]at h
theorem ZaS (ns:List Int):ZH (ns.map D.int)=some ns:=by
 induction ns with
 | nil=>rfl
 | cons n ns ih=>simp[ZH,ih]
theorem jk:∀{ns:List Int} {vs:List V},Zk G H (ns.map D.int) vs->vs=ns.map V.int
 | [],vs,h=>Zk.nil_iff.mp h
 | n::ns,vs,h=>by
  obtain⟨v,r,rfl,h1,h2⟩:=jd.mp h;rw[ja.mp h1,jk h2];rfl
def WC:D->D->Option D
 | .int i,.int j=>some (.bl (decide (i<j)))
 | .tup a,.tup b=>match ZH a,ZH b with | some ns,some ms=>some (.bl (HT.lexLt ns ms)) | _,_=>none
 | _,_=>none
theorem Ze4 (hu:X.A.units<cLine):XD X G (xk .Lt) WC:=
 ⟨_,ZnQ.or (Zoz hu),λHf H s x y d e c Q e1 st rx ry q k=>by
  match d,e,q,rx,ry with
  | .int i,.int j,q,rx,ry=>
   cases q
   exact .inl ⟨i,j,ja.mp rx,ja.mp ry,k _ Hf H (.refl e1) st (je.mpr rfl) (.scal λz=>z)⟩
  | .tup a,.tup b,q,rx,ry=>
   have q:(match ZH a,ZH b with | some ns,some ms=>some (D.bl (HT.lexLt ns ms)) | _,_=>none)=some c:=q
   cases ea:ZH a with
   | none=>simp_all
   | some ns=>
    cases eb:ZH b with
    | none=>simp_all
    | some ms=>
     rw[ea,eb]at q
     cases q
     rw[Wq ea]at rx;rw[Wq eb]at ry;obtain⟨p,vs,rfl,np,hp,rp⟩:=jc.mp rx;obtain⟨p2,vs2,rfl,np2,hp2,rp2⟩:=jc.mp ry;rw[jk rp]at hp;rw[jk rp2]at hp2;exact .inr ⟨p,p2,ns,ms,rfl,rfl,ZO.of (e1 _ _ np hp),ZO.of (e1 _ _ np2 hp2),k _ Hf H (.refl e1) st (je.mpr rfl) (.scal λz=>z)⟩⟩
theorem ZmT:Yl X (binaryOp .Add) (λx y H Q=>∃a b ys,x=.ref a/\y=.ref b/\ZO X.K H a []/\ZO X.K H b ys/\Q (.ref b) H):=by
 intro jM s σ H x y v u Q I rx ry h;obtain⟨a,b,ys,rfl,rfl,ha,hb,q⟩:=h
 cases rx
 cases ry
 obtain⟨jO,r1,p1,_⟩:=I.tuple ha;obtain⟨kb,r2,p2,_⟩:=I.tuple hb;have e0:jO=[]:=by cases r1;rfl
 subst e0;obtain⟨⟨cls,dd,data,sl⟩,ho,hc,n,hd⟩:=id p1;obtain⟨⟨cls2,dd2,data2,sl2⟩,ho2,hc2,n2,hd2⟩:=id p2;subst hc hd hc2 hd2;exact concat_meets ⟨_,ho,rfl⟩ ⟨_,ho2,rfl⟩ noFill_tuple_add seq_tuple_add qaF qau (qal _ _)
   (tuple_addW0 a b ([]:List Value).toArray kb.toArray n n2 dd dd2 sl sl2 rfl) ⟨ho,ho2,⟨.ref b,H,I,rfl,q⟩⟩
def Y0:D->D->Option D
 | .int i,.int j=>some (.int (i+j))
 | .tup a,.tup b=>if a.length+b.length<=xg then some (.tup (a++b))else none
 | .lst a,.lst b=>if a.length+b.length<=xg then some (.lst (a++b))else none
 | _,_=>none
theorem VL:XD X G (binaryOp .Add) Y0:=
 ⟨_,UC.or (ZoB.or (ZmJ.or ZmT)),λHf H s x y d e c Q e1 st rx ry q k=>by
  match d,e,q,rx,ry with
  | .int i,.int j,q,rx,ry=>
   cases q
   exact .inl ⟨i,j,ja.mp rx,ja.mp ry,k _ Hf H (.refl e1) st (ja.mpr rfl) (.scal λz=>z)⟩
  | .lst a,.lst b,q,rx,ry=>
   have q:(if a.length+b.length<=xg then some (D.lst (a++b))else none)=some c:=q;split at q
   ·rename_i hz
    cases q
    obtain⟨p,vs,rfl,np,hp,rp⟩:=jb.mp rx;obtain⟨p2,vs2,rfl,np2,hp2,rp2⟩:=jb.mp ry;refine .inr (.inl ⟨p,p2,vs,vs2,rfl,rfl,e1 _ _ np hp,e1 _ _ np2 hp2,by rw[<-rp.length,<-rp2.length];exact hz,λl hl=>?_⟩);have nf:=Gh.nofp st hl;have g2:=Gr.new (o:=.lst (vs++vs2)) e1 hl nf;have rr:=rp.append rp2;exact k (.ref l) _ _ g2 (Gh.grow st hl) (jb.mpr ⟨l,_,rfl,nf,ZE,rr.ext g2.ff⟩) (Z7.mk e1 hl nf rr)
   ·cases q
  | .tup a,.tup b,q,rx,ry=>
   have q:(if a.length+b.length<=xg then some (D.tup (a++b))else none)=some c:=q;split at q
   ·rename_i hz
    cases q
    obtain⟨p,vs,rfl,np,hp,rp⟩:=jc.mp rx;obtain⟨p2,vs2,rfl,np2,hp2,rp2⟩:=jc.mp ry;by_cases hv:vs=[]
    ·subst hv
     have ea:a=[]:=zO.mp (by rw[rp.length];rfl);subst ea;exact .inr (.inr (.inr ⟨p,p2,vs2,rfl,rfl,ZO.of (e1 _ _ np hp),ZO.of (e1 _ _ np2 hp2),k _ Hf H (.refl e1) st ry (.scal λz=>z)⟩))
    ·refine .inr (.inr (.inl ⟨p,p2,vs,vs2,rfl,rfl,ZO.of (e1 _ _ np hp),ZO.of (e1 _ _ np2 hp2),hv,by rw[<-rp.length,<-rp2.length];exact hz,λz=>?_,λ_ l hl=>?_⟩))
     ·subst z
      have eb:=zO.mp (by rw[rp2.length];rfl);subst eb;rw[zw]at k;exact k _ Hf H (.refl e1) st rx (.scal λz=>z)
     ·have nf:=Gh.nofp st hl
      have g2:=Gr.new (o:=.tup (vs++vs2)) e1 hl nf;exact k (.ref l) _ _ g2 (Gh.grow st hl) (jc.mpr ⟨l,_,rfl,nf,ZE,(rp.append rp2).ext g2.ff⟩) (.scal λz=>z)
   ·cases q⟩
def Zj:D->D->Option D
 | .lst ds,.int i=>WA ds i
 | .tup ds,.int i=>WA ds i
 | _,_=>none
theorem Zil (r:Zk G Hf ds vs)(h:WA ds i=some c):∃v,WA vs i=some v/\Zo G Hf c v:=by
 unfold WA at h⊢;rw[<-r.length]
 cases e:V4 ds.length i with
 | none=>simp_all
 | some j=>
  rw[e]at h;obtain⟨v,h1,h2⟩:=r.get h;exact⟨v,h1,h2⟩
theorem Z3:IxD X G Zj:=
 ⟨_,BF.or ZkP,λHf H s x y d e c Q e1 st rx ry q k=>by
  match d,e,q,rx,ry with
  | .lst ds,.int i,q,rx,ry=>
   obtain⟨p,vs,rfl,np,hp,rp⟩:=jb.mp rx;obtain⟨v,h1,h2⟩:=Zil rp q;exact .inl ⟨p,vs,i,v,rfl,ja.mp ry,ZD.of (e1 _ _ np hp),h1,k v h2⟩
  | .tup ds,.int i,q,rx,ry=>
   obtain⟨p,vs,rfl,np,hp,rp⟩:=jc.mp rx;obtain⟨v,h1,h2⟩:=Zil rp q;exact .inr ⟨p,vs,i,v,rfl,ja.mp ry,ZO.of (e1 _ _ np hp),h1,k v h2⟩⟩
theorem ji (h:Zk G H [d] xs):∃v,xs=[v]/\Zo G H d v:=by
 obtain⟨v,r,rfl,h1,h2⟩:=jd.mp h;rw[Zk.nil_iff.mp h2];exact⟨v,rfl,h1⟩
theorem jp (h:Zk G H [d,e] xs):∃v w,xs=[v,w]/\Zo G H d v/\Zo G H e w:=by
 obtain⟨v,r,rfl,h1,h2⟩:=jd.mp h;obtain⟨w,rfl,h3⟩:=ji h2;exact⟨v,w,rfl,h1,h3⟩
def Yo:List D->Option D
 | [.lst ds]=>some (.int ds.length)
 | [.tup ds]=>some (.int ds.length)
 | _=>none
theorem Zhl:Wk X G (.builtin "len") Yo:=
 ⟨_,Zap,λHf H s xs ds c Q e1 st r q k=>by
  match ds,q,r with
  | [.lst es],q,r=>
   cases q
   obtain⟨v,rfl,rv⟩:=ji r;obtain⟨p,vs,rfl,np,hp,rp⟩:=jb.mp rv;exact⟨p,vs,rfl,.inl (ZD.of (e1 _ _ np hp)),k _ Hf H (.refl e1) st (ja.mpr (by rw[rp.length])) (.scal λz=>z)⟩
  | [.tup es],q,r=>
   cases q
   obtain⟨v,rfl,rv⟩:=ji r;obtain⟨p,vs,rfl,np,hp,rp⟩:=jc.mp rv;exact⟨p,vs,rfl,.inr (ZO.of (e1 _ _ np hp)),k _ Hf H (.refl e1) st (ja.mpr (by rw[rp.length])) (.scal λz=>z)⟩⟩
def JL:List D->Option D
 | [.lst ds]=>some (.tup ds)
 | [.tup ds]=>some (.tup ds)
 | _=>none
theorem Zaq:Wk X G (.type "tuple") JL:=
 ⟨_,ZdS,λHf H s xs ds c Q e1 st r q k=>by
  match ds,q,r with
  | [.lst es],q,r=>
   cases q
   obtain⟨v,rfl,rv⟩:=ji r;obtain⟨p,vs,rfl,np,hp,rp⟩:=jb.mp rv;refine⟨p,vs,rfl,.inl ⟨ZD.of (e1 _ _ np hp),λl hl=>?_⟩⟩;have nf:=Gh.nofp st hl;have g2:=Gr.new (o:=.tup vs) e1 hl nf;exact k (.ref l) _ _ g2 (Gh.grow st hl) (jc.mpr ⟨l,_,rfl,nf,ZE,rp.ext g2.ff⟩) (.scal λz=>z)
  | [.tup es],q,r=>
   cases q
   obtain⟨v,rfl,rv⟩:=ji r;obtain⟨p,vs,rfl,np,hp,rp⟩:=jc.mp rv;exact⟨p,vs,rfl,.inr ⟨ZO.of (e1 _ _ np hp),k _ Hf H (.refl e1) st rv (.scal λz=>z)⟩⟩⟩
def ZnY:List D->Option D
 | [.lst ds]=>some (.lst ds)
 | [.tup ds]=>some (.lst ds)
 | _=>none
theorem ZfY:Wk X G (.type "list") ZnY:=
 ⟨_,ZeY,λHf H s xs ds c Q e1 st r q k=>by
  match ds,q,r with
  | [.lst es],q,r=>
   cases q
   obtain⟨v,rfl,rv⟩:=ji r;obtain⟨p,vs,rfl,np,hp,rp⟩:=jb.mp rv;refine⟨p,vs,rfl,.inl (ZD.of (e1 _ _ np hp)),λl hl=>?_⟩;have nf:=Gh.nofp st hl;have g2:=Gr.new (o:=.lst vs) e1 hl nf;exact k (.ref l) _ _ g2 (Gh.grow st hl) (jb.mpr ⟨l,_,rfl,nf,ZE,rp.ext g2.ff⟩) (Z7.mk e1 hl nf rp)
  | [.tup es],q,r=>
   cases q
   obtain⟨v,rfl,rv⟩:=ji r;obtain⟨p,vs,rfl,np,hp,rp⟩:=jc.mp rv;refine⟨p,vs,rfl,.inr (ZO.of (e1 _ _ np hp)),λl hl=>?_⟩;have nf:=Gh.nofp st hl;have g2:=Gr.new (o:=.lst vs) e1 hl nf;exact k (.ref l) _ _ g2 (Gh.grow st hl) (jb.mpr ⟨l,_,rfl,nf,ZE,rp.ext g2.ff⟩) (Z7.mk e1 hl nf rp)⟩
def JY:List D->Option D
 | [.int i,.int j]=>some (.int (if j > i then j else i))
 | _=>none
def Jc:List D->Option D
 | [.int i,.int j]=>some (.int (if j<i then j else i))
 | _=>none
theorem ZcY (hc:X.calm=true):Wk X G (.builtin "max") JY:=
 ⟨_,Zjd hc,λHf H s xs ds c Q e1 st r q k=>by
  match ds,q,r with
  | [.int i,.int j],q,r=>
   cases q
   obtain⟨v,w,rfl,rv,rw'⟩:=jp r;rw[ja.mp rv,ja.mp rw'];exact⟨i,j,rfl,k _ Hf H (.refl e1) st (ja.mpr rfl) (.scal λz=>z)⟩⟩
theorem ZcZ (hc:X.calm=true):Wk X G (.builtin "min") Jc:=
 ⟨_,Zje hc,λHf H s xs ds c Q e1 st r q k=>by
  match ds,q,r with
  | [.int i,.int j],q,r=>
   cases q
   obtain⟨v,w,rfl,rv,rw'⟩:=jp r;rw[ja.mp rv,ja.mp rw'];exact⟨i,j,rfl,k _ Hf H (.refl e1) st (ja.mpr rfl) (.scal λz=>z)⟩⟩
def Zk2:List D->Option D
 | [.int i]=>some (.int i)
 | [.bl b]=>some (.int (if b then 1 else 0))
 | _=>none
theorem Zhm:Wk X G (.type "int") Zk2:=
 ⟨_,Zec,λHf H s xs ds c Q e1 st r q k=>by
  match ds,q,r with
  | [.int i],q,r=>
   cases q
   obtain⟨v,rfl,rv⟩:=ji r;rw[ja.mp rv];exact .inl ⟨i,rfl,k _ Hf H (.refl e1) st (ja.mpr rfl) (.scal λz=>z)⟩
  | [.bl i],q,r=>
   cases q
   obtain⟨v,rfl,rv⟩:=ji r;rw[je.mp rv];exact .inr ⟨i,rfl,k _ Hf H (.refl e1) st (ja.mpr rfl) (.scal λz=>z)⟩⟩
def Xx:List D->Option (List Bool)
 | []=>some []
 | .bl b::ds=>(Xx ds).map (b :: ·)
 | _::_=>none
theorem Zc0:∀{ds:List D} {ns:List Bool},Xx ds=some ns->ds=ns.map D.bl
 | [],ns,h=>by simp[Xx]at h;subst h;rfl
 | .bl i::ds,ns,h=>by
  cases e:Xx ds with
  | none=>simp[Xx,e]at h
  | some ms=>simp[Xx,e]at h;subst h;simp[Zc0 e]
 | .non::_,_,h=>by simp[Xx]at h
 | .int _::_,_,h=>by simp[Xx]at h
 | .str _::_,_,h=>by simp[Xx]at h
 | .tup _::_,_,h=>by simp[Xx]at h
 | .lst _::_,_,h=>by simp[Xx]at h
 | .dk _::_,_,h=>by simp[Xx]at h
 | .dt _::_,_,h=>by simp[Xx]at h
 | .du _::_,_,h=>by simp[Xx]at h
 | .df _::_,_,h=>by simp[Xx]at h
 | .pen::_,_,h=>by simp[Xx]at h
 | .ty _::_,_,h=>by simp[Xx]at h
theorem ZfZ (ns:List Bool):Xx (ns.map D.bl)=some ns:=by
 induction ns with
 | nil=>rfl
 | cons n ns ih=>simp[Xx,ih]
theorem jA:∀{ns:List Bool} {vs:List V},Zk G H (ns.map D.bl) vs->vs=ns.map V.bl
 | [],vs,h=>Zk.nil_iff.mp h
 | n::ns,vs,h=>by
  obtain⟨v,r,rfl,h1,h2⟩:=jd.mp h;rw[je.mp h1,jA h2];rfl
theorem Zc1:∀{bs:List Bool} {us:List Value},ZB (bs.map V.bl) us->us=bs.map zP
 | [],_,.nil=>rfl
 | b::bs,_,.cons r t=>by
  cases (show _=zP b from r)
  rw[Zc1 t];rfl
theorem Zhn {hc:X.calm=true}{σ:St}{bs:List Bool}{Q:xD}(fin:Bool)(I:Inv X jM σ H s)(h:H p=some (.lst (bs.map V.bl)))
  (fn:(Nat->Bool)->List Nat->Bool) (hq:∀s',Inv X jM σ H s'->Q (.bool (fn (λi=>bs.getD i false) (qj bs.length))) s') :
  xf (xz X.prog X.w) X.A.in1 (pyIter (.ref p)) (λit s₂=>∃I fp wr n P St tr,it=.ref I/\Walks X.prog X.w X.A.in1 I fp wr n P St/\St 0 s₂.heap/\TruthOf X.prog X.w X.A.in1 P tr/\
   ∀h' tk,(∀b o,b∉wr->s₂.heap.get? b=some o->h'.get? b=some o)->Q (.bool (fn tr (qj n))) { s₂ with heap:=h',toks:=tk }) E s:=by
 obtain⟨jO,rv,pl,hz⟩:=I.list (ZD.of h);have eu:=Zc1 rv;subst eu;refine wpAny_pyIter_list pl.isList ?_;have hne:p≠s.heap.objs.size:=qA (by
  obtain⟨o,ho,_⟩:=pl.isList;exact qy ho)
 refine⟨s.heap.objs.size,_,_,_,_,_,λi=>bs.getD i false,rfl,Walks.list (A:=X.A.in1) (I.ok.hd hc) s.heap.objs.size p hne _,⟨⟨_,qq _ rfl,rfl,rfl⟩,pl.isList.at λo e=>qf _ e⟩,?_,?_⟩
 ·intro i v s' Q' E' hP hQ'
  have hv:v=.bool (bs.getD i false):=by
   cases q:bs[i]? with
   | none=>simp_all
   | some b=>simp_all
  subst hv;exact wpAny_truthy_bool hQ'
 ·intro h' tk hk
  have:(List.map zP bs).toArray.size=bs.length:=by simp
  rw[this];refine hq _ (I.kept λb o e=>hk b o ?_ (qf _ e));have:=qA (qy e);simp_all
theorem Zk3 (bs:List Bool):(qj bs.length).any (λi=>bs.getD i false)=bs.any id:=by
 induction bs with
 | nil=>rfl
 | cons b bs ih=>
  rw[zB,qaH,qbg,List.any_map];show(b||(qj bs.length).any λi=>bs.getD i false)=_;rw[ih];rfl
theorem Zjo (hc:X.calm=true):Xi X (.builtin "any") (λxs H Q=>∃(p:Addr) (bs:List Bool),xs=[.ref p]/\H p=some (.lst (bs.map V.bl))/\Q (.bl (bs.any id)) H):=by
 intro jM s σ H xs us Q I r h;obtain⟨p,bs,rfl,hp,q⟩:=h;obtain⟨u,rfl,ru⟩:=XT r
 cases ru
 refine call_any_walk (Zhn (hc:=hc) true I hp (λt l=>l.any t) λs' I'=>⟨.bl (bs.any id),H,I',?_,q⟩);show zP _=_;rw[Zk3]
def UJ:List D->Option D
 | [.lst ds]=>(Xx ds).map λbs=>.bl (bs.any id)
 | _=>none
theorem Zb9 (hc:X.calm=true):Wk X G (.builtin "any") UJ:=
 ⟨_,Zjo hc,λHf H s xs ds c Q e1 st r q k=>by
  match ds,q,r with
  | [.lst es],q,r=>
   obtain⟨v,rfl,rv⟩:=ji r;obtain⟨p,vs,rfl,np,hp,rp⟩:=jb.mp rv
   cases e:Xx es with
   | none=>simp[UJ,e]at q
   | some bs=>
    simp[UJ,e]at q;subst q;rw[Zc0 e]at rp;rw[jA rp]at hp;exact⟨p,bs,rfl,e1 _ _ np hp,k _ Hf H (.refl e1) st (je.mpr rfl) (.scal λz=>z)⟩⟩
theorem Ve {pos:Pos}(hg:Gl X x)(hm:X.mg x=none)(hv:xj x=some (.type n))(hn:x≠"__name__":=by decide)(hd:(x==("__debug__" : Str))=false:=by decide):PD X G true (.Name x pos) (dC (.ty n)):=by
 refine⟨_,Zh9 (v:=.ty n) hg hm hv rfl hn hd,fun σ Hf H ρ s d s' Q e1 e2 e3 e4 k=>?_⟩;obtain⟨rfl,rfl⟩:=ZC e4;exact k _ Hf H (.refl e1) e3 (js.mpr rfl) λ_=>.scal λz=>z
def Ze5:D->Option String
 | .non=>some "NoneType"
 | .bl _=>some "bool"
 | .int _=>some "int"
 | .str _=>some "str"
 | .tup _=>some "tuple"
 | .lst _=>some "list"
 | .dk _=>some "dict"
 | .dt _=>none
 | .du _=>none
 | .df _=>none
 | _=>none
def B2:List String:=["int","bool","str","tuple","list","dict"]
def XU:List D->Option D
 | [d,.ty T]=>match Ze5 d with
  | some n=>if B2.contains T then some (.bl (n==T||(n == "bool" && T == "int")))else none
  | none=>none
 | _=>none
theorem ZmU (K:qd):∀n∈["NoneType","bool","int","str","tuple","list","dict"],∀T∈B2,yV K (.type n) (.type T)=some (n==T||(n == "bool" && T == "int")):=by
 intro n hn T hT;simp only[B2,qu,zi,or_false]at hn hT;rcases hn with rfl | rfl | rfl | rfl | rfl | rfl | rfl <;> rcases hT with rfl | rfl | rfl | rfl | rfl | rfl <;> rfl
theorem Zjp (e1:Zz G Hf H)(r:Zo G Hf d v)(h:Ze5 d=some n):TyOf X.K H v (.type n)/\n∈["NoneType","bool","int","str","tuple","list","dict"]:=by
 cases d with
 | non=>cases h;rw[jg.mp r];exact⟨.non,by decide⟩
 | bl b=>cases h;rw[je.mp r];exact⟨.bl b,by decide⟩
 | int b=>cases h;rw[ja.mp r];exact⟨.int b,by decide⟩
 | str b=>cases h;rw[jh.mp r];exact⟨.str b,by decide⟩
 | tup ds=>cases h;obtain⟨p,vs,rfl,np,hp,rp⟩:=jc.mp r;exact⟨.tup (e1 _ _ np hp),by decide⟩
 | lst ds=>cases h;obtain⟨p,vs,rfl,np,hp,rp⟩:=jb.mp r;exact⟨.lst (e1 _ _ np hp),by decide⟩
 | dk ds=>cases h;obtain⟨p,rfl,np,hp⟩:=jj.mp r;exact⟨.dK (e1 _ _ np hp),by decide⟩
 | dt ds=>cases h
 | du ds=>cases h
 | df ds=>cases h
 | pen=>cases h
 | ty _=>cases h
 | clo _ _=>cases h
theorem Zjq:Xi X (.builtin "isinstance") (λxs H Q=>∃x n T,xs=[x,.ty T]/\TyOf X.K H x (.type n)/\n∈["NoneType","bool","int","str","tuple","list","dict"]/\T∈B2/\Q (.bl (n==T||(n == "bool" && T == "int"))) H):=by
 intro jM s σ H xs us Q I r h;obtain⟨x,n,T,rfl,ty,hn,hT,q⟩:=h;obtain⟨u,w',rfl,ru,rw'⟩:=BZ r
 cases (show w'=zQ T from rw')
 exact Zjg I ru ty (ZmU X.K n hn T hT) λtk=>⟨.bl _,H,I.tok tk,rfl,q⟩
theorem W7:Wk X G (.builtin "isinstance") XU:=
 ⟨_,Zjq,λHf H s xs ds c Q e1 st r q k=>by
  match ds,q,r with
  | [d,.ty T],q,r=>
   obtain⟨v,w,rfl,rv,rw'⟩:=jp r;rw[js.mp rw'];have q:(match Ze5 d with | some n=>if B2.contains T then some (D.bl (n==T||(n == "bool" && T == "int")))else none | none=>none)=some c:=q
   cases e:Ze5 d with
   | none=>simp_all
   | some n=>
    rw[e]at q;simp only at q;split at q
    ·cases q
     obtain⟨t1,t2⟩:=Zjp e1 rv e;exact⟨v,n,T,rfl,t1,t2,by simp_all,k _ Hf H (.refl e1) st (je.mpr rfl) (.scal λz=>z)⟩
    ·cases q⟩
end
mutual
def Zr:D->Bool
 | .non=>true
 | .bl _=>true
 | .int _=>true
 | .str _=>true
 | .tup ds=>YX ds
 | .lst ds=>YX ds
 | _=>false
def YX:List D->Bool
 | []=>true
 | d::ds=>Zr d&&YX ds
end
mutual
def Yz:D->Nat
 | .tup ds=>XM ds+1
 | .lst ds=>XM ds+1
 | _=>0
def XM:List D->Nat
 | []=>0
 | d::ds=>max (Yz d) (XM ds)
end
theorem JI:∀{ds:List D} {d:D},d∈ds->Yz d<=XM ds
 | e::ds,d,h=>by
  rcases qu.mp h with rfl | h
  ·simp only[XM];omega
  ·have:=JI h
   simp only[XM];omega
theorem UV:∀{ds:List D} {d:D},YX ds=true->d∈ds->Zr d=true
 | e::ds,d,n,h=>by
  have n':=by simpa[YX]using n
  rcases qu.mp h with rfl | h
  ·exact n'.1
  ·exact UV n'.2 h
mutual
def ZM:D->D->Bool
 | .non,.non=>true
 | .bl a,.bl b=>a==b
 | .bl a,.int i=>(if a then 1 else 0)==i
 | .int i,.bl b=>i==(if b then 1 else 0)
 | .int i,.int j=>i==j
 | .str x,.str y=>x==y
 | .tup a,.tup b=>X0 a b
 | .lst a,.lst b=>X0 a b
 | _,_=>false
def X0:List D->List D->Bool
 | [],[]=>true
 | a::as,b::bs=>ZM a b&&X0 as bs
 | _,_=>false
end
mutual
theorem Zc2:∀d:D,Zr d=true->ZM d d=true
 | .non,_=>by simp[ZM]
 | .bl _,_=>by simp[ZM]
 | .int _,_=>by simp[ZM]
 | .str _,_=>by simp[ZM]
 | .tup ds,h=>by simp only[ZM];exact Zca ds (by simpa[Zr]using h)
 | .lst ds,h=>by simp only[ZM];exact Zca ds (by simpa[Zr]using h)
 | .dk _,h=>by simp[Zr]at h
 | .dt _,h=>by simp[Zr]at h
 | .du _,h=>by simp[Zr]at h
 | .df _,h=>by simp[Zr]at h
 | .pen,h=>by simp[Zr]at h
 | .ty _,h=>by simp[Zr]at h
 | .clo _ _,h=>by simp[Zr]at h
theorem Zca:∀ds:List D,YX ds=true->X0 ds ds=true
 | [],_=>by simp[X0]
 | d::ds,h=>by
  have n':Zr d=true/\YX ds=true:=by simpa[YX]using h
  simp only[X0,Zc2 d n'.1,Zca ds n'.2,Bool.and_self]
end
theorem Zc3:∀{a b:List D},X0 a b=true->a.length=b.length
 | [],[],_=>rfl
 | a::as,b::bs,h=>by
  have:=by simpa[X0]using h
  simp[Zc3 this.2]
 | [],_::_,h=>by simp[X0]at h
 | _::_,[],h=>by simp[X0]at h
theorem Zbz:∀(a b:List D),a.length=b.length->(qj a.length).all (λj=>ZM (a.getD j .non) (b.getD j .non))=X0 a b
 | [],[],_=>rfl
 | a::as,b::bs,h=>by
  have h':=by simpa using h
  rw[zB,qaH,qbh,List.all_map,X0,<-Zbz as bs h'];rfl
 | [],_::_,h=>by simp at h
 | _::_,[],h=>by simp at h
theorem Zf0:∀(a b:List D),((qj (min a.length b.length)).all (λj=>ZM (a.getD j .non) (b.getD j .non))&&a.length==b.length)=X0 a b:=λa b=>by
 by_cases h:a.length=b.length
 ·rw[<-Zbz a b h,h];simp
 ·have:X0 a b=false:=by
   cases e:X0 a b with
   | false=>rfl
   | true=>exact absurd (Zc3 e) h
  simp_all
mutual
theorem Zo.inj {G:Gh}{H:Hp}:∀{d e:D} {v:V},Zr d=true->Zr e=true->Zo G H d v->Zo G H e v->d=e
 | .non,e,v,_,pe,h,h'=>by
  rw[jg.mp h]at h'
  cases e <;> first | rfl | (simp[Zr]at pe;done) | (simp[Zo]at h')
 | .bl b,e,v,_,pe,h,h'=>by
  rw[je.mp h]at h'
  cases e <;> first | (simp[Zr]at pe;done) | (simp[Zo]at h';rw[h']) | (simp[Zo]at h')
 | .int b,e,v,_,pe,h,h'=>by
  rw[ja.mp h]at h'
  cases e <;> first | (simp[Zr]at pe;done) | (simp[Zo]at h';rw[h']) | (simp[Zo]at h')
 | .str b,e,v,_,pe,h,h'=>by
  rw[jh.mp h]at h'
  cases e <;> first | (simp[Zr]at pe;done) | (simp[Zo]at h';rw[h']) | (simp[Zo]at h')
 | .tup ds,e,v,pd,pe,h,h'=>by
  obtain⟨a,vs,rfl,n,q,r⟩:=jc.mp h
  cases e with
  | tup es=>
   obtain⟨a',vs',e',n',q',r'⟩:=jc.mp h'
   cases e'
   rw[q]at q';cases q';rw[Zk.inj (by simpa[Zr]using pd) (by simpa[Zr]using pe) r r']
  | lst es=>
   obtain⟨a',vs',e',n',q',r'⟩:=jb.mp h'
   cases e'
   rw[q]at q';cases q'
  | _=>first | (simp[Zo]at h';done) | (simp[Zr]at pe;done)
 | .lst ds,e,v,pd,pe,h,h'=>by
  obtain⟨a,vs,rfl,n,q,r⟩:=jb.mp h
  cases e with
  | lst es=>
   obtain⟨a',vs',e',n',q',r'⟩:=jb.mp h'
   cases e'
   rw[q]at q';cases q';rw[Zk.inj (by simpa[Zr]using pd) (by simpa[Zr]using pe) r r']
  | tup es=>
   obtain⟨a',vs',e',n',q',r'⟩:=jc.mp h'
   cases e'
   rw[q]at q';cases q'
  | _=>first | (simp[Zo]at h';done) | (simp[Zr]at pe;done)
 | .dk _,_,_,pd,_,_,_=>by simp[Zr]at pd
 | .dt _,_,_,pd,_,_,_=>by simp[Zr]at pd
 | .du _,_,_,pd,_,_,_=>by simp[Zr]at pd
 | .df _,_,_,pd,_,_,_=>by simp[Zr]at pd
 | .pen,_,_,pd,_,_,_=>by simp[Zr]at pd
 | .ty _,_,_,pd,_,_,_=>by simp[Zr]at pd
 | .clo _ _,_,_,pd,_,_,_=>by simp[Zr]at pd
theorem Zk.inj {G:Gh}{H:Hp}:∀{ds es:List D} {vs:List V},YX ds=true->YX es=true->Zk G H ds vs->Zk G H es vs->ds=es
 | [],es,vs,_,pe,h,h'=>by
  rw[Zk.nil_iff.mp h]at h'
  cases es with
  | nil=>rfl
  | cons e es=>obtain⟨v,r,e1,_⟩:=jd.mp h';cases e1
 | d::ds,es,vs,pd,pe,h,h'=>by
  obtain⟨v,r,rfl,r1,r2⟩:=jd.mp h;have pd':Zr d=true/\YX ds=true:=by simpa[YX]using pd
  cases es with
  | nil=>have:=Zk.nil_iff.mp h';cases this
  | cons e es=>
   obtain⟨v',r',e1,r1',r2'⟩:=jd.mp h'
   cases e1
   have pe':Zr e=true/\YX es=true:=by simpa[YX]using pe
   rw[Zo.inj pd'.1 pe'.1 r1 r1',Zk.inj pd'.2 pe'.2 r2 r2']
end
section
variable {X:Cx}{G:Gh}{jM:Qb}{σ:St}{Hf H:Hp}{s:Shared}
theorem Zbi (A:xC):A.in1.units=A.units+1:=rfl
theorem ZcH (r:Zk G Hf ds vs)(rv:ZB vs us)(h:j<us.toArray.size):∃v,Zo G Hf (ds.getD j .non) v/\ZF v us.toArray[j]/\ds.getD j .non∈ds:=by
 have hl:j<ds.length:=by rw[r.length,rv.length];omega
 have e:ds[j]?=some (ds.getD j .non):=by simp[hl]
 obtain⟨v,h1,h2⟩:=r.get e;obtain⟨u,h3,h4⟩:=rv.get h1;refine⟨v,h2,?_,?_⟩
 ·have:us.toArray[j]=u:=by
   have h':j<us.length:=by omega
   simp_all
  simp_all
 ·simp[hl]
theorem Zk4 (I:Inv X jM σ H s)(e1:Zz G Hf H):∀(n:Nat) (A:xC) (d e:D) (x y:V) (u v:Value),Yz d<=n->Yz e<=n->A.units+n+1<cLine->Zr d=true->Zr e=true->Zo G Hf d x->Zo G Hf e y->ZF x u->ZF y v->
  y6 A s u v (ZM d e)/\qb8 A s u v (ZM d e)/\qbt A s u v (!ZM d e):=by
 intro n
 induction n with
 | zero=>
  intro A d e x y u v hd he hu pd pe rd re ru rv;have hu':A.units<cLine:=by omega
  cases d with
  | tup ds=>simp[Yz]at hd
  | lst ds=>simp[Yz]at hd
  | dk _=>simp[Zr]at pd
  | dt _=>simp[Zr]at pd
  | du _=>simp[Zr]at pd
  | df _=>simp[Zr]at pd
  | pen=>simp[Zr]at pd
  | ty _=>simp[Zr]at pd
  | clo _ _=>simp[Zr]at pd
  | non=>
   rw[jg.mp rd]at ru
   cases (show u=qW from ru)
   cases e with
   | tup ds=>simp[Yz]at he
   | lst ds=>simp[Yz]at he
   | dk _=>simp[Zr]at pe
   | dt _=>simp[Zr]at pe
   | du _=>simp[Zr]at pe
   | df _=>simp[Zr]at pe
   | pen=>simp[Zr]at pe
   | ty _=>simp[Zr]at pe
   | clo _ _=>simp[Zr]at pe
   | non=>rw[jg.mp re]at rv;cases (show v=qW from rv);simp only[ZM];exact⟨.same _,.none_none,.none_none⟩
   | bl b=>rw[je.mp re]at rv;cases (show v=zP b from rv);simp only[ZM];exact⟨.none_bool b,.none_bool b,.none_bool b⟩
   | int b=>rw[ja.mp re]at rv;obtain⟨t,rfl⟩:=rv;simp only[ZM];exact⟨.none_int b t,.none_int b t,.none_int b t⟩
   | str b=>rw[jh.mp re]at rv;obtain⟨t,rfl⟩:=rv;simp only[ZM];exact⟨.none_str b t,.none_str b t,.none_str b t⟩
  | bl a=>
   rw[je.mp rd]at ru
   cases (show u=zP a from ru)
   cases e with
   | tup ds=>simp[Yz]at he
   | lst ds=>simp[Yz]at he
   | dk _=>simp[Zr]at pe
   | dt _=>simp[Zr]at pe
   | du _=>simp[Zr]at pe
   | df _=>simp[Zr]at pe
   | pen=>simp[Zr]at pe
   | ty _=>simp[Zr]at pe
   | clo _ _=>simp[Zr]at pe
   | non=>rw[jg.mp re]at rv;cases (show v=qW from rv);simp only[ZM];exact⟨.bool_none a,.bool_none a,.bool_none a⟩
   | bl b=>rw[je.mp re]at rv;cases (show v=zP b from rv);simp only[ZM];exact⟨.bool_bool a b,.bool_bool a b,.bool_bool a b⟩
   | int b=>rw[ja.mp re]at rv;obtain⟨t,rfl⟩:=rv;simp only[ZM];exact⟨.bool_int a b t,.bool_int a b t,.bool_int a b t⟩
   | str b=>rw[jh.mp re]at rv;obtain⟨t,rfl⟩:=rv;simp only[ZM];exact⟨.bool_str a b t,.bool_str a b t,.bool_str a b t⟩
  | int a=>
   rw[ja.mp rd]at ru;obtain⟨ta,rfl⟩:=ru
   cases e with
   | tup ds=>simp[Yz]at he
   | lst ds=>simp[Yz]at he
   | dk _=>simp[Zr]at pe
   | dt _=>simp[Zr]at pe
   | du _=>simp[Zr]at pe
   | df _=>simp[Zr]at pe
   | pen=>simp[Zr]at pe
   | ty _=>simp[Zr]at pe
   | clo _ _=>simp[Zr]at pe
   | non=>rw[jg.mp re]at rv;cases (show v=qW from rv);simp only[ZM];exact⟨.int_none a ta,.int_none a ta,.int_none a ta⟩
   | bl b=>rw[je.mp re]at rv;cases (show v=zP b from rv);simp only[ZM];exact⟨.int_bool a ta b,.int_bool a ta b,.int_bool a ta b⟩
   | int b=>rw[ja.mp re]at rv;obtain⟨t,rfl⟩:=rv;simp only[ZM];exact⟨.int_int a ta b t,.int_int a ta b t,.int_int a ta b t⟩
   | str b=>rw[jh.mp re]at rv;obtain⟨t,rfl⟩:=rv;simp only[ZM];exact⟨.int_str a ta b t,.int_str a ta b t,.int_str a ta b t⟩
  | str a=>
   rw[jh.mp rd]at ru;obtain⟨ta,rfl⟩:=ru
   cases e with
   | tup ds=>simp[Yz]at he
   | lst ds=>simp[Yz]at he
   | dk _=>simp[Zr]at pe
   | dt _=>simp[Zr]at pe
   | du _=>simp[Zr]at pe
   | df _=>simp[Zr]at pe
   | pen=>simp[Zr]at pe
   | ty _=>simp[Zr]at pe
   | clo _ _=>simp[Zr]at pe
   | non=>rw[jg.mp re]at rv;cases (show v=qW from rv);simp only[ZM];exact⟨.str_none a ta,.str_none a ta,.str_none a ta⟩
   | bl b=>rw[je.mp re]at rv;cases (show v=zP b from rv);simp only[ZM];exact⟨.str_bool a ta b,.str_bool a ta b,.str_bool a ta b⟩
   | int b=>rw[ja.mp re]at rv;obtain⟨t,rfl⟩:=rv;simp only[ZM];exact⟨.str_int a ta b t,.str_int a ta b t,.str_int a ta b t⟩
   | str b=>rw[jh.mp re]at rv;obtain⟨t,rfl⟩:=rv;simp only[ZM];exact⟨.str_str a ta b t,.str_str a ta b t,.str_str a ta b t⟩
 | succ n ih=>
  intro A d e x y u v hd he hu pd pe rd re ru rv;have hu':A.units<cLine:=by omega
  by_cases hs:Yz d<=n/\Yz e<=n
  ·exact ih A d e x y u v hs.1 hs.2 (by omega) pd pe rd re ru rv
  -- two refs
  have same:∀{l b:Addr},x=.ref l->y=.ref b->l=b->ZM d e=true:=λex ey el=>by
   subst ex ey el;have:=Zo.inj pd pe rd re;subst this;exact Zc2 d pd
  cases d with
  | dk _=>simp[Zr]at pd
  | dt _=>simp[Zr]at pd
  | du _=>simp[Zr]at pd
  | df _=>simp[Zr]at pd
  | pen=>simp[Zr]at pd
  | ty _=>simp[Zr]at pd
  | clo _ _=>simp[Zr]at pd
  | tup ds=>
   obtain⟨l,vs,rfl,nl,hl,rl⟩:=jc.mp rd
   cases (show u=qH l from ru)
   obtain⟨jO,rits,pits,_⟩:=I.tuple (ZO.of (K:=X.K) (e1 _ _ nl hl));have il:s.heap.IsTuple l jO.toArray:=pits
   cases e with
   | dk _=>simp[Zr]at pe
   | dt _=>simp[Zr]at pe
   | du _=>simp[Zr]at pe
   | df _=>simp[Zr]at pe
   | pen=>simp[Zr]at pe
   | ty _=>simp[Zr]at pe
   | clo _ _=>simp[Zr]at pe
   | non=>rw[jg.mp re]at rv;cases (show v=qW from rv);simp only[ZM];exact⟨.tuple_none il hu',.tuple_none il hu',.tuple_none il hu'⟩
   | bl b=>rw[je.mp re]at rv;cases (show v=zP b from rv);simp only[ZM];exact⟨.tuple_bool b il hu',.tuple_bool b il hu',.tuple_bool b il hu'⟩
   | int b=>rw[ja.mp re]at rv;obtain⟨t,rfl⟩:=rv;simp only[ZM];exact⟨.tuple_int b t il hu',.tuple_int b t il hu',.tuple_int b t il hu'⟩
   | str b=>rw[jh.mp re]at rv;obtain⟨t,rfl⟩:=rv;simp only[ZM];exact⟨.tuple_str b t il hu',.tuple_str b t il hu',.tuple_str b t il hu'⟩
   | lst es=>
    obtain⟨b,ws,rfl,nb,hb,rb⟩:=jb.mp re
    cases (show v=qH b from rv)
    obtain⟨kb,kt,j7,_⟩:=I.list (ZD.of (K:=X.K) (e1 _ _ nb hb));simp only[ZM];exact⟨.tuple_list il j7.isList hu',.tuple_list il j7.isList hu',.tuple_list il j7.isList hu'⟩
   | tup es=>
    obtain⟨b,ws,rfl,nb,hb,rb⟩:=jc.mp re
    cases (show v=qH b from rv)
    obtain⟨kb,kt,j7,_⟩:=I.tuple (ZO.of (K:=X.K) (e1 _ _ nb hb));have ib:s.heap.IsTuple b kb.toArray:=j7;have hit:∀j (h1:j<jO.toArray.size) (h2:j<kb.toArray.size),y6 A.in1 s jO.toArray[j] kb.toArray[j] ((λj=>ZM (ds.getD j .non) (es.getD j .non)) j):=λj h1 h2=>by
     obtain⟨v1,a1,a2,a3⟩:=ZcH rl rits h1;obtain⟨v2,b1,b2,b3⟩:=ZcH rb kt h2;exact(ih A.in1 _ _ v1 v2 _ _ (qY (JI a3) (by simp[Yz]at hd;omega)) (qY (JI b3) (by simp[Yz]at he;omega)) (by rw[Zbi];omega)
      (UV (by simpa[Zr]using pd) a3) (UV (by simpa[Zr]using pe) b3) a1 b1 a2 b2).1
    have sz1:jO.toArray.size=ds.length:=by rw[rl.length,rits.length];simp
    have sz2:kb.toArray.size=es.length:=by rw[rb.length,kt.length];simp
    have rc:=qb8.tuples (e:=λj=>ZM (ds.getD j .non) (es.getD j .non)) il ib hu' hit;have rn:=qbt.tuples (e:=λj=>ZM (ds.getD j .non) (es.getD j .non)) il ib hu' hit;rw[sz1,sz2,Zf0]at rc rn;simp only[ZM];refine⟨?_,rc,rn⟩;by_cases hlb:l=b
    ·have q:=same rfl rfl hlb
     simp only[ZM]at q;subst hlb;rw[q];exact .same _
    ·exact .of_refs hlb rc
  | lst ds=>
   obtain⟨l,vs,rfl,nl,hl,rl⟩:=jb.mp rd
   cases (show u=qH l from ru)
   obtain⟨jO,rits,pits,_⟩:=I.list (ZD.of (K:=X.K) (e1 _ _ nl hl));have il:=pits.isList
   cases e with
   | dk _=>simp[Zr]at pe
   | dt _=>simp[Zr]at pe
   | du _=>simp[Zr]at pe
   | df _=>simp[Zr]at pe
   | pen=>simp[Zr]at pe
   | ty _=>simp[Zr]at pe
   | clo _ _=>simp[Zr]at pe
   | non=>rw[jg.mp re]at rv;cases (show v=qW from rv);simp only[ZM];exact⟨.list_none il hu',.list_none il hu',.list_none il hu'⟩
   | bl b=>rw[je.mp re]at rv;cases (show v=zP b from rv);simp only[ZM];exact⟨.list_bool b il hu',.list_bool b il hu',.list_bool b il hu'⟩
   | int b=>rw[ja.mp re]at rv;obtain⟨t,rfl⟩:=rv;simp only[ZM];exact⟨.list_int b t il hu',.list_int b t il hu',.list_int b t il hu'⟩
   | str b=>rw[jh.mp re]at rv;obtain⟨t,rfl⟩:=rv;simp only[ZM];exact⟨.list_str b t il hu',.list_str b t il hu',.list_str b t il hu'⟩
   | tup es=>
    obtain⟨b,ws,rfl,nb,hb,rb⟩:=jc.mp re
    cases (show v=qH b from rv)
    obtain⟨kb,kt,j7,_⟩:=I.tuple (ZO.of (K:=X.K) (e1 _ _ nb hb));have ib:s.heap.IsTuple b kb.toArray:=j7;simp only[ZM];exact⟨.list_tuple il ib hu',.list_tuple il ib hu',.list_tuple il ib hu'⟩
   | lst es=>
    obtain⟨b,ws,rfl,nb,hb,rb⟩:=jb.mp re
    cases (show v=qH b from rv)
    obtain⟨kb,kt,j7,_⟩:=I.list (ZD.of (K:=X.K) (e1 _ _ nb hb));have ib:=j7.isList;have hit:∀j (h1:j<jO.toArray.size) (h2:j<kb.toArray.size),y6 A.in1 s jO.toArray[j] kb.toArray[j] ((λj=>ZM (ds.getD j .non) (es.getD j .non)) j):=λj h1 h2=>by
     obtain⟨v1,a1,a2,a3⟩:=ZcH rl rits h1;obtain⟨v2,b1,b2,b3⟩:=ZcH rb kt h2;exact(ih A.in1 _ _ v1 v2 _ _ (qY (JI a3) (by simp[Yz]at hd;omega)) (qY (JI b3) (by simp[Yz]at he;omega)) (by rw[Zbi];omega)
      (UV (by simpa[Zr]using pd) a3) (UV (by simpa[Zr]using pe) b3) a1 b1 a2 b2).1
    have sz1:jO.toArray.size=ds.length:=by rw[rl.length,rits.length];simp
    have sz2:kb.toArray.size=es.length:=by rw[rb.length,kt.length];simp
    have key:qb8 A s (.ref l) (.ref b) (X0 ds es)/\qbt A s (.ref l) (.ref b) (!X0 ds es):=by
     by_cases hsz:ds.length=es.length
     ·have rc:=qb8.lists (e:=λj=>ZM (ds.getD j .non) (es.getD j .non)) il ib (by rw[sz1,sz2];exact hsz) hu' hit
      have rn:=qbt.lists (e:=λj=>ZM (ds.getD j .non) (es.getD j .non)) il ib (by rw[sz1,sz2];exact hsz) hu' hit;rw[sz1,Zbz ds es hsz]at rc rn;exact⟨rc,rn⟩
     ·have hne:(jO.toArray.size != kb.toArray.size)=true:=by rw[sz1,sz2];simpa using hsz
      have hf:X0 ds es=false:=by
       cases e:X0 ds es with
       | false=>rfl
       | true=>exact absurd (Zc3 e) hsz
      rw[hf];exact⟨.lists_lengths il ib hne hu',.lists_lengths il ib hne hu'⟩
    simp only[ZM];refine⟨?_,key.1,key.2⟩;by_cases hlb:l=b
    ·have q:=same rfl rfl hlb
     simp only[ZM]at q;subst hlb;rw[q];exact .same _
    ·exact .of_refs hlb key.1
  | non=>
   rw[jg.mp rd]at ru
   cases (show u=qW from ru)
   cases e with
   | tup es=>
    obtain⟨b,ws,rfl,nb,hb,rb⟩:=jc.mp re
    cases (show v=qH b from rv)
    obtain⟨kb,kt,j7,_⟩:=I.tuple (ZO.of (K:=X.K) (e1 _ _ nb hb));have ib:s.heap.IsTuple b kb.toArray:=j7;simp only[ZM];exact⟨.none_tuple ib hu',.none_tuple ib hu',.none_tuple ib hu'⟩
   | lst es=>
    obtain⟨b,ws,rfl,nb,hb,rb⟩:=jb.mp re
    cases (show v=qH b from rv)
    obtain⟨kb,kt,j7,_⟩:=I.list (ZD.of (K:=X.K) (e1 _ _ nb hb));have ib:=j7.isList;simp only[ZM];exact⟨.none_list ib hu',.none_list ib hu',.none_list ib hu'⟩
   | _=>simp[Yz]at hs
  | bl a=>
   rw[je.mp rd]at ru
   cases (show u=zP a from ru)
   cases e with
   | tup es=>
    obtain⟨b,ws,rfl,nb,hb,rb⟩:=jc.mp re
    cases (show v=qH b from rv)
    obtain⟨kb,kt,j7,_⟩:=I.tuple (ZO.of (K:=X.K) (e1 _ _ nb hb));have ib:s.heap.IsTuple b kb.toArray:=j7;simp only[ZM];exact⟨.bool_tuple a ib hu',.bool_tuple a ib hu',.bool_tuple a ib hu'⟩
   | lst es=>
    obtain⟨b,ws,rfl,nb,hb,rb⟩:=jb.mp re
    cases (show v=qH b from rv)
    obtain⟨kb,kt,j7,_⟩:=I.list (ZD.of (K:=X.K) (e1 _ _ nb hb));have ib:=j7.isList;simp only[ZM];exact⟨.bool_list a ib hu',.bool_list a ib hu',.bool_list a ib hu'⟩
   | _=>simp[Yz]at hs
  | int a=>
   rw[ja.mp rd]at ru;obtain⟨ta,rfl⟩:=ru
   cases e with
   | tup es=>
    obtain⟨b,ws,rfl,nb,hb,rb⟩:=jc.mp re
    cases (show v=qH b from rv)
    obtain⟨kb,kt,j7,_⟩:=I.tuple (ZO.of (K:=X.K) (e1 _ _ nb hb));have ib:s.heap.IsTuple b kb.toArray:=j7;simp only[ZM];exact⟨.int_tuple a ta ib hu',.int_tuple a ta ib hu',.int_tuple a ta ib hu'⟩
   | lst es=>
    obtain⟨b,ws,rfl,nb,hb,rb⟩:=jb.mp re
    cases (show v=qH b from rv)
    obtain⟨kb,kt,j7,_⟩:=I.list (ZD.of (K:=X.K) (e1 _ _ nb hb));have ib:=j7.isList;simp only[ZM];exact⟨.int_list a ta ib hu',.int_list a ta ib hu',.int_list a ta ib hu'⟩
   | _=>simp[Yz]at hs
  | str a=>
   rw[jh.mp rd]at ru;obtain⟨ta,rfl⟩:=ru
   cases e with
   | tup es=>
    obtain⟨b,ws,rfl,nb,hb,rb⟩:=jc.mp re
    cases (show v=qH b from rv)
    obtain⟨kb,kt,j7,_⟩:=I.tuple (ZO.of (K:=X.K) (e1 _ _ nb hb));have ib:s.heap.IsTuple b kb.toArray:=j7;simp only[ZM];exact⟨.str_tuple a ta ib hu',.str_tuple a ta ib hu',.str_tuple a ta ib hu'⟩
   | lst es=>
    obtain⟨b,ws,rfl,nb,hb,rb⟩:=jb.mp re
    cases (show v=qH b from rv)
    obtain⟨kb,kt,j7,_⟩:=I.list (ZD.of (K:=X.K) (e1 _ _ nb hb));have ib:=j7.isList;simp only[ZM];exact⟨.str_list a ta ib hu',.str_list a ta ib hu',.str_list a ta ib hu'⟩
   | _=>simp[Yz]at hs
end
section
variable {X:Cx}{G:Gh}
def V1 (d e:D):Bool:=Zr d&&Zr e&&decide (Yz d<=60)&&decide (Yz e<=60)
theorem Zem (h:V1 d e=true):Zr d=true/\Zr e=true/\Yz d<=60/\Yz e<=60:=by
 simp only[V1]at h;simp_all
def Xk (d e:D):Option D:=if V1 d e=true then some (.bl (ZM d e))else none
def Y9 (d e:D):Option D:=if V1 d e=true then some (.bl (!ZM d e))else none
def rEqD (G:Gh)(neg:Bool):R2:=λx y H Q=>∃Hf d e,Zz G Hf H/\V1 d e=true/\Zo G Hf d x/\Zo G Hf e y/\Q (.bl (if neg then !ZM d e else ZM d e)) H
theorem ZoL (hu:X.A.units+64<cLine):Yl X (xk .Eq) (rEqD G false):=by
 intro jM s σ H x y v u Q I rx ry h;obtain⟨Hf,d,e,e1,ok,rd,re,q⟩:=h;obtain⟨o1,o2,o3,o4⟩:=Zem ok;exact(Zk4 I e1 60 X.A d e x y v u o3 o4 (by omega) o1 o2 rd re rx ry).2.1 _ _ _ _ ⟨.bl (ZM d e),H,I,rfl,q⟩
theorem ZoM (hu:X.A.units+64<cLine):Yl X (xk .NotEq) (rEqD G true):=by
 intro jM s σ H x y v u Q I rx ry h;obtain⟨Hf,d,e,e1,ok,rd,re,q⟩:=h;obtain⟨o1,o2,o3,o4⟩:=Zem ok;exact(Zk4 I e1 60 X.A d e x y v u o3 o4 (by omega) o1 o2 rd re rx ry).2.2 _ _ _ _ ⟨.bl (!ZM d e),H,I,rfl,q⟩
theorem Uf (hu:X.A.units+64<cLine):XD X G (xk .Eq) Xk:=
 ⟨_,ZoL hu,λHf H s x y d e c Q e1 st rx ry q k=>by
  unfold Xk at q;split at q
  ·rename_i ok
   cases q
   exact⟨Hf,d,e,e1,ok,rx,ry,k _ Hf H (.refl e1) st (je.mpr rfl) (.scal λz=>z)⟩
  ·cases q⟩
theorem Ug (hu:X.A.units+64<cLine):XD X G (xk .NotEq) Y9:=
 ⟨_,ZoM hu,λHf H s x y d e c Q e1 st rx ry q k=>by
  unfold Y9 at q;split at q
  ·rename_i ok
   cases q
   exact⟨Hf,d,e,e1,ok,rx,ry,k _ Hf H (.refl e1) st (je.mpr rfl) (.scal λz=>z)⟩
  ·cases q⟩
def Vy (x:D)(ds:List D):Bool:=Zr x&&YX ds&&decide (Yz x<=60)&&decide (XM ds<=60)
def VC (x:D)(ds:List D):Bool:=ds.any λd=>ZM d x
theorem Zjr (h:Vy x ds=true):Zr x=true/\YX ds=true/\Yz x<=60/\XM ds<=60:=by
 simp only[Vy]at h;simp_all
open Classical in
noncomputable def Jj (G:Gh)(Hf:Hp)(x:D)(u:Value):Bool:=if h:∃d v,Zr d=true/\Zo G Hf d v/\ZF v u then ZM h.choose x else false
theorem Zim (pd:Zr d=true)(r:Zo G Hf d v)(ru:ZF v u):Jj G Hf x u=ZM d x:=by
 have h:∃d v,Zr d=true/\Zo G Hf d v/\ZF v u:=⟨d,v,pd,r,ru⟩;unfold Jj;rw[dif_pos h];obtain⟨v',p',r',ru'⟩:=h.choose_spec;have ev:=ZF.inj ru' ru;subst ev;rw[Zo.inj p' pd r' r]
theorem Zf1:∀{ds:List D} {vs:List V} {us:List Value},YX ds=true->Zk G Hf ds vs->ZB vs us->us.any (Jj G Hf x)=VC x ds
 | [],vs,us,_,r,rv=>by
  rw[Zk.nil_iff.mp r]at rv
  cases rv
  rfl
 | d::ds,vs,us,p,r,rv=>by
  obtain⟨v,rr,rfl,r1,r2⟩:=jd.mp r;have p':=by simpa[YX]using p
  cases rv with
  | cons a b=>
   rw[qbg,Zim p'.1 r1 a,Zf1 p'.2 r2 b];rfl
theorem Zf2:∀{ds:List D} {vs:List V} {us:List Value} {u:Value},Zk G Hf ds vs->ZB vs us->u∈us->∃d v,d∈ds/\Zo G Hf d v/\ZF v u
 | [],vs,us,u,r,rv,m=>by
  rw[Zk.nil_iff.mp r]at rv
  cases rv
  simp at m
 | d::ds,vs,us,u,r,rv,m=>by
  obtain⟨v,rr,rfl,r1,r2⟩:=jd.mp r
  cases rv with
  | cons a b=>
   rcases qu.mp m with e | m
   ·subst e;exact⟨d,v,by simp,r1,a⟩
   ·obtain⟨d',v',m',h1,h2⟩:=Zf2 r2 b m
    exact⟨d',v',by simp[m'],h1,h2⟩
def rInD (G:Gh)(neg:Bool):R2:=λx y H Q=>∃Hf d ds,Zz G Hf H/\Vy d ds=true/\Zo G Hf d x/\(Zo G Hf (.lst ds) y∨Zo G Hf (.tup ds) y)/\Q (.bl (if neg then !VC d ds else VC d ds)) H
theorem ZcI {σ:St}(hu:X.A.units+64<cLine)(I:Inv X jM σ H s)(e1:Zz G Hf H)(ok:Vy d ds=true)(rd:Zo G Hf d x)(rx:ZF x v)
  (rl:Zk G Hf ds vs) (rv:ZB vs jO):(∀y,y∈jO.toArray->y6 X.A.in1 s y v (Jj G Hf d y))/\jO.toArray.any (Jj G Hf d)=VC d ds:=by
 obtain⟨o1,o2,o3,o4⟩:=Zjr ok;refine⟨λy hy=>?_,?_⟩
 ·obtain⟨c,w,m,h1,h2⟩:=Zf2 rl rv (by simpa using hy)
  rw[Zim (UV o2 m) h1 h2];exact(Zk4 I e1 60 X.A.in1 c d w x y v (qY (JI m) o4) o3 (by grind) (UV o2 m) o1 h1 rd h2 rx).1
 ·rw[show jO.toArray.any (Jj G Hf d)=jO.any (Jj G Hf d) by simp,Zf1 o2 rl rv]
theorem ZoN (hu:X.A.units+64<cLine):Yl X (xk .In) (rInD G false):=by
 intro jM s σ H x y v u Q I rx ry h;obtain⟨Hf,d,ds,e1,ok,rd,hl,q⟩:=h;rcases hl with hl | hl
 ·obtain⟨p,vs,rfl,np,hp,rp⟩:=jb.mp hl
  cases (show u=qH p from ry)
  obtain⟨jO,rv,pl,hz⟩:=I.list (ZD.of (e1 _ _ np hp));obtain⟨c1,c2⟩:=ZcI hu I e1 ok rd rx rp rv;refine SeqAt.in_listAt _ pl.isList c1 ⟨.bl _,H,I,rfl,?_⟩;rw[c2];exact q
 ·obtain⟨p,vs,rfl,np,hp,rp⟩:=jc.mp hl
  cases (show u=qH p from ry)
  obtain⟨jO,rv,pl,hz⟩:=I.tuple (ZO.of (e1 _ _ np hp));obtain⟨c1,c2⟩:=ZcI hu I e1 ok rd rx rp rv;refine SeqAt.in_tupleAt _ pl c1 ⟨.bl _,H,I,rfl,?_⟩;rw[c2];exact q
theorem Zjs (hu:X.A.units+64<cLine):Yl X (xk .NotIn) (rInD G true):=by
 intro jM s σ H x y v u Q I rx ry h;obtain⟨Hf,d,ds,e1,ok,rd,hl,q⟩:=h;rcases hl with hl | hl
 ·obtain⟨p,vs,rfl,np,hp,rp⟩:=jb.mp hl
  cases (show u=qH p from ry)
  obtain⟨jO,rv,pl,hz⟩:=I.list (ZD.of (e1 _ _ np hp));obtain⟨c1,c2⟩:=ZcI hu I e1 ok rd rx rp rv;refine SeqAt.notIn_listAt _ pl.isList c1 ⟨.bl _,H,I,rfl,?_⟩;rw[c2];exact q
 ·obtain⟨p,vs,rfl,np,hp,rp⟩:=jc.mp hl
  cases (show u=qH p from ry)
  obtain⟨jO,rv,pl,hz⟩:=I.tuple (ZO.of (e1 _ _ np hp));obtain⟨c1,c2⟩:=ZcI hu I e1 ok rd rx rp rv;refine SeqAt.notIn_tupleAt _ pl c1 ⟨.bl _,H,I,rfl,?_⟩;rw[c2];exact q
end
theorem Zjt:typeLookup (.type "list") "keys" = pure none:=by rfl
theorem ZaC:entryFor table "dict.update.loop" = some Builtin.«dict.update.loop»:=entryFor_of_tree (by kernel_rfl)
theorem Zaa:plainId "dict.update.loop" = true:=by decide +kernel
theorem ZbA {prog:xB}{w:World}{A:xC}{E:xD}{s:Shared}{a:Addr}{o:Obj}{xs:Array Value}{k:Nat}{Q:Option Value->Shared->Prop}
  (hx:s.heap.get? a=some o) (hc:o.cls=.type "list") (hdat:o.data=.seq xs k) (hd:o.dict=none) (hA:A.handled=none)
  (h:∀h' tk,(∀b o,s.heap.get? b=some o->h'.get? b=some o)->Q none { s with heap:=h',toks:=tk }) :
  xf (xz prog w) A (getAttr? (.ref a) "keys") Q E s:=by
 have hmiss:=Zjt;have hname:(["__module__","__name__","__qualname__","__doc__","__annotations__"]:List Str).contains ("keys" : Str)=false:=by decide +kernel
 have hsz:("keys" : Str).length+100<=xg:=by decide +kernel
 obtain⟨c,dct,dat,sl⟩:=o;simp only at hc hdat hd;subst hc hdat hd;obtain⟨hp,g,d,tk,os⟩:=s;have hT:∀tk',(⟨hp,g,d,tk',os⟩:Shared).TypeIs (.ref a) "list":=λ_=>⟨_,hx,rfl⟩;have f1:=sub_AttributeError;have f3:=qam.lookup;have f4:=qam.bind (.ref a);have f5:=am_list_getattr_none;unfold getAttr? getAttrBy?;refine xa ?_;refine wpAny_mkText ?_;refine xa (wpAny_attempt ?_);unfold getAttrBy
 repeat (any_goals (first | assumption | exact hT _ | ((with_reducible show xf _ _ (call (yM "list.__getattribute__") _ _) _ _ _);refine call_meets qam (hT _) am_entry_list_getattribute (F.args_list_getattribute_2 _ _) (meets_getattribute_miss_list a xs k sl "keys" _ hmiss hname hsz) ⟨hx,hA,λh' tk' e hx'=>?_⟩) | wp_step))
 obtain⟨t',u',he⟩:=hx'.there;have hTe:∀tk',(⟨h',g,d,tk',os⟩:Shared).TypeIs (.ref e) "AttributeError":=λ_=>⟨_,he,rfl⟩;have fin:∀tk',xf (xz prog w) A (do
   let b<-isInstance (.ref e) (.type "AttributeError")
   if b=true then pure none else throw (.ref e)) Q E ⟨h',g,d,tk',os⟩:=λtk'=>by
  refine xa (wpAny_isInstance (hTe _) f1 ?_);simp only[if_true];exact xb (h h' tk' hx'.of.keeps)
 show xf _ _ (getattributeRaised _ _ _ _ _ _ _) _ _ _;unfold getattributeRaised
 repeat (any_goals (first | assumption | exact fin _ | wp_step))
section
variable {X:Cx}{jM:Qb}{σ:St}{H:Hp}{s:Shared}{A:xC}{E:xD}{a:Addr}{y v:V}{u r:Value}
theorem Zju (hu:A.units<cLine)(I:Inv X jM σ H s)(g:WJ H a y v H')(ry:ZF y u)(rv:ZF v r)(h:∀s',Inv X jM σ H' s'->Q () s') :
  xf (xz X.prog X.w) A (dictSet a u r) Q E s:=by
 rcases g with⟨kvs,k,e,ey,l,eH⟩ | ⟨kvs,k,b,e,ey,eb,l,eH⟩
 ·subst ey eH
  obtain⟨z,hd,vs,rel,dd⟩:=ZkR I.hok e;have hz:vs.length<=xg:=by rw[<-rel.length];exact z
  have hl:(Yf kvs k v).length<=xg:=by have:=Uw kvs k v;omega
  refine wpAny_dictSet_pairs (hsz:=hz) (UF ry) dd λh' dd' hs=>h _ ?_;have he:∃q,h'.get? a=some q:=let ⟨q,_,_,hq,_⟩:=dd';⟨q,hq⟩;exact BH I (by rw[e];exact yf) hs he (Zhe hl hd (rel.put k rv) dd')
 ·subst ey eH
  cases (show u=qH b from ry)
  obtain⟨z,hd,xs,rel,dd⟩:=ZnV I.hok e;have hz:xs.length<=xg:=by rw[<-qbe rel];exact z
  have hl:(Yf kvs k v).length<=xg:=by have:=Uw kvs k v;omega
  refine wpAny_dictSet_heap hu (U3 I.hok eb) dd λh' dd' hs=>h _ ?_;obtain⟨q,es,ep,hq,h2,h3,h4,_,h5⟩:=dd';refine BH I (by rw[e];exact yf) hs ⟨q,hq⟩ ⟨hl,hd,_,(rel.put k eb rv).keeps λc ys ec=>?_,q,es,ep,hq,h2,h3,h4,h5⟩;rw[Zl (ZnN ec e (λz=>nomatch z))];exact ec
end
section
variable {X:Cx}{jM:Qb}{σ:St}
inductive Puts (d:Addr):Hp->List V->Hp->Prop
 | nil {H:Hp}:Puts d H [] H
 | cons {H H1 H2:Hp} {b:Addr} {k v:V} {r:List V}:H b=some (.tup [k,v])->WJ H d k v H1->Puts d H1 r H2->Puts d H (.ref b::r) H2
theorem Zk5 {Q:Shared->Prop}(hA:A.handled=none)(hu:A.units+1<cLine)
  (hQ:∀s',Inv X jM σ H' s'->Q s') (hfp:∀Hx:Hp,Hx it=none->WI X jM Hx it) :
  ∀(k i:Nat) (s:Shared) (H:Hp),vs.length-i=k->i<=vs.length->Inv X jM σ H s->H it=none->s.heap.IsListIter it l i->H l=some (.lst vs)->l≠d->(∀Hx Hy y v,WJ Hx d y v Hy->Hx l=some (.lst vs)->Hy l=some (.lst vs))->Puts d H (vs.drop i) H'->
   xo (xz X.prog X.w) A (.builtin "dict.update.loop" ⟨[.ref d,.ref it,rawInt i,.none],[]⟩) (wants (λr s₂=>r=.none/\Q s₂) E) s:=by
 intro k
 induction k with
 | zero=>
  intro i s H hk hi I hit st hl hne hkeep hp;have hil:i=vs.length:=by omega
  obtain⟨jO,rv,pl,hz⟩:=I.list (ZD.of (K:=X.K) hl);refine xm ZaC ?_;rw[zH Zaa _];show xf _ A.in1 (pyNext (.ref it) >>= _) _ _ s;obtain⟨f0,f1,f2,f3,f4,f5⟩:=hfp H hit;have jW:=rv.length;refine xa (wpAny_pyNext_list_end (A:=A.in1) hA st pl.isList (by simp;omega) λh' eb=>?_);have I2:Inv X jM σ H { s with heap:=h' }:=I.turned (t':=s.toks) (λb o hb e=>eb b o hb e) f0 f1 f3 f4 f5;have e0:vs.drop i=[]:=by rw[hil];simp
  rw[e0]at hp
  cases hp
  show xf _ _ (Builtin.Dict.addKeywords d [] >>= _) _ _ _;refine xa (xb ?_);exact xb ⟨rfl,hQ _ I2⟩
 | succ k ih=>
  intro i s H hk hi I hit st hl hne hkeep hp;have hlt:i<vs.length:=by omega
  obtain⟨jO,rv,pl,hz⟩:=I.list (ZD.of (K:=X.K) hl);have jW:=rv.length;refine xm ZaC ?_;rw[zH Zaa _];show xf _ A.in1 (pyNext (.ref it) >>= _) _ _ s;obtain⟨f0,f1,f2,f3,f4,f5⟩:=hfp H hit;have hd:vs.drop i=vs[i]::vs.drop (i+1):=qaf hlt;rw[hd]at hp;generalize hvi:vs[i]=x at hp;generalize hrest:vs.drop (i+1)=rest at hp
  cases hp with
  | @cons _ H1 _ b k0 v0 _ hb hput hrec=>
   have gx:vs[i]?=some (.ref b):=by rw[qB hlt,hvi]
   obtain⟨u,hu1,ru⟩:=rv.get gx
   cases (show u=qH b from ru)
   refine xa (wpAny_pyNext_list_item (A:=A.in1) st pl.isList (x:=.ref b) (by simpa using hu1) λh' st' sb=>?_);have I1:Inv X jM σ H { s with heap:=h' }:=I.turned (t':=s.toks) (λc o hc e=>(sb.2 c hc).trans e) f0 f1 f3 f4 f5;obtain⟨kb,rv2,pt,_⟩:=I1.tuple (ZO.of (K:=X.K) hb);obtain⟨ku,vu,e2,rk,rvv⟩:=rv2.two;subst e2;obtain⟨o,ho,hoc,n,hod⟩:=id pt;show xf _ _ (holding [qH b] _ >>= _) _ _ _;refine xa (xu ?_);refine xa (wpAny_tryCatch ?_);unfold Builtin.Dict.pairItems;refine xa (wpAny_typeOf (T:="tuple") ⟨o,ho,hoc⟩ ?_);rw[if_pos (by decide)];refine xa (xt ho hod ?_);refine xb ?_;show xf _ _ (holding [ku,vu] (dictSet d ku vu)) _ _ _;refine xu ?_;obtain⟨oi,hoi,ci,di⟩:=id st';have Ip:=I1.pinned (fp:=[it]) (λc hc=>by
    have e:c=it:=by simpa using hc
    subst e;exact hfp H hit) (λc hc=>by
    have e:c=it:=by simpa using hc
    subst e;exact⟨oi,hoi,λw z=>by rw[di]at z;cases z⟩)
   refine Zju (by rw[Zbi];exact hu) Ip hput rk rvv λs2 I2=>?_;have pit:=I2.pin (it,oi) (qk _ (qk _ (Jz (by simp) hoi)));have ec:((i:Int)+1)=((i+1:Nat):Int):=by push_cast;rfl
   show xf _ _ (again (.builtin "dict.update.loop" ⟨[.ref d,.ref it,rawInt ((i:Int)+1),.none],[]⟩)) _ _ _;rw[ec];refine xb ⟨plainId_quiet Zaa _,?_⟩;refine ih (i+1) s2 H1 (by omega) hlt I2.unpinned pit.2.1 ⟨oi,pit.1,ci,di⟩ (hkeep _ _ _ _ hput hl) hne hkeep ?_;rw[hrest];exact hrec
theorem ZbB (hc:X.calm=true)(hu:X.A.units+64<cLine)(tk:Bool):Xi X (.type "dict") (λxs H Q=>∃l vs,xs=[.ref l]/\H l=some (.lst vs)/\∀p,H p=none->∃H',Puts p (Zi H p (if tk then .dT []else .dK [])) vs H'/\Q (.ref p) H'):=by
 intro jM s σ H xs us Q I r h;obtain⟨l,vs,rfl,hl,q⟩:=h;obtain⟨u,rfl,ru⟩:=XT r
 cases (show u=qH l from ru)
 obtain⟨H',puts,q'⟩:=q s.heap.objs.size (I.hok.fresh (qp _));have hA:=I.ok.hd hc;refine callType_codes (Q₁:=λobj s₁=>obj=.ref s.heap.objs.size/\s₁ = { s with heap:=s.heap.push { cls:=.type "dict",data:=.dict #[] } }) F.kt_called_dict (F.kt_typeCall_dict_1 _) F.entry_dict_init (kt_code_dict_new _ ⟨rfl,rfl⟩) ?_;rintro obj s₁ ⟨rfl,rfl⟩;have hbig:=I.big;have I1:Inv X jM σ (Zi H s.heap.objs.size (if tk then .dT []else .dK [])) { s with heap:=s.heap.push { cls:=.type "dict",data:=.dict #[] } }:=
  I.laid (t':=s.toks) (λb o e=>qf _ e) (qp _) (by
   cases tk
   ·exact ZcT s.heap hbig
   ·exact ZkS s.heap hbig)
 have hnew:(s.heap.push { cls:=.type "dict",data:=.dict #[] }).get? s.heap.objs.size=some { cls:=.type "dict",data:=.dict #[] }:=qq _ rfl;have hTd:({ s with heap:=s.heap.push { cls:=.type "dict",data:=.dict #[] } }:Shared).TypeIs (.ref s.heap.objs.size) "dict":=⟨_,hnew,rfl⟩;have hld:l≠s.heap.objs.size:=ZP hl (I.hok.fresh (qp _));have hl1:(Zi H s.heap.objs.size (if tk then HO.dT []else HO.dK [])) l=some (.lst vs):=by rw[Zl hld];exact hl
 obtain⟨zz,jO,n,rits,hlo⟩:=(show Yq X.prog X.w _ _ l (.lst vs)from I1.hok l _ hl1);refine⟨hTd,F.args_dict_init_2 _ _,?_⟩;unfold Builtin.«dict.__init__»;refine xa ?_;unfold Builtin.Dict.selfAndRest;refine xa (wpAny_notOrdered_dict hTd ?_);show xf _ _ (pure (s.heap.objs.size,[qH l])) _ _ _;refine xb ?_;show xf _ _ (qbE "dict.__init__" s.heap.objs.size (.ref l) [] .none) _ _ _;unfold qbE;have hTl:({ s with heap:=s.heap.push { cls:=.type "dict",data:=.dict #[] } }:Shared).TypeIs (.ref l) "list":=⟨_,hlo,rfl⟩;refine xa (wpAny_typeOf hTl ?_);rw[if_pos (by decide)];refine xa (ZbA hlo rfl rfl rfl hA λh2 tk2 kp2=>?_);simp only[Option.isNone_none,if_true];refine xa (wpAny_rule ?_);have I2:Inv X jM σ (Zi H s.heap.objs.size (if tk then .dT []else .dK [])) { s with heap:=h2,toks:=tk2 }:=I1.kept kp2;obtain⟨its',rv',pl',hz'⟩:=I2.list (ZD.of (K:=X.K) hl1);refine xa (wpAny_pyIter_list pl'.isList ?_);refine xb ⟨plainId_quiet Zaa _,?_⟩;have I3:Inv X jM σ (Zi H s.heap.objs.size (if tk then .dT []else .dK [])) { s with heap:=h2.push { cls:=.type "list_iterator",data:=.fields #[.ref l,.int 0 0] },toks:=tk2 }:=I2.kept (t':=tk2) λb o e=>qf _ e;have hfresh:(Zi H s.heap.objs.size (if tk then HO.dT []else HO.dK [])) h2.objs.size=none:=I2.hok.fresh (qp _);have hst:(h2.push { cls:=.type "list_iterator",data:=.fields #[.ref l,.int 0 0] }).IsListIter h2.objs.size l 0:=⟨_,qq _ rfl,rfl,rfl⟩;refine Zk5 (l:=l) (vs:=vs) (H':=H') (A:=X.A.in1) (jM:=jM) (σ:=σ) hA (by rw[Zbi];omega) (λs' I'=>⟨.ref s.heap.objs.size,H',I',rfl,q'⟩) (λHx hn=>I2.fpOk (qp _) hn) vs.length 0 _ _ rfl (za _) I3 hfresh hst hl1 hld ?_ puts;intro Hx Hy y v hput hxl;rcases hput with⟨kvs,k,e,ey,l',eH⟩ | ⟨kvs,k,b,e,ey,eb,l',eH⟩
 ·subst eH;rw[Zl hld];exact hxl
 ·subst eH;rw[Zl hld];exact hxl
end
section
variable {X:Cx}{G:Gh}
def Xs:D->Option ZG
 | .int i=>some (.inl i)
 | .str x=>some (.inr x)
 | _=>none
def Xz:List D->Option (List ZG)
 | []=>some []
 | d::ds=>match Xs d,Xz ds with | some k,some ks=>some (k::ks) | _,_=>none
def Wm:D->Option V
 | .int i=>some (.int i)
 | .bl b=>some (.bl b)
 | .str x=>some (.str x)
 | .non=>some .non
 | _=>none
theorem UW (h:Xs d=some k)(r:Zo G H d v):v=kV k:=by
 cases d with
 | int i=>cases h;rw[ja.mp r];rfl
 | str i=>cases h;rw[jh.mp r];rfl
 | _=>cases h
theorem UT:∀{ds:List D} {vs:List V} {ks:List ZG},Xz ds=some ks->Zk G H ds vs->vs=ks.map kV
 | [],vs,ks,h,r=>by cases h;exact Zk.nil_iff.mp r
 | d::ds,vs,ks,h,r=>by
  obtain⟨v,rr,rfl,r1,r2⟩:=jd.mp r;unfold Xz at h
  cases e1:Xs d with
  | none=>simp_all
  | some k=>
   cases e2:Xz ds with
   | none=>simp_all
   | some ks'=>
    rw[e1,e2]at h
    cases h
    rw[UW e1 r1,UT e2 r2];rfl
theorem Zbj (h:Wm d=some w)(r:Zo G H d v):v=w:=by
 cases d with
 | int i=>cases h;exact ja.mp r
 | str i=>cases h;exact jh.mp r
 | bl i=>cases h;exact je.mp r
 | non=>cases h;exact jg.mp r
 | _=>cases h
def Zk6:D->Option (List ZG×V)
 | .tup [.tup ks,v]=>match Xz ks,Wm v with | some k,some w=>some (k,w) | _,_=>none
 | _=>none
def Zk7:D->Option (ZG×V)
 | .tup [k,v]=>match Xs k,Wm v with | some k,some w=>some (k,w) | _,_=>none
 | _=>none
def WW:List (List ZG×V)->List D->Option (List (List ZG×V))
 | jT,[]=>some jT
 | jT,d::ds=>match Zk6 d with | some (k,v)=>WW (Yf jT k v) ds | none=>none
def Vs:List (ZG×V)->List D->Option (List (ZG×V))
 | jT,[]=>some jT
 | jT,d::ds=>match Zk7 d with | some (k,v)=>Vs (Yf jT k v) ds | none=>none
theorem Zho (h:Zk6 d=some (k,v)):∃ks w,d=.tup [.tup ks,w]/\Xz ks=some k/\Wm w=some v:=by
 match d,h with
 | .tup [.tup ks,w],h=>
  have h':(match Xz ks,Wm w with | some k,some w=>some (k,w) | _,_=>none)=some (k,v):=h
  cases e1:Xz ks with
  | none=>simp_all
  | some k'=>
   cases e2:Wm w with
   | none=>simp_all
   | some w'=>rw[e1,e2]at h';cases h';exact⟨ks,w,rfl,e1,e2⟩
theorem Zhp (h:Zk7 d=some (k,v)):∃ks w,d=.tup [ks,w]/\Xs ks=some k/\Wm w=some v:=by
 match d,h with
 | .tup [ks,w],h=>
  have h':(match Xs ks,Wm w with | some k,some w=>some (k,w) | _,_=>none)=some (k,v):=h
  cases e1:Xs ks with
  | none=>simp_all
  | some k'=>
   cases e2:Wm w with
   | none=>simp_all
   | some w'=>rw[e1,e2]at h';cases h';exact⟨ks,w,rfl,e1,e2⟩
theorem Zhq (e1:Zz G Hf H)(hp:H p=none):∀{ds:List D} {vs:List V} {jT res:List (List ZG×V)},Zk G Hf ds vs->WW jT ds=some res->jT.length+ds.length<=xg->Puts p (Zi H p (.dT jT)) vs (Zi H p (.dT res))
 | [],vs,jT,res,r,h,_=>by
  rw[Zk.nil_iff.mp r]
  cases h
  exact .nil
 | d::ds,vs,jT,res,r,h,hl=>by
  obtain⟨v,rr,rfl,r1,r2⟩:=jd.mp r;unfold WW at h
  cases e:Zk6 d with
  | none=>simp_all
  | some kv=>
   obtain⟨k,w⟩:=kv;rw[e]at h;obtain⟨ks,wd,rfl,q1,q2⟩:=Zho e;obtain⟨b,ws,rfl,nb,hb,rb⟩:=jc.mp r1;obtain⟨v1,v2,rfl,rk,rv⟩:=jp rb;obtain⟨c,cs,rfl,nc,hcx,rc⟩:=jc.mp rk;have ec:=UT q1 rc;subst ec;have ev:=Zbj q2 rv;subst ev;have hb':=e1 _ _ nb hb;have hc':=e1 _ _ nc hcx;have ll:=Uw jT k v2;have hl':jT.length+(ds.length+1)<=xg:=by omega
   refine .cons (by rw[Zl (ZP hb' hp)];exact hb') (WJ.t ZE (by rw[Zl (ZP hc' hp)];exact hc') (by omega)) ?_;rw[ZeW];exact Zhq e1 hp r2 h (by omega)
theorem Zk8 (e1:Zz G Hf H)(hp:H p=none):∀{ds:List D} {vs:List V} {jT res:List (ZG×V)},Zk G Hf ds vs->Vs jT ds=some res->jT.length+ds.length<=xg->Puts p (Zi H p (.dK jT)) vs (Zi H p (.dK res))
 | [],vs,jT,res,r,h,_=>by
  rw[Zk.nil_iff.mp r]
  cases h
  exact .nil
 | d::ds,vs,jT,res,r,h,hl=>by
  obtain⟨v,rr,rfl,r1,r2⟩:=jd.mp r;unfold Vs at h
  cases e:Zk7 d with
  | none=>simp_all
  | some kv=>
   obtain⟨k,w⟩:=kv;rw[e]at h;obtain⟨ks,wd,rfl,q1,q2⟩:=Zhp e;obtain⟨b,ws,rfl,nb,hb,rb⟩:=jc.mp r1;obtain⟨v1,v2,rfl,rk,rv⟩:=jp rb;have ek:=UW q1 rk;subst ek;have ev:=Zbj q2 rv;subst ev;have hb':=e1 _ _ nb hb;have ll:=Uw jT k v2;have hl':jT.length+(ds.length+1)<=xg:=by omega
   refine .cons (by rw[Zl (ZP hb' hp)];exact hb') (WJ.k ZE (by omega)) ?_;rw[ZeW];exact Zk8 e1 hp r2 h (by omega)
def Zk9:List D->Option D
 | [.lst ds]=>if ds.length<=xg then (WW [] ds).map .dt else none
 | _=>none
def Ze6:List D->Option D
 | [.lst ds]=>if ds.length<=xg then (Vs [] ds).map .dk else none
 | _=>none
theorem Zhr (hc:X.calm=true)(hu:X.A.units+64<cLine):Xi X (.type "dict") (λxs H Q=>∃l vs,xs=[.ref l]/\H l=some (.lst vs)/\∀p,H p=none->∃kvs,Puts p (Zi H p (.dT [])) vs (Zi H p (.dT kvs))/\∀o,Q (.ref p) (Zi H p (.frz o (.dT kvs)))):=by
 intro jM s σ H xs us Q I r h;obtain⟨l,vs,ex,hl,hp⟩:=h;refine ZJ (ZbB hc hu true jM s σ H xs us (λv H'=>∃p kvs,v=.ref p/\H'=Zi H p (.dT kvs)/\∀o,Q (.ref p) (Zi H p (.frz o (.dT kvs)))) I r ⟨l,vs,ex,hl,λp hn=>?_⟩) λu s1 ⟨v,H1,I1,r1,p,kvs,ev,eH,q⟩=>?_
 ·obtain⟨kvs,pu,q⟩:=hp p hn
  exact⟨_,pu,p,kvs,rfl,rfl,q⟩
 ·subst ev eH
  have ok:=I1.hok p (.dT kvs) ZE;obtain⟨_,_,xs',_,o,es,ep,h1,_⟩:=(show Yq X.prog X.w _ s1.heap p (.dT kvs)from ok);have I2:=I1.write (o:=.frz o (.dT kvs)) (t':=s1.toks) (by rw[ZE];trivial) (.inl rfl) (λ_ _ _ e=>e) ⟨o,h1⟩ ⟨h1,ok.stay (λ_ _ _ e=>e) (λb e=>?_) λb xs e=>?_⟩
  ·rw[ZeW]at I2
   exact⟨.ref p,_,I2,r1,q o⟩
  ·have:b≠p:=λz=>by rw[z,ZE]at e;cases e
   rw[Zl this];exact e
  ·have:b≠p:=λz=>by rw[z,ZE]at e;cases e
   rw[Zl this];exact e
theorem Zhs (hc:X.calm=true)(hu:X.A.units+64<cLine):Wk X G (.type "dict") Zk9:=
 ⟨_,Zhr hc hu,λHf H s xs ds c Q e1 st r q k=>by
  match ds,q,r with
  | [.lst es],q,r=>
   have q:(if es.length<=xg then (WW [] es).map D.dt else none)=some c:=q;split at q
   ·cases e:WW [] es with
    | none=>simp_all
    | some res=>
     rw[e]at q
     cases q
     obtain⟨v,rfl,rv⟩:=ji r;obtain⟨l,vs,rfl,nl,hl,rl⟩:=jb.mp rv;refine⟨l,vs,rfl,e1 _ _ nl hl,λp hp=>⟨_,Zhq e1 hp rl e (by simp_all),λo=>?_⟩⟩;have nf:=Gh.nofp st hp;have g2:=Gr.new (o:=.frz o (.dT res)) e1 hp nf;exact k (.ref p) _ _ g2 (Gh.grow st hp) (jm.mpr ⟨p,o,rfl,nf,ZE⟩) λa ea _=>by simp_all
   ·cases q⟩
theorem Zht (hc:X.calm=true)(hu:X.A.units+64<cLine):Wk X G (.type "dict") Ze6:=
 ⟨_,ZbB hc hu false,λHf H s xs ds c Q e1 st r q k=>by
  match ds,q,r with
  | [.lst es],q,r=>
   have q:(if es.length<=xg then (Vs [] es).map D.dk else none)=some c:=q;split at q
   ·cases e:Vs [] es with
    | none=>simp_all
    | some res=>
     rw[e]at q
     cases q
     obtain⟨v,rfl,rv⟩:=ji r;obtain⟨l,vs,rfl,nl,hl,rl⟩:=jb.mp rv;refine⟨l,vs,rfl,e1 _ _ nl hl,λp hp=>⟨_,Zk8 e1 hp rl e (by simp_all),?_⟩⟩;have nf:=Gh.nofp st hp;have g2:=Gr.new (o:=.dK res) e1 hp nf;exact k (.ref p) _ _ g2 (Gh.grow st hp) (jj.mpr ⟨p,rfl,nf,ZE⟩) λa ea _=>by simp_all
   ·cases q⟩
theorem ZoO (hu:X.A.units+1<cLine):Yl X (xk .In) (λx y H Q=>∃a o,y=.ref a/\Xr H a x o/\Q (.bl o.isSome) H):=by
 intro jM s σ H x y v u Q I rx ry h;obtain⟨a,o,rfl,g,q⟩:=h
 cases (show u=qH a from ry)
 exact d_in hu I g rx λs' I'=>⟨.bl _,H,I',rfl,q⟩
theorem Zjv (hu:X.A.units+1<cLine):Yl X (xk .NotIn) (λx y H Q=>∃a o,y=.ref a/\Xr H a x o/\Q (.bl (!o.isSome)) H):=by
 intro jM s σ H x y v u Q I rx ry h;obtain⟨a,o,rfl,g,q⟩:=h
 cases (show u=qH a from ry)
 exact ZmK hu I g rx λs' I'=>⟨.bl _,H,I',rfl,q⟩
def Jk:D->D->Option Bool
 | x,.lst ds=>if Vy x ds=true then some (VC x ds)else none
 | x,.tup ds=>if Vy x ds=true then some (VC x ds)else none
 | .tup ks,.dt kvs=>(Xz ks).map λk=>(ZR kvs k).isSome
 | .tup ks,.du kvs=>(Xz ks).map λk=>(ZR kvs k).isSome
 | x,.dk kvs=>(Xs x).map λk=>(ZR kvs k).isSome
 | _,_=>none
def YF (x y:D):Option D:=(Jk x y).map .bl
def WG (x y:D):Option D:=(Jk x y).map λb=>.bl (!b)
theorem Zen (e1:Zz G Hf H)(rx:Zo G Hf d x)(ry:Zo G Hf e y)(h:Jk d e=some b) :
  (∃ds,Vy d ds=true/\(Zo G Hf (.lst ds) y∨Zo G Hf (.tup ds) y)/\b=VC d ds)∨∃a o,y=.ref a/\Xr H a x o/\b=o.isSome:=by
 cases e with
 | lst ds=>
  have h:(if Vy d ds=true then some (VC d ds)else none)=some b:=by cases d <;> exact h
  split at h
  ·rename_i ok;cases h;exact .inl ⟨ds,ok,.inl ry,rfl⟩
  ·cases h
 | tup ds=>
  have h:(if Vy d ds=true then some (VC d ds)else none)=some b:=by cases d <;> exact h
  split at h
  ·rename_i ok;cases h;exact .inl ⟨ds,ok,.inr ry,rfl⟩
  ·cases h
 | dt kvs=>
  obtain⟨a,o,rfl,na,ha⟩:=jm.mp ry
  cases d with
  | tup ks=>
   have h:(Xz ks).map (λk=>(ZR kvs k).isSome)=some b:=h
   cases q:Xz ks with
   | none=>rw[q]at h;cases h
   | some k=>
    rw[q]at h;cases h;obtain⟨c,cs,rfl,nc,hcx,rc⟩:=jc.mp rx;have ec:=UT q rc;subst ec;exact .inr ⟨a,_,rfl,.inr ⟨kvs,k,c,.inr ⟨o,e1 _ _ na ha⟩,rfl,e1 _ _ nc hcx,rfl⟩,rfl⟩
  | _=>cases h
 | du kvs=>
  obtain⟨a,rfl,na,ha⟩:=jn.mp ry
  cases d with
  | tup ks=>
   have h:(Xz ks).map (λk=>(ZR kvs k).isSome)=some b:=h
   cases q:Xz ks with
   | none=>rw[q]at h;cases h
   | some k=>
    rw[q]at h;cases h;obtain⟨c,cs,rfl,nc,hcx,rc⟩:=jc.mp rx;have ec:=UT q rc;subst ec;exact .inr ⟨a,_,rfl,Xr.t (e1 _ _ na ha) (e1 _ _ nc hcx),rfl⟩
  | _=>cases h
 | dk kvs=>
  obtain⟨a,rfl,na,ha⟩:=jj.mp ry;have h:(Xs d).map (λk=>(ZR kvs k).isSome)=some b:=by cases d <;> exact h
  cases q:Xs d with
  | none=>simp_all
  | some k=>
   rw[q]at h;cases h;have ek:=UW q rx;subst ek;exact .inr ⟨a,_,rfl,Xr.k (e1 _ _ na ha),rfl⟩
 | _=>cases d <;> cases h
theorem WU (hu:X.A.units+64<cLine):XD X G (xk .In) YF:=
 ⟨_,(ZoN hu).or (ZoO (by omega)),λHf H s x y d e c Q e1 st rx ry q k=>by
  unfold YF at q
  cases h:Jk d e with
  | none=>simp_all
  | some b=>
   rw[h]at q;cases q;have kk:=k (.bl b) Hf H (.refl e1) st (je.mpr rfl) (.scal λz=>z);rcases Zen e1 rx ry h with⟨ds,ok,hl,rfl⟩ | ⟨a,o,ey,g,rfl⟩
   ·exact .inl ⟨Hf,d,ds,e1,ok,rx,hl,kk⟩
   ·exact .inr ⟨a,o,ey,g,kk⟩⟩
theorem Zbk (hu:X.A.units+64<cLine):XD X G (xk .NotIn) WG:=
 ⟨_,(Zjs hu).or (Zjv (by omega)),λHf H s x y d e c Q e1 st rx ry q k=>by
  unfold WG at q
  cases h:Jk d e with
  | none=>simp_all
  | some b=>
   rw[h]at q;cases q;have kk:=k (.bl (!b)) Hf H (.refl e1) st (je.mpr rfl) (.scal λz=>z);rcases Zen e1 rx ry h with⟨ds,ok,hl,rfl⟩ | ⟨a,o,ey,g,rfl⟩
   ·exact .inl ⟨Hf,d,ds,e1,ok,rx,hl,kk⟩
   ·exact .inr ⟨a,o,ey,g,kk⟩⟩
end
section
variable {X:Cx}{G:Gh}{own ob:List Nat}{fr:Bool}{f:Zc->M D}
def Zin (ta:TA):TE:=fun σ H Q=>ta σ H λvs H1=>∃j:Int,vs=[.int j]/\∀p,H1 p=none->Q (.ref p) (Zi H1 p (.rng 0 j))
theorem Zcb (hg:Gl X "range")(hm:X.mg "range" = none)(ha:PA X [a] ta)(hs:xh [a] X.env=[(false,eval a X.env)]:=by rfl):PE X (.Call (.Name "range" p) [a] [] pos) (Zin ta):=by
 intro jM s σ H Q I h;refine Call_ (UB I hg hm boot_range (ya (ZJ (ha pos jM s σ H _ I h) λus s1 ⟨vs,H1,I1,r1,q1⟩=>?_) hs rfl));obtain⟨j,e,q⟩:=q1;subst e
 cases r1 with
 | cons r rr=>
  cases rr
  obtain⟨t,rfl⟩:=r;refine call_range_1 ⟨.ref s1.heap.objs.size,Zi H1 s1.heap.objs.size (.rng 0 j),I1.laid (λb o e=>qf _ e) (qp _) ?_,rfl,q _ (I1.hok.fresh (qp _))⟩;exact⟨_,_,_,qq _ rfl⟩
theorem ZbC:∀(ys:List Value) (lo:Int),(∀(j:Nat) v,ys[j]?=some v->∃t,v=.int (lo+j) t)->ZB ((qj ys.length).map λ(i:Nat)=>V.int (lo+i)) ys
 | [],lo,_=>.nil
 | y::ys,lo,h=>by
  obtain⟨t,e⟩:=h 0 y rfl;rw[zB,qaH,zT,qC];refine .cons ⟨t,by rw[e]⟩ ?_;have q:=ZbC ys (lo+1) λj v hv=>by
   obtain⟨t,e⟩:=h (j+1) v (by simpa using hv);exact⟨t,by rw[e];congr 1;push_cast;omega⟩
  have ee:((λ(i:Nat)=>V.int (lo+i))∘Nat.succ)=λ(i:Nat)=>V.int (lo+1+i):=by
   funext i;show V.int (lo+(Nat.succ i:Nat))=V.int (lo+1+i);congr 1;push_cast;omega
  rw[ee];exact q
theorem ZbK (hc:X.calm=true):Xi X (.type "list") (λxs H Q=>∃r j,xs=[.ref r]/\H r=some (.rng 0 j)/\-(2 ^ 62)<=j/\j<=2 ^ 24/\∀l,H l=none->Q (.ref l) (Zi H l (.lst ((qj j.toNat).map λ(i:Nat)=>V.int (0+i))))):=by
 intro jM s σ H xs us Q I r h;obtain⟨rr,j,rfl,hr,h1,h2,q⟩:=h;obtain⟨u,rfl,ru⟩:=XT r
 cases (show u=qH rr from ru)
 obtain⟨t,u',v',hro⟩:=(show Yq X.prog X.w H s.heap rr (.rng 0 j)from I.hok rr _ hr);have hn:yJ 0 j 1=((j.toNat:Nat):Int):=by rw[rangeSize_one];split <;> omega
 refine call_list_range (I.ok.hd hc) (show IsRange s.heap rr 0 j 1 t u' v' from hro) (small_one (by omega) (by omega) h1 (by omega)) hn (by omega) λh' tk acc' c' hk hS hacc=>?_;obtain⟨sz,hit⟩:=hacc;have rv:=ZbC acc'.toList 0 λi v hv=>by
  simp_all
 have el:acc'.toList.length=j.toNat:=by omega
 rw[el]at rv;refine⟨.ref s.heap.objs.size,Zi H s.heap.objs.size (.lst ((qj j.toNat).map λ(i:Nat)=>V.int (0+i))),I.laid hk (qp _) ?_,rfl,q _ (I.hok.fresh (qp _))⟩;refine⟨?_,acc'.toList,c',rv,?_⟩
 ·rw[qh,qI]
  show j.toNat<=2 ^ 24;omega
 ·omega
def VF (f:Zc->M D):Zc->M D:=fun ρ=>Zm (f ρ) λd=>match d with | .int j=>if -(2 ^ 62)<=j/\j<=2 ^ 24 then Zy (.lst (Yt 0 j.toNat))else Zq | _=>Zq
theorem Zc4 (lo:Int):∀(l:List Nat),Zk G Hf (l.map λ(i:Nat)=>D.int (lo+i)) (l.map λ(i:Nat)=>V.int (lo+i))
 | []=>Zk.nil_iff.mpr rfl
 | i::l=>Zk.cons (ja.mpr rfl) (Zc4 lo l)
theorem Zar {p1 p2 pos1 pos:Pos}(hc:X.calm=true)(hg:Gl X "range")(hm:X.mg "range" = none)(hg2:Gl X "list")(hm2:X.mg "list" = none)(hv2:xj "list" = some (.type "list"))(ha:PD X G r1 a f)
  (hs:xh [a] X.env=[(false,eval a X.env)]:=by rfl)
  (he:xh [.Call (.Name "range" p1) [a] [] pos1] X.env=(false,eval (.Call (.Name "range" p1) [a] [] pos1) X.env)::xh [] X.env:=by rfl):PD X G true (.Call (.Name "list" p2) [.Call (.Name "range" p1) [a] [] pos1] [] pos) (VF f):=by
 obtain⟨t,pa,qa⟩:=ha.drop;refine⟨_,UU (ZbK hc) hg2 hm2 hv2 (ZU (Zcb hg hm (ZU pa Yn (by rw[hs];rfl)) hs) Yn he) (by decide) (by decide) he rfl,fun σ Hf H ρ s d s' Q e1 e2 e3 e4 k=>?_⟩;obtain⟨dj,s1,a1,a2⟩:=Zs e4
 cases dj with
 | int j=>
  obtain⟨c,a3⟩:=YQ a2;obtain⟨rfl,rfl⟩:=ZC a3;refine qa σ Hf H ρ s _ _ _ e1 e2 e3 a1 λv jV H1 g st r=>?_;rw[ja.mp r];refine⟨j,rfl,λp hp=>⟨p,j,rfl,ZE,c.1,c.2,λl hl=>?_⟩⟩;have hlp:l≠p:=λz=>by rw[z,ZE]at hl;cases hl
  have hl1:H1 l=none:=by rw[Zl hlp]at hl;exact hl
  have jY:G.st s' (Zi H1 p (.rng 0 j)):=Gh.grow st hp;have nf:=Gh.nofp jY hl;have fp:jV p=none:=by
   cases q:jV p with
   | none=>rfl
   | some o=>rw[g.fh p o (Gh.nofp st hp) q]at hp;cases hp
  have gA:Gr G jV H1 jV (Zi H1 p (.rng 0 j)):=⟨λb o n q=>by rw[Zl (ZP q hp)];exact q,.refl _ _,λb o n q=>by rw[Zl (ZP q fp)];exact g.fh b o n q,λb n h1 h2=>h1⟩;have gB:=Gr.new (o:=.lst ((qj j.toNat).map λ(i:Nat)=>V.int (0+i))) gA.fh hl nf;have rr:Zk G jV (Yt 0 j.toNat) ((qj j.toNat).map λ(i:Nat)=>V.int (0+i)):=Zc4 0 _;refine k (.ref l) _ _ ((g.trans gA).trans gB) (Gh.grow jY hl) (jb.mpr ⟨l,_,rfl,nf,ZE,rr.ext gB.ff⟩) λ_=>?_;exact Z7.old (g.trans gA).hh (λa ea _=>by simp_all) (Z7.mk gA.fh hl nf rr)
 | _=>cases a2
def UK (i:Nat)(f:Zc->M D):Zc->M Out:=fun ρ=>Zm (f ρ) λd=>match d,(ρ[i]?).bind id with
 | .lst es,some (.lst ds)=>if ds.length+es.length<=xg then Zy (.nx (ρ.set i (some (.lst (ds++es)))))else Zq
 | _,_=>Zq
theorem Zio (hi:i∈own)(hy:WZ G own r1 te f):Bd G ob own own fr (VP (VB X.K "list" ZcF (ZY i) (Xn te XA))) (UK i f):=λkn jS H0 σ H ρ s out s' E ⟨Hf,j⟩ st e po=>by
 obtain⟨d,s1,a1,a2⟩:=Zs e
 match d,hb:(ρ[i]?).bind id,a2 with
 | .lst es,some (.lst ds),a2=>
  have a2':(if ds.length+es.length<=xg then Zy (.nx (ρ.set i (some (.lst (ds++es)))))else Zq) s1=some (out,s'):=a2;obtain⟨c2,a3⟩:=YQ a2';obtain⟨rfl,rfl⟩:=ZC a3;have ei:=JH hb;obtain⟨a,vs,h1,h2,h3,h4⟩:=JG j hi ei;refine⟨_,h1,.inl ⟨rfl,vs,ZD.of h3⟩,?_⟩;refine hy kn jS H0 σ Hf H ρ s _ s' _ j st a1 λv Hf' H' j' e1 e2 st' r fz=>?_;obtain⟨a',vs',h1',h2',h3',h4'⟩:=JG j' hi ei;rw[h1]at h1';cases h1';obtain⟨b,ws,rfl,nb,hb2,rb⟩:=jb.mp r;refine⟨a,b,vs',ws,rfl,rfl,h3',j'.gr.fh _ _ nb hb2,by rw[<-h4'.length,<-rb.length];exact c2,?_⟩;exact po σ _ ⟨Hf',j'.put hi ei h1 ⟨vs'++ws,ZE,h4'.append rb⟩⟩ (jq st' h2)
 | .lst _,none,a2=>cases a2
 | .lst _,some .non,a2=>cases a2
 | .lst _,some (.bl _),a2=>cases a2
 | .lst _,some (.int _),a2=>cases a2
 | .lst _,some (.str _),a2=>cases a2
 | .lst _,some (.tup _),a2=>cases a2
 | .lst _,some (.dk _),a2=>cases a2
 | .lst _,some (.dt _),a2=>cases a2
 | .lst _,some (.du _),a2=>cases a2
 | .lst _,some (.df _),a2=>cases a2
 | .lst _,some .pen,a2=>cases a2
 | .lst _,some (.ty _),a2=>cases a2
 | .lst _,some (.clo _ _),a2=>cases a2
theorem Zeo {pos p2 p3:Pos}(hv:PE X (.Name x p1) (ZY i))(p:PE X e te)
  (hbase:xq (.Name x p1) "extend" X.env (eval (.Name x p1) X.env)=eval (.Name x p1) X.env:=by rfl)
  (hfew:((backTo p3 (xh [e] X.env)).all (λx=>!x.1)&&(xp p3 (xi [] X.env)).all (λx=>x.1.isSome)
   && decide ([e].length+([]:List Keyword).length+(if ([]:List Keyword).isEmpty then 0 else 1)<30))=true:=by rfl)
  (hline:(p2.endLine==p3.line)=true:=by rfl) (hs:xh [e] X.env=(false,eval e X.env)::xh [] X.env:=by rfl)
  (hsw:xr (.Call (.Attribute (.Name x p1) "extend" p2) [e] [] p3) none pos.line X.env=pure false:=by rfl) :
  PS X (.Expr (.Call (.Attribute (.Name x p1) "extend" p2) [e] [] p3) pos) (VP (VB X.K "list" ZcF (ZY i) (Xn te XA))):=
 BC (U8 zN PySem.F.slot_list_extend PySem.F.type_list_extend Zji hv (ZU p Yn hs) hbase hfew hline hs rfl) hsw
theorem Zla {st:Stmt}(hi:i∈own)(he:PD X G r1 e f)(hp:∀te,PE X e te->PS X st (VP (VB X.K "list" ZcF (ZY i) (Xn te XA)))):YI X G ob own own fr st (UK i (fun ρ=>f (Yk own ρ))):=by
 obtain⟨t,p,q⟩:=he;exact⟨_,hp t p,Zio hi (X4.a q)⟩
end
structure BlkS (X:Cx)(XN:List Str)(NS:List (Str×NameKind))(N':List Str)(src:List (Option Nat))(scope:Scope):Prop where
 xn:X.N=XN
 ns:X.env.scope.names=NS
 nocell:∀y∈scope.names,y.2≠.cell
 kind:scope.kind=.function
 names:∀y∈scope.names,y.2=.local->scope.names.lookup y.1=some .local
 len:src.length=N'.length
 free:∀y∈scope.names,y.2=.free->NS.lookup y.1=some .cell∨NS.lookup y.1=some .free
 from_:(src.zip N').all (λp=>match p.1 with | some j=>decide (XN[j]?=some p.2)&&(decide (NS.lookup p.2=some .cell)||decide (NS.lookup p.2=some .free))&&decide (scope.names.lookup p.2=some .free) | none=>true)=true
theorem Zao {env:Env}:∀{names:List (Str×NameKind)} {x:Str},names.lookup x=some .free->
  (names.map λ(n,k)=>if (k==zU&&env.scope.kind == .function&&env.kindOf n==some .cell)then (n,qab)else (n,k)).lookup x=some .cell∨
  (names.map λ(n,k)=>if (k==zU&&env.scope.kind == .function&&env.kindOf n==some .cell)then (n,qab)else (n,k)).lookup x=some .free
 | [],_,h=>by simp at h
 | (n,k)::r,x,h=>by
  have ih:=@Zao env r x;show qco x ((if (k==zU&&env.scope.kind == .function&&env.kindOf n==some .cell)=true then (n,qab)else (n,k))::_)=_∨qco x ((if (k==zU&&env.scope.kind == .function&&env.kindOf n==some .cell)=true then (n,qab)else (n,k))::_)=_
  cases hx:x==n with
  | true=>
   simp only[zq,hx]at h
   cases h
   by_cases hc:(zU==zU&&env.scope.kind == .function&&env.kindOf n==some .cell)=true
   ·rw[if_pos hc];left;simp[zq,hx]
   ·rw[if_neg hc];right;simp_all
  | false=>
   simp only[zq,hx]at h;by_cases hc:(k==zU&&env.scope.kind == .function&&env.kindOf n==some .cell)=true
   ·rw[if_pos hc];simp only[zq,hx];exact ih h
   ·rw[if_neg hc];simp only[zq,hx];exact ih h
theorem Zab {env:Env}:∀{names:List (Str×NameKind)} {x:Str} {k':NameKind},(∀y∈names,y.2≠.cell)->(k'=.cell∨k'=.free)->
  (names.map λ(n,k)=>if (k==zU&&env.scope.kind == .function&&env.kindOf n==some .cell)then (n,qab)else (n,k)).lookup x=some k'->names.lookup x=some .free
 | [],_,_,_,_,h=>by simp at h
 | (n,k)::r,x,k',nc,hk,h=>by
  have ih:=@Zab env r x k' (λy hy=>nc y (qZ _ hy)) hk;have h:qco x ((if (k==zU&&env.scope.kind == .function&&env.kindOf n==some .cell)=true then (n,qab)else (n,k))::_)=_:=h
  cases hx:x==n with
  | true=>
   by_cases hc:(k==zU&&env.scope.kind == .function&&env.kindOf n==some .cell)=true
   ·have:k=.free:=by
     simp_all
    simp_all
   ·simp_all
  | false=>
   by_cases hc:(k==zU&&env.scope.kind == .function&&env.kindOf n==some .cell)=true
   ·rw[if_pos hc]at h;simp only[zq,hx]at h⊢;exact ih h
   ·rw[if_neg hc]at h;simp only[zq,hx]at h⊢;exact ih h
theorem Zas:∀(names:List (Str×NameKind)) (jT:List (Str×Addr)),(∀y∈names,y.2=.free->∃c,env.cells.lookup y.1=some c)->
  (∀x c,jT.lookup x=some c->env.cells.lookup x=some c)->
  ∃cl,(forIn names jT λ(p:Str×NameKind) (cs:List (Str×Addr))=>(if (p.2==zU)=true then do let a<-cellOf env p.1;pure (yP ((p.1,a)::cs))else pure (yP cs):Sem (ForInStep (List (Str×Addr)))))=pure cl/\
   (∀x c,cl.lookup x=some c->env.cells.lookup x=some c)/\(∀x c,jT.lookup x=some c->∃c',cl.lookup x=some c')/\∀y∈names,y.2=.free->∃c,cl.lookup y.1=some c
 | [],jT,_,h2=>⟨jT,by simp,h2,λx c h=>⟨c,h⟩,λy hy=>by simp at hy⟩
 | (n,k)::r,jT,h1,h2=>by
  by_cases hk:k=.free
  ·subst hk
   obtain⟨c,hc⟩:=h1 (n,.free) qan rfl;have hcell:cellOf env n=pure c:=by unfold cellOf;rw[hc]
   obtain⟨cl,q1,q2,q3,q4⟩:=Zas (env:=env) r ((n,c)::jT) (λy hy=>h1 y (qZ _ hy)) λx c' h=>by
    cases hx:x==n with
    | true=>
     simp only[zq,hx]at h
     cases h
     have:x=n:=by simpa using hx
     rw[this];exact hc
    | false=>simp only[zq,hx]at h;exact h2 x c' h
   refine⟨cl,?_,q2,λx c' h=>?_,λy hy hf=>?_⟩
   ·rw[qbJ]
    simp only[beq_self_eq_true,if_true,hcell,pure_bind];exact q1
   ·cases hx:x==n with
    | true=>exact q3 x c (by simp[zq,hx])
    | false=>exact q3 x c' (by simp only[zq,hx];exact h)
   ·rcases qu.mp hy with e | hy
    ·subst e;exact q3 n c (by simp[zq])
    ·exact q4 y hy hf
  ·obtain⟨cl,q1,q2,q3,q4⟩:=Zas (env:=env) r jT (λy hy=>h1 y (qZ _ hy)) h2
   refine⟨cl,?_,q2,q3,λy hy hf=>?_⟩
   ·rw[qbJ]
    simp_all
   ·rcases qu.mp hy with e | hy
    ·simp_all
    ·exact q4 y hy hf
theorem BlkS.ok (B:BlkS X XN NS N' src scope)(ok:X.Ok):∃cl,BlkOk X N' src scope cl:=by
 have hcells:∀y∈scope.names,y.2=.free->∃c,X.env.cells.lookup y.1=some c:=λy hy hf=>ok.has y.1 (by
  have:=B.free y hy hf;rw[<-B.ns]at this;exact this)
 obtain⟨cl,q1,q2,q3,q4⟩:=Zas scope.names [] hcells (λx c h=>by simp at h);refine⟨cl,?_,B.nocell,B.kind,B.names,B.len,q2,λx hx=>?_,λi j x e1 e2=>?_⟩
 ·unfold closureFor
  simp_all
 ·have hf:scope.names.lookup x=some .free:=by
   rcases hx with h | h
   ·exact Zab B.nocell (.inl rfl) h
   ·exact Zab B.nocell (.inr rfl) h
  exact q4 (x,.free) (zD hf) rfl
 ·have hm:=by
   have:(src.zip N')[i]?=some (some j,x):=by
    rw[qah];exact⟨e1,e2⟩
   exact zR this
  have q:=zC.mp B.from_ _ hm;simp at q;obtain⟨⟨p1,p2⟩,p3⟩:=q;refine⟨by rw[B.xn];exact p1,?_,Zao p3⟩;show X.env.scope.names.lookup x=_∨X.env.scope.names.lookup x=_;rw[B.ns];exact p2
section
variable {X:Cx}{G:Gh}{elt tg iter:Expr}{ifs:List Expr}{scope:Scope}{pos pos' spos:Pos}{XN:List Str}{NS:List (Str×NameKind)}{N':List Str}{src:List (Option Nat)}{fi:Zc->M (List D)}{τ:D->Zc->Option Zc}{ft:Zc->M Bool}{fe:Zc->M D}{r1:Bool}{i:Nat}{x:Str}
theorem Zlb (hc:X.calm=true)(B:BlkS X XN NS N' src scope)(hi:WP X G tg iter fi)
  (hg:∀cl jM C s H fp,Vf (blk X jM N' scope cl C s H fp) G tg (λi=>src[i]?=some none) τ) (ht:∀cl jM C s H fp,Vw (blk X jM N' scope cl C s H fp) ifs (Ji G ft)) (he:∀cl jM C s H fp,PD (blk X jM N' scope cl C s H fp) G r1 elt fe)
  (hs:∀x,foldedSetIterable iter X.env x=pure x:=by intro _;rfl):PD X G true (.ListComp elt [⟨tg,iter,ifs,0⟩] scope pos) (ZQ src fi τ ft fe):=by
 obtain⟨wi,pi,qi⟩:=hi;refine⟨_,λjM s σ H Q I h=>?_,ZfW (r1:=r1) qi⟩;obtain⟨cl,B'⟩:=B.ok I.ok;exact Zii hc B' pi (λjM C s H fp=>(hg cl jM C s H fp).canon) (ht cl) (λjM C s H fp=>(he cl jM C s H fp).canon) hs jM s σ H Q I h
theorem ZaT (hN:X.N.Nodup)(hi':X.N[i]?=some x)(hx:W3 X.env.scope x)
  (hc:X.calm=true) (B:BlkS X XN NS N' src scope) (hi:WP X G tg iter fi)
  (hg:∀cl jM C s H fp,Vf (blk X jM N' scope cl C s H fp) G tg (λi=>src[i]?=some none) τ) (ht:∀cl jM C s H fp,Vw (blk X jM N' scope cl C s H fp) ifs (Ji G ft)) (he:∀cl jM C s H fp,PD (blk X jM N' scope cl C s H fp) G r1 elt fe)
  (hsw:xr (.ListComp elt [⟨tg,iter,ifs,0⟩] scope pos) (some (.Name x pos')) spos.line X.env=pure true:=by rfl)
  (hs:∀x,foldedSetIterable iter X.env x=pure x:=by intro _;rfl)
  (hf:X.fn x=true∨X.env.scope.names.lookup x=some .local:=by first | exact .inl rfl | exact .inr rfl | assumption) :
  J7 X G true i (.Assign [.Name x pos'] (.ListComp elt [⟨tg,iter,ifs,0⟩] scope pos) spos) (ZQ src fi τ ft fe):=by
 obtain⟨wi,pi,qi⟩:=hi;refine⟨_,λjM s σ H D I h=>?_,ZfW (r1:=r1) qi⟩;obtain⟨cl,B'⟩:=B.ok I.ok;exact ZmP hN hi' hx hc B' pi (λjM C s H fp=>(hg cl jM C s H fp).canon) (ht cl) (λjM C s H fp=>(he cl jM C s H fp).canon) hsw hs hf jM s σ H D I h
end
def ZT (P:xB)(w:World)(K:qd)(mg:Str->Option Value)(base:Heap)(k:Nat)(x:Str)(n:Nat)(fr:Bool)(GG:Gh->Prop)(F:List D->M D):Prop:=
 ∃f fd ps,FnOk P w K mg base ZN k f fd ps (Ys n fr GG F)/\mg x=some (.ref f)/\zt K (.ref f)=true/\XJ K fd ps []
theorem ZT.mono {K:qd}(c:ZT P w K mg base j x n fr GG F)(h:j<=k:=by decide):ZT P w K mg base k x n fr GG F:=
 let ⟨f,fd,ps,a,b,c,d⟩:=c
 ⟨f,fd,ps,a.mono h,b,c,d⟩
theorem ZoP {p pos:Pos}(c:ZT X.prog X.w X.K X.mg X.base k x n fr GG F)(hG:GG G)(hr:Room k X.A)(hg:Gl X x)
  (ha:WO X G (e::es) fs) (hal:∀ρ s ds s',fs ρ s=some (ds,s')->ds.length=(e::es).length) (jW:(e::es).length=n:=by rfl)
  (hdb:(x==("__debug__" : Str))=false:=by decide) (he:xh (e::es) X.env=(false,eval e X.env)::xh es X.env:=by rfl) (hpl:(backTo pos (xh es X.env)).any (·.1)=false:=by rfl) :
  PD X G fr (.Call (.Name x p) (e::es) [] pos) (Zu F fs):=by
 obtain⟨f,fd,ps,a,b,c,d⟩:=c;exact ZmQ a hG hr hg b c d B0 ha jW hal hdb he hpl
def Vz (h base:Heap)(as:List Addr):Heap:=qaX h ((qj h.objs.size).filter λa=>!((base.get? a).isSome||decide (a∈as)))
theorem Zjw:(Vz h base as).objs.size=h.objs.size:=qb2 _ _
theorem Zf3 (e:h.get? b=some o)(n:(∃u,base.get? b=some u)∨b∈as):(Vz h base as).get? b=some o:=
 qa3 _ e λhm=>by grind
theorem Zip (e:(Vz h base as).get? b=some o):h.get? b=some o/\((∃u,base.get? b=some u)∨b∈as):=by
 have e':=qba _ e;refine⟨e',?_⟩;by_cases c:((base.get? b).isSome||decide (b∈as))=true
 ·rcases qcc.mp c with c | c
  ·exact .inl (zy.mp c)
  ·simp_all
 ·have z:(Vz h base as).get? b=none:=qb3 _ (qD.mpr ⟨qE.mpr (qy e'),by grind⟩)
  grind
theorem jF {K:qd}(e:Env0 P w K mg base A outer s H)(ha:∀b∈as,H b=none)(hf:∀b∈as,b∉YE outer) :
  Env0 P w K mg (Vz s.heap base as) A outer s H:=by
 have up:∀b o,base.get? b=some o->(Vz s.heap base as).get? b=some o:=λb o q=>Zf3 (e.bs b o q).1 (.inl ⟨o,q⟩);refine⟨e.frames,⟨e.mod.kin.keeps up,e.mod.glob.keeps up,let ⟨mb,h1,h2⟩:=e.mod.blt;⟨mb,h1.keeps up,h2⟩,e.mod.nolimit.keeps up⟩,λb o q=>?_,qbu Zjw,?_,e.frf,e.hok,e.bare⟩
 ·obtain⟨q1,q2⟩:=Zip q
  refine⟨q1,?_⟩;rcases q2 with⟨u,q2⟩ | q2
  ·exact(e.bs b u q2).2
  ·exact ha b q2
 ·have all:∀l,(∀b∈YE l,b∈YE outer)->s.heap.FunFrames base l->s.heap.FunFrames (Vz s.heap base as) l:=by
   intro l
   induction l with
   | nil=>intro _ _;trivial
   | cons env r ih=>
    intro hs hl;obtain⟨hk,⟨L,o,hf',hn,ho,hd⟩,hr⟩:=hl;have hL:=hs L (by unfold YE;simp_all);refine⟨hk,⟨L,o,hf',?_,ho,hd⟩,ih (λb hb=>hs b (by unfold YE;rw[yH,hf'];exact qZ _ hb)) hr⟩
    cases q:(Vz s.heap base as).get? L with
    | none=>rfl
    | some u=>
     rcases (Zip q).2 with⟨u',q'⟩ | q'
     ·grind
     ·simp_all
  exact all outer (λ_ h=>h) e.funs
def fnφ (p:Addr)(fd:xA):Heap->Prop:=λh=>∃oc od sl,h.get? p=some ⟨oc,od,.func fd,sl⟩
def codeφ (c:Addr)(q:Str):Heap->Prop:=λh=>h.CodeRec (.ref c) q
theorem fnφ_at (ok:Yp P w H h)(e:H p=some (.ext (fnφ p fd))):fnφ p fd h:=(ok p _ e).1
theorem codeφ_at (ok:Yp P w H h)(e:H c=some (.ext (codeφ c q))):h.CodeRec (.ref c) q:=(ok c _ e).1
structure CloScope (N ps:List Str)(sc:Scope):Prop where
 kind:sc.kind=.function
 co:sc.isCoroutine=false
 gen:sc.isGenerator=false
 nd:N.Nodup
 pre:N.take ps.length=ps
 par:∀x∈ps,sc.names.lookup x=some .local
 nocell:∀y∈sc.names,y.2≠.cell
def Uu (CX:V3)(P:xB)(w:World)(K:qd)(mg:Str->Option Value)(base:Heap)(N:List Str)(qual:Str)(scope:Scope)(f:Addr)(cd:Value)(cl:List (Str×Addr))(A:xC)(outer:List Env)(s:Shared)(H:Hp)(E:XK):Cx where
 prog:=P
 w:=w
 K:=K
 mg:=mg
 base:=base
 A:=A.deeper (zZ qual scope s.heap.objs.size f cd cl)
 N:=N
 s₀:=s
 H₀:=H
 env:=zZ qual scope s.heap.objs.size f cd cl
 outer:=outer
 stack:=zZ qual scope s.heap.objs.size f cd cl::outer
 ex:=[]
 calm:=true
 fn:=λ_=>false
 pn:=[]
 xe:=λe s'=>xf (xz P w) (A.deeper (zZ qual scope s.heap.objs.size f cd cl)) (leaving (zZ qual scope s.heap.objs.size f cd cl) e) (λ_ s''=>CX outer H s E e s'') (λe' s''=>CX outer H s E e' s'') s'
structure CloAt (base:Heap)(cl:List (Str×Addr))(sc:Scope)(N ps:List Str)(cvs:List V):Prop where
 inj:∀x y c,cl.lookup x=some c->cl.lookup y=some c->x=y
 cell:∀x c,cl.lookup x=some c->∃v,base.IsCell c v
 has:∀x,sc.names.lookup x=some .free->∃c,cl.lookup x=some c
 cap:∀(i:Nat) (x:Str) (v:V),N[ps.length+i]?=some x->cvs[i]?=some v->sc.names.lookup x=some .free/\∃c u,cl.lookup x=some c/\base.IsCell c (some u)/\ZF v u
 len:N.length=ps.length+cvs.length
theorem ZbL {α:Type}:∀{l:List (Str×α)} {x:Str} {u:α},(l.map (·.1)).Nodup->(x,u)∈l->l.lookup x=some u
 | [],_,_,_,h=>by simp at h
 | (y,w)::l,x,u,nd,h=>by
  rw[zT,zx]at nd;rcases qu.mp h with e | hm
  ·simp_all
  ·have hne:(x==y)=false:=by
    simp;rintro rfl;exact nd.1 (qa4 (f:=(·.1)) hm)
   rw[zq,hne];exact ZbL nd.2 hm
theorem Zco:∀(ps:List Str) (us:List Value),((ps.zip us).map (·.1)).Sublist ps
 | [],_=>by simp
 | _::_,[]=>by simp
 | p::ps,u::us=>by simpa using Zco ps us
theorem Zc5 {ps:List Str}{us:List Value}{i:Nat}(nd:ps.Nodup)(h1:ps[i]?=some x)(h2:us[i]?=some u):(ps.zip us).reverse.lookup x=some u:=by
 refine ZbL ?_ ?_
 ·rw[List.map_reverse]
  refine qaV.mpr ?_;exact(nd.sublist (Zco _ _)).imp ze
 ·rw[qaR]
  exact zR (qah.mpr ⟨h1,h2⟩)
theorem ZmV {K:qd}
  (S:CloScope N ps scope) (C:CloAt base cl scope N ps cvs) (hd:A.handled=none) (e0:Env0 P w K mg base A outer s H) (hl:vs.length=ps.length) (r:ZB vs us)
  (hns:h'.Ns s.heap.objs.size (λx=>(ps.zip us).reverse.lookup x)) (hk:∀b o,s.heap.get? b=some o->h'.get? b=some o) :
  Inv (Uu CX P w K mg base N qual scope f cd cl A outer s H E) [] (vs.map some++cvs.map some) H { s with heap:=h',toks:=tk }:=by
 have noA:∀b:Addr,b∉(Uu CX P w K mg base N qual scope f cd cl A outer s H E).ex:=λb z=>absurd (show b∈([]:List Addr)from z) (by simp);have up:∀b o,base.get? b=some o->h'.get? b=some o:=λb o q=>hk b o (e0.bs b o q).1;have cellAt:∀x c,cl.lookup x=some c->∃v,base.IsCell c v:=C.cell;refine⟨⟨e0.mod,S.kind,rfl,rfl,qp _,λy z c h1 h2=>C.inj y z c h1 h2,λy hy=>?_,λy c z _=>(by cases z),λ_=>hd,qb4 e0.frames,.inr ⟨rfl,rfl⟩,λb z=>absurd z (noA b),e0.bs,e0.bsz,λb _ _=>noA b,λb z=>absurd z (noA b),e0.funs,e0.frf⟩,
  rfl,e0.bare,Un.kept hk,⟨_,hns,λi y v h1 h2 h3=>?_⟩,λy c h=>?_,e0.hok.fresh (qp _),λy c h=>?_,λp hp=>absurd (show p∈([]:Qb)from hp) (by simp),e0.hok.kept hk,?_⟩
 ·have hy:scope.names.lookup y=some .cell∨scope.names.lookup y=some .free:=hy
  rcases hy with hy | hy
  ·exact absurd rfl (S.nocell _ (zD hy))
  ·exact C.has y hy
 ·have h1:N[i]?=some y:=h1
  by_cases hi:i<vs.length
  ·have ha:vs[i]?=some v:=by
    rw[zb (by simpa using hi),qG]at h2
    cases e:vs[i]? with
    | none=>rw[e]at h2;cases h2
    | some a=>rw[e]at h2;cases h2;rfl
   obtain⟨u,hu,rv⟩:=r.get ha;have hp:ps[i]?=some y:=by
    rw[<-S.pre,qak (by omega)];exact h1
   have ndP:ps.Nodup:=by rw[<-S.pre];exact S.nd.sublist (qaA _ _)
   exact⟨u,rv,.inl ⟨S.par y (zR hp),Zc5 ndP hp hu⟩⟩
  ·rw[zS (by simpa using hi),qG,qh]at h2
   have hc:cvs[i-vs.length]?=some v:=by
    cases e:cvs[i-vs.length]? with
    | none=>simp_all
    | some a=>rw[e]at h2;simp_all
   obtain⟨q1,c,u,q2,q3,q4⟩:=C.cap (i-vs.length) y v (by simp_all) hc;exact⟨u,q4,.inr ⟨.inr q1,c,q2,q3.keeps up⟩⟩
 ·obtain⟨v,q⟩:=C.cell y c h
  exact⟨v,q.keeps up⟩
 ·obtain⟨v,o,q,_⟩:=C.cell y c h
  exact(e0.bs c o q).2
 ·show _=N.length
  rw[C.len];simp[hl]
theorem ZmW {K:qd}
  (S:CloScope N ps scope) (C:CloAt base cl scope N ps cvs) (len:∀vs H Q E,sp vs H Q E->vs.length=ps.length)
  (at_:∀vs H Q E,sp vs H Q E->H f=some (.ext (fnφ f (zg name qual params body scope cl pm (.ref c') ct)))/\H c'=some (.ext (codeφ c' qual)))
  (hbody:∀(A:xC) (outer:List Env) (s:Shared) (H:Hp) (vs:List V) (Q:VK) (E:XK),Room k (A.deeper (zZ qual scope s.heap.objs.size f (.ref c') cl))->sp vs H Q E->
   ∃t,PE (Uu CX P w K mg base N qual scope f (.ref c') cl A outer s H E) body t/\t (vs.map some++cvs.map some) H Q) :
  FnOk P w K mg base CX (k+1) f (zg name qual params body scope cl pm (.ref c') ct) ps sp:=by
 refine⟨len,λA outer s H args us vs Q E hr e0 hb r hsp=>?_⟩;have hl:=len _ _ _ _ hsp;obtain⟨a1,a2⟩:=at_ _ _ _ _ hsp;obtain⟨oc,od,sl,ho⟩:=fnφ_at e0.hok a1;have lim:=e0.mod.nolimit.keeps λb o e=>(e0.bs b o e).1;have hkind:∀y∈ps.zip us,scope.names.lookup y.1=some .local:=λ⟨n,v⟩ hy=>S.par n (qaY hy).1;refine PySem.W.kla_callFunE hr.depth ho rfl S.co S.gen rfl (codeφ_at e0.hok a2) (hb _ _ _ _ ?_);refine wpAny_newFunctionEnv S.nocell hkind (λh' hns hsb=>?_) S.kind;have hk:=λb o e=>hsb.extBut b o (qA (qy e)) (qf _ e);refine⟨lim.keeps hk,?_⟩;obtain⟨t,ht,hq⟩:=hbody A outer s H vs Q E (hr.deeper _) hsp;refine PySem.W.kla_codeExpr (xc (ht [] _ _ H Q (ZmV S C hr.hd e0 hl r hns hk) hq) (λu s' hs=>?_) λe s' hs=>hs);obtain⟨v,H',J,rv,q⟩:=hs;exact⟨v,H',J.os,J.bare,J.base,J.hok,rv,q⟩
structure Mk0 (X:Cx)(c P:Addr):Prop where
 code:X.env.code=.ref c
 hd:zE X.base c P
 bm:∃bm o,X.mg "__builtins__" = some (.ref bm)/\bm≠builtinsNs/\bm≠mainGlobals/\X.base.get? bm=some o/\o.cls=.type "module"/\o.dict=some builtinsNs/\o.data=.plain
def Slot (P:Addr)(q:Str)(lpos:Pos)(ps:Array Value)(H Hm:Hp)(c':Addr):Prop:=
 (Hm=H/\codeAmong lpos ps.toList=some (.ref c')/\H c'=some (.ext (codeφ c' q)))∨(codeAmong lpos ps.toList=none/\H c'=none/\c'≠P/\Hm=Zi (Zi H P (.tbl (ps ++ #[rawInt lpos.line,rawInt lpos.col,.ref c']))) c' (.ext (codeφ c' q)))
def Zlc (P:Addr)(q:Str)(lpos:Pos)(isFd:xA->Addr->Prop)(H:Hp)(R:Addr->Addr->xA->Hp->Prop):Prop:=
 ∃ps,H P=some (.tbl ps)/\TriplesOk ps.toList/\(∀cv,codeAmong lpos ps.toList=some cv->∃c',cv=.ref c'/\H c'=some (.ext (codeφ c' q)))/\
  ∀p c' fd Hm,isFd fd c'->Slot P q lpos ps H Hm c'->Hm p=none->R p c' fd (Zi Hm p (.ext (fnφ p fd)))
section
variable {X:Cx}{jM:Qb}{σ:St}{H:Hp}{s:Shared}{c P:Addr}{ps:Array Value}
theorem Mk0.bat (M:Mk0 X c P)(I:Inv X jM σ H s)(hP:H P=some (.tbl ps)):s.heap.BuiltinsAt X.mg P:=by
 obtain⟨bm,o,e1,e2,e3,e4,e5⟩:=M.bm;refine⟨bm,o,e1,e2,e3,λz=>?_,I.bk _ _ e4,e5⟩;have:=(I.bs _ _ e4).2
 grind
theorem gne (I:Inv X jM σ H s)(hP:H P=some (.tbl ps)):mainGlobals≠P:=λz=>by
 obtain⟨o,es,ep,e,_⟩:=I.mod.glob;have:=(I.bs _ _ e).2
 grind
theorem Zhu (h1:φ h)(h2:∃o,h.get? a=some o)(h3:∀h1 h2:Heap,φ h1->(∀o,h1.get? a=some o->h2.get? a=some o)->φ h2):Yq P0 w H' h a (.ext φ):=⟨h1,h2,h3⟩
theorem fnφ_keep:∀h1 h2:Heap,fnφ p fd h1->(∀o,h1.get? p=some o->h2.get? p=some o)->fnφ p fd h2:=λh1 h2 ⟨oc,od,sl,e⟩ k=>⟨oc,od,sl,k _ e⟩
theorem codeφ_keep:∀h1 h2:Heap,codeφ p q h1->(∀o,h1.get? p=some o->h2.get? p=some o)->codeφ p q h2:=λh1 h2 ⟨a,o,vs,t,e,e1,r⟩ k=>by
 cases e
 exact⟨p,o,vs,t,rfl,k _ e1,r⟩
theorem codeφ_there (x:codeφ p q h):∃o,h.get? p=some o:=by
 obtain⟨a,o,vs,t,e,e1,r⟩:=x;simp_all
theorem ZmX {c':Addr}(I:Inv X jM σ H s)(hP:H P=some (.tbl ps))(hx:qaI P s.heap h')(hge:s.heap.objs.size<=c')(hc:h'.CodeRec (.ref c') q)(ht:h'.get? P=some (qa6 (ps++more))) :
  Inv X jM σ (Zi (Zi H P (.tbl (ps++more))) c' (.ext (codeφ c' q))) { s with heap:=h',toks:=tk }/\H c'=none/\c'≠P:=by
 have hc0:H c'=none:=I.hok.fresh hge;have hcP:c'≠P:=λz=>by rw[z,hP]at hc0;cases hc0
 have old:∀{b:Addr} {u:HO},H b=some u->b≠c':=λe z=>by rw[z,hc0]at e;cases e
 have get:∀{b:Addr} {u:HO},H b=some u->b≠P->Zi (Zi H P (.tbl (ps++more))) c' (.ext (codeφ c' q)) b=some u:=λ{b u} e n=>by rw[Zl (old e),Zl n];exact e
 refine⟨I.call (g':=s.gens) (d':=s.drawn) (ch:=[]) ?_ ?_ I.bare (λb hb=>absurd hb (by simp)),hc0,hcP⟩
 ·refine⟨λb o e n _ _=>hx b o (λz=>by rw[z,hP]at n;cases n) e,λb o e n _ _=>⟨o.slots,hx b o (λz=>by rw[z,hP]at n;cases n) e⟩,λb o e n _=>?_,λb o e _=>?_,λb xs e=>get e (λz=>by rw[z,hP]at e;cases e),λb o u e=>get e (λz=>by rw[z,hP]at e;cases e),λb ps' e=>?_⟩
  ·rw[Zl (qA (qR (qy e) hge)),Zl (λz=>by rw[z,hP]at n;cases n)];exact n
  ·by_cases hb:b=P
   ·exact⟨_,hb▸ht⟩
   ·exact⟨o,hx b o hb e⟩
  ·by_cases hb:b=P
   ·subst hb
    rw[hP]at e;cases e;exact⟨more,by rw[Zl (old hP),ZE]⟩
   ·exact⟨#[],by rw[get e hb];simp⟩
 ·intro a o e
  by_cases ha:a=c'
  ·subst ha
   rw[ZE]at e;cases e;exact Zhu hc (codeφ_there hc) codeφ_keep
  ·rw[Zl ha]at e
   by_cases hb:a=P
   ·subst hb
    rw[ZE]at e;cases e;exact ht
   ·rw[Zl hb]at e
    refine(I.hok a o e).stay (λb u hb' r=>hx b u ?_ r) (λb r=>get r (λz=>by grind)) λb xs r=>get r (λz=>by grind)
    grind
structure CloOf (X:Cx)(scope:Scope)(cl:List (Str×Addr)):Prop where
 of:∀x c,cl.lookup x=some c->X.env.cells.lookup x=some c
 has:∀y∈scope.names,y.2=.free->∃c,cl.lookup y.1=some c
theorem ZmY (ok:X.Ok)(hfree:∀y∈scope.names,y.2=.free->X.env.kindOf y.1=some .cell∨X.env.kindOf y.1=some .free):∃cl,closureFor scope X.env=pure cl/\CloOf X scope cl:=by
 obtain⟨cl,q1,q2,q3,q4⟩:=Zas scope.names [] (λy hy hf=>ok.has y.1 (hfree y hy hf)) (λx c h=>by simp at h);refine⟨cl,?_,q2,q4⟩;unfold closureFor;simp_all
theorem Zhv (M:Mk0 X c P)(hq:X.env.qual ++ "<lambda>" = q)(hfree:∀y∈scope.names,y.2=.free->X.env.kindOf y.1=some .cell∨X.env.kindOf y.1=some .free)(hdef:defaultsOf params X.env=([],[]):=by rfl) :
  PE X (.Lambda params body scope lpos) (fun σ H Q=>Zlc P q lpos (λfd c'=>∃cl pm ctv,CloOf X scope cl/\fd=zg "<lambda>" q params body scope cl pm (.ref c') ctv) H λp _ _ H'=>Q (.ref p) H'):=by
 intro jM s σ H Q I ⟨ps,hP,ht,hhit,h⟩;obtain⟨cl,hcl,co⟩:=ZmY I.ok hfree;have hP':=I.hok P _ hP;have hg:=I.mod.glob.keeps I.bk;have hb:=M.bat I hP;refine PySem.W.kla_eval hdef ?_;rw[hq]
 cases hc:codeAmong lpos ps.toList with
 | some cv=>
  obtain⟨c',rfl,hc'⟩:=hhit cv hc;refine PySem.W.kla_makeFunctionHit hcl I.ok.glob hg M.code (M.hd.keeps I.bk) hP' ht hc hb λctv h' tk hk hsz=>?_;refine⟨.ref h'.objs.size,Zi H h'.objs.size (.ext (fnφ _ _)),I.laid (λb u e=>qf _ (hk b u e)) hsz (Zhu ⟨_,_,_,qq _ rfl⟩ ⟨_,qq _ rfl⟩ fnφ_keep),rfl,h _ c' _ H ⟨cl,_,_,co,rfl⟩ (.inl ⟨rfl,hc,hc'⟩) (I.hok.fresh hsz)⟩
 | none=>
  refine PySem.W.kla_makeFunction hcl I.ok.glob hg M.code (M.hd.keeps I.bk) hP' ht hc (gne I hP) hb λc' ctv h' tk hx hge hlt hrec htb=>?_;obtain⟨I1,hc0,hcP⟩:=ZmX (tk:=tk) I hP hx hge hrec htb;refine⟨.ref h'.objs.size,Zi _ h'.objs.size (.ext (fnφ _ _)),I1.laid (λb u e=>qf _ e) (qp _) (Zhu ⟨_,_,_,qq _ rfl⟩ ⟨_,qq _ rfl⟩ fnφ_keep),rfl,h _ c' _ _ ⟨cl,_,_,co,rfl⟩ (.inr ⟨hc,hc0,hcP,rfl⟩) (I1.hok.fresh (qp _))⟩
end
structure Cells (X:Cx)(σ:St)(base':Heap):Prop where
 inj:∀x y c,X.env.cells.lookup x=some c->X.env.cells.lookup y=some c->x=y
 cell:∀x c,X.env.cells.lookup x=some c->∃v,base'.IsCell c v
 has:∀x,(X.env.kindOf x=some .cell∨X.env.kindOf x=some .free)->∃c,X.env.cells.lookup x=some c
 val:∀(i:Nat) (x:Str) (v:V),X.N[i]?=some x->σ[i]?=some (some v)->X.env.kindOf x=some .cell->∃c u,X.env.cells.lookup x=some c/\base'.IsCell c (some u)/\ZF v u
section
variable {X:Cx}{jM:Qb}{σ:St}{H:Hp}{s:Shared}
def B3 (X:Cx):List Addr:=X.env.cells.filterMap λp=>X.env.cells.lookup p.1
theorem Zjx (e:X.env.cells.lookup x=some c):c∈B3 X:=yO.mpr ⟨(x,c),zD e,e⟩
theorem Zf4 (h:c∈B3 X):∃x,X.env.cells.lookup x=some c:=by
 obtain⟨p,_,e⟩:=yO.mp h;exact⟨p.1,e⟩
theorem Zep (I:Inv X jM σ H s)(hfn:∀x,X.fn x=true):Env0 X.prog X.w X.K X.mg (Vz s.heap X.base (B3 X)) X.A X.stack s H/\Cells X σ (Vz s.heap X.base (B3 X)):=by
 have cellK:∀x c v,X.env.cells.lookup x=some c->s.heap.IsCell c v->(Vz s.heap X.base (B3 X)).IsCell c v:=λx c v e ⟨o,ho,hd⟩=>⟨o,Zf3 ho (.inr (Zjx e)),hd⟩;refine⟨jF I.env0 (λb hb=>?_) λb hb hf=>?_,⟨I.ok.inj,λx c e=>?_,I.ok.has,λi x v h1 h2 h3=>?_⟩⟩
 ·obtain⟨x,e⟩:=Zf4 hb
  exact I.freeC x b e
 ·obtain⟨x,e⟩:=Zf4 hb
  rcases qu.mp (I.stkSub b hf)with z | z
  ·exact I.cne x b e z
  ·obtain⟨_,o,ho,_⟩:=I.ok.funs.mem z
   exact absurd (qR (qy ho) (I.ok.cab x b (hfn x) e)) (ye _)
 ·obtain⟨v,q⟩:=I.cell x c e
  exact⟨v,cellK x c v e q⟩
 ·obtain⟨m,_,hl⟩:=I.loc
  obtain⟨u,r,l⟩:=hl i x v h1 h2 (.inr (.inl h3));rcases l with⟨hk,_⟩ | ⟨_,c,hc,hcell⟩
  ·grind
  ·exact⟨c,u,hc,cellK x c _ hc hcell,r⟩
theorem Zld {p pos:Pos}{sp:Heap->Sp}(F:∀base,FnOk X.prog X.w X.K X.mg base ZN k f fd ps (sp base))(hfn:∀x,X.fn x=true)(hr:Room k X.A)(hg:Gl X x)(hm:X.mg x=some (.ref f))(hk:zt X.K (.ref f)=true)(hb:XJ X.K fd ps [])
  (ha:PA X (e::es) t) (hdb:(x==("__debug__" : Str))=false:=by decide) (he:xh (e::es) X.env=(false,eval e X.env)::xh es X.env:=by rfl) (hpl:(backTo pos (xh es X.env)).any (·.1)=false:=by rfl) :
  PE X (.Call (.Name x p) (e::es) [] pos) (fun σ H Q=>t σ H λvs H1=>∀base',Cells X σ base'->sp base' vs H1 Q E0):=by
 intro jM s σ H Q I h;refine wpAny_Call_Name_kw (Bz I hg hm ?_ hdb);refine PySem.W.callWith_K I.ok.mod.kin hk (ZJ (ha pos jM s σ H _ I h) λus s1 ⟨vs,H1,I1,r,q⟩=>⟨I1.kIn,?_⟩) he hpl;obtain⟨e0,cs⟩:=Zep I1 hfn;have q':=q _ cs;have hl:(us ++ []).length=ps.length:=by rw[zw,<-r.length];exact(F _).len _ _ _ _ q'
 refine xy (codeAny_mono ((F _).run X.A X.stack s1 H1 ⟨us,[]⟩ us vs Q E0 hr e0 (by have:=hb s1 us I1.kIn hl;simp_all) r q') λr s' hq=>?_)
 cases r with
 | error e=>exact hq.elim
 | ok fl=>
  cases fl with
  | ret u=>exact I1.after hq
  | next=>exact zj hq
  | brk=>exact zj hq
  | cont=>exact zj hq
theorem Zf5 {pos:Pos}(hf:PE X (.Name x p) (ZY i))(hr:Room k X.A)(ha:PA X (e::es) t)
  (he:xh (e::es) X.env=(false,eval e X.env)::xh es X.env:=by rfl) (hpl:(backTo pos (xh es X.env)).any (·.1)=false:=by rfl) :
  PE X (.Call (.Name x p) (e::es) [] pos) (fun σ H Q=>∃f fd ps sp,σ[i]?=some (some (.ref f))/\XJ X.K fd ps []/\FnOk X.prog X.w X.K X.mg X.base ZN k f fd ps sp/\(∀h:Heap,Yp X.prog X.w H h->X.K.In h->fnφ f fd h)/\
   t σ H λvs H1=>(∀h:Heap,Yp X.prog X.w H1 h->X.K.In h->fnφ f fd h)/\sp vs H1 Q E0):=by
 intro jM s σ H Q I ⟨f,fd,ps,sp,e,hb,F,h0,h⟩;refine wpAny_Call_Name_kw (ZJ (hf jM s σ H (λv H'=>v=.ref f/\H'=H) I ⟨_,e,rfl,rfl⟩) λu s1 ⟨v,H1,I1,rv,ev,eH⟩=>?_);subst ev eH
 cases (show u=qH f from rv)
 have at1:∀{jM σ H s},Inv X jM σ H s->(∀h,Yp X.prog X.w H h->X.K.In h->fnφ f fd h)->PySem.W.FnAt f s.heap:=λI z=>by
  obtain⟨oc,od,sl,q⟩:=z _ I.hok I.kIn;exact⟨oc,od,fd,sl,q⟩
 refine PySem.W.callWith_F (at1 I1 h0) (ZJ (ha pos jM s1 σ _ _ I1 h) λus s2 ⟨vs,H2,I2,r,h2,q⟩=>⟨at1 I2 h2,?_⟩) he hpl;exact ZkM F hr hb .nil B0 I2 r (by simp_all)
end
mutual
def YZ:D->Bool
 | .tup ds=>Y6 ds
 | .lst ds=>Y6 ds
 | .clo _ _=>false
 | _=>true
def Y6:List D->Bool
 | []=>true
 | d::ds=>YZ d&&Y6 ds
end
mutual
theorem Zo.re {G G':Gh}{H:Hp}(hf:G'.fp=G.fp)(hp:G'.pen=G.pen):∀{d:D} {v:V},YZ d=true->Zo G H d v->Zo G' H d v
 | .non,_,_,h=>jg.mpr (jg.mp h)
 | .bl _,_,_,h=>je.mpr (je.mp h)
 | .int _,_,_,h=>ja.mpr (ja.mp h)
 | .str _,_,_,h=>jh.mpr (jh.mp h)
 | .tup ds,v,n,h=>by
  obtain⟨a,vs,e1,nf,e2,r⟩:=jc.mp h;exact jc.mpr ⟨a,vs,e1,by rw[hf];exact nf,e2,Zk.re hf hp (by simpa[YZ]using n) r⟩
 | .lst ds,v,n,h=>by
  obtain⟨a,vs,e1,nf,e2,r⟩:=jb.mp h;exact jb.mpr ⟨a,vs,e1,by rw[hf];exact nf,e2,Zk.re hf hp (by simpa[YZ]using n) r⟩
 | .dk _,_,_,h=>by
  obtain⟨a,e1,nf,e2⟩:=jj.mp h;exact jj.mpr ⟨a,e1,by rw[hf];exact nf,e2⟩
 | .dt _,_,_,h=>by
  obtain⟨a,o,e1,nf,e2⟩:=jm.mp h;exact jm.mpr ⟨a,o,e1,by rw[hf];exact nf,e2⟩
 | .du _,_,_,h=>by
  obtain⟨a,e1,nf,e2⟩:=jn.mp h;exact jn.mpr ⟨a,e1,by rw[hf];exact nf,e2⟩
 | .df _,_,_,h=>by
  obtain⟨a,o,e1,nf,e2⟩:=jr.mp h;exact jr.mpr ⟨a,o,e1,by rw[hf];exact nf,e2⟩
 | .pen,_,_,h=>jo.mpr ((jo.mp h).trans hp.symm)
 | .ty _,_,_,h=>js.mpr (js.mp h)
 | .clo _ _,_,n,_=>by simp[YZ]at n
theorem Zk.re {G G':Gh}{H:Hp}(hf:G'.fp=G.fp)(hp:G'.pen=G.pen):∀{ds:List D} {vs:List V},Y6 ds=true->Zk G H ds vs->Zk G' H ds vs
 | [],_,_,h=>Zk.nil_iff.mpr (Zk.nil_iff.mp h)
 | d::ds,vs,n,h=>by
  obtain⟨v,r,e,h1,h2⟩:=jd.mp h;have n':YZ d=true/\Y6 ds=true:=by simpa[Y6]using n
  exact jd.mpr ⟨v,r,e,Zo.re hf hp n'.1 h1,Zk.re hf hp n'.2 h2⟩
end
theorem Gr.re (hf:G'.fp=G.fp)(g:Gr G Hf H Hf' H'):Gr G' Hf H Hf' H':=
 ⟨λb o n=>g.hh b o (by simp_all),λb o n=>g.ff b o (by simp_all),λb o n=>g.fh b o (by simp_all),λb n=>g.nw b (by simp_all)⟩
theorem Zz.re (hf:G'.fp=G.fp)(g:Zz G H H'):Zz G' H H':=λb o n=>g b o (by simp_all)
theorem Z7.re (hf:G'.fp=G.fp)(hp:G'.pen=G.pen)(n:YZ d=true)(h:Z7 G H Hf' d v):Z7 G' H Hf' d v:=λa e m=>by
 obtain⟨h1,h2⟩:=h a e m;refine⟨h1,λds ed=>?_⟩;obtain⟨vs,Hm,q1,q2,q3,q4⟩:=h2 ds ed;subst ed;exact⟨vs,Hm,q1,q2,q3.re hf,q4.re hf hp (by simpa[YZ]using n)⟩
def spK (n:Nat)(G:Gh)(cvs:List V)(F:List D->M D):Sp:=λus H Q _=>∃(Hf:Hp) (ds cds:List D) (s:Pn) (d:D) (s':Pn),us.length=n/\Zz G Hf H/\Zk G Hf ds us/\Zk G Hf cds cvs/\G.st s H/\F (ds++cds) s=some (d,s')/\
 ∀v Hf' H',Gr G Hf H Hf' H'->G.st s' H'->Zo G Hf' d v->Q v H'
def Jl (P:xB)(w:World)(K:qd)(mg:Str->Option Value)(k n:Nat)(T:Nat->List D->M D)(base:Heap)(G:Gh):Prop:=
 ∀t v cvs,G.clo t v cvs->∃f fd ps,v=.ref f/\ps.length=n/\XJ K fd ps []/\(∀s H,G.st s H->∀h:Heap,Yp P w H h->K.In h->fnφ f fd h)/\FnOk P w K mg base ZN k f fd ps (spK n G cvs (T t))
def dApp (T:Nat->List D->M D)(i:Nat)(fs:Zc->M (List D)):Zc->M D:=fun ρ=>Zm (Za i ρ) λc=>Zm (fs ρ) λds=>match c with | .clo t cds=>T t (ds++cds) | _=>Zq
theorem Zjy (h:Za i ρ s=some (d,s')):ρ[i]?=some (some d)/\s'=s:=by
 obtain⟨e,rfl⟩:=WD h
 cases q:ρ[i]? with
 | none=>simp_all
 | some o=>simp_all
section
variable {X:Cx}{G:Gh}
theorem Zle {pos:Pos}(hG:Jl X.prog X.w X.K X.mg k n T X.base G)(hr:Room k X.A)(hf:PE X (.Name x p) (ZY i))(ha:WO X G (e::es) fs)
  (hal:∀ρ s ds s',fs ρ s=some (ds,s')->ds.length=(e::es).length) (jW:(e::es).length=n:=by rfl)
  (he:xh (e::es) X.env=(false,eval e X.env)::xh es X.env:=by rfl) (hpl:(backTo pos (xh es X.env)).any (·.1)=false:=by rfl) :
  PD X G false (.Call (.Name x p) (e::es) [] pos) (dApp T i fs):=by
 obtain⟨t,pa,qa⟩:=ha;refine⟨_,Zf5 hf hr pa he hpl,fun σ Hf H ρ s d s' Q e1 e2 e3 e4 k=>?_⟩;obtain⟨c,s0,b0,b1⟩:=Zs e4;obtain⟨a0,rfl⟩:=Zjy b0;obtain⟨ds,s1,a1,a2⟩:=Zs b1
 cases c with
 | clo t cds=>
  obtain⟨v,hσ,r⟩:=e2 i _ a0;obtain⟨cvs,hc,rc⟩:=jz.mp r;obtain⟨f,fd,ps,rfl,hl,hb,hat,F⟩:=hG t v cvs hc;refine⟨f,fd,ps,_,hσ,hb,F,hat _ H e3,qa σ Hf H ρ _ ds s1 _ e1 e2 e3 a1 λvs jV H1 g1 jX r1=>⟨hat _ H1 jX,jV,ds,cds,s1,d,s',?_,g1.fh,r1,rc.ext g1.ff,jX,a2,λv j6 H2 g2 jY r2=>k v j6 H2 (g1.trans g2) jY r2 (λz=>by cases z)⟩⟩;rw[<-r1.length,hal _ _ _ _ a1];exact jW
 | _=>cases a2
end
def Y1 (n:Nat)(f:Zc->M D):List D->M D:=λds=>if ds.length=n then f (ds.map some)else Zq
theorem ZmZ (r:Zk G Hf ds vs):YM G Hf (vs.map some) (ds.map some):=λi d e=>by
 cases q:ds[i]? with
 | none=>simp_all
 | some d'=>
  obtain⟨v,h1,h2⟩:=r.get q;simp_all
theorem fnKE {K:qd}
  (S:CloScope N ps scope) (C:CloAt base cl scope N ps cvs) (hG:∀s H,G.st s H->H f=some (.ext (fnφ f (zg name qual params body scope cl pm (.ref c') ct)))/\H c'=some (.ext (codeφ c' qual)))
  (hb:∀(A:xC) (outer:List Env) (s:Shared) (H:Hp) (E:XK),Room k (A.deeper (zZ qual scope s.heap.objs.size f (.ref c') cl))->PD (Uu ZN P w K mg base N qual scope f (.ref c') cl A outer s H E).nox G fr body fe) :
  FnOk P w K mg base ZN (k+1) f (zg name qual params body scope cl pm (.ref c') ct) ps (spK ps.length G cvs (Y1 N.length fe)):=by
 refine ZmW S C (λvs H Q E ⟨_,_,_,_,_,_,h,_⟩=>h) (λvs H Q E ⟨_,_,_,s,_,_,_,_,_,_,st,_⟩=>hG s H st) λA outer s H vs Q E hr h=>?_;obtain⟨Hf,ds,cds,pn,d,pn',el,e1,r1,r2,st,eF,k'⟩:=h;obtain⟨t,p,q⟩:=hb A outer s H E hr;refine⟨t,p.nox,?_⟩;obtain⟨hl,a0⟩:=YQ eF;have env:=ZmZ (r1.append r2);rw[zI]at env;exact q _ Hf H _ pn d pn' Q e1 env st a0 λv Hf' H' g st' r _=>k' v Hf' H' g st' r
structure TabG (P:Addr)(q:Str)(G:Gh):Prop where
 get:∀s H,G.st s H->∃ps,H P=some (.tbl ps)/\TriplesOk ps.toList/\∀pos cv,codeAmong pos ps.toList=some cv->∃c',cv=.ref c'/\H c'=some (.ext (codeφ c' q))/\¬G.fp c'
 fp:G.fp P
 put:∀s H ps (pos:Pos) c',G.st s H->H P=some (.tbl ps)->H c'=none->codeAmong pos ps.toList=none->G.st s (Zi (Zi H P (.tbl (ps ++ #[rawInt pos.line,rawInt pos.col,.ref c']))) c' (.ext (codeφ c' q)))
def Wy (G:Gh)(t:Nat)(p c':Addr)(fd:xA)(q:Str)(cvs:List V):Gh where
 fp:=G.fp
 rd:=G.rd
 pen:=G.pen
 st:=λs H=>G.st s H/\H p=some (.ext (fnφ p fd))/\H c'=some (.ext (codeφ c' q))
 mono:=λs H H' ⟨h1,h2,h3⟩ k1 k2=>⟨G.mono s H H' h1 k1 k2,k2 _ _ h2,k2 _ _ h3⟩
 sub:=G.sub
 dom:=λs H b h=>G.dom s H b h.1
 ntp:=λs H b vs h=>G.ntp s H b vs h.1
 clo:=λt' v cs=>t'=t/\v=.ref p/\cs=cvs
def Jm (P:xB)(w:World)(K:qd)(mg:Str->Option Value)(k:Nat)(x:Str)(n:Nat)(fr:Bool)(GG:Heap->Gh->Prop)(F:List D->M D):Prop:=
 ∃f fd ps,(∀base,FnOk P w K mg base ZN k f fd ps (Ys n fr (GG base) F))/\mg x=some (.ref f)/\zt K (.ref f)=true/\XJ K fd ps []
theorem Jm.mono {K:qd}(c:Jm P w K mg j x n fr GG F)(h:j<=k:=by decide):Jm P w K mg k x n fr GG F:=
 let ⟨f,fd,ps,a,b,c,d⟩:=c
 ⟨f,fd,ps,λbase=>(a base).mono h,b,c,d⟩
structure CapS (X:Cx)(XN:List Str)(NS:List (Str×NameKind))(N ps:List Str)(cix:List Nat)(scope:Scope):Prop where
 xn:X.N=XN
 ns:X.env.scope.names=NS
 len:N.length=ps.length+cix.length
 at_:(cix.zip (N.drop ps.length)).all (λp=>decide (XN[p.1]?=some p.2)&&decide (NS.lookup p.2=some .cell)&&decide (scope.names.lookup p.2=some .free))=true
 free:∀y∈scope.names,y.2=.free->NS.lookup y.1=some .cell∨NS.lookup y.1=some .free
theorem CapS.hfree (B:CapS X XN NS N ps cix scope):∀y∈scope.names,y.2=.free->X.env.kindOf y.1=some .cell∨X.env.kindOf y.1=some .free:=λy hy hf=>by
 have:=B.free y hy hf;rw[<-B.ns]at this;exact this
theorem CapS.cloAt (B:CapS X XN NS N ps cix scope)(cs:Cells X σ base')(co:CloOf X scope cl)(hl:cvs.length=cix.length)
  (hv:∀(i j:Nat) (v:V),cix[i]?=some j->cvs[i]?=some v->σ[j]?=some (some v)):CloAt base' cl scope N ps cvs:=by
 refine⟨λx y c h1 h2=>cs.inj x y c (co.of x c h1) (co.of y c h2),λx c h=>cs.cell x c (co.of x c h),λx h=>co.has (x,.free) (zD h) rfl,λi x v h1 h2=>?_,by rw[B.len,hl]⟩;have hi:i<cix.length:=by rw[<-hl];exact(qz.mp h2).1
 have hj:=qB hi;have hx:(N.drop ps.length)[i]?=some x:=by simp_all
 have q:=zC.mp B.at_ (cix[i],x) (zR (qah.mpr ⟨hj,hx⟩));simp at q;obtain⟨⟨q1,q2⟩,q3⟩:=q;refine⟨q3,?_⟩;obtain⟨c,u,e1,e2,e3⟩:=cs.val cix[i] x v (by rw[B.xn];exact q1) (hv i _ v hj h2) (by show X.env.scope.names.lookup x=_;rw[B.ns];exact q2);obtain⟨c2,e4⟩:=co.has (x,.free) (zD q3) rfl;have e5:=co.of x c2 e4;rw[e1]at e5;cases e5;exact⟨c,u,e4,e2,e3⟩
def Vt (ρ:Zc):List Nat->Option (List D)
 | []=>some []
 | i::r=>((ρ[i]?).bind id).bind λd=>(Vt ρ r).map (d :: ·)
theorem Zc6 (e:YM G Hf σ ρ):∀{cix:List Nat} {cds:List D},Vt ρ cix=some cds->∃cvs,cvs.length=cix.length/\Zk G Hf cds cvs/\∀(i j:Nat) (v:V),cix[i]?=some j->cvs[i]?=some v->σ[j]?=some (some v)
 | [],cds,h=>by cases h;exact⟨[],rfl,Zk.nil_iff.mpr rfl,λi j v h1=>by simp at h1⟩
 | a::r,cds,h=>by
  unfold Vt at h
  cases q:(ρ[a]?).bind id with
  | none=>simp_all
  | some d=>
   rw[q]at h
   cases q2:Vt ρ r with
   | none=>simp_all
   | some ds=>
    rw[q2]at h;cases h;obtain⟨v,h1,h2⟩:=e a d (by
     cases q3:ρ[a]? with
     | none=>simp_all
     | some o=>simp_all)
    obtain⟨cvs,l1,l2,l3⟩:=Zc6 e q2;refine⟨v::cvs,by simp[l1],Zk.cons h2 l2,λi j u e1 e2=>?_⟩
    cases i with
    | zero=>simp at e1 e2;subst e1;subst e2;exact h1
    | succ i=>exact l3 i j u (by simpa using e1) (by simpa using e2)
def J8 (F:List D->M D)(t:Nat)(cix:List Nat)(f:Zc->M D):Zc->M D:=fun ρ=>Zm (f ρ) λd=>Zm (YU (Vt ρ cix)) λcds=>if (YZ d&&Y6 cds)=true then Zm (F [d,.clo t cds]) λc=>if YZ c=true then Zy c else Zq else Zq
section
variable {X:Cx}{G:Gh}{P c:Addr}{q:Str}
theorem Ziq (TG:TabG P q G)(st:G.st s H)(hP:H P=some (.tbl ps))(sl:Slot P q lpos ps H Hm c'):G.st s Hm/\Hm c'=some (.ext (codeφ c' q))/\Zz G H Hm:=by
 rcases sl with⟨rfl,h1,h2⟩ | ⟨h1,h2,h3,rfl⟩
 ·exact⟨st,h2,.refl _ _⟩
 ·refine⟨TG.put s H ps lpos c' st hP h2 h1,ZE,λb o n e=>?_⟩
  rw[Zl (ZP e h2),Zl (λz=>n (by rw[z];exact TG.fp))];exact e
theorem Zir (e1:Zz G Hf H)(ex:Zz G H Hm)(hp:Hm p=none):Gr G Hf H Hf (Zi Hm p o):=by
 have hh:Zz G H (Zi Hm p o):=λb u n e=>by
  have:=ex b u n e;rw[Zl (ZP this hp)];exact this
 exact⟨hh,.refl _ _,e1.trans hh,λ_ _ h _=>h⟩
theorem ZoQ (hb:XJ X.K fd ps [])(hF:FnOk X.prog X.w X.K X.mg base' ZN k p fd ps (spK ps.length (Wy G t p c' fd q cvs) cvs F))(hT:T t=F) :
  Jl X.prog X.w X.K X.mg k ps.length T base' (Wy G t p c' fd q cvs):=by
 rintro t' v cs ⟨rfl,rfl,rfl⟩;exact⟨p,fd,ps,rfl,rfl,hb,λs H st h ok _=>fnφ_at ok st.2.1,by simp_all⟩
variable {k kl:Nat}{x:Str}{fr frb:Bool}{F:List D->M D}{T:Nat->List D->M D}{t:Nat}{e1:Expr}{f1:Zc->M D}{r1:Bool}{params:Arguments}{scope:Scope}{lpos ppos pos:Pos}{XN N ps:List Str}{NS:List (Str×NameKind)}{cix:List Nat}
theorem ofC (n:YZ d=true)(r:Zo (Wy G t p c' fd q cvs) H d v):Zo G H d v:=Zo.re (G:=Wy G t p c' fd q cvs) (G':=G) rfl rfl n r
theorem toC (n:YZ d=true)(r:Zo G H d v):Zo (Wy G t p c' fd q cvs) H d v:=Zo.re (G:=G) (G':=Wy G t p c' fd q cvs) rfl rfl n r
theorem toCL (n:Y6 d=true)(r:Zk G H d v):Zk (Wy G t p c' fd q cvs) H d v:=Zk.re (G:=G) (G':=Wy G t p c' fd q cvs) rfl rfl n r
theorem grC (g:Gr (Wy G t p c' fd q cvs) Hf H Hf' H'):Gr G Hf H Hf' H':=Gr.re (G:=Wy G t p c' fd q cvs) rfl g
theorem frC (n:YZ d=true)(h:Z7 (Wy G t p c' fd q cvs) H Hf' d v):Z7 G H Hf' d v:=Z7.re (G:=Wy G t p c' fd q cvs) rfl rfl n h
theorem Zc7 (M:Mk0 X c P)(TG:TabG P q G)(hW:Jm X.prog X.w X.K X.mg k x 2 fr (Jl X.prog X.w X.K X.mg (kl+1) ps.length T) F)(hfn:∀x,X.fn x=true)(hr:Room k X.A)(hg:Gl X x)(h1:PD X G r1 e1 f1)
  (hq:X.env.qual ++ "<lambda>" = q) (S:CloScope N ps scope) (B:CapS X XN NS N ps cix scope) (hT:T t=Y1 N.length fe)
  (hbind:∀(cl:List (Str×Addr)) (pm cd ct:Value) (us:List Value),us.length=ps.length->bindArgs (zg "<lambda>" q params body scope cl pm cd ct) ⟨us,[]⟩=pure (ps.zip us))
  (hb:∀(base:Heap) (f c':Addr) (cl:List (Str×Addr)) (G:Gh) (A:xC) (outer:List Env) (s:Shared) (H:Hp) (E:XK),Room kl (A.deeper (zZ q scope s.heap.objs.size f (.ref c') cl))->PD (Uu ZN X.prog X.w X.K X.mg base N q scope f (.ref c') cl A outer s H E).nox G frb body fe)
  (hdef:defaultsOf params X.env=([],[]):=by rfl) (hdb:(x==("__debug__" : Str))=false:=by decide)
  (he:xh [e1,.Lambda params body scope lpos] X.env=(false,eval e1 X.env)::xh [.Lambda params body scope lpos] X.env:=by rfl) (he2:xh [Expr.Lambda params body scope lpos] X.env=(false,eval (.Lambda params body scope lpos) X.env)::xh [] X.env:=by rfl)
  (hpl:(backTo pos (xh [Expr.Lambda params body scope lpos] X.env)).any (·.1)=false:=by rfl) :
  PD X G fr (.Call (.Name x ppos) [e1,.Lambda params body scope lpos] [] pos) (J8 F t cix f1):=by
 obtain⟨t1,p1,q1⟩:=h1.drop;obtain⟨f,fd0,ps0,FN,hm,hk,hbd⟩:=hW;refine⟨_,Zld FN hfn hr hg hm hk hbd (ZU p1 (ZU (Zhv M hq B.hfree hdef) Yn he2) he) hdb he hpl,fun σ Hf H ρ s d s' Q x1 x2 x3 x4 k=>?_⟩;obtain⟨d1,s1,a1,a2⟩:=Zs x4;obtain⟨cds,s2,b3,a4⟩:=Zs a2;obtain⟨a3,rfl⟩:=WD b3;obtain⟨hn,a5⟩:=YQ a4;obtain⟨cc,s3,a6,a7⟩:=Zs a5;obtain⟨hn2,a8⟩:=YQ a7;obtain⟨rfl,rfl⟩:=ZC a8;obtain⟨hn0,hn1⟩:=yB.mp hn;refine q1 σ Hf H ρ s d1 _ _ x1 x2 x3 a1 λv1 jV H1 g1 jX rv1=>?_;obtain⟨tp,hP,htr,hhit⟩:=TG.get _ H1 jX;refine⟨tp,hP,htr,λcv h=>let ⟨c',z1,z2,_⟩:=hhit lpos cv h;⟨c',z1,z2⟩,λp c' fd Hm ⟨cl,pm,ctv,co,efd⟩ sl hp=>?_⟩;subst efd;obtain⟨stm,hc',ex⟩:=Ziq TG jX hP sl;have gr:=Zir (o:=.ext (fnφ p (zg "<lambda>" q params body scope cl pm (.ref c') ctv))) g1.fh ex hp;have hcp:c'≠p:=λz=>by rw[z,hp]at hc';cases hc'
 obtain⟨cvs,l1,l2,l3⟩:=Zc6 (x2.ext g1.ff) a3;intro base' cs;have C:CloAt base' cl scope N ps cvs:=B.cloAt cs co l1 l3;refine⟨Wy G t p c' (zg "<lambda>" q params body scope cl pm (.ref c') ctv) q cvs,jV,[d1,.clo t cds],_,d,_,ZoQ (X:=X) (.all (hbind cl pm (.ref c') ctv)) (fnKE S C (λs H st=>st.2) λA outer s H E hr=>hb base' p c' cl _ A outer s H E hr) hT,rfl,gr.fh,?_,⟨Gh.grow stm hp,ZE,by rw[Zl hcp];exact hc'⟩,a6,λv Hf3 H3 g3 st3 r3 fz=>?_⟩
 ·refine .cons (toC hn0 rv1) (.one (jz.mpr ⟨cvs,⟨rfl,rfl,rfl⟩,toCL hn1 l2⟩))
 ·have g3':=grC g3
  have gg:=(g1.trans gr).trans g3';have rr:=ofC hn2 r3;refine k v Hf3 H3 gg st3.1 rr λz=>?_;exact Z7.old (g1.hh.trans gr.hh) rr.nofp (frC hn2 (fz z))
end
theorem boot_len:xj "len" = some (.builtin "len"):=by rfl
theorem boot_isinstance:xj "isinstance" = some (.builtin "isinstance"):=by rfl
theorem boot_any:xj "any" = some (.builtin "any"):=by rfl
theorem boot_max:xj "max" = some (.builtin "max"):=by rfl
theorem boot_min:xj "min" = some (.builtin "min"):=by rfl
theorem boot_set:xj "set" = some (.type "set"):=by rfl
theorem boot_sorted:xj "sorted" = some (.builtin "sorted"):=by rfl
theorem boot_tuple:xj "tuple" = some (.type "tuple"):=by rfl
theorem boot_list:xj "list" = some (.type "list"):=by rfl
theorem boot_int:xj "int" = some (.type "int"):=by rfl
theorem boot_bool:xj "bool" = some (.type "bool"):=by rfl
theorem boot_dict:xj "dict" = some (.type "dict"):=by rfl
abbrev Z0:Gh->Prop:=λ_=>True
def ZnZ (G:Gh)(ob own own':List Nat)(fr:Bool)(g:Zc->M Out):TS:=λE σ H=>∃kn jS H0 ρ s out s',J G own kn jS H0 σ H ρ/\G.st s H/\g ρ s=some (out,s')/\Post G ob own' kn jS H0 fr out s' E
def Ok {α:Type}(m:M α)(s:Pn)(Q:α->Pn->Prop):Prop:=∃a s',m s=some (a,s')/\Q a s'
theorem Ok.bind {m:M α}{k:α->M β}{Q:β->Pn->Prop}(h:Ok m s λa s1=>Ok (k a) s1 Q):Ok (Zm m k) s Q:=by
 obtain⟨a,s1,e,b,s2,e2,q⟩:=h;exact⟨b,s2,by unfold Zm;simp_all,q⟩
theorem Ok.ret {a:α}{Q:α->Pn->Prop}(h:Q a s):Ok (Zy a) s Q:=⟨a,s,rfl,h⟩
theorem Ok.eq {m:M α}{a:α}{Q:α->Pn->Prop}(e:m s=some (a,s'))(h:Q a s'):Ok m s Q:=⟨a,s',e,h⟩
theorem Ok.mono {m:M α}{Q Q':α->Pn->Prop}(h:Ok m s Q)(k:∀a s',Q a s'->Q' a s'):Ok m s Q':=let ⟨a,s',e,q⟩:=h;⟨a,s',e,k a s' q⟩
theorem Ok.of {o:Option α}{a:α}{Q:α->Pn->Prop}(e:o=some a)(h:Q a s):Ok (YU o) s Q:=⟨a,s,by unfold YU;rw[e],h⟩
theorem Ok.ite {α:Type}{c:Prop}[Decidable c]{m:M α}{s:Pn}{Q:α->Pn->Prop}(hc:c)(h:Ok m s Q):Ok (if c then m else Zq) s Q:=by simp_all
section
variable {ρ:Zc}{s:Pn}{Q:Out->Pn->Prop}{f:Zc->M D}{g1 g2:Zc->M Out}
theorem Ok.seq (h:Ok (g1 ρ) s λo s1=>match o with | .nx ρ'=>Ok (g2 ρ') s1 Q | .rt d=>Q (.rt d) s1 | .bk ρ'=>Q (.bk ρ') s1 | .ct ρ'=>Q (.ct ρ') s1):Ok (Zg g1 g2 ρ) s Q:=by
 refine Ok.bind (h.mono λo s1 q=>?_)
 cases o with
 | nx ρ'=>exact q
 | rt d=>exact .ret q
 | bk ρ'=>exact .ret q
 | ct ρ'=>exact .ret q
theorem Ok.next (h:Q (.nx ρ) s):Ok (Zp ρ) s Q:=.ret h
theorem Ok.sset (h:Ok (f ρ) s λd s1=>Q (.nx (ρ.set i (some d))) s1):Ok (ZS i f ρ) s Q:=.bind (h.mono λ_ _ q=>.ret q)
theorem Ok.sown (h:Ok (f ρ) s λd s1=>Ze1 d=true/\Q (.nx (ρ.set i (some d))) s1):Ok (Wo i f ρ) s Q:=.bind (h.mono λ_ _ q=>.ite q.1 (.ret q.2))
theorem Ok.sret (h:Ok (f ρ) s λd s1=>Q (.rt d) s1):Ok (ZL f ρ) s Q:=.bind (h.mono λ_ _ q=>.ret q)
theorem Ok.sif (h:Ok (c ρ) s λb s1=>if b=true then Ok (g1 ρ) s1 Q else Ok (g2 ρ) s1 Q):Ok (Yw c g1 g2 ρ) s Q:=by
 refine .bind (h.mono λb s1 q=>?_)
 cases b with
 | true=>simp_all
 | false=>simp_all
theorem Ok.sapp (hi:(ρ[i]?).bind id=some (.lst ds))(hl:ds.length<xg)(h:Ok (f ρ) s λd s1=>Q (.nx (ρ.set i (some (.lst (ds ++ [d]))))) s1):Ok (V0 i f ρ) s Q:=by
 refine .bind (h.mono λd s1 q=>?_);simp only[hi];exact .ite hl (.ret q)
theorem Ok.sext (hi:(ρ[i]?).bind id=some (.lst ds))(h:Ok (f ρ) s λd s1=>∃es,d=.lst es/\ds.length+es.length<=xg/\Q (.nx (ρ.set i (some (.lst (ds++es))))) s1):Ok (UK i f ρ) s Q:=by
 refine .bind (h.mono λd s1 q=>?_);obtain⟨es,rfl,hl,q⟩:=q;simp only[hi];exact .ite hl (.ret q)
theorem Ok.loop (I:Nat->Zc->Pn->Prop):∀(ds:List D) (k:Nat) (ρ:Zc) (s:Pn),I k ρ s->
  (∀i d ρ s,ds[i]?=some d->I (k+i) ρ s->∃ρ1,τ d ρ=some ρ1/\Ok (body ρ1) s λo s'=>∃ρ',o=.nx ρ'/\I (k+i+1) ρ' s')->Ok (Wx τ body ds ρ) s λo s'=>∃ρ',o=.nx ρ'/\I (k+ds.length) ρ' s'
 | [],k,ρ,s,h0,_=>.ret ⟨ρ,rfl,h0⟩
 | d::ds,k,ρ,s,h0,h=>by
  obtain⟨ρ1,e1,ok⟩:=h 0 d ρ s rfl h0;refine Ok.bind (.of e1 (.bind (ok.mono λo s' q=>?_)));obtain⟨ρ',rfl,q⟩:=q;refine(Ok.loop I ds (k+1) ρ' s' q λi d' ρ2 s2 e2 q2=>?_).mono λo s2 q2=>?_
  ·have:=h (i+1) d' ρ2 s2 (by simpa using e2) (by grind)
   rw[show k+(i+1)+1=k+1+i+1 by omega]at this;exact this
  ·rw[show k+(d::ds).length=k+1+ds.length by simp;omega]
   exact q2
theorem Ok.sfor (I:Nat->Zc->Pn->Prop)(h:Ok (fi ρ) s λds s1=>I 0 ρ s1/\(∀i d ρ s,ds[i]?=some d->I i ρ s->∃ρ1,τ d ρ=some ρ1/\Ok (body ρ1) s λo s'=>∃ρ',o=.nx ρ'/\I (i+1) ρ' s')/\
  ∀ρ' s',I ds.length ρ' s'->Q (.nx ρ') s'):Ok (YS fi τ body ρ) s Q:=by
 refine .bind (h.mono λds s1 q=>?_);obtain⟨q0,q1,q2⟩:=q;refine(Ok.loop I ds 0 ρ s1 q0 λi d ρ s e=>?_).mono λo s' q=>?_
 ·rw[qcj];exact q1 i d ρ s e
 ·obtain⟨ρ',rfl,q⟩:=q
  simp_all
end
section
variable {ρ ρ':Zc}{s s1 s2:Pn}{f f2:Zc->M D}{g1 g2:Zc->M Out}{d e c:D}{r:Option (Out×Pn)}
theorem Xy (hl:ds.length=k)(h:g (ds.map some++qm (n-k) none) s=some (.rt d,s1)):runB n k g ds s=some (d,s1):=by
 unfold runB;rw[if_pos hl];unfold Zm;rw[h];rfl
theorem XH (h:f ρ s=some (d,s1)):ZL f ρ s=some (.rt d,s1):=by unfold ZL Zm;rw[h];rfl
theorem YY (h:g1 ρ s=some (.rt d,s1)):Zg g1 g2 ρ s=some (.rt d,s1):=by unfold Zg Zm;rw[h];rfl
theorem XR (h:g1 ρ s=some (.nx ρ',s1))(h2:g2 ρ' s1=r):Zg g1 g2 ρ s=r:=by unfold Zg Zm;simp_all
theorem Vn (h:f ρ s=some (d,s1)):ZS i f ρ s=some (.nx (ρ.set i (some d)),s1):=by unfold ZS Zm;rw[h];rfl
theorem ZA (h1:f ρ s=some (d,s1))(h2:f2 ρ s1=some (e,s2))(h:g d e=some c):Zd g f f2 ρ s=some (c,s2):=by
 unfold Zd Zm;rw[h1];simp;rw[h2];simp;unfold YU;rw[h]
theorem Z4 (h1:fs ρ s=some (ds,s1))(h:g ds=some c):Zx g fs ρ s=some (c,s1):=by
 unfold Zx Zm;rw[h1];simp;unfold YU;rw[h]
theorem YK (h1:fs ρ s=some (ds,s1))(h:F ds s1=q):Zu F fs ρ s=q:=by
 unfold Zu Zm;simp_all
theorem Zh (h1:f ρ s=some (d,s1))(h2:fs ρ s1=some (ds,s2)):Zb f fs ρ s=some (d::ds,s2):=by
 unfold Zb Zm;rw[h1];simp;rw[h2];rfl
theorem WN (h1:fs ρ s=some (ds,s1))(hl:ds.length<=xg):ZZ fs ρ s=some (.tup ds,s1):=by
 unfold ZZ Zm;rw[h1];simp;rw[if_pos hl];rfl
theorem JM (h1:fs ρ s=some (ds,s1))(hl:ds.length<=xg):Y4 fs ρ s=some (.lst ds,s1):=by
 unfold Y4 Zm;rw[h1];simp;rw[if_pos hl];rfl
theorem Z9 (h:f ρ s=some (.bl b,s1)):asB f ρ s=some (b,s1):=by unfold asB Zm;rw[h];rfl
theorem Vo (h:fb ρ s=some (b,s1)):Wa fb ρ s=some (!b,s1):=by unfold Wa Zm;rw[h];rfl
end
theorem Zeq (r:D->Zc)(b:D->Bool)(c:D->D):∀(ds:List D),(∀d∈ds,τ d ρ=some (r d)/\ft (r d) s=some (b d,s)/\(b d=true->fe (r d) s=some (c d,s)))->
  Jb τ ft fe ρ ds s=some ((ds.filter b).map c,s)
 | [],_=>rfl
 | d::ds,h=>by
  obtain⟨h1,h2,h3⟩:=h d (by simp);have ih:=Zeq r b c ds λd' m=>h d' (by simp[m]);unfold Jb;simp only[Zm,YU,h1,h2]
  cases hb:b d with
  | true=>simp[Zm,h3 hb,ih,hb,Zy]
  | false=>simp_all
end TF
namespace TP
open L2 TF
def Zhw:Zc->M Out:=(Zg (Wo 1 (Y4 Ze))
 (Zg (YS (ZW (Zx Yo (Zb (Za 0) Ze))) (Zv 2)
 (Zg (YS (ZcG (Zd Y0 (Za 2) (dC (.int 1))) (Zx Yo (Zb (Za 0) Ze))) (Zv 3)
 (Zg (V0 1 (fun ρ=>(ZZ (Zb (Zd Zj (Za 0) (Za 2)) (Zb (Zd Zj (Za 0) (Za 3)) Ze))) (Yk [1] ρ)))
 Zp))
 Zp))
 (Zg (ZL (Za 1))
 Zp)))
def Br:List D->M D:=runB 4 1 Zhw
def Zc8:Zc->M Out:=(Zg (ZL (Zd YF (ZZ (Zb (Zx Jc (Zb (Za 1) (Zb (Za 2) Ze))) (Zb (Zx JY (Zb (Za 1) (Zb (Za 2) Ze))) Ze))) (Za 0)))
 Zp)
def Vl:List D->M D:=runB 3 3 Zc8
def ZoR:Zc->M Out:=(Zg (ZL (ZQ [none,some 0,some 1] (ZW (Zd Zj (Za 0) (dC (.int 0)))) (Zv 0) (asB (Zu Vl (Zb (Zd Zj (Za 1) (dC (.int 1))) (Zb (Za 2) (Zb (Za 0) Ze))))) (Za 0)))
 Zp)
def JN:List D->M D:=runB 2 2 ZoR
def ZdT:Zc->M Out:=(Zg (ZL (Zx Zk9 (Zb (ZQ [none] (Uk (Zd Zj (Za 0) (dC (.int 1)))) (Zv 0) Yc (ZZ (Zb (Za 0) (Zb (dC (.bl true)) Ze)))) Ze)))
 Zp)
def UP:List D->M D:=runB 1 1 ZdT
local macro_rules | `(tactic| walk_at "ev")=>`(tactic| simp[runB,Zg,ZL,ZS,Zp,Yw,asB,Zd,Zx,Zb,Ze,ZZ,Y4,Za,dC,Zu,Zm,Zy,YU,Y0,dSub,dI,Yk,WF,Bc,WK,J6,XZ,X2,Wa])
def Zt (p:Nat×Nat):D:=.tup [.int p.1,.int p.2]
def Yd (n:Nat)(jN:Qa):D:=.tup [.int n,.tup (jN.map Zt)]
def tied (jN:Qa)(a b:Nat):Bool:=decide ((min a b,max a b)∈jN)
theorem plain_pairs:∀jN:Qa,YX (jN.map Zt)=true
 | []=>by rfl
 | t::ts=>by simp[YX,Zt,Zr,plain_pairs ts]
theorem Zc9:∀jN:Qa,XM (jN.map Zt)<=1
 | []=>by simp[XM]
 | t::ts=>by
  have:=Zc9 ts;simp only[zT,XM,Zt,Yz];omega
theorem min_eq (a b:Nat):(if (b:Int)<a then (b:Int)else a)=((min a b:Nat):Int):=by grind
theorem B4 (x:α)(xs:List α):WA (x::xs) 0=some x:=X7 rfl
theorem Zis (x y:α)(xs:List α):WA (x::y::xs) 1=some y:=X7 rfl
theorem two_le:2<=xg:=by decide
theorem Zhx (a b:Nat):D.tup [.int (if b<a then (b:Int)else a),.int (if a<b then (b:Int)else a)]=Zt (min a b,max a b):=by
 unfold Zt
 grind
theorem Xh (r:D->Zc)(b:D->Bool)(c:D->D)(hi:fi ρ s=some (ds,s))(hl:ds.length<=xg)
  (h:∀d∈ds,τ d (WF src ρ)=some (r d)/\ft (r d) s=some (b d,s)/\(b d=true->fe (r d) s=some (c d,s))):ZQ src fi τ ft fe ρ s=some (.lst ((ds.filter b).map c),s):=by
 unfold ZQ;simp only[Zm,hi,hl,if_true,Zeq r b c ds h,Zy]
theorem small_int (n:Nat)(h:n<=100000):-(2 ^ 62)<=(n:Int)/\(n:Int)<2 ^ 62:=by omega
theorem Yi:xg=16777216:=by decide
theorem XQ {n:Nat}(h:f ρ s=some (.int n,s))(hn:n<=100000):ZW f ρ s=some (Yt 0 n,s):=by
 unfold ZW;simp only[Zm,h];rw[if_pos (small_int n hn)];rfl
theorem Zjz {a n:Nat}(h:f ρ s=some (.int a,s))(h2:g ρ s=some (.int n,s))(ha:a<=100000)(hn:n<=100000):ZcG f g ρ s=some (Yt a (n-a),s):=by
 unfold ZcG;simp only[Zm,h,h2];rw[if_pos (by omega),show((n:Int)-(a:Int)).toNat=n-a by omega];rfl
theorem Y2 (lo:Int)(n:Nat):(Yt lo n).length=n:=by simp[Yt]
theorem ZbD {lo:Nat}(h:(Yt lo n)[i]?=some d):i<n/\d=.int ((lo+i:Nat):Int):=by
 have hi:=by
  have:=(qz.mp h).1;simpa[Yt]using this
 unfold Yt at h;simp_all
theorem VG (h:d∈Yt 0 n):∃i:Nat,i<n/\d=.int (i:Int):=by
 obtain⟨i,hi,e⟩:=ql.mp h;exact⟨i,by simp_all,by simp_all⟩
theorem UA (n:Nat):Yt 0 n=(qj n).map λ(i:Nat)=>D.int (i:Int):=by
 unfold Yt;simp
def Yg:D->Nat
 | .int i=>i.toNat
 | _=>0
theorem Za2 (n:Nat)(p:Nat->Bool):((Yt 0 n).filter λd=>p (Yg d)).map (λd=>d)=((qj n).filter p).map λ(i:Nat)=>D.int (i:Int):=by
 rw[UA,yb];simp;congr 1
theorem jy {m:M α}{a:α}(h:Ok m s λb t=>b=a/\t=s'):m s=some (a,s'):=by
 obtain⟨b,t,e,rfl,rfl⟩:=h;exact e
theorem Zit (hn:n<=100000):(Yt 0 n).length<=xg:=by rw[Y2,Yi];omega
def J9 (row:D)(ds:List D):Prop:=row=.lst ds∨row=.tup ds
theorem J9.len (h:J9 row ds):Yo [row]=some (.int ds.length):=by
 rcases h with rfl | rfl <;> rfl
theorem J9.ix (h:J9 row ds)(hi:i<ds.length):Zj row (.int (i:Int))=some (ds.getD i .non):=by
 have e:ds[i]?=some (ds.getD i .non):=by simp[hi]
 rcases h with rfl | rfl <;> exact X7 e
def W0 (n i:Nat):Qa:=(qj i).flatMap λa=>(qj (n-(a+1))).map λk=>(a,a+1+k)
def Wd (n:Nat):Qa:=W0 n n
theorem Zcc (n i:Nat):W0 n (i+1)=W0 n i++(qj (n-(i+1))).map λk=>(i,i+1+k):=by
 unfold W0;rw[qai];simp
theorem ZbM (n:Nat):∀i,(W0 n i).length<=i*n
 | 0=>by simp[W0]
 | i+1=>by
  have:=ZbM n i;rw[Zcc,qP,qh,qI]
  grind
def UN (ds:List D)(p:Nat×Nat):D:=.tup [ds.getD p.1 .non,ds.getD p.2 .non]
theorem Zm0 (n i j:Nat)(hn:n<=1000)(hi:i<n)(hj:j<=n):(W0 n i).length+j<xg:=by
 have h1:=ZbM n i;have h2:i*n<=1000*1000:=qat (by omega) hn;rw[Yi];omega
theorem Zf6 (row:D)(ds:List D)(h:J9 row ds)(hn:ds.length<=1000)(s:Pn):Br [row] s=some (.lst ((Wd ds.length).map (UN ds)),s):=by
 refine Xy rfl (jy ?_);refine Ok.seq (.sown (.eq (a:=.lst []) rfl ⟨rfl,?_⟩));show Ok _ s _;refine Ok.seq (.sfor (λi ρ s'=>s=s'/\∃o2 o3,ρ=[some row,some (.lst ((W0 ds.length i).map (UN ds))),o2,o3]) (.eq (XQ (Z4 (Zh rfl rfl) h.len) (by omega)) ⟨⟨rfl,none,none,rfl⟩,λi d ρ s' hd hI=>?_,fun ρ' s' hI=>?_⟩))
 ·obtain⟨rfl,o2,o3,rfl⟩:=hI
  obtain⟨hi,rfl⟩:=ZbD hd;refine⟨_,rfl,?_⟩;refine Ok.seq (.sfor (λj ρ s'=>s=s'/\∃o3,ρ=[some row,some (.lst ((W0 ds.length i).map (UN ds)++(qj j).map λk=>UN ds (i,i+1+k))),some (.int ((0+i:Nat):Int)),o3]) (.eq (Zjz (a:=i+1) (ZA (d:=.int ((0+i:Nat):Int)) (e:=.int 1) (c:=.int ((i+1:Nat):Int)) rfl rfl (by simp[Y0])) (Z4 (Zh rfl rfl) h.len) (by omega) (by omega)) ⟨⟨rfl,o3,by simp⟩,λj d ρ s' hd hJ=>?_,fun ρ' s' hJ=>?_⟩))
  ·obtain⟨rfl,o3,rfl⟩:=hJ
   obtain⟨hj,rfl⟩:=ZbD hd;refine⟨_,rfl,?_⟩;refine Ok.seq (.sapp (ds:=(W0 ds.length i).map (UN ds)++(qj j).map λk=>UN ds (i,i+1+k)) rfl (by simp only[qP,qh,qI];exact Zm0 _ _ _ hn hi (by omega)) (.eq (WN (Zh (ZA (d:=row) (e:=.int ((0+i:Nat):Int)) rfl rfl (by rw[qcj];exact h.ix hi)) (Zh (ZA (d:=row) (e:=.int ((i+1+j:Nat):Int)) rfl rfl (h.ix (by omega))) rfl)) two_le) ?_));refine Ok.next ⟨_,rfl,rfl,some (.int ((i+1+j:Nat):Int)),?_⟩;rw[qai,zI,<-qbm];rfl
  ·obtain⟨rfl,o3',rfl⟩:=hJ
   refine Ok.next ⟨_,rfl,rfl,some (.int ((0+i:Nat):Int)),o3',?_⟩;rw[Zcc,zI,qC,Y2];rfl
 ·obtain⟨rfl,o2,o3,rfl⟩:=hI
  refine Ok.seq (.sret (.eq rfl ⟨?_,rfl⟩));rw[Y2];rfl
def W1 (p:Nat×Nat):List ZG:=[.inl (p.1:Int),.inl (p.2:Int)]
theorem Zlf (h:W1 p=W1 q):p=q:=by
 simp only[W1]at h
 grind
def Z5 (jT:List (List ZG×V))(jN:Qa):List (List ZG×V):=jN.foldl (λjT p=>Yf jT (W1 p) (.bl true)) jT
theorem Zcd:∀(jN:Qa) (jT:List (List ZG×V)),WW jT (jN.map λp=>D.tup [Zt p,.bl true])=some (Z5 jT jN)
 | [],jT=>rfl
 | t::ts,jT=>by
  exact Zcd ts _
theorem Zf7 (p:Nat×Nat):∀(jN:Qa) (jT:List (List ZG×V)),(ZR (Z5 jT jN) (W1 p)).isSome=(decide (p∈jN)||(ZR jT (W1 p)).isSome)
 | [],jT=>by simp[Z5]
 | t::ts,jT=>by
  have ih:=Zf7 p ts (Yf jT (W1 t) (.bl true));have e:Z5 jT (t::ts)=Z5 (Yf jT (W1 t) (.bl true)) ts:=rfl;rw[e,ih,ZfL];by_cases h:p=t
  ·simp_all
  ·have hk:=λz=>h (Zlf z)
   simp_all
theorem Zer (n:Nat)(jN:Qa)(s:Pn)(hl:jN.length<=100000):UP [Yd n jN] s=some (.dt (Z5 [] jN),s):=by
 have hc:ZQ [none] (Uk (Zd Zj (Za 0) (dC (.int 1)))) (Zv 0) Yc (ZZ (Zb (Za 0) (Zb (dC (.bl true)) Ze))) [some (Yd n jN)] s=some (.lst ((jN.map Zt).map λd=>D.tup [d,.bl true]),s):=by
  have q:=Xh (src:=[none]) (fi:=Uk (Zd Zj (Za 0) (dC (.int 1)))) (τ:=Zv 0) (ft:=Yc) (fe:=ZZ (Zb (Za 0) (Zb (dC (.bl true)) Ze))) (ρ:=[some (Yd n jN)]) (s:=s) (λd=>[some d]) (λ_=>true) (λd=>D.tup [d,.bl true])
   (by rfl) (by rw[qh,Yi];omega)
   (λd hd=>⟨rfl,rfl,λ_=>WN (Zh rfl (Zh rfl rfl)) two_le⟩)
  have q2:(jN.map Zt).filter (λ_=>true)=jN.map Zt:=yd.mpr (by simp);rw[q,q2]
 refine Xy rfl (YY (XH (Z4 (Zh hc rfl) ?_)));rw[qC];show(if ((jN.map ((λd=>D.tup [d,.bl true])∘Zt)).length<=xg)then (WW [] _).map D.dt else none)=_;rw[if_pos (by rw[qh,Yi];omega)];have e:=Zcd jN [];show(WW [] (jN.map λp=>D.tup [Zt p,.bl true])).map D.dt=_;rw[e];rfl
theorem Zda (h:p∈W0 n i):p.1<i/\p.1<p.2/\p.2<n:=by
 obtain⟨a,ha,h⟩:=qaS.mp h;obtain⟨k,hk,rfl⟩:=ql.mp h;simp at ha hk
 grind
theorem ZjA (h:p∈Wd n):UN (Yt 0 n) p=Zt p:=by
 obtain⟨h1,h2,h3⟩:=Zda h;have g:∀i,i<n->(Yt 0 n).getD i .non=.int (i:Int):=λi hi=>by
  rw[UA];simp[hi]
 unfold UN Zt;rw[g _ h1,g _ h3]
theorem Zf8 (s:Pn)(hn:n<=1000):Br [.lst (Yt 0 n)] s=some (.lst ((Wd n).map Zt),s):=by
 rw[Zf6 _ _ (.inl rfl) (by rw[Y2];exact hn) s,Y2];congr 3;exact zp λp hp=>ZjA hp
theorem ZaU {n:Nat}(h:f ρ s=some (.int n,s))(hn:n<=1000):VF f ρ s=some (.lst (Yt 0 n),s):=by
 unfold VF Zm;rw[h];show(if -(2 ^ 62)<=(n:Int)/\(n:Int)<=2 ^ 24 then Zy (D.lst (Yt 0 (n:Int).toNat))else Zq) s=_;rw[if_pos (by omega)];rfl
theorem Zlg (n:Nat)(hn:n<=1000):(Wd n).length<=1000000:=by
 have h1:=ZbM n n;have h2:=qat hn hn;unfold Wd;omega
theorem Ze7 (l:Qa)(b:D->Bool)(q:Nat×Nat->Bool)(h:∀p,b (Zt p)=q p):((l.map Zt).filter b).map (λd=>d)=(l.filter q).map Zt:=by
 rw[yb,List.map_id'];congr 1;exact qbn λp _=>h p
def VA:D->Nat×Nat
 | .tup [a,b]=>(Yg a,Yg b)
 | _=>(0,0)
theorem ZjB (p:Nat×Nat):VA (Zt p)=p:=rfl
end TP
namespace TF
open L2
theorem Ok.runB (hl:ds.length=k)(h:Ok (g (ds.map some++qm (n-k) none)) s λo s'=>match o with | .rt d=>Q d s' | .nx _=>Q .non s' | _=>False):Ok (runB n k g ds) s Q:=by
 unfold TF.runB;rw[if_pos hl];refine .bind (h.mono λo s' q=>?_)
 cases o with
 | rt d=>exact .ret q
 | nx ρ=>exact .ret q
 | bk ρ=>exact q.elim
 | ct ρ=>exact q.elim
theorem Ok.fn (h1:fs ρ s=some (ds,s1))(h:Ok (F ds) s1 Q):Ok (Zu F fs ρ) s Q:=by
 obtain⟨a,s',e,q⟩:=h;exact⟨a,s',YK h1 e,q⟩
theorem Ok.op (h:Ok (f ρ) s λd s1=>Ok (f2 ρ) s1 λe s2=>∃c,g d e=some c/\Q c s2):Ok (Zd g f f2 ρ) s Q:=
 .bind (h.mono λd s1 q=>.bind (q.mono λe s2 q=>let ⟨c,e1,q⟩:=q;.of e1 q))
theorem Ok.cons (h:Ok (f ρ) s λd s1=>Ok (fs ρ) s1 λds s2=>Q (d::ds) s2):Ok (Zb f fs ρ) s Q:=
 .bind (h.mono λd s1 q=>.bind (q.mono λe s2 q=>.ret q))
theorem Ok.asB (h:Ok (f ρ) s λd s1=>∃b,d=.bl b/\Q b s1):Ok (asB f ρ) s Q:=
 .bind (h.mono λd s1 q=>by obtain⟨b,rfl,q⟩:=q;exact .ret q)
end TF
namespace TP
open L2 TF
theorem Zdb (n:Nat):∀i,(W0 n i).Nodup
 | 0=>by simp[W0]
 | i+1=>by
  rw[Zcc,qaC];refine⟨Zdb n i,?_,?_⟩
  ·refine yz.mpr (z0.imp ?_ yi)
   simp
  ·intro a ha b hb e
   have h1:=(Zda ha).1;obtain⟨k,_,rfl⟩:=ql.mp hb;simp_all
theorem Zhy (n:Nat):(Wd n).Nodup:=Zdb n n
theorem UY:p∈Wd n↔p.1<p.2/\p.2<n:=by
 constructor
 ·intro h;exact(Zda h).2
 ·intro ⟨h1,h2⟩
  refine qaS.mpr ⟨p.1,by simp;omega,ql.mpr ⟨p.2-(p.1+1),by simp;omega,?_⟩⟩
  grind
theorem WQ (h:(Yt 0 n)[i]?=some d):i<n/\d=.int (i:Int):=by
 have:=ZbD h;simp_all
def IsWeb (n:Nat)(jN:Qa):Prop:=jN.Sublist (Wd n)
theorem IsWeb.mem (h:IsWeb n jN)(hp:p∈jN):p.1<p.2/\p.2<n:=UY.mp (h.subset hp)
theorem IsWeb.len (h:IsWeb n jN)(hn:n<=24):jN.length<=576:=by
 have h1:=h.length_le;have h2:=ZbM n n;have h3:=qat hn hn;unfold Wd at h1;omega
theorem IsWeb.filter (f:Nat×Nat->Bool):IsWeb n ((Wd n).filter f):=zk
theorem BJ (h:a<b):tied jN a b=decide ((a,b)∈jN):=by
 unfold tied
 grind
theorem Zbl (jN:Qa)(a b:Nat):tied jN a b=tied jN b a:=by
 unfold tied
 grind
theorem Jn:Zj (Yd n jN) (.int 0)=some (.int n):=by rfl
theorem web1:Zj (Yd n jN) (.int 1)=some (.tup (jN.map Zt)):=by rfl
end TP
namespace HT
section
variable {prog:xB}{w:World}{A:xC}{E:xD}{s:Shared}
end
end HT
namespace TF
open L2
section
variable {X:Cx}{G:Gh}
def PCh (X:Cx)(ops:List CmpOp)(rs:List Expr)(t:V->TT):Prop:=
 ∀(pos:Pos) (jM:Qb) (s:Shared) (σ:St) (H:Hp) (y:V) (v:Value) (Q:Bool->Hp->Prop),Inv X jM σ H s->ZF y v->t y σ H Q->xf (xz X.prog X.w) X.A (testChain pos v ops (evalEach rs X.env)) (TP X jM σ Q) X.xe s
theorem Zm1 (ho:Yl X (xk op) r)(hc:PE X c tc):PCh X [op] [c] (λy σ H Q=>tc σ H λz H1=>r y z H1 λw H2=>∃k,w=.bl k/\Q k H2):=by
 intro pos jM s σ H y v Q I r1 h;refine test_last (ZJ (hc jM s σ H _ I h) λu s2 ⟨z,H2,I2,r2,q2⟩=>ZJ (ho jM s2 σ H2 y z v u _ I2 r1 r2 q2) λd s3 ⟨z',H3,I3,r3,k,e,q3⟩=>?_);subst e
 cases r3
 exact wpAny_truthy_bool ⟨H3,I3,q3⟩
theorem Zlh (ho:Yl X (xk op) r)(hb:PE X b tb)(hr:PCh X (op'::ops) (c::rs) t) :
  PCh X (op::op'::ops) (b::c::rs) (λy σ H Q=>tb σ H λz H1=>r y z H1 λw H2=>∃k,w=.bl k/\(if k=true then t z σ H2 Q else Q false H2)):=by
 intro pos jM s σ H y v Q I r1 h;refine test_link (ZJ (hb jM s σ H _ I h) λu s2 ⟨z,H2,I2,r2,q2⟩=>ZJ (ho jM s2 σ H2 y z v u _ I2 r1 r2 q2) λd s3 ⟨z',H3,I3,r3,k,e,q3⟩=>?_);subst e
 cases r3
 refine wpAny_truthy_bool ?_
 cases k with
 | false=>exact ite_ff ⟨H3,I3,q3⟩
 | true=>exact ite_tt (hr pos jM s3 σ H3 z u Q I3 r2 q3)
theorem ZjC (ha:PE X a ta)(hr:PCh X (op::op'::ops) (b::c::rs) t)
  (hm:lastMarks (op::op'::ops) (b::c::rs)=false:=by with_unfolding_all rfl):PT X (.Compare a (op::op'::ops) (b::c::rs) pos) (fun σ H Q=>ta σ H λy H1=>t y σ H1 Q):=by
 intro jM s σ H Q I h;exact isTrue_chain (ZJ (ha jM s σ H _ I h) λv s1 ⟨y,H1,I1,r1,q1⟩=>hr pos jM s1 σ H1 y v Q I1 r1 q1) hm
def PDCh (X:Cx)(G:Gh)(ops:List CmpOp)(rs:List Expr)(f:D->Zc->M Bool):Prop:=
 ∃t,PCh X ops rs t/\∀(y:V) (σ:St) (Hf H:Hp) (d:D) (ρ:Zc) (s:Pn) (b:Bool) (s':Pn) (Q:Bool->Hp->Prop),Zz G Hf H->Zo G Hf d y->YM G Hf σ ρ->G.st s H->f d ρ s=some (b,s')->
  (∀Hf' H',Gr G Hf H Hf' H'->G.st s' H'->Q b H')->t y σ H Q
def Be (o:Option D):M Bool:=match o with | some (.bl k)=>Zy k | _=>Zq
theorem Zf9 (h:Be o s=some (b,s')):o=some (.bl b)/\s'=s:=by
 unfold Be at h;split at h
 ·obtain⟨rfl,rfl⟩:=ZC h
  simp
 ·cases h
def VS (g:D->D->Option D)(fc:Zc->M D):D->Zc->M Bool:=λd ρ=>Zm (fc ρ) λe=>Be (g d e)
def VT (g:D->D->Option D)(fb:Zc->M D)(f:D->Zc->M Bool):D->Zc->M Bool:=λd ρ=>Zm (fb ρ) λe=>Zm (Be (g d e)) λk=>if k=true then f e ρ else Zy false
def Uh (fa:Zc->M D)(f:D->Zc->M Bool):Zc->M Bool:=fun ρ=>Zm (fa ρ) λd=>f d ρ
theorem Zga (ho:XD X G (xk op) g)(hc:PD X G r1 c fc):PDCh X G [op] [c] (VS g fc):=by
 obtain⟨r,po,qo⟩:=ho;obtain⟨tc,pc,qc⟩:=hc.drop;refine⟨_,Zm1 po pc,λy σ Hf H d ρ s b s' Q e1 ry e2 e3 e4 k=>?_⟩;obtain⟨e,s1,a1,a2⟩:=Zs e4;obtain⟨a3,rfl⟩:=Zf9 a2;refine qc σ Hf H ρ s e _ _ e1 e2 e3 a1 λz jV H1 g1 jX r1=>?_;exact qo jV H1 _ y z d e _ _ g1.fh jX (ry.ext g1.ff) r1 a3 λv j6 H2 g2 jY r2 _=>⟨b,je.mp r2,k j6 H2 (g1.trans g2) jY⟩
theorem Zes (ho:XD X G (xk op) g)(hb:PD X G r1 b fb)(hr:PDCh X G (op'::ops) (c::rs) f) :
  PDCh X G (op::op'::ops) (b::c::rs) (VT g fb f):=by
 obtain⟨r,po,qo⟩:=ho;obtain⟨tb,pb,qb⟩:=hb.drop;obtain⟨t,pt,qt⟩:=hr;refine⟨_,Zlh po pb pt,λy σ Hf H d ρ s b' s' Q e1 ry e2 e3 e4 k=>?_⟩;obtain⟨e,s1,a1,a2⟩:=Zs e4;obtain⟨k1,s2,a3',a4⟩:=Zs a2;obtain⟨a3,rfl⟩:=Zf9 a3';refine qb σ Hf H ρ s e _ _ e1 e2 e3 a1 λz jV H1 g1 jX r1=>?_;refine qo jV H1 _ y z d e _ _ g1.fh jX (ry.ext g1.ff) r1 a3 λv j6 H2 g2 jY r2 _=>⟨k1,je.mp r2,?_⟩
 cases k1 with
 | false=>
  obtain⟨rfl,rfl⟩:=ZC a4;exact k j6 H2 (g1.trans g2) jY
 | true=>
  exact qt z σ j6 H2 e ρ _ _ _ Q (g1.trans g2).fh (r1.ext g2.ff) ((e2.ext g1.ff).ext g2.ff) jY a4 λHf3 H3 g3 st3=>k Hf3 H3 ((g1.trans g2).trans g3) st3
theorem Zet (ha:PD X G r1 a fa)(hr:PDCh X G (op::op'::ops) (b::c::rs) f)
  (hm:lastMarks (op::op'::ops) (b::c::rs)=false:=by with_unfolding_all rfl):X1 X G (.Compare a (op::op'::ops) (b::c::rs) pos) (Uh fa f):=by
 obtain⟨ta,pa,qa⟩:=ha.drop;obtain⟨t,pt,qt⟩:=hr;refine⟨_,ZjC pa pt hm,fun σ Hf H ρ s b s' Q e1 e2 e3 e4 k=>?_⟩;obtain⟨d,s1,a1,a2⟩:=Zs e4;refine qa σ Hf H ρ s d _ _ e1 e2 e3 a1 λy jV H1 g1 jX r1=>?_;exact qt y σ jV H1 d ρ s1 b s' Q g1.fh r1 (e2.ext g1.ff) jX a2 λj6 H2 g2 jY=>k j6 H2 (g1.trans g2) jY
def sUnp (τ:D->Zc->Option Zc)(f:Zc->M D):Zc->M Out:=fun ρ=>Zm (f ρ) λd=>match τ d ρ with | some ρ'=>Zy (.nx ρ') | none=>Zq
theorem Zm2 {ob:List Nat}{fr:Bool}{pos:Pos}(he:PD X G r1 e f)(hg:Vf X G tg (λi=>i∉own) τ)(hs:swapsWithSole [tg] e pos.line X.env=pure false:=by rfl)(hw:swappedStores [tg] e X.env=pure none:=by rfl)
  (h1:(assignEach [tg] X.env).map (·.2)=[assign tg X.env]:=by rfl):YI X G ob own own fr (.Assign [tg] e pos) (sUnp τ (fun ρ=>f (Yk own ρ))):=by
 obtain⟨t,p,q⟩:=he;obtain⟨g,pg,qg⟩:=hg;have hy:X4 G r1 t f:=q;refine⟨_,ZkF p pg hs hw h1,λkn jS H0 σ H ρ s out s' E ⟨Hf,j⟩ st e po=>?_⟩;obtain⟨d,s1,a1,a2⟩:=Zs e;refine hy.a kn jS H0 σ Hf H ρ s d s1 _ j st a1 λv Hf' H' j' e1 e2 st' r fz=>?_
 cases eq:τ d ρ with
 | none=>rw[eq]at a2;cases a2
 | some ρ'=>
  rw[eq]at a2;obtain⟨rfl,rfl⟩:=ZC a2;exact qg v σ Hf' H' d ρ ρ' _ j'.gr.fh r eq fun σ' hs'=>po σ' H' ⟨Hf',hs'.jf j'⟩ st'
theorem Zli {ob:List Nat}{fr:Bool}{pos:Pos}(he:PD X G r1 e f)(hg:Vf X G tg (λi=>i∉([]:List Nat)) τ)(hs:swapsWithSole [tg] e pos.line X.env=pure false:=by rfl)(hw:swappedStores [tg] e X.env=pure none:=by rfl)
  (h1:(assignEach [tg] X.env).map (·.2)=[assign tg X.env]:=by rfl):YI X G ob [] [] fr (.Assign [tg] e pos) (sUnp τ f):=by
 have h:=Zm2 (ob:=ob) (fr:=fr) he hg hs hw h1;have e:(fun ρ=>f (Yk [] ρ))=f:=by funext ρ;rw[ZcW]
 simp_all
theorem ZT.none {K:qd}(hm:mg x=some (.ref f))(hk:zt K (.ref f)=true)(hb:XJ K fd ps []) :
  ZT P w K mg base k x n fr GG (λ_=>Zq):=by
 refine⟨f,fd,ps,⟨λvs H Q E h=>?_,λA outer s H args us vs Q E _ _ _ _ h=>?_⟩,hm,hk,hb⟩
 ·obtain⟨G,Hf,ds,s,d,s',_,_,_,_,_,h,_⟩:=h
  cases h
 ·obtain⟨G,Hf,ds,s,d,s',_,_,_,_,_,h,_⟩:=h
  cases h
end
open PySem.SeqAt
open AutoSeq1 (wpAny_loadPart')
theorem Zhz (l:Addr)(items:Array Value)(n:Nat)(dd:Option Addr)(sl:Array (Option Value))(x:Int)(u:Tok)(hc0:¬((x < -(2 ^ 63):Bool)||(x≥2 ^ 63:Bool))=true)(hc1:¬(items.isEmpty||x==1)=true)(hc2:¬((x<=0:Bool)||items.isEmpty)=true)
  (hc3:¬((items.size:Int)*x > (2 ^ 63-1) / 8)) (hc4:¬qbi ((items.size:Int)*x)=true) (hsz:(qa0 (λx1 x2=>x1++x2) #[] (qm x.toNat items)).size<=xg) :
  Meets (Builtin.«tuple.__mul__» ⟨[.ref l,.int x u],[]⟩) (λ_ R s=>s.heap.get? l=some { cls:=.type "tuple",dict:=dd,data:=.seq items n,slots:=sl }/\R (.ok (.ret (qH s.heap.objs.size))) { s with heap:=s.heap.push { cls:=zQ "tuple",data:=Data.seq (qa0 (λx1 x2=>x1++x2) #[] (qm x.toNat items)) },toks:=s.toks }):=
 .of_wp λprog w A R s h=>by
  obtain⟨hp,g,d,tk,os⟩:=s;obtain⟨hl,h⟩:=h;have f1:=qbv;have f2:=yD;have f3:=qaJ;have f4:=qav;have f5:=qaw;wp_walk using wpAny_loadPart' hl;rw[if_neg hc0];wp_walk using wpAny_loadPart' hl;rw[if_neg hc3];wp_walk using wpAny_loadPart' hl
  try (refine wpAny_ite_false (decide_eq_false (Nat.not_lt.mpr hsz)) ?_;wp_walk)
  exact⟨_,rfl,h⟩
theorem Zag:fillsNumberSlot (.type "tuple") "mul" = pure false:=
 PySem.fillsNumberSlot_seq yS.lookup (by rfl) PySem.F.slot_tuple_rmul.lookup (by rfl)
theorem ZaV:seqRepeat? (.type "tuple")=pure (some (.builtin "tuple.__mul__")):=by
 rfl
theorem Zaz (a:Int)(t:Tok)(l:Addr)(items:Array Value)(n:Nat)(dd:Option Addr)(sl:Array (Option Value)) :
  Meets (Builtin.«int.__rmul__» ⟨[.int a t,.ref l],[]⟩) (λ_ R s=>s.heap.get? l=some { cls:=.type "tuple",dict:=dd,data:=.seq items n,slots:=sl }/\R (.ok (.ret qb5)) s):=
 .of_wp λprog w A R s h=>by obtain⟨hl,h⟩:=h;wp_walk;exact⟨_,rfl,h⟩
section
variable {X:Cx}{G:Gh}
def ZpF (K:qd):R2:=λx y H Q=>∃l k xs,x=.ref l/\y=.int k/\ZO K H l xs/\xs≠[]/\2<=k/\k<2 ^ 62/\xs.length*k.toNat<=xg/\
 ∀p,H p=none->Q (.ref p) (Zi H p (.tup (qm k.toNat xs).flatten))
theorem Zm3:Yl X (binaryOp .Mult) (ZpF X.K):=by
 intro jM s σ H x y v u Q I rx ry h;obtain⟨l,k,xs,rfl,rfl,hH,hne,h1,h2,hz,q⟩:=h
 cases rx
 obtain⟨t,rfl⟩:=ry;obtain⟨jO,r,p1,_⟩:=I.tuple hH;obtain⟨⟨cls,dd,data,sl⟩,ho,hc,n,hd⟩:=id p1;simp only at hc hd;subst hc hd;have hl:=r.length;have hsz:jO.toArray.size=xs.length:=by rw[zf];exact hl.symm
 have hne':jO≠[]:=λz=>hne (r.nil_iff.mp z);have hemp:jO.toArray.isEmpty=false:=by cases jO with | nil=>exact absurd rfl hne' | cons a b=>rfl
 have e0:((k.toNat:Nat):Int)=k:=by omega
 have hcap:((jO.toArray.size:Int)*k)=((xs.length*k.toNat:Nat):Int):=by rw[hsz,Int.natCast_mul,e0]
 have sl2:(xg:Nat)=16777216:=sizeLine_eq;have hnew:qa0 (λx1 x2=>x1++x2) #[] (qm k.toNat jO.toArray)=(qm k.toNat jO).flatten.toArray:=by
  have:=Zb6 jO k.toNat [];rw[List.nil_append]at this;exact this
 have hfl:(qm k.toNat jO).flatten.length<=xg:=by rw[ZeZ,qci,<-hl];exact hz
 refine wpAny_binaryOp_repeat_ref (T:="tuple") (U:="int") (by decide) ⟨_,ho,rfl⟩ (λs'=>typeIs_int s' k t) Zag qa1 yn ZaV qaP.lookup
  (call_meets yn (typeIs_int s k t) qaQ (qaB _ _) (Zaz k t l jO.toArray n dd sl)
   ⟨ho,rfl,⟨_,ho,rfl⟩,call_meets yS ⟨_,ho,rfl⟩ qax (qao _ _) (Zhz l jO.toArray n dd sl k t ?_ ?_ ?_ ?_ ?_ ?_) ⟨ho,?_⟩⟩)
 ·simp;omega
 ·rw[hemp];simp;omega
 ·rw[hemp];simp;omega
 ·rw[hcap];omega
 ·unfold qbi
  grind
 ·rw[hnew];exact hfl
 ·rw[hnew]
  exact⟨.ref s.heap.objs.size,_,I.laid (o:=.tup (qm k.toNat xs).flatten) (λb ob q=>qf _ q) (qp _) ⟨by rw[ZeZ,qci];exact hz,_,r.rep k.toNat,qch _ _⟩,rfl,q _ (I.hok.fresh (qp _))⟩
theorem Zk.rep (r:Zk G Hf ds vs):∀k:Nat,Zk G Hf (qm k ds).flatten (qm k vs).flatten
 | 0=>Zk.nil_iff.mpr rfl
 | k+1=>by
  exact r.append (Zk.rep r k)
def JZ:D->D->Option D
 | .int i,.int j=>if B1 i j=true then some (.int (i*j))else none
 | .tup ds,.int k=>if ds≠[]/\2<=k/\k<2 ^ 62/\ds.length*k.toNat<=xg then some (.tup (qm k.toNat ds).flatten)else none
 | .lst ds,.int k=>if -(2 ^ 63)<=k/\k<2 ^ 63/\ds.length*k.toNat<=xg then some (.lst (qm k.toNat ds).flatten)else none
 | _,_=>none
theorem Zlj:XD X G (binaryOp .Mult) JZ:=by
 obtain⟨r0,po,qo⟩:=Zik (X:=X) (G:=G);refine⟨_,po.or (Zm3.or ZoC),λHf H s x y d e c Q e1 st rx ry q k=>?_⟩
 match d,e,q,rx,ry with
 | .int i,.int j,q,rx,ry=>exact .inl (qo Hf H s x y _ _ c Q e1 st rx ry q k)
 | .tup ds,.int j,q,rx,ry=>
  have q:(if ds≠[]/\2<=j/\j<2 ^ 62/\ds.length*j.toNat<=xg then some (D.tup (qm j.toNat ds).flatten)else none)=some c:=q;split at q
  ·rename_i hz
   cases q
   obtain⟨p,vs,rfl,np,hp,rp⟩:=jc.mp rx;refine .inr (.inl ⟨p,j,vs,rfl,ja.mp ry,ZO.of (e1 _ _ np hp),λz=>hz.1 (zO.mp (by rw[rp.length,z];rfl)),hz.2.1,hz.2.2.1,by rw[<-rp.length];exact hz.2.2.2,λl hl=>?_⟩);have nf:=Gh.nofp st hl;have g2:=Gr.new (o:=.tup (qm j.toNat vs).flatten) e1 hl nf;exact k (.ref l) _ _ g2 (Gh.grow st hl) (jc.mpr ⟨l,_,rfl,nf,ZE,(rp.rep _).ext g2.ff⟩) (.scal λz=>z)
  ·cases q
 | .lst ds,.int j,q,rx,ry=>
  have q:(if -(2 ^ 63)<=j/\j<2 ^ 63/\ds.length*j.toNat<=xg then some (D.lst (qm j.toNat ds).flatten)else none)=some c:=q;split at q
  ·rename_i hz
   cases q
   obtain⟨p,vs,rfl,np,hp,rp⟩:=jb.mp rx;refine .inr (.inr ⟨p,j,vs,rfl,ja.mp ry,e1 _ _ np hp,hz.1,hz.2.1,by rw[<-rp.length];exact hz.2.2,λl hl=>?_⟩);have nf:=Gh.nofp st hl;have g2:=Gr.new (o:=.lst (qm j.toNat vs).flatten) e1 hl nf;exact k (.ref l) _ _ g2 (Gh.grow st hl) (jb.mpr ⟨l,_,rfl,nf,ZE,(rp.rep _).ext g2.ff⟩) (Z7.mk e1 hl nf (rp.rep _))
  ·cases q
end
end TF
namespace TF
open L2
section
variable {X:Cx}{G:Gh}
end
section
variable {f g:Zc->M D}{ρ:Zc}{s s1:Pn}{a b:Bool}{r:Option (D×Pn)}
theorem ZhA (h:f ρ s=some (.bl true,s1))(h2:g ρ s1=r):WK f g ρ s=r:=by unfold WK Zm;simp_all
theorem ZoS (h:f ρ s=some (.bl false,s1)):WK f g ρ s=some (.bl false,s1):=by unfold WK Zm;rw[h];rfl
theorem Ze8 (h:f ρ s=some (.bl a,s))(h2:a=true->g ρ s=some (.bl b,s)):WK f g ρ s=some (.bl (a&&b),s):=by
 cases a with
 | false=>exact ZoS h
 | true=>exact ZhA h (h2 rfl)
theorem Ziu (h:f ρ s=some (.bl a,s1)):J6 f ρ s=some (.bl (!a),s1):=by unfold J6 Zm;rw[h];rfl
end
section
variable {f g:Zc->M Bool}{ρ:Zc}{s s1:Pn}{a b:Bool}{r:Option (Bool×Pn)}
theorem ZoT (h:f ρ s=some (false,s1)):XZ f g ρ s=some (false,s1):=by unfold XZ Zm;rw[h];rfl
theorem ZoU (h:f ρ s=some (true,s1))(h2:g ρ s1=r):XZ f g ρ s=r:=by unfold XZ Zm;rw[h];exact h2
theorem Zn0 (h:f ρ s=some (true,s1)):X2 f g ρ s=some (true,s1):=by unfold X2 Zm;rw[h];rfl
theorem UG (h:f ρ s=some (false,s1))(h2:g ρ s1=r):X2 f g ρ s=r:=by unfold X2 Zm;rw[h];exact h2
theorem BK (h:f ρ s=some (a,s))(h2:a=true->g ρ s=some (b,s)):XZ f g ρ s=some (a&&b,s):=by
 cases a with
 | false=>exact ZoT h
 | true=>exact ZoU h (h2 rfl)
end
section
variable {c:Zc->M Bool}{g1 g2:Zc->M Out}{ρ:Zc}{s s1:Pn}{r:Option (Out×Pn)}
theorem J0 (h:c ρ s=some (true,s1))(h2:g1 ρ s1=r):Yw c g1 g2 ρ s=r:=by unfold Yw Zm;rw[h];exact h2
theorem Jd (h:c ρ s=some (false,s1))(h2:g2 ρ s1=r):Yw c g1 g2 ρ s=r:=by unfold Yw Zm;rw[h];exact h2
end
section
variable {fa fb:Zc->M D}{f:D->Zc->M Bool}{g:D->D->Option D}{ρ:Zc}{s s1 s2:Pn}{d e:D}{k:Bool}{r:Option (Bool×Pn)}
theorem Zeu (h:fa ρ s=some (d,s1))(h2:f d ρ s1=r):Uh fa f ρ s=r:=by unfold Uh Zm;simp_all
theorem Zgb (h:fb ρ s=some (e,s1))(h2:g d e=some (.bl k)):VS g fb d ρ s=some (k,s1):=by unfold VS Zm;rw[h];show Be (g d e) s1=_;rw[h2];rfl
theorem Zgc (h:fb ρ s=some (e,s))(h2:g d e=some (.bl k))(h3:k=true->f e ρ s=some (b,s)):VT g fb f d ρ s=some (k&&b,s):=by
 unfold VT Zm;simp only[h,h2,Be,Zy]
 cases k with
 | false=>rfl
 | true=>simp[h3 rfl]
end
theorem eqi (a b:Int):Xk (.int a) (.int b)=some (.bl (a==b)):=by
 rfl
theorem nei (a b:Int):Y9 (.int a) (.int b)=some (.bl (!(a==b))):=by
 rfl
theorem Zm4 {ds:List D}(h:r<ds.length):∃d∈ds,Zj (.lst ds) (.int (r:Int))=some d:=
 ⟨ds[r],yr h,X7 (qB h)⟩
theorem Zat (h:τ d ρ=some ρ1)(hb:body ρ1 s=some (.nx ρ2,s1))(h2:Wx τ body ds ρ2 s1=r):Wx τ body (d::ds) ρ s=r:=by
 unfold Wx Zm YU;simp_all
theorem ZbN (h:τ d ρ=some ρ1)(hb:body ρ1 s=some (.rt e,s1)):Wx τ body (d::ds) ρ s=some (.rt e,s1):=by
 unfold Wx Zm YU;simp only[h,hb];rfl
theorem ZcJ (h:fi ρ s=some (ds,s1))(h2:Wx τ body ds ρ s1=r):YS fi τ body ρ s=r:=by
 unfold YS Zm;simp_all
theorem Ze9 (h:f ρ s=some (.tup ds,s1)):Uk f ρ s=some (ds,s1):=by unfold Uk Zm;rw[h];rfl
theorem Wv (h:f ρ s=some (.lst ds,s1)):ZX f ρ s=some (ds,s1):=by unfold ZX Zm;rw[h];rfl
end TF
namespace TP
open L2 TF
def B5:D->Bool
 | .non=>true | .bl _=>true | .int _=>true | .str _=>true | .tup _=>true | .lst _=>true | _=>false
def tupB:D->Bool | .tup _=>true | _=>false
def intB:D->Bool | .int _=>true | .bl _=>true | _=>false
theorem ZjD (h:B5 d=true):XU [d,.ty "tuple"]=some (.bl (tupB d)):=by
 cases d <;> first | rfl | cases h
theorem Zm5 (h:B5 d=true):XU [d,.ty "int"]=some (.bl (intB d)):=by
 cases d <;> first | rfl | cases h
def Ui (n:Int):D->Bool | .int i=>decide (0<=i)&&decide (i<n) | _=>false
theorem ZjE (h:Ui n d=true):∃i,d=.int i:=by
 cases d <;> first | exact⟨_,rfl⟩ | cases h
theorem Uy {α:Type}(l:List α):l.filter (λ_=>true)=l:=yd.mpr (by simp)
def p2:D->Int×Int | .tup [.int a,.int b]=>(a,b) | _=>(0,0)
end TP
namespace TF
open L2
section
variable {f:Zc->M D}{fs:Zc->M (List D)}{ρ:Zc}{s:Pn}
theorem Ok.tup (h:Ok (fs ρ) s λds s1=>ds.length<=xg/\Q (.tup ds) s1):Ok (ZZ fs ρ) s Q:=.bind (h.mono λ_ _ q=>.ite q.1 (.ret q.2))
theorem Ok.sunp (h:Ok (f ρ) s λd s1=>∃ρ',τ d ρ=some ρ'/\Q (.nx ρ') s1):Ok (sUnp τ f ρ) s Q:=
 .bind (h.mono λd s1 q=>by obtain⟨ρ',e,q⟩:=q;rw[e];exact .ret q)
theorem Ok.range1 (h:Ok (f ρ) s λd s1=>∃n:Nat,d=.int (n:Int)/\n<=100000/\Q (Yt 0 n) s1):Ok (ZW f ρ) s Q:=
 .bind (h.mono λd s1 q=>by
  obtain⟨n,rfl,hn,q⟩:=q;exact .ite (TP.small_int n hn) (.ret (by simp_all)))
end
theorem Zm6 (h1:f ρ s=some (x,s))(h2:g ρ s=some (y,s)):ZZ (Zb f (Zb g Ze)) ρ s=some (.tup [x,y],s):=WN (Zh h1 (Zh h2 rfl)) TP.two_le
def Xt (m t:Int)(wa:Addr):List (ZG×V):=[(.inr (qw "mixed"),.int m),(.inr (qw "turn"),.int t),(.inr (qw "wide"),.ref wa)]
theorem k_mt:¬((qae (qw "mixed"):ZG)=qae (qw "turn")):=by decide
theorem k_mw:¬((qae (qw "mixed"):ZG)=qae (qw "wide")):=by decide
theorem k_tw:¬((qae (qw "turn"):ZG)=qae (qw "wide")):=by decide
theorem ZpG (m t:Int)(wa:Addr):ZR (Xt m t wa) (.inr (qw "mixed"))=some (.int m):=Wr rfl
theorem ZpH (m t:Int)(wa:Addr):ZR (Xt m t wa) (.inr (qw "turn"))=some (.int t):=(Ws k_mt).trans (Wr rfl)
theorem ZpI (m t:Int)(wa:Addr):ZR (Xt m t wa) (.inr (qw "wide"))=some (.ref wa):=(Ws k_mw).trans ((Ws k_tw).trans (Wr rfl))
theorem Zm7 (m t t':Int)(wa:Addr):Yf (Xt m t wa) (.inr (qw "turn")) (.int t')=Xt m t' wa:=by
 rfl
def stD (p wa:Addr)(s:Pn)(H:Hp):Prop:=∃m t,s.1=[m,t]/\H p=some (.dK (Xt m t wa))/\H wa=some (.lst (s.2.map V.int))/\p≠wa
def Xl (p wa:Addr):Gh where
 fp:=λb=>b=p∨b=wa
 rd:=λb=>b=p∨b=wa
 pen:=.ref p
 st:=stD p wa
 mono:=λs H H' ⟨m,t,e0,e1,e2,ne⟩ k _=>⟨m,t,e0,k p _ (.inl rfl) e1,k wa _ (.inr rfl) e2,ne⟩
 sub:=λb h=>h
 dom:=λs H b ⟨m,t,e0,e1,e2,ne⟩ hb=>by
  rcases hb with rfl | rfl
  ·exact⟨_,e1⟩
  ·exact⟨_,e2⟩
 ntp:=λs H b vs ⟨m,t,e0,e1,e2,ne⟩ hb z=>by
  rcases hb with r | r
  ·rw[r,e1]at z;cases z
  ·rw[r,e2]at z;cases z
def We:Gh->Prop:=λG=>∃p wa,G=Xl p wa
def Zn1 (k:Int):List Int->List Int
 | c::r=>if c<k then r else c::r
 | []=>[]
def Ziv (m t:Int):Int:=
 let one:=(m+7919*t*t) % 2147483629
 let two:=(one*one+40692*t+3) % 998244353
 (two*two+one) % 2147483587 / 16
def VU (k m t:Int)(w:List Int):D×Pn:=match Zn1 k w with
 | c::r=>(.int (c % k),([m,t],(c / k)::r))
 | []=>(.int (Ziv m (t+1) % k),([m,t+1],[]))
def Yy:List D->M D:=λds s=>match ds,s with
 | [.pen,.int k],([m,t],w)=>if 0<k/\k<1073741824/\0<=t/\t<2 ^ 60 then some (VU k m t w)else none
 | _,_=>none
theorem Zdc (h:Yy ds s=some (d,s')):∃k m t w,ds=[.pen,.int k]/\s=([m,t],w)/\0<k/\k<1073741824/\0<=t/\t<2 ^ 60/\VU k m t w=(d,s'):=by
 unfold Yy at h;split at h
 ·split at h
  ·rename_i k m t w c
   exact⟨k,m,t,w,rfl,rfl,c.1,c.2.1,c.2.2.1,c.2.2.2,zG h⟩
  ·cases h
 ·cases h
def Xw (T:Nat)(s:Pn):Prop:=∃m t:Int,s.1=[m,t]/\0<=t/\t<=T
theorem Xw.mono (h:Xw T s)(hT:T<=T'):Xw T' s:=by
 obtain⟨m,t,e,h1,h2⟩:=h;exact⟨m,t,e,h1,by omega⟩
theorem Ziw (ok:Xw T s)(hT:T<1000000000)(h1:0<k)(h2:k<1073741824):∃r s',Yy [.pen,.int k] s=some (.int r,s')/\0<=r/\r<k/\Xw (T+1) s':=by
 obtain⟨l,w⟩:=s;obtain⟨m,t,e,t0,tT⟩:=ok;subst e;have hd:Yy [.pen,.int k] ([m,t],w)=some (VU k m t w):=if_pos ⟨h1,h2,t0,by omega⟩;unfold VU at hd;split at hd
 ·exact⟨_,_,hd,Int.emod_nonneg _ (by omega),Int.emod_lt_of_pos _ h1,m,t,rfl,t0,by omega⟩
 ·exact⟨_,_,hd,Int.emod_nonneg _ (by omega),Int.emod_lt_of_pos _ h1,m,t+1,rfl,by omega,by omega⟩
theorem Ok.drawD {m:Nat}(ok:Xw T s)(hT:T<1000000000)(h1:fs ρ s=some ([.pen,.int (m:Int)],s))(hm:0<m)(hm2:m<1073741824)(h:∀(r:Nat) s',r<m->Xw (T+1) s'->Q (.int (r:Int)) s'):Ok (Zu Yy fs ρ) s Q:=by
 obtain⟨r,s1,e,r0,r1,ok1⟩:=Ziw ok hT (show 0<(m:Int) by omega) (show(m:Int)<1073741824 by omega);obtain⟨n,rfl⟩:=qay r0;exact .fn h1 (.eq e (h n s1 (by omega) ok1))
theorem Zlk {GG:Gh->Prop}(h:∀G,GG G->Wc X G ob own own' fr sts g):XC X sts (λE σ H=>∃G,GG G/\ZnZ G ob own own' fr g E σ H):=by
 intro jM s σ H D I ⟨G,hG,kn,jS,H0,ρ,pn,out,pn',j,st,e,po⟩;obtain⟨t,p,q⟩:=h G hG;exact p jM s σ H D I (q kn jS H0 σ H ρ pn out pn' D j st e po)
def Vp (ns:List Int):List Int:=ns.filter λc=>decide (10 ^ 15<=c)
def Zn2 (K:qd):Sp:=λvs H Q _=>∃(a:Addr) (ns:List Int),vs=[.ref a]/\ZD K H a (ns.map V.int)/\ns.length<=63/\
 ∀(p wa:Addr) (m:Int) (H':Hp),stD p wa ([m,0],Vp ns) H'->(∀b u,H b=some u->H' b=some u)->H p=none->H wa=none->Q (.ref p) H'
def tW:TE:=Zig (ZY 0) (tC (.str (qw "wide")))
def tTn:TE:=Zig (ZY 0) (tC (.str (qw "turn")))
def tMx:TE:=Zig (ZY 0) (tC (.str (qw "mixed")))
def Zn3 (K:qd):TE:=tCB (λxs H Q=>∃p ys,xs=[.ref p]/\(ZD K H p ys∨ZO K H p ys)/\Q (.int ys.length) H) (Xn tW XA)
def tW0 (K:qd):TE:=YN (rIxL K) tW (tC (.int 0))
def Zn4:TS:=Vv (ZnW (ZY 0) (tC (.str (qw "turn"))) (YN (XO λi j=>.int (i+j)) tTn (tC (.int 1))))
 (Vv (Uo (YN (rI (λ_ j=>0<j) λi j=>.int (i % j)) (YN (XO λi j=>.int (i+j)) tMx (YN (rI Up λi j=>.int (i*j)) (YN (rI Up λi j=>.int (i*j)) (tC (.int 7919)) tTn) tTn)) (tC (.int 2147483629))) (Wj 3))
 (Vv (Uo (YN (rI (λ_ j=>0<j) λi j=>.int (i % j)) (YN (XO λi j=>.int (i+j)) (YN (XO λi j=>.int (i+j)) (YN (rI Up λi j=>.int (i*j)) (ZY 3) (ZY 3)) (YN (rI Up λi j=>.int (i*j)) (tC (.int 40692)) tTn)) (tC (.int 3))) (tC (.int 998244353))) (Wj 4))
 (tRet (YN (rI (λ_ j=>0<j) λi j=>.int (i % j)) (YN (rI CDiv λi j=>.int (i / j)) (YN (rI (λ_ j=>0<j) λi j=>.int (i % j)) (YN (XO λi j=>.int (i+j)) (YN (rI Up λi j=>.int (i*j)) (ZY 4) (ZY 4)) (ZY 3)) (tC (.int 2147483587))) (tC (.int 16))) (ZY 1)))))
def Zll (K : qd) : TS := Vv (tIfS (BY (YN (XO λi j => .bl (decide (j < i))) (Zn3 K) (tC (.int 0))))
    (Vv (Uo (YN (rI (λ_ j => 0 < j) λi j => .int (i % j)) (tW0 K) (ZY 1)) (Wj 2)) (Vv (Uo (YN (rI CDiv λi j => .int (i / j)) (tW0 K) (ZY 1)) (gSub tW (tC (.int 0)) ZnT)) (tRet (ZY 2)))) ZkD) Zn4
def Zlm (K : qd) : TS := Vv (tIfS (tAnd (BY (YN (XO λi j => .bl (decide (j < i))) (Zn3 K) (tC (.int 0)))) (BY (YN (XO λi j => .bl (decide (i < j))) (tW0 K) (ZY 1))))
    (VP (VB K "list" Zhd tW (Xn (tC (.int 0)) XA))) ZkD) (Zll K)
theorem Jo (h:H p=some (.dK (Xt m t wa))):Xr H p (.str (qw "wide")) (some (.ref wa)):=by have:=Xr.k (k:=.inr (qw "wide")) h;rwa[ZpI]at this
theorem dg_t (h:H p=some (.dK (Xt m t wa))):Xr H p (.str (qw "turn")) (some (.int t)):=by have:=Xr.k (k:=.inr (qw "turn")) h;rwa[ZpH]at this
theorem dg_m (h:H p=some (.dK (Xt m t wa))):Xr H p (.str (qw "mixed")) (some (.int m)):=by have:=Xr.k (k:=.inr (qw "mixed")) h;rwa[ZpG]at this
theorem dp_t (h:H p=some (.dK (Xt m t wa))):WJ H p (.str (qw "turn")) (.int t') (Zi H p (.dK (Xt m t' wa))):=by
 have:=WJ.k (k:=.inr (qw "turn")) (v:=.int t') h (by show 3<xg;decide)
 rwa[Zm7]at this
theorem ZjF {N:St->Hp->Prop}(m0:0<m)(m1:m<1073741824)(t0:0<=t)(t1:t<2 ^ 60)(hp:H p=some (.dK (Xt x t wa)))
  (k:Q (.int (Ziv x (t+1) % m)) (Zi H p (.dK (Xt x (t+1) wa)))):Zn4 { nx:=N,rt:=Q } [some (.ref p),some (.int m),o2,none,none] H:=by
 have hp2:Zi H p (.dK (Xt x (t+1) wa)) p=some (.dK (Xt x (t+1) wa)):=ZE;generalize hT:t+1=T at hp2 k;refine⟨.ref p,rfl,p,.int t,rfl,dg_t hp,t,1,rfl,rfl,.ref p,rfl,p,Zi H p (.dK (Xt x T wa)),rfl,by rw[<-hT];exact dp_t hp,?_⟩;refine⟨.ref p,rfl,p,.int x,rfl,dg_m hp2,.ref p,rfl,p,.int T,rfl,dg_t hp2,7919,T,rfl,rfl,.inl ⟨by decide,by decide⟩,.ref p,rfl,p,.int T,rfl,dg_t hp2,7919*T,T,rfl,rfl,.inr ⟨by omega,by omega⟩,x,7919*T*T,rfl,rfl,x+7919*T*T,2147483629,rfl,rfl,(by simp),?_⟩;refine⟨.int ((x+7919*T*T) % 2147483629),rfl,.int ((x+7919*T*T) % 2147483629),rfl,((x+7919*T*T) % 2147483629),((x+7919*T*T) % 2147483629),rfl,rfl,.inl ⟨by omega,by omega⟩,.ref p,rfl,p,.int T,rfl,dg_t hp2,40692,T,rfl,rfl,.inl ⟨by decide,by decide⟩,((x+7919*T*T) % 2147483629)*((x+7919*T*T) % 2147483629),40692*T,rfl,rfl,((x+7919*T*T) % 2147483629)*((x+7919*T*T) % 2147483629)+40692*T,3,rfl,rfl,((x+7919*T*T) % 2147483629)*((x+7919*T*T) % 2147483629)+40692*T+3,998244353,rfl,rfl,(by simp),?_⟩;refine⟨.int ((((x+7919*T*T) % 2147483629)*((x+7919*T*T) % 2147483629)+40692*T+3) % 998244353),rfl,.int ((((x+7919*T*T) % 2147483629)*((x+7919*T*T) % 2147483629)+40692*T+3) % 998244353),rfl,((((x+7919*T*T) % 2147483629)*((x+7919*T*T) % 2147483629)+40692*T+3) % 998244353),((((x+7919*T*T) % 2147483629)*((x+7919*T*T) % 2147483629)+40692*T+3) % 998244353),rfl,rfl,.inl ⟨by omega,by omega⟩,.int ((x+7919*T*T) % 2147483629),rfl,((((x+7919*T*T) % 2147483629)*((x+7919*T*T) % 2147483629)+40692*T+3) % 998244353)*((((x+7919*T*T) % 2147483629)*((x+7919*T*T) % 2147483629)+40692*T+3) % 998244353),((x+7919*T*T) % 2147483629),rfl,rfl,((((x+7919*T*T) % 2147483629)*((x+7919*T*T) % 2147483629)+40692*T+3) % 998244353)*((((x+7919*T*T) % 2147483629)*((x+7919*T*T) % 2147483629)+40692*T+3) % 998244353)+((x+7919*T*T) % 2147483629),2147483587,rfl,rfl,(by simp),(((((x+7919*T*T) % 2147483629)*((x+7919*T*T) % 2147483629)+40692*T+3) % 998244353)*((((x+7919*T*T) % 2147483629)*((x+7919*T*T) % 2147483629)+40692*T+3) % 998244353)+((x+7919*T*T) % 2147483629)) % 2147483587,16,rfl,rfl,(by show(0:Int)<16/\(16:Int)<1073741824;decide),.int m,rfl,(((((x+7919*T*T) % 2147483629)*((x+7919*T*T) % 2147483629)+40692*T+3) % 998244353)*((((x+7919*T*T) % 2147483629)*((x+7919*T*T) % 2147483629)+40692*T+3) % 998244353)+((x+7919*T*T) % 2147483629)) % 2147483587 / 16,m,rfl,rfl,m0,?_⟩;exact k
theorem Zgd (w:List Int):((w.map V.int).length:Int)=(w.length:Int):=by simp
theorem ix0 (c:Int)(r:List Int):V4 ((c::r).map V.int).length 0=some 0:=by
 unfold V4;simp
theorem ZjG {K:qd}{N:St->Hp->Prop}(m0:0<m)(m1:m<1073741824)(t0:0<=t)(t1:t<2 ^ 60)(hp:H p=some (.dK (Xt x t wa)))(hw:H wa=some (.lst (w1.map V.int)))(ne:p≠wa)
  (k1:∀c r,w1=c::r->Q (.int (c % m)) (Zi H wa (.lst (((c / m)::r).map V.int)))) (k2:w1=[]->Q (.int (Ziv x (t+1) % m)) (Zi H p (.dK (Xt x (t+1) wa)))) :
  Zll K { nx:=N,rt:=Q } [some (.ref p),some (.int m),none,none,none] H:=by
 refine⟨.ref p,rfl,p,.ref wa,rfl,Jo hp,wa,w1.map V.int,rfl,.inl (ZD.of hw),_,0,rfl,rfl,_,rfl,?_⟩
 cases w1 with
 | nil=>
  exact ZjF m0 m1 t0 t1 hp (k2 rfl)
 | cons c r=>
  have e:decide ((0:Int)<(((c::r).map V.int).length:Int))=true:=by simp
  rw[e];have hi:WA ((c::r).map V.int) 0=some (.int c):=X7 rfl;refine⟨.ref p,rfl,p,.ref wa,rfl,Jo hp,wa,_,0,.int c,rfl,rfl,ZD.of hw,hi,.int m,rfl,c,m,rfl,rfl,m0,?_⟩;refine⟨.ref p,rfl,p,.ref wa,rfl,Jo hp,wa,_,0,.int c,rfl,rfl,ZD.of hw,hi,.int m,rfl,c,m,rfl,rfl,⟨m0,m1⟩,.ref p,rfl,p,.ref wa,rfl,Jo hp,wa,(c::r).map V.int,0,0,rfl,rfl,hw,ix0 c r,?_⟩;exact⟨_,rfl,k1 c r rfl⟩
theorem Zln {K:qd}{N:St->Hp->Prop}(m0:0<m)(m1:m<1073741824)(t0:0<=t)(t1:t<2 ^ 60)(eS:VU m x t ww=(d,pn'))(hp:H p=some (.dK (Xt x t wa)))(hw:H wa=some (.lst (ww.map V.int)))(ne:p≠wa)
  (k:∀(i:Int) (H':Hp),d=.int i->(∀b,b≠p->b≠wa->H' b=H b)->stD p wa pn' H'->Q (.int i) H') :
  Zlm K { nx:=N,rt:=Q } [some (.ref p),some (.int m),none,none,none] H:=by
 have fin:∀(H1:Hp) (w1:List Int),w1=Zn1 m ww->H1 p=some (.dK (Xt x t wa))->H1 wa=some (.lst (w1.map V.int))->(∀b,b≠p->b≠wa->H1 b=H b)->Zll K { nx:=N,rt:=Q } [some (.ref p),some (.int m),none,none,none] H1:=by
  intro H1 w1 e1 hp1 hw1 ag;refine ZjG m0 m1 t0 t1 hp1 hw1 ne (λc r ec=>?_) λec=>?_
  ·have:VU m x t ww=(.int (c % m),([x,t],(c / m)::r)):=by unfold VU;rw[<-e1,ec]
   rw[this]at eS
   cases eS
   refine k _ _ rfl (λb h1 h2=>by rw[Zl h2];exact ag b h1 h2) ⟨x,t,rfl,by rw[Zl ne];exact hp1,ZE,ne⟩
  ·have:VU m x t ww=(.int (Ziv x (t+1) % m),([x,t+1],[])):=by unfold VU;rw[<-e1,ec]
   rw[this]at eS
   cases eS
   subst ec;refine k _ _ rfl (λb h1 h2=>by rw[Zl h1];exact ag b h1 h2) ⟨x,t+1,rfl,ZE,by rw[Zl (ze ne)];exact hw1,ne⟩
 refine⟨.ref p,rfl,p,.ref wa,rfl,Jo hp,wa,ww.map V.int,rfl,.inl (ZD.of hw),_,0,rfl,rfl,_,rfl,?_⟩
 cases ww with
 | nil=>
  refine VZ ?_;refine VZ ?_;exact fin H [] rfl hp hw λ_ _ _=>rfl
 | cons c r=>
  have e:decide ((0:Int)<(((c::r).map V.int).length:Int))=true:=by rw[decide_eq_true_eq,Zgd];simp
  rw[e];refine WY ?_;have hi:WA ((c::r).map V.int) 0=some (.int c):=X7 (j:=0) rfl;refine⟨.ref p,rfl,p,.ref wa,rfl,Jo hp,wa,_,0,.int c,rfl,rfl,ZD.of hw,hi,.int m,rfl,c,m,rfl,rfl,_,rfl,?_⟩;by_cases hc:c<m
  ·rw[decide_eq_true hc]
   refine WY ?_;refine⟨.ref p,rfl,p,.ref wa,rfl,Jo hp,.inl ⟨rfl,_,ZD.of hw⟩,wa,(c::r).map V.int,0,0,.int c,rfl,rfl,hw,by decide,by decide,seqIndex_of (by decide) (by simp),rfl,?_⟩;refine fin _ r (by show r=if c<m then r else c::r;simp_all) (by rw[Zl ne];exact hp) (by rw[ZE];rfl) λb h1 h2=>by rw[Zl h2]
  ·rw[decide_eq_false hc]
   exact fin H (c::r) (by show c::r=if c<m then r else c::r;rw[if_neg hc]) hp hw λ_ _ _=>rfl
theorem ZoV (e1:Zz (Xl p wa) Hf H)(ag:∀b,b≠p->b≠wa->H' b=H b):Gr (Xl p wa) Hf H Hf H':=
 have no:∀b,¬(Xl p wa).fp b->b≠p/\b≠wa:=λb n=>⟨λz=>n (.inl z),λz=>n (.inr z)⟩
 ⟨λb u n q=>by rw[ag b (no b n).1 (no b n).2];exact q,.refl _ _,λb u n q=>by rw[ag b (no b n).1 (no b n).2];exact e1 b u n q,λb n h1 h2=>h1⟩
theorem ZjH {K:qd}{N:St->Hp->Prop}(h:Ys 2 true We Yy vs H Q E):∃p m,vs=[.ref p,.int m]/\Zlm K { nx:=N,rt:=Q } [some (.ref p),some (.int m),none,none,none] H:=by
 obtain⟨G,Hf,ds,pn,d,pn',hG,el,e1,r,st',eF,k'⟩:=h;obtain⟨p,wa,rfl⟩:=hG;obtain⟨m,x,t,ww,rfl,rfl,m0,m1,t0,t1,eS⟩:=Zdc eF;obtain⟨v1,v2,rfl,r1,r2⟩:=jp r
 cases (jo.mp r1)
 cases (ja.mp r2)
 obtain⟨x',t',ea,hp,hw,ne⟩:=st';simp at ea;obtain⟨rfl,rfl⟩:=ea;refine⟨p,m,rfl,Zln m0 m1 t0 t1 eS hp hw ne λi H' ed ag st=>?_⟩;exact k' _ Hf H' (ZoV e1 ag) st (by rw[ed];rfl) λ_=>.scal λz=>by rw[ed]at z;exact z
theorem Zge (hc:X.calm=true)(B:BlkS X XN NS N' src scope)(hi:PI X tg iter wi)
  (hg:∀cl jM C s H fp,PG (L2.blk X jM N' scope cl C s H fp) tg g) (ht:∀cl jM C s H fp,Vw (L2.blk X jM N' scope cl C s H fp) ifs tt) (he:∀cl jM C s H fp,PE (L2.blk X jM N' scope cl C s H fp) elt te)
  (hs:∀x,foldedSetIterable iter X.env x=pure x:=by intro _;rfl):PE X (.ListComp elt [⟨tg,iter,ifs,0⟩] scope pos) (JX src wi g tt te):=by
 intro jM s σ H Q I h;obtain⟨cl,B'⟩:=B.ok I.ok;exact Zii hc B' hi (hg cl) (ht cl) (he cl) hs jM s σ H Q I h
def Zlo (K:qd):TE:=JX [none] (ZkI K (ZY 0)) (Wj 0) (BY (YN (XO λi j=>.bl (decide (j<=i))) (ZY 0) (YN (rI CPow λi j=>.int (i ^ j.toNat)) (tC (.int 10)) (tC (.int 15))))) (ZY 0)
def ZpJ (K:qd):TS:=Vv (Uo (tC (.int 7)) (Wj 1))
 (Vv (tFor (ZkI K (ZY 0)) (Wj 2) (Uo (YN (rI (λ_ j=>0<j) λi j=>.int (i % j)) (YN (XO λi j=>.int (i+j)) (YN (XO λi j=>.int (i+j)) (YN (rI Up λi j=>.int (i*j)) (ZY 1) (tC (.int 48271))) (YN (rI (λ_ j=>0<j) λi j=>.int (i % j)) (ZY 2) (tC (.int 1000000007)))) (tC (.int 11))) (tC (.int 2147483629))) (Wj 1)))
 (tRet (ZnX [(tC (.str (qw "mixed")),ZY 1),(tC (.str (qw "turn")),tC (.int 0)),(tC (.str (qw "wide")),Zlo K)])))
theorem Zlp {K:qd}(sq:ZD K H a xs)(hp:H p=none):ZD K (Zi H p o) a xs:=by
 have hne:∀u,H a=some u->a≠p:=λu e z=>by grind
 rcases sq with(q | ⟨o',q⟩) | q
 ·exact .inl (.inl (by rw[Zl (hne _ q)];exact q))
 ·exact .inl (.inr ⟨o',by rw[Zl (hne _ q)];exact q⟩)
 ·exact .inr q
theorem Zlq:Zi (Zi H p o) p o'=Zi H p o':=by
 funext b;by_cases h:b=p
 ·subst h;rw[ZE,ZE]
 ·rw[Zl h,Zl h,Zl h]
theorem ZjI (m t:Int)(wa:Addr):U4 [] (Xt m t wa)=Xt m t wa:=by
 rfl
theorem ZjJ (ns:List Int)(i:Nat)(c:Int)(h:ns[i]?=some c):Vp (ns.take (i+1))=Vp (ns.take i)++(if decide (10 ^ 15<=c)=true then [c]else []):=by
 unfold Vp;rw[List.take_succ];by_cases hc:(10:Int) ^ 15<=c
 ·simp_all
 ·simp_all
theorem Zlr {K:qd}(sq:ZD K H a (ns.map V.int))(hl:ns.length<=63)(k:∀p,H p=none->Q (.ref p) (Zi H p (.lst ((Vp ns).map V.int)))):Zlo K [some (.ref a),o1,o2] H Q:=by
 refine⟨.ref a,rfl,a,rfl,⟨_,sq⟩,λp hp=>?_⟩;refine⟨λi n σ2 H2=>i<=ns.length/\n=ns.length-i/\(∃o,σ2=[o])/\H2=Zi H p (.lst ((Vp (ns.take i)).map V.int)),⟨ns.length,za _,by omega,⟨none,rfl⟩,rfl⟩,λi n σ2 H2 ⟨hi,hn,⟨o,hσ⟩,hH⟩=>?_⟩;subst hσ hH;have sq2:ZD K (Zi H p (.lst ((Vp (ns.take i)).map V.int))) a (ns.map V.int):=Zlp sq hp;by_cases he:i=ns.length
 ·refine .inl ⟨⟨_,sq2,by rw[qh];omega⟩,?_⟩
  subst he;rw[qbw];exact k p hp
 ·have hlt:i<ns.length:=by omega
  have gi:(ns.map V.int)[i]?=some (.int ns[i]):=by rw[qG,qB hlt];rfl
  refine .inr ⟨⟨_,_,sq2,gi⟩,λx H3 ⟨y1,y2⟩=>?_⟩;subst y1;have ex:=y2 _ sq2;rw[gi]at ex
  cases ex
  refine⟨.int ns[i],rfl,10,15,rfl,rfl,⟨by decide,by decide,by decide⟩,ns[i],10 ^ (15:Int).toNat,rfl,rfl,_,rfl,?_⟩;have ew:=ZjJ ns i ns[i] (qB hlt);by_cases hc:(10:Int) ^ 15<=ns[i]
  ·have hd:decide ((10:Int) ^ (15:Int).toNat<=ns[i])=true:=decide_eq_true hc
   rw[hd];refine WY ?_;refine⟨.int ns[i],rfl,(Vp (ns.take i)).map V.int,ZE,?_,n-1,by omega,by omega,by omega,⟨_,rfl⟩,?_⟩
   ·have:(Vp (ns.take i)).length<=(ns.take i).length:=zh ..
    rw[qh,sizeLine_eq];have:=List.length_take_le i ns;omega
   ·rw[Zlq,ew,if_pos (decide_eq_true hc),zI]
    rfl
  ·have hd:decide ((10:Int) ^ (15:Int).toNat<=ns[i])=false:=decide_eq_false hc
   rw[hd];refine⟨n-1,by omega,by omega,by omega,⟨_,rfl⟩,?_⟩;rw[ew,if_neg (by simp_all),zw]
theorem Zm8 {K:qd}{N:St->Hp->Prop}(sq:ZD K H a (ns.map V.int))(hl:ns.length<=63)(k:∀(p wa:Addr) (m:Int) (H':Hp),stD p wa ([m,0],Vp ns) H'->(∀b u,H b=some u->H' b=some u)->H p=none->H wa=none->Q (.ref p) H') :
  ZpJ K { nx:=N,rt:=Q } [some (.ref a),none,none] H:=by
 refine⟨.ref a,rfl,a,rfl,⟨_,sq⟩,?_⟩;refine⟨λi n σ2 H2=>i<=ns.length/\n=ns.length-i/\(∃x o2,σ2=[some (.ref a),some (.int x),o2])/\H2=H,⟨ns.length,za _,by omega,⟨7,none,rfl⟩,rfl⟩,λi n σ2 H2 ⟨hi,hn,⟨x,o2,hσ⟩,hH⟩=>?_⟩;subst hσ hH;by_cases he:i=ns.length
 ·refine .inl ⟨⟨_,sq,by rw[qh];omega⟩,?_⟩
  intro p hp;refine⟨.int x,rfl,?_⟩;have hp2:(Zi H2 p (.dK [])) p=some (.dK []):=ZE;show Zlo K [some (.ref a),some (.int x),o2] (Zi H2 p (.dK [])) (λy H3=>H3 p=some (.dK [])/\∃kvs:List (ZG×V),[(V.str (qw "mixed"),V.int x),(V.str (qw "turn"),V.int 0),(V.str (qw "wide"),y)]=kvs.map (λkv=>(kV kv.1,kv.2))/\kvs.length<=15/\Q (.ref p) (Zi H3 p (.dK (U4 [] kvs))));refine Zlr (Zlp sq hp) hl λwa hwa=>?_;have ne:p≠wa:=λz=>by rw[<-z,ZE]at hwa;cases hwa
  refine⟨by rw[Zl ne];exact hp2,Xt x 0 wa,rfl,by show 3<=15;decide,?_⟩;rw[ZjI];have hwa0:H2 wa=none:=by rw[Zl (ze ne)]at hwa;exact hwa
  exact k p wa x _ ⟨x,0,rfl,ZE,by rw[Zl (ze ne)];exact ZE,ne⟩ (λb u e=>by rw[Zl (ZP e hp),Zl (ZP e hwa0),Zl (ZP e hp)];exact e) hp hwa0
 ·have hlt:i<ns.length:=by omega
  have gi:(ns.map V.int)[i]?=some (.int ns[i]):=by simp
  refine .inr ⟨⟨_,_,sq,gi⟩,fun σ' H'=>(∃x o2,σ'=[some (.ref a),some (.int x),o2])/\H'=H2,fun σ' H' h=>⟨n-1,by omega,by omega,by omega,h.1,h.2⟩,λx' H' ⟨y1,y2⟩=>?_⟩;subst y1;have ex:=y2 _ sq;rw[gi]at ex
  cases ex
  refine⟨.int x,rfl,x,48271,rfl,rfl,.inr ⟨by decide,by decide⟩,.int ns[i],rfl,ns[i],1000000007,rfl,rfl,(by simp),x*48271,ns[i] % 1000000007,rfl,rfl,x*48271+ns[i] % 1000000007,11,rfl,rfl,x*48271+ns[i] % 1000000007+11,2147483629,rfl,rfl,(by simp),⟨_,_,rfl⟩,rfl⟩
def Wf (L:List (Addr×Str))(b:Addr):Prop:=∃q,(b,q)∈L
def Zn5 (G0:Gh)(L:List (Addr×Str))(P:Addr)(q:Str)(H:Hp):Prop:=∃ps,H P=some (.tbl ps)/\TriplesOk ps.toList/\∀pos cv,codeAmong pos ps.toList=some cv->∃c',cv=.ref c'/\H c'=some (.ext (codeφ c' q))/\¬G0.fp c'/\¬Wf L c'
def Je (G0:Gh)(L:List (Addr×Str)):Gh where
 fp:=λb=>G0.fp b∨Wf L b
 rd:=λb=>G0.rd b∨Wf L b
 pen:=G0.pen
 st:=λs H=>G0.st s H/\∀P q,(P,q)∈L->Zn5 G0 L P q H
 mono:=λs H H' ⟨h1,h2⟩ k1 k2=>⟨G0.mono s H H' h1 (λb o r=>k1 b o (.inl r)) k2,λP q m=>by
  obtain⟨ps,e,t,h⟩:=h2 P q m;refine⟨ps,k1 P _ (.inr ⟨q,m⟩) e,t,λpos cv hc=>?_⟩;obtain⟨c',z1,z2,z3⟩:=h pos cv hc;exact⟨c',z1,k2 _ _ z2,z3⟩⟩
 sub:=λb h=>h.elim (λz=>.inl (G0.sub b z)) .inr
 dom:=λs H b ⟨h1,h2⟩ hb=>by
  rcases hb with z | ⟨q,m⟩
  ·exact G0.dom s H b h1 z
  ·obtain⟨ps,e,_⟩:=h2 b q m
   exact⟨_,e⟩
 ntp:=λs H b vs ⟨h1,h2⟩ hb=>by
  rcases hb with z | ⟨q,m⟩
  ·exact G0.ntp s H b vs h1 z
  ·obtain⟨ps,e,_⟩:=h2 b q m
   rw[e];intro z;cases z
theorem ZdU {pos:Pos}(l:List Value)(h:TriplesOk l)(hc:codeAmong pos' (l ++ [rawInt pos.line,rawInt pos.col,c])=some cv):codeAmong pos' l=some cv∨cv=c:=by
 fun_induction TriplesOk l with
 | case1=>
  simp only[List.nil_append,rawInt,codeAmong]at hc;simp_all
 | case2 a b d e f rest ih=>
  simp only[List.cons_append,codeAmong]at hc⊢;split at hc
  ·rename_i h1;rw[if_pos h1];exact .inl hc
  ·rename_i h1;rw[if_neg h1];exact ih h hc
 | case3=>cases h
theorem Zgf {pos:Pos}(l:List Value)(h:TriplesOk l):TriplesOk (l ++ [rawInt pos.line,rawInt pos.col,c]):=by
 fun_induction TriplesOk l with
 | case1=>simp[TriplesOk,rawInt]
 | case2 a b d e f rest ih=>exact ih h
 | case3=>cases h
def W4 (L:List (Addr×Str)):Prop:=∀P q q',(P,q)∈L->(P,q')∈L->q=q'
def WL (GG0:Gh->Prop)(L:List (Addr×Str))(G:Gh):Prop:=∃G0,GG0 G0/\(∀b,Wf L b->¬G0.rd b)/\G=Je G0 L
theorem Zm9 (lo:W4 L)(hrd:∀b,Wf L b->¬G0.rd b)(m:(P,q)∈L):TabG P q (Je G0 L):=by
 refine⟨λs H st=>?_,.inr ⟨q,m⟩,λs H ps pos c' st hP hc hn=>?_⟩
 ·obtain⟨ps,e,t,h⟩:=st.2 P q m
  refine⟨ps,e,t,λpos cv hc=>?_⟩;obtain⟨c',z1,z2,z3,z4⟩:=h pos cv hc;exact⟨c',z1,z2,λz=>z.elim z3 z4⟩
 ·have hcP:c'≠P:=λz=>by rw[z,hP]at hc;cases hc
  have notL:¬Wf L c':=λ⟨q',m'⟩=>by
   obtain⟨_,e,_⟩:=st.2 c' q' m';rw[hc]at e;cases e
  have k2:∀b φ,H b=some (.ext φ)->Zi (Zi H P (.tbl (ps ++ #[rawInt pos.line,rawInt pos.col,.ref c']))) c' (.ext (codeφ c' q)) b=some (.ext φ):=λb φ e=>by
   rw[Zl (ZP e hc),Zl (λz=>by rw[z,hP]at e;cases e)];exact e
  refine⟨G0.mono s H _ st.1 (λb o r e=>?_) k2,λP' q' m'=>?_⟩
  ·rw[Zl (ZP e hc),Zl (λz=>hrd P ⟨q,m⟩ (by simp_all))];exact e
  ·by_cases hb:P'=P
   ·subst hb
    have:=lo P' q q' m m';subst this;obtain⟨ps',e,t,h⟩:=st.2 P' q m;rw[hP]at e;cases e;refine⟨_,by rw[Zl (ze hcP),ZE],?_,λpos' cv hcv=>?_⟩
    ·rw[qcd];exact Zgf _ t
    ·rw[qcd]at hcv
     rcases ZdU _ t hcv with z | z
     ·obtain⟨c2,z1,z2,z3⟩:=h pos' cv z
      exact⟨c2,z1,k2 _ _ z2,z3⟩
     ·exact⟨c',z,ZE,Gh.nofp st.1 hc,notL⟩
   ·obtain⟨ps',e,t,h⟩:=st.2 P' q' m'
    refine⟨ps',by rw[Zl (ZP e hc),Zl hb];exact e,t,λpos' cv hcv=>?_⟩;obtain⟨c2,z1,z2,z3⟩:=h pos' cv hcv;exact⟨c2,z1,k2 _ _ z2,z3⟩
def Y8 (L:List (Addr×Str))(G:Gh):Prop:=∀P q,(P,q)∈L->TabG P q G
theorem jC (lo:W4 L)(h:WL GG0 L G):Y8 L G:=by
 obtain⟨G0,_,hrd,rfl⟩:=h;exact λP q m=>Zm9 lo hrd m
mutual
theorem Zo.tr {G G':Gh}{H H':Hp}(h:∀a o,¬G.fp a->H a=some o->(∀ps,o≠.tbl ps)->¬G'.fp a/\H' a=some o)(hp:G'.pen=G.pen):∀{d:D} {v:V},YZ d=true->Zo G H d v->Zo G' H' d v
 | .non,_,_,r=>jg.mpr (jg.mp r)
 | .bl _,_,_,r=>je.mpr (je.mp r)
 | .int _,_,_,r=>ja.mpr (ja.mp r)
 | .str _,_,_,r=>jh.mpr (jh.mp r)
 | .tup ds,v,n,r=>by
  obtain⟨a,vs,e1,nf,e2,r⟩:=jc.mp r;obtain⟨z1,z2⟩:=h a _ nf e2 (λ_ z=>by cases z);exact jc.mpr ⟨a,vs,e1,z1,z2,Zk.tr h hp (by simpa[YZ]using n) r⟩
 | .lst ds,v,n,r=>by
  obtain⟨a,vs,e1,nf,e2,r⟩:=jb.mp r;obtain⟨z1,z2⟩:=h a _ nf e2 (λ_ z=>by cases z);exact jb.mpr ⟨a,vs,e1,z1,z2,Zk.tr h hp (by simpa[YZ]using n) r⟩
 | .dk _,_,_,r=>by
  obtain⟨a,e1,nf,e2⟩:=jj.mp r;obtain⟨z1,z2⟩:=h a _ nf e2 (λ_ z=>by cases z);exact jj.mpr ⟨a,e1,z1,z2⟩
 | .dt _,_,_,r=>by
  obtain⟨a,o,e1,nf,e2⟩:=jm.mp r;obtain⟨z1,z2⟩:=h a _ nf e2 (λ_ z=>by cases z);exact jm.mpr ⟨a,o,e1,z1,z2⟩
 | .du _,_,_,r=>by
  obtain⟨a,e1,nf,e2⟩:=jn.mp r;obtain⟨z1,z2⟩:=h a _ nf e2 (λ_ z=>by cases z);exact jn.mpr ⟨a,e1,z1,z2⟩
 | .df _,_,_,r=>by
  obtain⟨a,o,e1,nf,e2⟩:=jr.mp r;obtain⟨z1,z2⟩:=h a _ nf e2 (λ_ z=>by cases z);exact jr.mpr ⟨a,o,e1,z1,z2⟩
 | .pen,_,_,r=>jo.mpr ((jo.mp r).trans hp.symm)
 | .ty _,_,_,r=>js.mpr (js.mp r)
 | .clo _ _,_,n,_=>by simp[YZ]at n
theorem Zk.tr {G G':Gh}{H H':Hp}(h:∀a o,¬G.fp a->H a=some o->(∀ps,o≠.tbl ps)->¬G'.fp a/\H' a=some o)(hp:G'.pen=G.pen):∀{ds:List D} {vs:List V},Y6 ds=true->Zk G H ds vs->Zk G' H' ds vs
 | [],_,_,r=>Zk.nil_iff.mpr (Zk.nil_iff.mp r)
 | d::ds,vs,n,r=>by
  obtain⟨v,rr,e,h1,h2⟩:=jd.mp r;have n':YZ d=true/\Y6 ds=true:=by simpa[Y6]using n
  exact jd.mpr ⟨v,rr,e,Zo.tr h hp n'.1 h1,Zk.tr h hp n'.2 h2⟩
end
open Classical in
noncomputable def Uq (L:List (Addr×Str))(H H2:Hp):Hp:=λb=>if Wf L b then H2 b else H b
theorem Zna (h:Wf L b):Uq L H H2 b=H2 b:=by unfold Uq;simp_all
theorem W8 (h:¬Wf L b):Uq L H H2 b=H b:=by unfold Uq;simp_all
theorem Znb {K:qd}(FN:FnOk P w K mg base ZN k f fd ps (Ys n fr GG0 F))
  (hF:∀ds s d s',F ds s=some (d,s')->Y6 ds=true/\YZ d=true):FnOk P w K mg base ZN k f fd ps (Ys n fr (WL GG0 L) F):=by
 refine FN.imp λvs H Q E h=>?_;obtain⟨G,Hf,ds,s,d,s',⟨G0,hG0,hrd,rfl⟩,hl,e1,r,st,eF,k⟩:=h;obtain⟨n1,n2⟩:=hF _ _ _ _ eF;have nfp:∀b,Wf L b->¬G0.fp b:=λb m z=>hrd b m (G0.sub b z);have e1':Zz G0 (Uq L Hf λ_=>none) H:=λb o nb q=>by
  by_cases m:Wf L b
  ·rw[Zna m]at q;cases q
  ·rw[W8 m]at q;exact e1 b o (λz=>z.elim nb m) q
 refine⟨G0,Uq L Hf λ_=>none,ds,s,d,s',hG0,hl,e1',Zk.tr (G:=Je G0 L) (G':=G0) (λa o na q _=>?_) rfl n1 r,st.1,eF,λv Hf' H' g st' r' fz=>?_⟩
 ·have m:¬Wf L a:=λz=>na (.inr z)
  exact⟨λz=>na (.inl z),by rw[W8 m];exact q⟩
 ·have tab:∀b,Wf L b->∃ps,H' b=some (.tbl ps):=λb ⟨q,m⟩=>by
   obtain⟨ps,e,_⟩:=st.2 b q m;exact⟨ps,g.hh b _ (nfp b ⟨q,m⟩) e⟩
  have out:∀a o,¬G0.fp a->Hf' a=some o->(∀ps,o≠.tbl ps)->¬Wf L a:=λa o na q no m=>by
   obtain⟨ps,e⟩:=tab a m;rw[g.fh a o na q]at e;exact no ps (zG e)
  have tr:∀a o,¬G0.fp a->Hf' a=some o->(∀ps,o≠.tbl ps)->¬(Je G0 L).fp a/\Uq L Hf' Hf a=some o:=λa o na q no=>by
   have m:=out a o na q no;exact⟨λz=>z.elim na m,by rw[W8 m];exact q⟩
  refine k v (Uq L Hf' Hf) H' ⟨λb o nb q=>g.hh b o (λz=>nb (.inl z)) q,λb o nb q=>?_,λb o nb q=>?_,λb nb q1 q2=>?_⟩ ⟨st',λP q m=>?_⟩ (Zo.tr (G:=G0) (G':=Je G0 L) tr rfl n2 r') λz a ea mu=>?_
  ·have m:¬Wf L b:=λz=>nb (.inr z)
   rw[W8 m];exact g.ff b o (λz=>nb (.inl z)) (by rw[W8 m];exact q)
  ·have m:¬Wf L b:=λz=>nb (.inr z)
   rw[W8 m]at q;exact g.fh b o (λz=>nb (.inl z)) q
  ·have m:¬Wf L b:=λz=>nb (.inr z)
   rw[W8 m];exact g.nw b (λz=>nb (.inl z)) (by rw[W8 m];exact q1) q2
  ·obtain⟨ps,e,t,h⟩:=st.2 P q m
   refine⟨ps,g.hh P _ (nfp P ⟨q,m⟩) e,t,λpos cv hc=>?_⟩;obtain⟨c',z1,z2,z3,z4⟩:=h pos cv hc;exact⟨c',z1,g.hh c' _ z3 z2,z3,z4⟩
  ·obtain⟨h1,h2⟩:=fz z a ea mu
   refine⟨h1,λxs ed=>?_⟩;obtain⟨us,Hm,q1,q2,q3,q4⟩:=h2 xs ed;have na:¬Wf L a:=λm=>by
    obtain⟨q,m⟩:=m;obtain⟨ps,e,_⟩:=st.2 a q m;rw[h1]at e;cases e
   refine⟨us,Uq L Hm λ_=>none,by rw[W8 na];exact q1,by rw[W8 na];exact q2,λb o nb q=>?_,?_⟩
   ·have m:=λz=>nb (.inr z)
    rw[W8 m]at q⊢;exact q3 b o (λz=>nb (.inl z)) q
   ·subst ed
    refine Zk.tr (G:=G0) (G':=Je G0 L) (λb o nb q no=>?_) rfl (by simpa[YZ]using n2) q4;have m:=out b o nb (q3 b o nb q) no;exact⟨λz=>z.elim nb m,by rw[W8 m];exact q⟩
theorem Zgg {K:qd}(c:ZT P w K mg base k x n fr GG0 F)(hF:∀ds s d s',F ds s=some (d,s')->Y6 ds=true/\YZ d=true):ZT P w K mg base k x n fr (WL GG0 L) F:=
 let ⟨f,fd,ps,a,b,c,d⟩:=c
 ⟨f,fd,ps,Znb a hF,b,c,d⟩
theorem Zls:∀ds s d s',Yy ds s=some (d,s')->Y6 ds=true/\YZ d=true:=λds s d s' h=>by
 obtain⟨k,m,t,w,rfl,rfl,_,_,_,_,e⟩:=Zdc h;refine⟨rfl,?_⟩;unfold VU at e;split at e <;> (cases e;rfl)
theorem Zlt {ps:List Str}(hpl:ps.length<=N.length)(q:Bd G [] [] own fr t g)(e1:Zz G Hf H)(r:Zk G Hf ds vs)(st':G.st pn H)(eF:runB N.length ps.length g ds pn=some (d,pn'))
  (k':∀v Hf' H',Gr G Hf H Hf' H'->G.st pn' H'->Zo G Hf' d v->(fr=true->Z7 G H Hf' d v)->Q v H'):t { nx:=λ_ H'=>Q .non H',rt:=Q } (L2.start N vs) H:=by
 obtain⟨hl,a0⟩:=YQ eF;obtain⟨o,s1,a1,a2⟩:=Zs a0;have j0:Jf G [] Hf Hf H (L2.start N vs) Hf H (ds.map some++qm (N.length-ps.length) none):=by
  refine⟨?_,.refl _ _,.refl e1,λi d n e=>?_,λi d m e=>absurd m (by simp),λi j a di dj mi mj n e=>absurd mi (by simp)⟩
  ·have:=r.length
   unfold L2.start;simp;omega
  ·have hi:i<ds.length:=by
    by_cases hi:i<ds.length
    ·exact hi
    ·rw[zS (by simpa using hi),z9]at e
     split at e <;> cases e
   have e':ds[i]?=some d:=by
    rw[zb (by simpa using hi),qG]at e
    cases q:ds[i]? with
    | none=>rw[q]at e;cases e
    | some c=>rw[q]at e;simp at e;rw[e]
   obtain⟨v,h1,h2⟩:=r.get e';refine⟨v,?_,h2⟩;unfold L2.start;rw[zb (by simp;rw[<-r.length];exact hi),qG,h1];rfl
 refine q Hf Hf H (L2.start N vs) H _ pn o s1 _ ⟨Hf,j0⟩ st' a1 ?_
 cases o with
 | rt c=>
  obtain⟨rfl,rfl⟩:=ZC a2;exact λv Hf' H' g' jY r2 fz=>k' v Hf' H' g' jY r2 fz
 | nx ρ'=>
  obtain⟨rfl,rfl⟩:=ZC a2;exact fun σ' H' ⟨Hf',j'⟩ jY=>k' .non Hf' H' j'.gr jY (jg.mpr rfl) λ_=>.scal λz=>z
 | bk ρ'=>cases a2
 | ct ρ'=>cases a2
theorem fnDC {K:qd}{st:Stmt}
  (F:Fun K x qual st f fd) (S:FnScope N ps (Zw st))
  (hb:∀(A:xC) (outer:List Env) (s:Shared) (H:Hp) (E:XK),Room k (A.deeper (envOfC qual (Zw st) s.heap.objs.size f fd.code))->∀G,GG G->Wc (Wn ZN P w K mg base N qual (Zw st) f fd.code A outer s H E).nox G [] [] own fr (Wt st) g) :
  FnOk P w K mg base ZN (k+1) f fd ps (Ys ps.length fr GG (runB N.length ps.length g)):=by
 obtain⟨oc,od,kV,doc,pm,an,cdv,ct,osl,rfl,lk,hcd⟩:=F.ex;refine Zic lk hcd S (λvs H Q E ⟨_,_,_,_,_,_,_,e,_⟩=>e) λA outer s H vs Q E hr h=>?_;obtain⟨G,Hf,ds,pn,d,pn',hG,el,e1,r,st',eF,k'⟩:=h;obtain⟨t,p,q⟩:=hb A outer s H E hr G hG;exact⟨t,p.nox,Zlt (by have:=congrArg yR S.pre;grind) q e1 r st' eF k'⟩
section
variable {X:Cx}{G:Gh}{P c:Addr}{q:Str}{k kl n:Nat}{x:Str}{fr frb:Bool}{F:List D->M D}{T:Nat->List D->M D}{t:Nat}{e1:Expr}{f1:Zc->M D}{r1:Bool}{params:Arguments}{scope:Scope}{lpos ppos pos:Pos}{XN N ps:List Str}{NS:List (Str×NameKind)}{cix:List Nat}
end
def Uv (mg:Str->Option Value)(h:Heap):Prop:=∃bm o,mg "__builtins__" = some (.ref bm)/\bm≠builtinsNs/\bm≠mainGlobals/\h.get? bm=some o/\o.cls=.type "module"/\o.dict=some builtinsNs/\o.data=.plain
theorem ZjK {K:qd}{tb:List (Addr×Addr)}
  (KX:K.In s₁.heap) (hns:s₁.heap.Ns mainGlobals mg) (hb:s₁.heap.Ns builtinsNs mb) (hbb:∀x:Str,x≠"__name__"->mb x=xj x) (hlim:s₁.heap.NoLimit) (hg:s₁.gens = #[])
  (hT:∀e∈tb,zE s₁.heap e.1 e.2/\s₁.heap.get? e.2=some (qa6 #[])) (hKt:PySem.W.noTabs K=true) (hbm:Uv mg s₁.heap)
  (ha:s₁.heap.get? a=some { cls:=.type "list",data:=.seq vs.toArray }) (hi:IntsAre vs ns) (hl:ns.length<=xg) (hr:Room k callerA)
  (F:∀base:Heap,K.In base->base.Ns mainGlobals mg->(∀e∈tb,zE base e.1 e.2)->Uv mg base->FnOk P w K mg base CX k fa fd [x] sp) (hbind:∀(s:Shared) (u:Value),BindsTo s fd ⟨[u],[]⟩ [(x,u)])
  (hsp:∀H:Hp,ZD K H a (ns.map V.int)->(∀e∈tb,H e.2=some (.tbl #[]))->sp [.ref a] H (λv _=>v=.bl true) λ_ _ _=>False)
  (hCX:∀H e s',CX [] H s₁ (λ_ _ _=>False) e s'->False) :
  xo (xz P w) callerA (.call (.ref fa) ⟨[.ref a],[]⟩) (λr s'=>r=.ok (.ret (.bool true))/\OldK s₁.heap s'.heap/\s'.os=s₁.os/\AllBare s'.gens) s₁:=by
 have rv:=Zek hi;have lenV:=hi.length;have tabne:∀e∈tb,e.2≠a:=λe he z=>by
  have:=(hT e he).2;rw[z,ha]at this;cases this
 have noK:∀e∈tb,K.lookup e.2=none:=λe he=>by
  cases q:K.lookup e.2 with
  | none=>rfl
  | some o=>
   have h2:=zC.mp hKt (e.2,o) (PySem.W.mem_of_lookupK q);have e1:=KX _ _ q;rw[(hT e he).2]at e1
   cases e1
   exact absurd (show false=true from h2) yt
 have core:∀H:Hp,(∀b u,H b=some u->(b=a/\u=.frz { cls:=.type "list",data:=.seq vs.toArray } (.lst (ns.map V.int))/\K.lookup a=none)∨(u=.tbl #[]/\∃e∈tb,e.2=b))->ZD K H a (ns.map V.int)->(∀e∈tb,H e.2=some (.tbl #[]))->
   xo (xz P w) callerA (.call (.ref fa) ⟨[.ref a],[]⟩) (λr s'=>r=.ok (.ret (.bool true))/\OldK s₁.heap s'.heap/\s'.os=s₁.os/\AllBare s'.gens) s₁:=by
  intro H hO hS hTb;have hok:Yp P w H s₁.heap:=λb u e=>by
   rcases hO b u e with⟨rfl,rfl,_⟩ | ⟨rfl,e',he,rfl⟩
   ·exact⟨ha,by rw[qh];exact hl,vs,_,rv,ha⟩
   ·exact(hT e' he).2
  have base_of:∀{b:Addr} {o:Obj},s₁.heap.get? b=some o->H b=none->(Vu s₁.heap H).get? b=some o:=λe n=>Zkz e n;have noA:∀{b:Addr} {o:Obj},s₁.heap.get? b=some o->(∀vs n,o.data≠.seq vs n)->(∀vs,o.data≠.fields vs∨o.cls≠.none)->H b=none:=λ{b o} e d1 d2=>by
   cases q:H b with
   | none=>rfl
   | some u=>
    rcases hO b u q with⟨rfl,_,_⟩ | ⟨_,e',he,rfl⟩
    ·rw[ha]at e;cases e;exact absurd rfl (d1 _ _)
    ·rw[(hT e' he).2]at e;cases e
     rcases d2 #[]with z | z
     ·exact absurd rfl z
     ·exact absurd rfl z
  have nsK:∀{b:Addr} {m:Str->Option Value},s₁.heap.Ns b m->(Vu s₁.heap H).Ns b m:=λ{b m} ⟨o,es,ep,e,d,r⟩=>⟨o,es,ep,base_of e (noA e (λ_ _ z=>by rw[d]at z;cases z) λ_=>.inl λz=>by rw[d]at z;cases z),d,r⟩;have hKb:K.In (Vu s₁.heap H):=λb o e=>base_of (KX b o e) (by
   cases q:H b with
   | none=>rfl
   | some u=>
    rcases hO b u q with⟨rfl,_,z⟩ | ⟨_,e',he,rfl⟩
    ·rw[z]at e;cases e
    ·rw[noK e' he]at e;cases e)
  have hM:Mod K mg (Vu s₁.heap H):=⟨hKb,nsK hns,⟨mb,nsK hb,hbb⟩,let ⟨mc,h1,h2⟩:=hlim;⟨mc,nsK h1,h2⟩⟩;have e0:Env0 P w K mg (Vu s₁.heap H) callerA [] s₁ H:=⟨rfl,hM,λb o e=>ZmF e,qbu (Zi8 _ _),trivial,λb hb=>absurd (show b∈([]:List Addr)from hb) (by simp),hok,.of_eq hg⟩;have hCd:∀e∈tb,zE (Vu s₁.heap H) e.1 e.2:=λe he=>by
   obtain⟨o,vs',file,tf,flags,tg,inF,text,tt,e1,r1,r2,r3⟩:=(hT e he).1;exact⟨o,vs',file,tf,flags,tg,inF,text,tt,base_of e1 (noA e1 (λ_ _ z=>by rw[r2]at z;cases z) λ_=>.inr (by rw[r1];nofun)),r1,r2,r3⟩
  have hBm:Uv mg (Vu s₁.heap H):=by
   obtain⟨bm,o,e1,e2,e3,e4,e5,e6,e7⟩:=hbm;exact⟨bm,o,e1,e2,e3,base_of e4 (noA e4 (λ_ _ z=>by rw[e7]at z;cases z) λ_=>.inl λz=>by rw[e7]at z;cases z),e5,e6,e7⟩
  refine codeAny_mono ((F _ hKb (nsK hns) hCd hBm).run callerA [] s₁ H ⟨[.ref a],[]⟩ [.ref a] [.ref a] _ _ hr e0 (hbind s₁ (.ref a)) (.cons rfl .nil) (hsp H hS hTb)) λr s' h=>?_
  cases r with
  | error e=>exact(hCX H e s' h).elim
  | ok fl=>
   cases fl with
   | next=>exact zj h
   | brk=>exact zj h
   | cont=>exact zj h
   | ret u=>
    obtain⟨v,H',os,bare,un,hok',r',q⟩:=h;have q':v=.bl true:=q;subst q';obtain rfl:u=zP true:=r';refine⟨rfl,⟨λb o e=>?_,λb o e=>un.there b o e (by simp)⟩,os,bare⟩
    cases q:H b with
    | none=>exact .inl (un.keep b o e q (by intro z;exact absurd (show b∈([]:List Addr)from z) (by simp)) (by simp))
    | some u=>
     rcases hO b u q with⟨rfl,rfl,_⟩ | ⟨rfl,e',he,rfl⟩
     ·have z2:=un.frzs b _ _ q
      obtain⟨e1,_⟩:=hok b _ q;obtain⟨e2,_⟩:=hok' b _ z2;rw[e]at e1;cases e1;exact .inl e2
     ·obtain⟨more,z⟩:=un.tbls _ _ q
      have z2:s'.heap.get? e'.2=some (qa6 (#[]++more)):=hok' _ _ z;have e1:=(hT e' he).2;rw[e]at e1;cases e1;exact .inr (.inl ⟨((hT e' he).1.tab (hT e' he).2).isCodeTable,rfl,#[],more,rfl,z2⟩)
 cases hk:K.lookup a with
 | some o=>
  have e:=KX a o hk;rw[ha]at e
  cases e
  refine core (λb=>open Classical in if ∃e∈tb,e.2=b then some (.tbl #[])else none) (λb u z=>?_) (.inr ⟨_,vs.toArray,_,hk,rfl,rfl,rfl,by rw[zf,lenV];exact hl,by simpa using rv⟩) (λe he=>if_pos ⟨e,he,rfl⟩);by_cases h:∃e∈tb,e.2=b
  ·rw[if_pos h]at z;cases z;exact .inr ⟨rfl,h⟩
  ·rw[if_neg h]at z;cases z
 | none=>
  refine core (λb=>open Classical in if ∃e∈tb,e.2=b then some (.tbl #[])else if b=a then some (.frz { cls:=.type "list",data:=.seq vs.toArray } (.lst (ns.map V.int)))else none) (λb u z=>?_) (.inl (.inr ⟨{ cls:=.type "list",data:=.seq vs.toArray },?_⟩)) (λe he=>if_pos ⟨e,he,rfl⟩)
  ·by_cases h:∃e∈tb,e.2=b
   ·rw[if_pos h]at z;cases z;exact .inr ⟨rfl,h⟩
   ·rw[if_neg h]at z
    by_cases hb:b=a
    ·rw[if_pos hb]at z;cases z;exact .inl ⟨hb,rfl,hk⟩
    ·simp_all
  ·show(if ∃e∈tb,e.2=a then _ else _)=_
   rw[if_neg (λ⟨e,he,z⟩=>tabne e he z),if_pos rfl]
theorem Zlu {l : PySem.W.OpenLaw}{K : Params -> qd}{CX : World -> V3}{sp : World -> Sp}{tb : List (Str × Addr × Addr)}
    (hn : l.most = some n) (hn2 : n <= xg) (hdf : d.params.defaults = []) (hr : Room k callerA)
    (hY : ∀ (w : World) (h : Heap), YP w h -> (K w.params).In h)
    (hrec : ∀ e ∈ tb, ∃ d, (recsOf q).find? (λr => r.name == e.1) = some d) (htab : ∀ w : World, ∀ e ∈ tb, PySem.W.tabIn (K w.params) e.1 = some e.2) (hno : ∀ w : World, PySem.W.noTabs (K w.params) = true)
    (F : ∀ (w : World) (mg : Str -> Option Value) (fa : Addr) (h : Heap), (K w.params).In h -> h.Ns mainGlobals mg -> mg d.name = some (.ref fa) ->
      ∃ fd : xA, (∀ (s : Shared) (u : Value), BindsTo s fd ⟨[u], []⟩ [(x, u)]) /\
        ∀ base : Heap, (K w.params).In base -> base.Ns mainGlobals mg -> (∀ e ∈ tb, zE base e.2.1 e.2.2) -> Uv mg base -> FnOk l.prog w (K w.params) mg base (CX w) k fa fd [x] (sp w))
    (hsp : ∀ (w : World) (H : Hp) (a : Addr) (ns : List Int), ns.length <= n -> ZD (K w.params) H a (ns.map V.int) -> (∀ e ∈ tb, H e.2.2 = some (.tbl #[])) -> sp w [.ref a] H (λv _ => v = .bl true) λ_ _ _ => False)
    (hCX : ∀ (w : World) (H : Hp) (s : Shared) (e : Value) (s' : Shared), CX w [] H s (λ_ _ _ => False) e s' -> False) :
    qca q loose XP YP l.row.toRowW d [] (λf vs => qb6 f vs) := by
  refine Att.attach_call hn hdf λw s₀ s₁ mg mb fa o pm cd doc a vs ns G Y ho hd hcd hmg hobj hints jW hg => ?_;have KX := hY w _ Y;obtain⟨fd, hb, hF⟩ := F w mg fa _ KX G.T.g hmg;have hT : ∀ e ∈ tb.map (·.2), zE s₁.heap e.1 e.2 /\ s₁.heap.get? e.2 = some (qa6 #[]) := λe he => by
    obtain⟨e', he', rfl⟩ := ql.mp he;obtain⟨d', hd'⟩ := hrec e' he';exact PySem.W.tab_of G.T KX hd' (htab w e' he')
  exact ZjK KX G.T.g G.T.b G.T.builtins G.T.nolimit hg hT (hno w) (let ⟨bm, ob, a, b, c, d, e, f⟩ := G.T.bmain; ⟨bm, ob, a, b, (λz => by
      obtain⟨o, es, ep, e', hd', _⟩ := G.T.g
      grind), c, d, e, f⟩) hobj hints (qY jW hn2) hr
    (λbase h1 h2 h3 h4 => hF base h1 h2 (λe he => h3 e.2 (qa4 he)) h4) hb (λH hS hTb => hsp w H a ns jW hS λe he => hTb e.2 (qa4 he)) λH e s' => hCX w H s₁ e s'
end TF
namespace L2
section
variable {X:Cx}{jM:Qb}{σ:St}{H:Hp}{s:Shared}{h':Heap}
theorem Inv.turnedN {fp:List Addr}(I:Inv X jM σ H s)(k:∀b o,b∉fp->s.heap.get? b=some o->h'.get? b=some o)(hf:∀b∈fp,WI X jM H b):Inv X jM σ H { s with heap:=h',toks:=t' }:=by
 have nit:∀b u,H b=some u->b∉fp:=λb u e z=>by rw[(hf b z).1]at e;cases e
 refine I.step (λb hb=>?_) (λb o _ _ hc e _=>k b o hc e) (λb o _ _ hc e _=>⟨o.slots,k b o hc e⟩) (λ_ _ _ _ n=>n)
  (λb o hc e=>⟨o,k b o hc e⟩) (λ_ _ e=>e) (λ_ _ _ e=>e) (λb ps e=>⟨#[],by rw[e];simp⟩) (λm hm=>?_) (λb u e=>?_) I.bare
 ·obtain⟨f0,f1,f2,f3,f4,f5⟩:=hf b hb
  exact⟨f3,f1,f4,f5⟩
 ·obtain⟨o,es,ep,ho,r⟩:=hm
  exact⟨o,es,ep,k _ o (λz=>(hf _ z).2.1 rfl) ho,r⟩
 ·refine(I.hok b u e).stay (λc v hc q=>k c v ?_ q) (λ_ q=>q) λ_ _ q=>q
  rcases hc with z | z
  ·rw[z];exact nit b u e
  ·exact nit c _ z
theorem Inv.turnedT {fp:List Addr}{T:Addr}(I:Inv X jM σ H s)(k:∀b o,b∉fp->s.heap.get? b=some o->h'.get? b=some o)(hf:∀b∈fp,WI X jM H b)(hT:s.heap.objs.size<=T)(new:Yq X.prog X.w (Zi H T o) h' T o):Inv X jM σ (Zi H T o) { s with heap:=h',toks:=t' }:=by
 have hn:=I.hok.fresh hT;have nit:∀b u,H b=some u->b∉fp:=λb u e z=>by rw[(hf b z).1]at e;cases e
 refine I.step (λb hb=>?_) (λb o _ _ hc e _=>k b o hc e) (λb o _ _ hc e _=>⟨o.slots,k b o hc e⟩) (λb u _ q n=>by rw[Zl (qA (qR (qy q) hT))];exact n)
  (λb o hc e=>⟨o,k b o hc e⟩) (λb xs q=>by rw[Zl (ZP q hn)];exact q) (λb u xs q=>by rw[Zl (ZP q hn)];exact q) (λb ps q=>⟨#[],by rw[Zl (ZP q hn),q];simp⟩) (λm hm=>?_) (λb u e=>?_) I.bare
 ·obtain⟨f0,f1,f2,f3,f4,f5⟩:=hf b hb
  exact⟨f3,f1,f4,f5⟩
 ·obtain⟨o,es,ep,ho,r⟩:=hm
  exact⟨o,es,ep,k _ o (λz=>(hf _ z).2.1 rfl) ho,r⟩
 ·by_cases hb:b=T
  ·subst hb;rw[ZE]at e;grind
  ·rw[Zl hb]at e
   refine(I.hok b u e).stay (λc v hc q=>k c v ?_ q) (λc q=>by rw[Zl (ZP q hn)];exact q) λc xs q=>by rw[Zl (ZP q hn)];exact q
   rcases hc with z | z
   ·rw[z];exact nit b u e
   ·exact nit c _ z
end
end L2
namespace TF
open L2
section
variable {X:Cx}{G:Gh}
end
section
variable {X:Cx}{G:Gh}
def Zix:D->Option Bool
 | .non=>some true
 | .pen=>none
 | .ty _=>none
 | .clo _ _=>none
 | _=>some false
def dIsN (d e:D):Option D:=match e with | .non=>(Zix d).map .bl | _=>none
theorem ZjL (h:Zix d=some b)(r:Zo G Hf d v):decide (v=.non)=b:=by
 cases d with
 | non=>cases h;rw[jg.mp r];rfl
 | bl _=>cases h;rw[je.mp r];rfl
 | int _=>cases h;rw[ja.mp r];rfl
 | str _=>cases h;rw[jh.mp r];rfl
 | tup _=>cases h;obtain⟨p,vs,rfl,_⟩:=jc.mp r;rfl
 | lst _=>cases h;obtain⟨p,vs,rfl,_⟩:=jb.mp r;rfl
 | dk _=>cases h;obtain⟨p,rfl,_⟩:=jj.mp r;rfl
 | dt _=>cases h;obtain⟨p,_,rfl,_⟩:=jm.mp r;rfl
 | du _=>cases h;obtain⟨p,rfl,_⟩:=jn.mp r;rfl
 | df _=>cases h;obtain⟨p,_,rfl,_⟩:=jr.mp r;rfl
 | pen=>cases h
 | ty _=>cases h
 | clo _ _=>cases h
theorem Ziy:XD X G (xk .Is) dIsN:=
 ⟨_,Zox,λHf H s x y d e c Q e1 st rx ry q k=>by
  cases e with
  | non=>
   have q:(Zix d).map D.bl=some c:=q
   cases hb:Zix d with
   | none=>simp_all
   | some b=>
    rw[hb]at q
    cases q
    refine⟨jg.mp ry,?_⟩;rw[ZjL hb rx];exact k _ Hf H (.refl e1) st (je.mpr rfl) (.scal λz=>z)
  | _=>cases q⟩
def Wp (n:Int)(r:List Int):Int:=r.foldl max n
theorem Znc (r:List Int):∀n,n<=Wp n r/\∀a∈r,a<=Wp n r:=by
 induction r with
 | nil=>intro n;exact⟨Int.le_refl _,by simp⟩
 | cons b r ih=>
  intro n;obtain⟨h1,h2⟩:=ih (max n b);refine⟨?_,λa ha=>?_⟩
  ·show n<=Wp (max n b) r;omega
  ·show a<=Wp (max n b) r
   grind
theorem Zlv (r:List Int):∀n,Wp n r∈n::r:=by
 induction r with
 | nil=>simp[Wp]
 | cons b r ih=>
  intro n;show Wp (max n b) r∈n::b::r
  grind
theorem Zlw {M:Int}(h1:M∈n::r)(h2:∀a∈n::r,a<=M):M=Wp n r:=by
 obtain⟨g1,g2⟩:=Znc r n;have g3:=h2 _ (Zlv r n)
 grind
def VW:List D->Option D
 | [.lst ds]=>match ZH ds with | some (n::r)=>some (.int (Wp n r)) | _=>none
 | _=>none
theorem ZjM (hc:X.calm=true):Xi X (.builtin "max") (λxs H Q=>∃p n r,xs=[.ref p]/\ZD X.K H p ((n::r).map V.int)/\Q (.int (Wp n r)) H):=by
 intro jM s σ H xs us Q I r h;obtain⟨p,n,rr,rfl,hp,q⟩:=h;obtain⟨u,rfl,ru⟩:=XT r
 cases ru
 obtain⟨jO,rv,pl,hz⟩:=I.list hp;have hi:IntsAre jO (n::rr):=WR rv;obtain⟨xs,e⟩:=hi.allInts.items;have hns:n::rr=xs.toList.map (·.1):=by rw[<-hi.numsOf,<-nums_intItems,<-e]
 have hl:=pl.isList;rw[e]at hl;have hsz:0<xs.size:=by
  have h3:0<(n::rr).length:=by simp
  simp_all
 refine max_intList (I.ok.hd hc) hl hsz λv h' tk hv hk=>?_;obtain⟨t,rfl⟩:=intItems_at hv;obtain⟨h1,h2⟩:=argBest_gt (numAt xs) (xs.size-1);have e2:numAt xs (argBest (λi j=>decide (numAt xs i > numAt xs j)) (xs.size-1))=Wp n rr:=by
  refine Zlw ?_ λa ha=>?_
  ·rw[hns,numAt_eq];exact getD_mem (by rw[qh,qX];omega)
  ·rw[hns]at ha
   obtain⟨j,hj,rfl⟩:=mem_getD ha;rw[qh,qX]at hj;rw[<-numAt_eq];exact h2 j (by omega)
 rw[e2];exact⟨.int (Wp n rr),H,I.kept hk,⟨_,rfl⟩,q⟩
theorem ZbE (hc:X.calm=true):Wk X G (.builtin "max") VW:=
 ⟨_,ZjM hc,λHf H s xs ds c Q e1 st r q k=>by
  match ds,q,r with
  | [.lst es],q,r=>
   have q:(match ZH es with | some (n::r)=>some (D.int (Wp n r)) | _=>none)=some c:=q
   cases he:ZH es with
   | none=>simp_all
   | some ns=>
    cases ns with
    | nil=>simp_all
    | cons n rr=>
     rw[he]at q
     cases q
     obtain⟨v,rfl,rv⟩:=ji r;obtain⟨p,vs,rfl,np,hp,rp⟩:=jb.mp rv;rw[Wq he]at rp;rw[jk rp]at hp;exact⟨p,n,rr,rfl,ZD.of (e1 _ _ np hp),k _ Hf H (.refl e1) st (ja.mpr rfl) (.scal λz=>z)⟩⟩
end
theorem Za3:∀{a b:List Int},a.Perm b->a.Pairwise (·<=·)->b.Pairwise (·<=·)->a=b
 | [],b,p,_,_=>(List.nil_perm.mp p).symm
 | x::a,[],p,_,_=>absurd p.length_eq (by simp)
 | x::a,y::b,p,ha,hb=>by
  have ha':=yj.mp ha;have hb':=yj.mp hb;have e:x=y:=by
   have h1:x∈y::b:=p.mem_iff.mp (by simp);have h2:y∈x::a:=p.mem_iff.mpr (by simp)
   grind
  subst e;rw[Za3 (yY.cons_inv p) ha'.2 hb'.2]
def Xo (ns:List Int):List Int:=ns.mergeSort λa b=>decide (a<=b)
theorem ZbF (ns:List Int):(Xo ns).Perm ns:=List.mergeSort_perm ns _
theorem Zfa (ns:List Int):(Xo ns).Pairwise (·<=·):=by
 have h:=List.pairwise_mergeSort (le:=λ(a b:Int)=>decide (a<=b)) (λa b c h1 h2=>by grind) (λa b=>by simp;omega) ns;exact h.imp λh=>by simp_all
theorem ZaW (p:a.Perm ns)(h:a.Pairwise (·<=·)):a=Xo ns:=Za3 (p.trans (ZbF ns).symm) h (Zfa ns)
section
variable {X:Cx}{G:Gh}
theorem ZaX:∀{vs:List Value} {ns:List Int},IntsAre vs ns->ZB (ns.map V.int) vs
 | _,_,.nil=>.nil
 | _,_,.cons n t r=>.cons ⟨t,rfl⟩ (ZaX r)
theorem ZhB:Xi X (.builtin "sorted") (λxs H Q=>∃(p:Addr) (ns:List Int),xs=[.ref p]/\ZD X.K H p (ns.map V.int)/\ns.length<64/\∀l,H l=none->Q (.ref l) (Zi H l (.lst ((Xo ns).map V.int)))):=by
 intro jM s σ H xs us Q I r h;obtain⟨p,ns,rfl,hp,h64,q⟩:=h;obtain⟨u,rfl,ru⟩:=XT r
 cases ru
 obtain⟨jO,rv,pl,hz⟩:=I.list hp;have hi:=WR rv;have hl:=rv.length;rw[qh]at hl;refine sorted_ints pl.isList hi (by omega) λout ns' a1 a2 a3=>?_;obtain⟨e,he⟩:=sortedAll_at s.heap jO out;have en:=ZaW a2 a3;subst en;have hle:s.heap.objs.size<=s.heap.objs.size+1:=qa8 _;refine⟨.ref (s.heap.objs.size+1),_,I.laid (o:=.lst ((Xo ns).map V.int)) (λ_ _=>sortedAll_old) hle ⟨?_,out.toList,e,ZaX a1,he⟩,rfl,q _ (I.hok.fresh hle)⟩;rw[qh,(ZbF ns).length_eq,sizeLine_eq];omega
def ZcK:List D->Option D
 | [.lst ds]=>match ZH ds with | some ns=>if ns.length<64 then some (.lst ((Xo ns).map .int))else none | none=>none
 | _=>none
theorem V7:∀ns:List Int,Zk G Hf (ns.map D.int) (ns.map V.int)
 | []=>Zk.nil_iff.mpr rfl
 | n::ns=>.cons (ja.mpr rfl) (V7 ns)
theorem Zfb:Wk X G (.builtin "sorted") ZcK:=
 ⟨_,ZhB,λHf H s xs ds c Q e1 st r q k=>by
  match ds,q,r with
  | [.lst es],q,r=>
   have q:(match ZH es with | some ns=>if ns.length<64 then some (D.lst ((Xo ns).map .int))else none | none=>none)=some c:=q
   cases he:ZH es with
   | none=>simp_all
   | some ns=>
    rw[he]at q;have q:(if ns.length<64 then some (D.lst ((Xo ns).map .int))else none)=some c:=q;split at q
    ·rename_i h64
     cases q
     obtain⟨v,rfl,rv⟩:=ji r;obtain⟨p,vs,rfl,np,hp,rp⟩:=jb.mp rv;rw[Wq he]at rp;rw[jk rp]at hp;refine⟨p,ns,rfl,ZD.of (e1 _ _ np hp),h64,λl hl=>?_⟩;have nf:=Gh.nofp st hl;have g2:=Gr.new (o:=.lst ((Xo ns).map V.int)) e1 hl nf;exact k (.ref l) _ _ g2 (Gh.grow st hl) (jb.mpr ⟨l,_,rfl,nf,ZE,V7 _⟩) (Z7.mk e1 hl nf (V7 _))
    ·cases q⟩
theorem Zev:Wc X G ob own own' fr sts (λ_=>Zq):=⟨λ_ _ _=>False,λ_ _ _ _ _ _ h=>h.elim,λ_ _ _ _ _ _ _ _ _ _ _ _ e _=>by cases e⟩
end
end TF
namespace HT
section
variable {prog:xB}{w:World}{A:xC}{E:xD}{s:Shared}
end
end HT
namespace TF
open L2
section
variable {X:Cx}{G:Gh}
end
end TF
namespace L2
open AutoSeq1 (wpAny_loadPart')
section
variable {prog:xB}{w:World}{A:xC}{E:xD}{s:Shared}
end
theorem Zdd:xj "enumerate" = some (.type "enumerate"):=by rfl
end L2
namespace TF
open L2
section
variable {X:Cx}{G:Gh}
def Jg (ds:List D):List D:=ds.mapIdx λi d=>D.tup [.int (i:Int),d]
end
section
variable {X:Cx}{G:Gh}
theorem Zlx {pos p2 p3:Pos}{fr:Bool}{ob:List Nat}(hi:i∈own)(hv:PE X (.Name x p1) (ZY i))(he:PD X G r1 e f)
  (hbase:xq (.Name x p1) "append" X.env (eval (.Name x p1) X.env)=eval (.Name x p1) X.env:=by rfl)
  (hfew:((backTo p3 (xh [e] X.env)).all (λx=>!x.1)&&(xp p3 (xi [] X.env)).all (λx=>x.1.isSome)
   && decide ([e].length+([]:List Keyword).length+(if ([]:List Keyword).isEmpty then 0 else 1)<30))=true:=by rfl)
  (hline:(p2.endLine==p3.line)=true:=by rfl) (hs:xh [e] X.env=(false,eval e X.env)::xh [] X.env:=by rfl)
  (hsw:xr (.Call (.Attribute (.Name x p1) "append" p2) [e] [] p3) none pos.line X.env=pure false:=by rfl) :
  YI X G ob own own fr (.Expr (.Call (.Attribute (.Name x p1) "append" p2) [e] [] p3) pos) (V0 i (fun ρ=>f (Yk own ρ))):=
 ZfX hi he λte p=>Zb8 hv p hbase hfew hline hs hsw
end
def VX:Nat->List Int->M (List Int)
 | 0,_=>Zy []
 | k+1,left=>Zm (Yy [.pen,.int (left.length:Int)]) λd=>match d with
  | .int r=>if 0<=r then (match left[r.toNat]? with | some x=>Zm (VX k (left.eraseIdx r.toNat)) λxs=>Zy (x::xs) | none=>Zq)else Zq
  | _=>Zq
def WX (n:Nat):List Int:=(qj n).map λ(i:Nat)=>(i:Int)
def VM:List D->M D
 | [.pen,.int n]=>if 0<=n/\n<=1000 then Zm (VX n.toNat (WX n.toNat)) λxs=>Zy (.lst (xs.map D.int))else Zq
 | _=>Zq
theorem ZhC (h:VX (k+1) left s=some (xs,s')):∃r s1 x ys,Yy [.pen,.int (left.length:Int)] s=some (.int r,s1)/\0<=r/\left[r.toNat]?=some x/\VX k (left.eraseIdx r.toNat) s1=some (ys,s')/\xs=x::ys:=by
 obtain⟨d,s1,a1,a2⟩:=Zs h
 cases d with
 | int r=>
  obtain⟨r0,a3⟩:=YQ (show(if 0<=r then (match left[r.toNat]? with | some x=>Zm (VX k (left.eraseIdx r.toNat)) λxs=>Zy (x::xs) | none=>Zq)else Zq) s1=some (xs,s')from a2)
  cases hx:left[r.toNat]? with
  | none=>rw[hx]at a3;cases a3
  | some x=>
   rw[hx]at a3;obtain⟨ys,s2,a4,a5⟩:=Zs (show Zm (VX k (left.eraseIdx r.toNat)) (λxs=>Zy (x::xs)) s1=some (xs,s')from a3);obtain⟨rfl,rfl⟩:=ZC a5;exact⟨r,s1,x,ys,a1,r0,hx,a4,rfl⟩
 | _=>cases a2
def tPop (K:qd)(E:XK):TE:=VB K "list" Zhd (ZY 1) (Xn (ZnS (Ys 2 true We Yy) [] E (Xn (ZY 2) (Xn (tCB (λxs H Q=>∃p ys,xs=[.ref p]/\(ZD K H p ys∨ZO K H p ys)/\Q (.int ys.length) H) (Xn (ZY 1) XA)) XA))) XA)
def tOrd (K:qd)(E:XK):TE:=JX [none,some 2,some 0] (ZnP (Xn (ZY 1) XA)) (Wj 0) Zih (tPop K E)
theorem Zew {α β:Type}(f:α->β):∀(l:List α) (i:Nat),(l.eraseIdx i).map f=(l.map f).eraseIdx i
 | [],i=>by simp
 | a::l,0=>by simp
 | a::l,i+1=>by simp[Zew f l i]
theorem Znd {K:qd}(hn:n<=1000)(e1:Zz (Xl p wa) Hf H)(st:(Xl p wa).st s H)(hl:H l=some (.lst ((WX n).map V.int)))(nl:¬(Xl p wa).fp l)(hfl:Hf l=none)(he:VX n (WX n) s=some (xs,s'))
  (k:∀(q:Addr) (H':Hp),H q=none->¬(Xl p wa).fp q->H' q=some (.lst (xs.map V.int))->(∀b o,¬(Xl p wa).fp b->b≠l->H b=some o->H' b=some o)->(Xl p wa).st s' H'->Q (.ref q) H') :
  tOrd K E [some (.ref p),some (.int (n:Int)),some (.ref l)] H Q:=by
 refine⟨.int (n:Int),rfl,(n:Int),rfl,by omega,by omega,λq hq=>?_⟩;have nq:¬(Xl p wa).fp q:=Gh.nofp st hq;have nql:q≠l:=λz=>by rw[z,hl]at hq;cases hq
 refine⟨λi m σ2 H2=>∃(si:Pn) (left done rest:List Int) (o:Option V),m=n-i/\i<=n/\σ2=[o,some (.ref l),some (.ref p)]/\(Xl p wa).st si H2/\H2 l=some (.lst (left.map V.int))/\H2 q=some (.lst (done.map V.int))/\VX (n-i) left si=some (rest,s')/\done++rest=xs/\done.length=i/\left.length<=1000/\(∀b u,¬(Xl p wa).fp b->b≠l->b≠q->H b=some u->H2 b=some u)/\Zz (Xl p wa) Hf H2,?_,?_⟩
 ·refine⟨n,s,WX n,[],xs,none,by omega,by omega,rfl,Gh.grow st hq,by rw[Zl (ze nql)];exact hl,ZE,by rw[Nat.sub_zero];exact he,rfl,rfl,by unfold WX;simp;exact hn,λb u nb n1 n2 hb=>by rw[Zl n2];exact hb,?_⟩
  exact λb u nb hb=>by rw[Zl (ZP (e1 b u nb hb) hq)];exact e1 b u nb hb
 ·rintro i m σ2 H2 ⟨si,left,done,rest,o,hm,hi,hσ,hst,hL,hD,hp,hx,hdl,hll,keep,ext⟩
  subst hσ;have sub':H2 q≠none:=by rw[hD];exact Option.some_ne_none _
  by_cases hin:i=n
  ·refine .inl ⟨by show n<=i;omega,?_⟩
   subst hin;rw[Nat.sub_self]at hp;obtain⟨rfl,rfl⟩:=ZC hp;rw[zw]at hx;subst hx;exact k q H2 hq nq hD (λb u nb n1 hb=>keep b u nb n1 (λz=>by rw[z,hq]at hb;cases hb) hb) hst
  ·refine .inr ⟨by show i<n;omega,λx H3 ⟨y1,y2⟩=>?_⟩
   subst y1;obtain⟨kk,hkk⟩:∃kk,n-i=kk+1:=⟨n-i-1,by omega⟩;rw[hkk]at hp;obtain⟨r,s1,y,ys,hd,r0,hy,hp2,rfl⟩:=ZhC hp;unfold Wj Zih;have hrl:r.toNat<left.length:=(qz.mp hy).1;refine WY ?_;refine⟨.ref l,rfl,.inl ⟨rfl,_,ZD.of hL⟩,.ref p,rfl,.ref l,rfl,l,left.map V.int,rfl,.inl (ZD.of hL),?_⟩;refine⟨Xl p wa,Hf,[.pen,.int (left.length:Int)],si,.int r,s1,⟨p,wa,rfl⟩,rfl,ext,?_,hst,hd,λv Hf4 H4 g4 st4 r4 _=>?_⟩
   ·rw[zw,qh]
    exact .cons (jo.mpr rfl) (.one (ja.mpr rfl))
   ·rw[ja.mp r4]
    have hL4:H4 l=some (.lst (left.map V.int)):=g4.hh l _ nl hL;have hD4:H4 q=some (.lst (done.map V.int)):=g4.hh q _ nq hD;refine⟨l,left.map V.int,r,r.toNat,.int y,rfl,rfl,hL4,by omega,by omega,seqIndex_of r0 (by rw[qh];omega),by rw[qG,hy];rfl,?_⟩;refine⟨done.map V.int,by rw[Zl nql];exact hD4,by rw[qh,sizeLine_eq];omega,n-(i+1),by omega,s1,left.eraseIdx r.toNat,done ++ [y],ys,_,rfl,by omega,rfl,?_,?_,?_,?_,?_,?_,?_,?_,?_⟩
    ·exact jq (jq st4 nl) nq (fun φ z=>by rw[Zl nql,hD4]at z;cases z)
    ·rw[Zl (ze nql),ZE]
     congr 2;rw[Zew]
    ·rw[ZE,zI];rfl
    ·rw[show n-(i+1)=kk by omega];exact hp2
    ·rw[qbm];exact hx
    ·rw[qP,hdl];rfl
    ·rw[List.length_eraseIdx];split <;> omega
    ·intro b u nb n1 n2 hb
     rw[Zl n2,Zl n1];exact g4.hh b u nb (keep b u nb n1 n2 hb)
    ·intro b u nb hb
     have hbl:b≠l:=λz=>by rw[z,hfl]at hb;cases hb
     have hbq:b≠q:=λz=>by rw[z]at hb;exact absurd (e1 q u nq hb) (by simp_all)
     rw[Zl hbq,Zl hbl];exact g4.hh b u nb (ext b u nb hb)
def Zne (K:qd)(E:XK):TS:=Vv (Uo (tCB (λxs H Q=>∃r j,xs=[.ref r]/\H r=some (.rng 0 j)/\-(2 ^ 62)<=j/\j<=2 ^ 24/\∀l,H l=none->Q (.ref l) (Zi H l (.lst ((qj j.toNat).map λ(i:Nat)=>V.int (0+i))))) (Xn (Zin (Xn (ZY 1) XA)) XA)) (Wj 2)) (tRet (tOrd K E))
theorem ZhD {K:qd}{N:St->Hp->Prop}(h:Ys 2 true We VM vs H Q E):∃p m,vs=[.ref p,.int m]/\Zne K E' { nx:=N,rt:=Q } [some (.ref p),some (.int m),none] H:=by
 obtain⟨G,Hf,ds,pn,d,pn',hG,el,e1,r,st',eF,k'⟩:=h;obtain⟨p,wa,rfl⟩:=hG;have eF0:∃(n:Nat) (xs:List Int),n<=1000/\ds=[.pen,.int (n:Int)]/\VX n (WX n) pn=some (xs,pn')/\d=.lst (xs.map D.int):=by
  unfold VM at eF;split at eF
  ·rename_i m
   obtain⟨c,a1⟩:=YQ eF;obtain⟨xs,s1,a2,a3⟩:=Zs a1;obtain⟨rfl,rfl⟩:=ZC a3;obtain⟨n,rfl⟩:=qay c.1;exact⟨n,xs,by omega,rfl,a2,rfl⟩
  ·cases eF
 obtain⟨n,xs,hn,rfl,he,rfl⟩:=eF0;obtain⟨v1,v2,rfl,r1,r2⟩:=jp r
 cases (jo.mp r1)
 cases (ja.mp r2)
 refine⟨p,(n:Int),rfl,?_⟩;refine⟨.int (n:Int),rfl,(n:Int),rfl,λg hg=>⟨g,(n:Int),rfl,ZE,by omega,by omega,λl hl=>?_⟩⟩;have hlg:l≠g:=λz=>by rw[z,ZE]at hl;cases hl
 have hl1:H l=none:=by rw[Zl hlg]at hl;exact hl
 have jY:(Xl p wa).st pn (Zi H g (.rng 0 (n:Int))):=Gh.grow st' hg;have nl:¬(Xl p wa).fp l:=Gh.nofp jY hl;have st3:(Xl p wa).st pn (Zi (Zi H g (.rng 0 (n:Int))) l (.lst ((qj (n:Int).toNat).map λ(i:Nat)=>V.int (0+i)))):=Gh.grow jY hl;have ng:¬(Xl p wa).fp g:=Gh.nofp st' hg;have fz:∀b,¬(Xl p wa).fp b->H b=none->Hf b=none:=λb nb hb=>by
  cases q:Hf b with
  | none=>rfl
  | some o=>rw[e1 b o nb q]at hb;cases hb
 have eE:Zz (Xl p wa) Hf (Zi (Zi H g (.rng 0 (n:Int))) l (.lst ((qj (n:Int).toNat).map λ(i:Nat)=>V.int (0+i)))):=λb u nb hb=>by
  have h1:=e1 b u nb hb;rw[Zl (ZP h1 hl1),Zl (ZP h1 hg)];exact h1
 have hll:(qj (n:Int).toNat).map (λ(i:Nat)=>V.int (0+i))=(WX n).map V.int:=by
  unfold WX;rw[qC];show(qj n).map _=_;refine zp λi _=>?_;show V.int (0+(i:Int))=V.int (i:Int);rw[Int.zero_add]
 refine Znd hn eE st3 (by rw[ZE,hll]) nl (fz l nl hl1) he λq H' hq nq hD keep stf=>?_;have hql:q≠l:=λz=>by rw[z,ZE]at hq;cases hq
 have hqg:q≠g:=λz=>by rw[z,Zl (ze hlg),ZE]at hq;cases hq
 have hqH:H q=none:=by rw[Zl hql,Zl hqg]at hq;exact hq
 have hh:Zz (Xl p wa) H H':=λb u nb hb=>by
  have n1:b≠l:=ZP hb hl1;refine keep b u nb n1 ?_;rw[Zl n1,Zl (ZP hb hg)];exact hb
 have hfq:Hf q=none:=fz q nq hqH;have rr:Zk (Xl p wa) Hf (xs.map D.int) (xs.map V.int):=V7 xs;refine k' (.ref q) (Zi Hf q (.lst (xs.map V.int))) H' ⟨hh,λb u nb hb=>by rw[Zl (ZP hb hfq)];exact hb,λb u nb hb=>?_,λb nb h1 h2=>?_⟩ stf (jb.mpr ⟨q,_,rfl,nq,ZE,V7 xs⟩) λ_=>λa ea _=>?_
 ·by_cases hb2:b=q
  ·subst hb2;rw[ZE]at hb;cases hb;exact hD
  ·rw[Zl hb2]at hb;exact hh b u nb (e1 b u nb hb)
 ·have hbq:b≠q:=λz=>h2.no (by simp_all)
  rw[Zl hbq];exact h1
 ·cases ea
  exact⟨hqH,λds' ed=>by cases ed;exact⟨xs.map V.int,Hf,ZE,hfq,λb u nb hb=>by rw[Zl (ZP hb hfq)];exact hb,rr⟩⟩
theorem erase_perm:∀(l:List Int) (i:Nat) (h:i<l.length),(l[i]::l.eraseIdx i).Perm l
 | [],i,h=>absurd h (by simp)
 | a::l,0,h=>yY.refl _
 | a::l,i+1,h=>by
  have hi:i<l.length:=by simp_all
  have:=erase_perm l i hi;exact(yY.swap _ _ _).trans (qbS a this)
theorem Ziz:∀(k:Nat) (left:List Int) (T:Nat) (s:Pn),left.length=k->k<=1000->Xw T s->T+k<1000000000->Ok (VX k left) s λxs s'=>xs.Perm left/\Xw (T+k) s'
 | 0,left,T,s,hl,_,ok,_=>by
  have:=zO.mp hl;subst this;exact .ret ⟨yY.refl _,ok⟩
 | k+1,left,T,s,hl,hk,ok,hT=>by
  obtain⟨r,s1,e,r0,r1,ok1⟩:=Ziw (k:=(left.length:Int)) ok (by omega) (by omega) (by omega);have hr:r.toNat<left.length:=by omega
  have hx:=qB hr;have ih:=Ziz k (left.eraseIdx r.toNat) (T+1) s1 (by grind) (by omega) ok1 (by omega);refine .bind (.eq e ?_);refine .ite r0 ?_;rw[hx];refine .bind (ih.mono λxs s' q=>.ret ⟨?_,q.2.mono (by omega)⟩);refine(qbS _ q.1).trans ?_;exact erase_perm left r.toNat hr
theorem Zly {n:Nat}(ok:Xw T s)(hT:T<900000000)(hn:n<=1000):Ok (VM [.pen,.int (n:Int)]) s λd s'=>Xw (T+n) s'/\∃xs:List Int,d=.lst (xs.map D.int)/\xs.Perm (WX n):=by
 refine .ite ⟨by omega,by omega⟩ (.bind ((Ziz n (WX n) T s (by unfold WX;simp) hn ok (by omega)).mono λxs s' q=>.ret ⟨q.2,xs,rfl,q.1⟩))
end TF
namespace L2
section
variable {prog:xB}{w:World}{A:xC}{E:xD}{s:Shared}
theorem Zlz (ht:s.heap.IsTuple t vs.toArray)(k:Q vs { s with heap:=(s.heap.push (seqObj "list" #[] 0)).update s.heap.objs.size (zm (· ++ vs.toArray)) })(hz:vs.length<=xg):xf (xz prog w) A (collect (.ref t)) Q E s:=by
 obtain⟨o,ho,hc,n,hd⟩:=id ht;unfold collect;refine xa (wpAny_runValue (xm entry_proto_collect' ?_));show xf _ _ (do again (.builtin "list.__iadd__" ⟨[<-newList [],.ref t],[]⟩)) _ _ s;refine xa (xw (xb ⟨yQ _ (by decide +kernel),xm entry_list_iadd' ?_⟩));show xf _ _ (yc (.ref s.heap.objs.size) (.ref t) (.ref s.heap.objs.size)) _ _ { s with heap:=s.heap.push (seqObj "list" #[] 0) };unfold yc;have ho':(s.heap.push (seqObj "list" #[] 0)).get? t=some o:=qf _ ho;refine xa (wpAny_typeOf (T:="tuple") ⟨o,ho',hc⟩ ?_);have hb:(zQ "tuple" == zQ "tuple")=true:=by rfl
 rw[if_pos (by rw[hb];simp)];refine xa (listItems_at ho' hd ?_);refine xa (listItems_at (xs:=#[]) (n:=0) (qq _ rfl) rfl ?_);rw[if_neg (by simp)];refine xa (listUpdate_at (xs:=#[]) (n:=0) (qq _ rfl) rfl ?_ (za _) (by show(#[]++vs.toArray).size<=xg+1;grind));refine xb ?_;refine xa (wpAny_load (get?_update_seq (qq _ rfl) _) ?_);show xf _ _ (pure ((#[]:Array Value)++vs.toArray).toList) Q E _;rw[show((#[]:Array Value)++vs.toArray).toList=vs by simp];exact xb k
end
end L2
namespace TF
open L2
section
variable {X:Cx}{G:Gh}
end
end TF
namespace L2
def ItL (K:qd)(a:Addr):It where
 go:=λi H=>∃xs x,ZD K H a xs/\xs[i]?=some x
 yld:=λi H v H'=>∃T x,H T=none/\v=.ref T/\H'=Zi H T (.tup [.int (i:Int),x])/\∀xs,ZD K H a xs->xs[i]?=some x
 stop:=λi H=>∃xs,ZD K H a xs/\i=xs.length
def ZoW (e q a:Addr)(i:Nat)(h:Heap):Prop:=(∃old,IsEnum h e q i old)/\h.IsListIter q a i
theorem ZcL {h:Heap}(ha:∃oa,h.get? a=some oa/\oa.cls=.type "list")(hb:h.get? b=some o)(hc:o.cls=.type T)(hT:T≠"list"):a≠b:=λz=>by
 grind
theorem ZhE {K:qd}(a e q:Addr)(heq:e≠q):Turn P w K (.Tuple elts k pos) (ItL K a) [e,q] e (ZoW e q a) where
 mem:=by simp
 obj:=λi h st c hc=>by
  obtain⟨⟨old,he⟩,o1,e1,c1,d1⟩:=st;simp only[qu,zi,or_false]at hc;rcases hc with rfl | rfl
  ·exact⟨_,he,λv q=>by cases q⟩
  ·exact⟨_,e1,λv q=>by rw[d1]at q;cases q⟩
 keep:=λi h h' st kk=>by
  obtain⟨⟨old,he⟩,h1⟩:=st;exact⟨⟨old,kk e (by simp) _ he⟩,h1.at λo x=>kk q (by simp) o x⟩
 item:=by
  intro X hP hw hK hc i jM s σ H E I hf st hg;subst hP hw hK;obtain⟨xs,x,hq,hx⟩:=hg;obtain⟨jO,rv,p,hz⟩:=I.list hq;obtain⟨u,hu,ru⟩:=rv.get hx;obtain⟨⟨old,he⟩,h1⟩:=id st;obtain⟨o1,e1,c1,d1⟩:=id h1;have pT:s.heap.IsList a jO.toArray:=p.isList;have la:∃oa,s.heap.get? a=some oa/\oa.cls=.type "list":=let ⟨o,e,c,_⟩:=pT;⟨o,e,c⟩;have hae:a≠e:=ZcL la he rfl (by decide);have haq:a≠q:=ZcL la e1 c1 (by decide);have hh:=I.ok.hd hc;have hef:e∉[q,a]:=λz=>by
   simp only[qu,zi,or_false]at z;rcases z with z | z
   ·exact heq z
   ·exact hae z.symm
  have W:=WalksT.enumerateD (A:=X.A) (Draws.list (prog:=X.prog) (w:=X.w) (A:=X.A.in1) (show X.A.in1.handled=none from hh) q a haq jO.toArray) e heq hef (by simp);have hl1:i<jO.length:=(qz.mp hu).1;refine W.item i s _ _ (by simp only[zf];exact hl1) ⟨⟨old,he⟩,h1,pT⟩ λT vals h1' tk hp hT hI hM kk=>⟨_,rfl,?_⟩;obtain⟨t,v1,g1,rfl⟩:=hp;have e2:v1=u:=by simpa[hu]using g1.symm
  subst e2;have hap:=W.apart i T h1' hM;refine W.go elts k pos i T _ _ _ hM λh2 hS kk2=>?_;have hI2:h2.IsTuple T #[.int i t,v1]:=hI.at λo e=>kk2 T o hap e;have I1:Inv X jM σ (Zi H T (.tup [.int (i:Int),x])) { s with heap:=h2,toks:=tk }:=I.turnedT (fp:=[e,q]) (λc o hc e=>kk2 c o hc (kk c o hc e)) hf hT ⟨by show 2<=xg;decide,[.int i t,v1],.cons ⟨t,rfl⟩ (.cons ru .nil),hI2⟩;refine⟨.ref T,_,I1,rfl,⟨T,x,I.hok.fresh hT,rfl,rfl,λxs' h=>by rw[I.list_inj h hq];exact hx⟩,⟨hS.1,hS.2.1⟩,λc hc=>?_⟩;rw[Zl ?_]
  ·exact(hf c hc).1
  ·intro zc
   subst zc;have old:∃o,s.heap.get? c=some o:=by
    simp only[qu,zi,or_false]at hc;rcases hc with r | r
    ·rw[r];exact⟨_,he⟩
    ·rw[r];exact⟨_,e1⟩
   obtain⟨o,e⟩:=old;exact absurd (qy e) (Nat.not_lt.mpr hT)
 done:=by
  intro X hP hw hK hc i jM s σ H E I hf st hg;subst hP hw hK;obtain⟨xs,hq,rfl⟩:=hg;obtain⟨jO,rv,p,hz⟩:=I.list hq;obtain⟨⟨old,he⟩,h1⟩:=id st;obtain⟨o1,e1,c1,d1⟩:=id h1;have pT:s.heap.IsList a jO.toArray:=p.isList;have la:∃oa,s.heap.get? a=some oa/\oa.cls=.type "list":=let ⟨o,e,c,_⟩:=pT;⟨o,e,c⟩;have hae:a≠e:=ZcL la he rfl (by decide);have haq:a≠q:=ZcL la e1 c1 (by decide);have hh:=I.ok.hd hc;have hef:e∉[q,a]:=λz=>by
   simp only[qu,zi,or_false]at z;rcases z with z | z
   ·exact heq z
   ·exact hae z.symm
  have W:=WalksT.enumerateD (A:=X.A) (Draws.list (prog:=X.prog) (w:=X.w) (A:=X.A.in1) (show X.A.in1.handled=none from hh) q a haq jO.toArray) e heq hef (by simp);have en:jO.toArray.size=xs.length:=by rw[zf];exact rv.length.symm
  refine W.done s _ _ (by rw[en];exact⟨⟨old,he⟩,h1,pT⟩) λh1 tk kk=>⟨rfl,?_⟩;exact I.turnedN kk hf
 self:=λA i s Q E st h=>by
  obtain⟨⟨old,he⟩,_⟩:=st;exact wpAny_pyIter_enum he h
def ZoX (K:qd)(ta:TA):TI:=fun σ H R=>ta σ H λvs H1=>∃a xs,vs=[.ref a]/\H1 a=some (.lst xs)/\R (ItL K a) H1
theorem ZlA (hg:Gl X "enumerate")(hm:X.mg "enumerate" = none)(ha:PA X [a] ta)(hs:xh [a] X.env=[(false,eval a X.env)]:=by rfl) :
  PI X (.Tuple elts k tp) (.Call (.Name "enumerate" p) [a] [] pos) (ZoX X.K ta):=by
 intro jM s σ H R I h;refine Call_ (UB I hg hm Zdd (ya (ZJ (ha pos jM s σ H _ I h) λus s1 ⟨vs,H1,I1,r1,q1⟩=>?_) hs rfl));obtain⟨a',xs,e,hH,q⟩:=q1;subst e
 cases r1 with
 | cons r rr=>
  cases rr
  cases r
  obtain⟨z,jO,n,rv,hl,ho⟩:=I1.lstM hH;refine call_enumerate_1 ho λh' he hit hsz kk=>wpAny_pyIter_enum he ?_;have I2:Inv X jM σ H1 { s1 with heap:=h' }:=I1.kept kk;have hne:(s1.heap.objs.size+1:Addr)≠s1.heap.objs.size:=Nat.succ_ne_self _;refine⟨s1.heap.objs.size+1,[s1.heap.objs.size+1,s1.heap.objs.size],_,_,H1,rfl,I2,ZhE a' _ _ hne,⟨⟨_,he⟩,hit⟩,λc hc=>?_,q⟩;simp at hc;have hle:s1.heap.objs.size<=c:=by rcases hc with r | r <;> rw[r] <;> first | rfl | simp
  exact I1.fpOk hle (I1.hok.fresh hle)
end L2
namespace TF
open L2
section
variable {X:Cx}{G:Gh}
theorem Vx.enumL {K:qd}(na:¬G.fp a)(h:Hf a=some (.lst vs))(r:Zk G Hf ds vs):Vx G (ItL K a) Hf (Jg ds):=λi j6 H2 s e1 e2 st=>by
 have h2:ZD K H2 a vs:=ZD.of (e2 _ _ na (e1 _ _ na h));refine⟨λd q=>?_,λq=>⟨vs,h2,by rw[q];unfold Jg;rw[List.length_mapIdx,r.length]⟩⟩;unfold Jg at q;rw[qb9]at q
 cases qa:ds[i]? with
 | none=>simp_all
 | some x=>
  rw[qa]at q;simp at q;subst q;obtain⟨v,q1,q2⟩:=r.get qa;refine⟨⟨vs,v,h2,q1⟩,λz H3 ⟨T,v',hT,y0,y1,y2⟩=>?_⟩;have ev:=y2 vs h2;rw[q1]at ev;cases ev;subst y0 y1;have nf:=Gh.nofp st hT;have g2:=Gr.new (o:=.tup [.int (i:Int),v]) e2 hT nf;refine⟨Zi j6 T (.tup [.int (i:Int),v]),g2,Gh.grow st hT,jc.mpr ⟨T,_,rfl,nf,ZE,?_⟩⟩;exact .cons (ja.mpr rfl) (.one ((q2.ext e1).ext g2.ff))
def ZiA (f:Zc->M D):Zc->M (List D):=fun ρ=>Zm (f ρ) λd=>match d with | .lst ds=>Zy (Jg ds) | _=>Zq
theorem ZjN (hg:Gl X "enumerate")(hm:X.mg "enumerate" = none)(ha:PD X G r1 a f)
  (hs:xh [a] X.env=[(false,eval a X.env)]:=by rfl):WP X G (.Tuple elts k tp) (.Call (.Name "enumerate" p) [a] [] pos) (ZiA f):=by
 obtain⟨t,pa,qa⟩:=ha.drop;refine⟨_,ZlA hg hm (ZU pa Yn (by rw[hs];rfl)) hs,fun σ Hf H ρ s ds s' R e1 e2 e3 e4 k=>?_⟩;obtain⟨d,s1,a1,a2⟩:=Zs e4
 match d,a2,a1 with
 | .lst xs,a2,a1=>
  obtain⟨rfl,rfl⟩:=ZC a2;refine qa σ Hf H ρ s _ _ _ e1 e2 e3 a1 λv jV H1 g st r=>?_;obtain⟨p1,vs,rfl,n1,h1,rl1⟩:=jb.mp r;exact⟨p1,vs,rfl,g.fh _ _ n1 h1,k _ jV H1 g st (.enumL n1 h1 rl1)⟩
end
end TF
namespace L2
section
variable {prog:xB}{w:World}{A:xC}{E:xD}{s:Shared}{o:Obj}{es:Array DictEntry}{d it:Addr}{ep i:Nat}
end
section
variable {X:Cx}{tg:Expr}
end
end L2
namespace TF
open L2
section
variable {X:Cx}{G:Gh}
end
end TF
namespace L2
section
variable {prog:xB}{w:World}{A:xC}{E:xD}{s:Shared}{z TI TO i1 i2:Addr}{f1 f2:List Addr}{n1 n2 k:Nat}{P1 P2:Nat->Value->Prop}{S1 S2:Nat->Heap->Prop}{a b:Value}
end
section
variable {prog:xB}{w:World}{A:xC}{E:xD}{s:Shared}
end
end L2
namespace TF
open L2
section
variable {X:Cx}{G:Gh}
end
end TF
namespace TS
open PySem.W
def Ym {α:Type}(lt:Nat->Nat->Bool)(n:Nat):KasT α->(α->Prop)->Prop
 | .ret a,Q=>Q a
 | .ask i j k,Q=>i<n/\j<n/\Ym lt n (k (lt i j)) Q
theorem Ym.bind {f:α->KasT β}{Q:β->Prop}:∀{t:KasT α},Ym lt n t (λa=>Ym lt n (f a) Q)->Ym lt n (t.bind f) Q
 | .ret _,h=>h
 | .ask i j k,h=>⟨h.1,h.2.1,Ym.bind h.2.2⟩
theorem Ym.mono {Q R:α->Prop}(hr:∀a,Q a->R a):∀{t:KasT α},Ym lt n t Q->Ym lt n t R
 | .ret _,h=>hr _ h
 | .ask i j k,h=>⟨h.1,h.2.1,Ym.mono hr h.2.2⟩
theorem jG {Q:α->Prop}{R:α->Shared->Prop}(hc:∀i j,i<n->j<n->∀C:Bool->Shared->Prop,C (lt i j) s->cmp i j C s)(hr:∀a,Q a->R a s):∀{t:KasT α},Ym lt n t Q->t.kasWp cmp R s
 | .ret _,h=>hr _ h
 | .ask i j k,h=>hc i j h.1 h.2.1 _ (jG hc hr h.2.2)
def g (p:Array Nat)(k:Nat):Nat:=p.getD k 0
theorem Jp (h:p[i]?=q[j]?):g p i=g q j:=by
 have e:∀(r:Array Nat) (k:Nat),g r k=(r[k]?).getD 0:=λr k=>by unfold g;simp
 rw[e,e,h]
structure Pm (n:Nat)(p:Array Nat):Prop where
 pos:0<n
 pm:p.toList.Perm (qj n)
section
variable {lt:Nat->Nat->Bool}{n:Nat}{p q:Array Nat}
theorem Pm.size (h:Pm n p):p.size=n:=by
 have:=h.pm.length_eq;simpa using this
theorem Pm.of (h:Pm n p)(e:q.Perm p):Pm n q:=⟨h.pos,(Array.perm_iff_toList_perm.mp e).trans h.pm⟩
theorem Pm.bd (h:Pm n p)(k:Nat):g p k<n:=by
 unfold g;by_cases hk:k<p.size
 ·have:p.getD k 0=p[k]:=by simp[hk]
  rw[this];have m:p[k]∈p.toList:=by simp
  have:=h.pm.mem_iff.mp m;simp_all
 ·have:p.getD k 0=0:=by simp[Array.getD,hk]
  rw[this];exact h.pos
theorem Zn6 (hj:q.size=n)(hm:m<=n)(k:Nat):g (kas_rev q 0 m) k=if k<m then g q (m-1-k)else g q k:=by
 have e:=getElem?_mirror_all (xs:=q) (i:=0) (j:=m) (by omega) k;unfold kas_rev;by_cases hk:k<m
 ·rw[if_pos ⟨by omega,hk⟩]at e
  rw[if_pos hk];exact Jp (by rw[e];simp)
 ·rw[if_neg (λz=>hk z.2)]at e
  rw[if_neg hk];exact Jp e
end
def XV:List Int->List Int->Bool
 | [],[]=>false
 | [],_::_=>true
 | _::_,[]=>false
 | a::as,b::bs=>if a=b then XV as bs else decide (a<b)
theorem Zgh:∀a,XV a a=false
 | []=>rfl
 | a::as=>by unfold XV;rw[if_pos rfl];exact Zgh as
theorem Zfc:∀a b c,XV a b=true->XV b c=true->XV a c=true
 | [],[],_,h,_=>by cases h
 | [],_::_,[],_,h=>by cases h
 | [],_::_,_::_,_,_=>rfl
 | _::_,[],_,h,_=>by cases h
 | _::_,_::_,[],_,h=>by cases h
 | a::as,b::bs,c::cs,h1,h2=>by
  unfold XV at h1 h2⊢;split at h1
  ·rename_i e;subst e
   split at h2
   ·rename_i e;subst e;rw[if_pos rfl];exact Zfc as bs cs h1 h2
   ·simp_all
  ·split at h2
   ·simp_all
   ·grind
theorem Zfd:∀a b,a≠b->XV a b=false->XV b a=true
 | [],[],n,_=>absurd rfl n
 | [],_::_,_,h=>by cases h
 | _::_,[],_,_=>rfl
 | a::as,b::bs,n,h=>by
  unfold XV at h⊢;split at h
  ·rename_i e;subst e;rw[if_pos rfl]
   exact Zfd as bs (λz=>n (by rw[z])) h
  ·simp at h
   grind
theorem Zgi (h:XV a b=true):XV b a=false:=by
 cases e:XV b a with
 | false=>rfl
 | true=>have:=Zfc _ _ _ h e;rw[Zgh]at this;cases this
def Ju (a b:List Int):Bool:=!XV b a
theorem ZoY (a b c:List Int)(h1:Ju a b=true)(h2:Ju b c=true):Ju a c=true:=by
 unfold Ju at h1 h2⊢;simp at h1 h2⊢;by_cases e1:a=b
 ·simp_all
 ·by_cases e2:b=c
  ·simp_all
  ·exact Zgi (Zfc _ _ _ (Zfd b a (ze e1) h1) (Zfd c b (ze e2) h2))
def B6 (h:Heap)(v:Value)(ns:List Int):Prop:=∃a xs,v=.ref a/\h.IsTuple a (qU xs)/\IntsAre xs ns
section
variable {prog:xB}{w:World}{A:xC}{E:xD}{s:Shared}
theorem Zn7:∀{as bs:List Int} {xs ys:List Value} (i:Nat),IntsAre xs as->IntsAre ys bs->fin=decide (as.length<bs.length)->Q (XV as bs) s->KatLex prog w A true fin Q (xs.zip ys) i s
 | [],[],_,_,i,.nil,.nil,e,h=>by subst e;exact kat_nil h
 | [],_::_,_,_,i,.nil,.cons _ _ _,e,h=>by subst e;exact kat_nil h
 | _::_,[],_,_,i,.cons _ _ _,.nil,e,h=>by subst e;exact kat_nil h
 | a::as,b::bs,_,_,i,.cons _ t hx,.cons _ u hy,e,h=>by
  unfold XV at h;refine kat_cons (wpAny_eqBool_int ?_);by_cases q:a=b
  ·rw[if_pos q]at h
   rw[show(a==b)=true by simp[q]];exact kat_yes (Zn7 (i+1) hx hy (by rw[e];simp) h)
  ·rw[if_neg q]at h
   rw[show(a==b)=false by simp[q]];refine kat_no ?_;by_cases hi:i=0
   ·subst hi
    exact oneLt_int h
   ·rw[show(true&&i==0)=false by simp[hi]]
    exact kat_one _ _ (lt_int h)
theorem ZpK (hx:B6 s.heap x as)(hy:B6 s.heap y bs)(h:C (XV as bs) s):xf (xz prog w) A (keyLt' (tuples' true) x y) C E s:=by
 obtain⟨a,xs,rfl,⟨o,ho,hc,n,hd⟩,ix⟩:=hx;obtain⟨b,ys,rfl,⟨o',ho',hc',n',hd'⟩,iy⟩:=hy;refine kat_lt ho hd ho' hd' ?_;have e:decide ((qU xs).size<(qU ys).size)=decide (as.length<bs.length):=by rw[zf,zf,ix.length,iy.length]
 exact Zn7 0 ix iy e h
theorem ZlB:∀{vs:List Value} {kC:List (List Int)},Paired (B6 h) vs kC->(∀ns∈kC,ns≠[])->∃fs,KatTups h vs fs/\fs.length=vs.length/\∀v∈fs,∃n t,v=qa9 n t
 | _,_,.nil,_=>⟨[],.nil,rfl,λ_ z=>by simp at z⟩
 | _,_,.cons hv r,hne=>by
  obtain⟨fs,h1,h2,h3⟩:=ZlB r λns' m=>hne ns' (qZ _ m);obtain⟨a,xs,rfl,⟨o,ho,hc,n,hd⟩,ix⟩:=hv
  cases ix with
  | nil=>simp_all
  | cons m t r'=>
   refine⟨.int m t::fs,.cons ho hc hd (by simp) h1,by simp[h2],λv hv=>?_⟩
   grind
theorem ZoZ (h:Paired (B6 s.heap) vs kC)(hne:∀ns∈kC,ns≠[])(h0:0<vs.length)(q:Q (tuples' true) s):xf (xz prog w) A (keyKind' vs.toArray) Q E s:=by
 obtain⟨fs,h1,h2,h3⟩:=ZlB h hne;refine kat_kind (T:=.type "int") h1 (by omega) (λv hv=>?_) rfl ?_
 ·obtain⟨n,t,rfl⟩:=h3 v hv
  exact Looks.of_pure rfl
 ·exact q
theorem jv {F:α->β->Prop}:∀{l:List α} {r:List β} {i:Nat} (d:α) (d':β),Paired F l r->i<l.length->F (l.getD i d) (r.getD i d')
 | _,_,i,_,_,.nil,e=>absurd e (by simp)
 | _,_,0,_,_,.cons h t,e=>h
 | _,_,i+1,d,d',.cons h t,e=>by
  have:=jv d d' t (i:=i) (by simp_all);simpa using this
theorem range_getD {α:Type}(vs:List α)(d:α):((qj vs.length).map λi=>vs.getD i d)=vs:=by
 refine List.ext_getElem (by simp) λi h1 h2=>?_;simp[h2]
end
section
variable {prog:xB}{w:World}{A:xC}{E:xD}{s:Shared}
end
end TS
namespace TF
open L2 TS
section
variable {X:Cx}{G:Gh}
theorem Zex {σ:St}(I:Inv X jM σ H s)(hT:∀v ns,T v ns->∃a,v=.ref a/\ZO X.K H a (ns.map V.int)):∀{vs:List V} {jO:List Value} {kC:List (List Int)},ZB vs jO->Paired T vs kC->Paired (B6 s.heap) jO kC
 | _,_,_,.nil,.nil=>.nil
 | _,_,_,.cons r rr,.cons t tt=>by
  refine .cons ?_ (Zex I hT rr tt);obtain⟨a,rfl,hq⟩:=hT _ _ t
  cases r
  obtain⟨xs,rv,pl,hz⟩:=I.tuple hq;exact⟨a,xs,rfl,show s.heap.IsTuple a xs.toArray from pl,WR rv⟩
def tupI (ns:List Int):D:=.tup (ns.map .int)
def JO:List D->Option (List (List Int))
 | []=>some []
 | .tup ds::r=>match ZH ds,JO r with | some ns,some kC=>some (ns::kC) | _,_=>none
 | _::_=>none
theorem Zey:∀{ds:List D} {kC:List (List Int)},JO ds=some kC->ds=kC.map tupI
 | [],kC,h=>by
  cases h;rfl
 | d::r,kC,h=>by
  cases d with
  | tup ds=>
   have h:(match ZH ds,JO r with | some ns,some kC=>some (ns::kC) | _,_=>none)=some kC:=h
   cases e1:ZH ds with
   | none=>simp_all
   | some ns=>
    cases e2:JO r with
    | none=>simp_all
    | some ms=>
     rw[e1,e2]at h;cases h;rw[zT,<-Zey e2];unfold tupI;rw[<-Wq e1]
  | _=>cases h
theorem Zez:∀{kC:List (List Int)} {vs:List V},Zk G Hf (kC.map tupI) vs->Paired (λv ns=>Zo G Hf (tupI ns) v) vs kC
 | [],vs,h=>by
  rw[Zk.nil_iff.mp h];exact .nil
 | ns::kC,vs,h=>by
  obtain⟨v,r,rfl,h1,h2⟩:=jd.mp h;exact .cons h1 (Zez h2)
end
end TF
namespace TF
open L2
section
variable {X:Cx}{G:Gh}{own:List Nat}{fr:Bool}
end
section
variable {X:Cx}{G:Gh}
def vD:V->Option D
 | .int i=>some (.int i)
 | .bl b=>some (.bl b)
 | .str x=>some (.str x)
 | .non=>some .non
 | _=>none
theorem ZlC (h:vD v=some c):Zo G H c v:=by
 cases v with
 | int i=>cases h;rfl
 | bl i=>cases h;rfl
 | str i=>cases h;rfl
 | non=>cases h;rfl
 | _=>cases h
def UL:D->D->Option D
 | .dk kvs,y=>match Xs y with | some k=>(ZR kvs k).bind vD | none=>none
 | .df kvs,y=>match Xs y with | some k=>(ZR kvs k).bind vD | none=>none
 | .dt kvs,.tup ks=>match Xz ks with | some k=>(ZR kvs k).bind vD | none=>none
 | .du kvs,.tup ks=>match Xz ks with | some k=>(ZR kvs k).bind vD | none=>none
 | _,_=>none
theorem ZiB (hu:X.A.units+1<cLine)(ha:PD X G r1 a fa)(hb:PD X G r2 b fb)(hs:NoSl b:=by intro _ _;rfl):PD X G false (.Subscript a b pos) (Zd UL fa fb):=by
 obtain⟨ta,pa,qa⟩:=ha.drop;obtain⟨tb,pb,qb⟩:=hb.drop;refine⟨_,WT hu pa pb hs,fun σ Hf H ρ s d s' Q e1 e2 e3 e4 k=>?_⟩;obtain⟨da,s1,a1,a2⟩:=Zs e4;obtain⟨db,s2,a3,a4⟩:=Zs a2;obtain⟨a5,rfl⟩:=WD a4;refine qa σ Hf H ρ s da s1 _ e1 e2 e3 a1 λx jV H1 g1 jX r1=>?_;refine qb σ jV H1 ρ s1 db _ _ g1.fh (e2.ext g1.ff) jX a3 λy j6 H2 g2 jY r2=>?_;have r1:=r1.ext g2.ff;have fin:∀v c,d=c->vD v=some c->Q v H2:=λv c ec h=>by
  subst ec;exact k v j6 H2 (g1.trans g2) jY (ZlC h) (λz=>by cases z)
 match da,a5,r1 with
 | .dk kvs,a5,r1=>
  obtain⟨p,rfl,np,hp⟩:=jj.mp r1;have a5:(match Xs db with | some k=>(ZR kvs k).bind vD | none=>none)=some d:=a5
  cases ek:Xs db with
  | none=>rw[ek]at a5;cases a5
  | some ky=>
   rw[ek]at a5;obtain⟨v,ev,e6⟩:=yK.mp a5;have ey:=UW ek r2;subst ey;refine⟨p,v,rfl,?_,fin v d rfl e6⟩;rw[<-ev];exact Xr.k (g2.fh _ _ np hp)
 | .df kvs,a5,r1=>
  obtain⟨p,o,rfl,np,hp⟩:=jr.mp r1;have a5:(match Xs db with | some k=>(ZR kvs k).bind vD | none=>none)=some d:=a5
  cases ek:Xs db with
  | none=>rw[ek]at a5;cases a5
  | some ky=>
   rw[ek]at a5;obtain⟨v,ev,e6⟩:=yK.mp a5;have ey:=UW ek r2;subst ey;exact⟨p,v,rfl,.inl ⟨kvs,ky,.inr ⟨o,g2.fh _ _ np hp⟩,rfl,ev.symm⟩,fin v d rfl e6⟩
 | .du kvs,a5,r1=>
  obtain⟨p,rfl,np,hp⟩:=jn.mp r1
  match db,a5,r2 with
  | .tup ks,a5,r2=>
   have a5:(match Xz ks with | some k=>(ZR kvs k).bind vD | none=>none)=some d:=a5;obtain⟨q,vs,rfl,nq,hq,rq⟩:=jc.mp r2
   cases ek:Xz ks with
   | none=>rw[ek]at a5;cases a5
   | some ky=>
    rw[ek]at a5;obtain⟨v,ev,e6⟩:=yK.mp a5;have ey:=UT ek rq;subst ey;refine⟨p,v,rfl,?_,fin v d rfl e6⟩;rw[<-ev];exact Xr.t (g2.fh _ _ np hp) (g2.fh _ _ nq hq)
 | .dt kvs,a5,r1=>
  obtain⟨p,o,rfl,np,hp⟩:=jm.mp r1
  match db,a5,r2 with
  | .tup ks,a5,r2=>
   have a5:(match Xz ks with | some k=>(ZR kvs k).bind vD | none=>none)=some d:=a5;obtain⟨q,vs,rfl,nq,hq,rq⟩:=jc.mp r2
   cases ek:Xz ks with
   | none=>simp_all
   | some ky=>
    rw[ek]at a5;obtain⟨v,ev,e6⟩:=yK.mp a5;have ey:=UT ek rq;subst ey;exact⟨p,v,rfl,.inr ⟨kvs,ky,q,.inr ⟨o,g2.fh _ _ np hp⟩,rfl,g2.fh _ _ nq hq,ev.symm⟩,fin v d rfl e6⟩
end
section
variable {X:Cx}{G:Gh}{ob:List Nat}{fr:Bool}
end
section
variable {X:Cx}{G:Gh}{ob own:List Nat}{fr:Bool}
def JP (c:Zc->M Bool)(g:Zc->M Out):Nat->Zc->M Out
 | 0,_=>Zq
 | n+1,ρ=>Zm (c ρ) λb=>if b=true then Zm (g ρ) λo=>match o with | .nx ρ2=>JP c g n ρ2 | .ct ρ2=>JP c g n ρ2 | .bk ρ2=>Zy (.nx ρ2) | .rt d=>Zy (.rt d)else Zy (.nx ρ)
def Zfe (n:Nat)(c:Zc->M Bool)(g:Zc->M Out):Zc->M Out:=JP c g n
theorem ZjO (hp:PassesOwn (xz X.prog X.w) X.A X.env X.xe)(hc:X1 X G c fc)(hb:Wc X G own own own fr body g):YI X G ob own own fr (.While c body [] pos) (Zfe n fc g):=by
 obtain⟨tc,pc,qc⟩:=hc;obtain⟨tb,pb,qb⟩:=hb;refine⟨_,ZkG hp pc pb,λkn jS H0 σ H ρ s out s' E ⟨Hf,j⟩ st e po=>?_⟩;refine⟨λm σ2 H2=>∃ρ2 s2,J G own kn jS H0 σ2 H2 ρ2/\G.st s2 H2/\JP fc g m ρ2 s2=some (out,s'),⟨n,ρ,s,⟨Hf,j⟩,st,e⟩,?_⟩;rintro m σ2 H2 ⟨ρ2,s2,⟨j6,j2⟩,jY,eq2⟩
 cases m with
 | zero=>cases eq2
 | succ m=>
  obtain⟨b,s3,a1,a2⟩:=Zs eq2;refine qc σ2 _ H2 ρ2 s2 b s3 _ WS j2.envB jY a1 λHf' H' g' st'=>?_;obtain⟨F,j',fF,q1,q2⟩:=j2.growB g'
  cases b with
  | false=>
   obtain⟨rfl,rfl⟩:=ZC a2;exact VZ (po σ2 H' ⟨F,j'⟩ st')
  | true=>
   rw[if_pos rfl]at a2;obtain⟨o,s4,b3,b4⟩:=Zs a2;refine WY ⟨fun σ' H'=>∃ρ5 s5,J G own kn jS H0 σ' H' ρ5/\G.st s5 H'/\JP fc g m ρ5 s5=some (out,s'),fun σ' H' h=>⟨m,yh m,h⟩,?_⟩;refine qb kn jS H0 σ2 H' ρ2 s3 o s4 _ ⟨F,j'⟩ st' b3 ?_
   cases o with
   | nx ρ5=>exact fun σ5 H5 j5 st5=>⟨ρ5,s4,j5,st5,b4⟩
   | ct ρ5=>exact fun σ5 H5 j5 st5=>⟨ρ5,s4,j5,st5,b4⟩
   | bk ρ5=>
    obtain⟨rfl,rfl⟩:=ZC b4;exact fun σ5 H5 j5 st5=>po σ5 H5 j5 st5
   | rt d=>
    obtain⟨rfl,rfl⟩:=ZC b4;exact po
end
theorem jH (I:Nat->Zc->Pn->Prop)(m:Nat)(hm:m<n)(h0:I m ρ s)
  (step:∀m ρ s,I m ρ s->Ok (c ρ) s λb s1=>if b=true then Ok (g ρ) s1 λo s2=>match o with | .nx ρ'=>∃m',m'<m/\I m' ρ' s2 | .ct ρ'=>∃m',m'<m/\I m' ρ' s2 | .bk ρ'=>Q (.nx ρ') s2 | .rt d=>Q (.rt d) s2 else Q (.nx ρ) s1):Ok (Zfe n c g ρ) s Q:=by
 show Ok (JP c g n ρ) s Q
 induction n generalizing m ρ s with
 | zero=>omega
 | succ n ih=>
  refine Ok.bind ((step m ρ s h0).mono λb s1 q=>?_)
  cases b with
  | false=>exact .ret (by simpa using q)
  | true=>
   rw[if_pos rfl];refine Ok.bind (q.mono λo s2 q=>?_)
   cases o with
   | nx ρ'=>obtain⟨m',hm',h'⟩:=q;exact ih m' (by omega) h'
   | ct ρ'=>obtain⟨m',hm',h'⟩:=q;exact ih m' (by omega) h'
   | bk ρ'=>exact .ret q
   | rt d=>exact .ret q
section
variable {X:Cx}{G:Gh}{ob own:List Nat}{fr:Bool}
theorem Zgj:PD X G true (.Dict [] [] pos) (dC (.dk [])):=by
 refine⟨_,ZkT,fun σ Hf H ρ s d s' Q e1 e2 e3 e4 k=>?_⟩;obtain⟨rfl,rfl⟩:=ZC e4;intro p hp;have nf:=Gh.nofp e3 hp;have g2:=Gr.new (o:=.dK []) e1 hp nf;exact k (.ref p) _ _ g2 (Gh.grow e3 hp) (jj.mpr ⟨p,rfl,nf,ZE⟩) λ_ a ea _=>by simp_all
def Ul (i:Nat)(fx fv:Zc->M D):Zc->M Out:=fun ρ=>Zm (fv ρ) λv=>Zm (fx ρ) λx=>match (ρ[i]?).bind id with
 | some (.dk kvs)=>match Xs x,Wm v with | some k,some w=>if kvs.length<xg then Zy (.nx (ρ.set i (some (.dk (Yf kvs k w)))))else Zq | _,_=>Zq
 | _=>Zq
theorem ZlD (hu:X.A.units+1<cLine)(hi:i∈own)(hn:PE X (.Name x p1) (ZY i))(px:PE X ex tx)(yx:WZ G own r1 tx fx)(pv':PE X ev tv)(yv:WZ G own r2 tv fv)
  (hs:xr ev (some (.Subscript (.Name x p1) ex p2)) pos.line X.env=pure false) :
  YI X G ob own own fr (.Assign [.Subscript (.Name x p1) ex p2] ev pos) (Ul i fx fv):=by
 refine⟨_,Ze0 hu hn px pv' hs,λkn jS H0 σ H ρ s out s' E ⟨Hf,j⟩ st e po=>?_⟩;obtain⟨v,s1,a1,a2⟩:=Zs e;obtain⟨xx,s2,a3,a4⟩:=Zs a2;refine yv kn jS H0 σ Hf H ρ s v s1 _ j st a1 λw jV H1 j1 e1 e2 jX r1 _=>?_
 cases hb:(ρ[i]?).bind id with
 | none=>rw[hb]at a4;cases a4
 | some c=>
  rw[hb]at a4
  cases c with
  | dk kvs=>
   have a4':(match Xs xx,Wm v with | some k,some w=>if kvs.length<xg then Zy (Out.nx (ρ.set i (some (.dk (Yf kvs k w)))))else Zq | _,_=>Zq) s2=some (out,s'):=a4
   cases hk:Xs xx with
   | none=>rw[hk]at a4';cases a4'
   | some k=>
    cases hw:Wm v with
    | none=>rw[hk,hw]at a4';cases a4'
    | some w'=>
     rw[hk,hw]at a4';obtain⟨hl,a5⟩:=YQ a4';obtain⟨rfl,rfl⟩:=ZC a5;have ei:=JH hb;obtain⟨a,h1,h2,h3,h4,h5⟩:=j1.ow i _ hi ei;refine⟨_,h1,?_⟩;refine yx kn jS H0 σ jV H1 ρ s1 _ _ _ j1 jX a3 λw2 j6 H2 j2 e3 e4 jY r2 _=>?_;obtain⟨a',h1',h2',h3',h4',h5'⟩:=j2.ow i _ hi ei;rw[h1]at h1';cases h1';have ek:=UW hk r2;subst ek;have ew:=Zbj hw r1;subst ew;refine⟨a,_,rfl,WJ.k (show H2 a=some (.dK kvs)from h5') (by omega),?_⟩;exact po σ _ ⟨j6,j2.put hi ei h1 (show Zi H2 a (.dK (Yf kvs k w)) a=some (.dK (Yf kvs k w))from ZE)⟩ (jq jY h2)
  | _=>cases a4
theorem ZeA (hu:X.A.units+1<cLine)(hi:i∈own)(hn:PE X (.Name x p1) (ZY i))(hx:PD X G r1 ex fx)(hv:PD X G r2 ev fv)
  (hs:xr ev (some (.Subscript (.Name x p1) ex p2)) pos.line X.env=pure false:=by rfl) :
  YI X G ob own own fr (.Assign [.Subscript (.Name x p1) ex p2] ev pos) (Ul i (fun ρ=>fx (Yk own ρ)) (Xa r2 fv)):=by
 obtain⟨tv,pv',qv⟩:=hv;obtain⟨tx,px,qx⟩:=hx;have yv:X4 G r2 tv fv:=qv;have yx:X4 G r1 tx fx:=qx;exact ZlD hu hi hn px yx.a pv' yv.b hs
def Wz (n:Int)(r:List Int):Int:=r.foldl min n
theorem Znf (r:List Int):∀n,Wz n r<=n/\∀a∈r,Wz n r<=a:=by
 induction r with
 | nil=>intro n;exact⟨Int.le_refl _,by simp⟩
 | cons b r ih=>
  intro n;obtain⟨h1,h2⟩:=ih (min n b);refine⟨?_,λa ha=>?_⟩
  ·show Wz (min n b) r<=n;omega
  ·show Wz (min n b) r<=a
   grind
theorem ZlE (r:List Int):∀n,Wz n r∈n::r:=by
 induction r with
 | nil=>simp[Wz]
 | cons b r ih=>
  intro n;show Wz (min n b) r∈n::b::r
  grind
theorem Zgk {M:Int}(h1:M∈n::r)(h2:∀a∈n::r,M<=a):M=Wz n r:=by
 obtain⟨g1,g2⟩:=Znf r n;have g3:=h2 _ (ZlE r n)
 grind
def ZlF:List D->Option D
 | [.lst ds]=>match ZH ds with | some (n::r)=>some (.int (Wz n r)) | _=>none
 | _=>none
theorem ZjP (hc:X.calm=true):Xi X (.builtin "min") (λxs H Q=>∃p n r,xs=[.ref p]/\ZD X.K H p ((n::r).map V.int)/\Q (.int (Wz n r)) H):=by
 intro jM s σ H xs us Q I r h;obtain⟨p,n,rr,rfl,hp,q⟩:=h;obtain⟨u,rfl,ru⟩:=XT r
 cases ru
 obtain⟨jO,rv,pl,hz⟩:=I.list hp;have hi:IntsAre jO (n::rr):=WR rv;obtain⟨xs,e⟩:=hi.allInts.items;have hns:n::rr=xs.toList.map (·.1):=by rw[<-hi.numsOf,<-nums_intItems,<-e]
 have hl:=pl.isList;rw[e]at hl;have hsz:0<xs.size:=by
  have h3:0<(n::rr).length:=by simp
  simp_all
 refine min_intList (I.ok.hd hc) hl hsz λv h' tk hv hk=>?_;obtain⟨t,rfl⟩:=intItems_at hv;obtain⟨h1,h2⟩:=argBest_lt (numAt xs) (xs.size-1);have e2:numAt xs (argBest (λi j=>decide (numAt xs i<numAt xs j)) (xs.size-1))=Wz n rr:=by
  refine Zgk ?_ λa ha=>?_
  ·rw[hns,numAt_eq];exact getD_mem (by rw[qh,qX];omega)
  ·rw[hns]at ha
   obtain⟨j,hj,rfl⟩:=mem_getD ha;rw[qh,qX]at hj;rw[<-numAt_eq];exact h2 j (by omega)
 rw[e2];exact⟨.int (Wz n rr),H,I.kept hk,⟨_,rfl⟩,q⟩
theorem ZhF (hc:X.calm=true):Wk X G (.builtin "min") ZlF:=
 ⟨_,ZjP hc,λHf H s xs ds c Q e1 st r q k=>by
  match ds,q,r with
  | [.lst es],q,r=>
   have q:(match ZH es with | some (n::r)=>some (D.int (Wz n r)) | _=>none)=some c:=q
   cases he:ZH es with
   | none=>simp_all
   | some ns=>
    cases ns with
    | nil=>simp_all
    | cons n rr=>
     rw[he]at q
     cases q
     obtain⟨v,rfl,rv⟩:=ji r;obtain⟨p,vs,rfl,np,hp,rp⟩:=jb.mp rv;rw[Wq he]at rp;rw[jk rp]at hp;exact⟨p,n,rr,rfl,ZD.of (e1 _ _ np hp),k _ Hf H (.refl e1) st (ja.mpr rfl) (.scal λz=>z)⟩⟩
def Zo0 (K:qd):V->List V->Hp->VK->Prop:=λx vs H Q=>∃(p:Addr) (ns:List Int) (k:Int),x=.ref p/\vs=[.int k]/\ZD K H p (ns.map V.int)/\k∈ns/\Q (.int (ns.idxOf k:Nat)) H
theorem ZlG : MtR X "list.index" (Zo0 X.K) := by
  intro jM s σ H x xs v us Q I rx rv h;obtain⟨p, ns, k, rfl, rfl, hp, hk, q⟩ := h
  cases rx
  obtain⟨u, rfl, t, rfl⟩ := XT rv;obtain⟨jO, r2, pl, hz⟩ := I.list hp;have hi : IntsAre jO ns := WR r2;obtain⟨⟨c0, d0, dat, sl0⟩, hob, hcl, n0, hdat⟩ := id pl.isList;simp only at hcl hdat;subst hcl hdat;have l1 := hi.length;have l2 : ns.idxOf k < ns.length := by rw[qap]; exact hk
  have l3 : ns.length <= xg := by simpa using hz
  have l4 := BP;have go := SeqAt.list_indexAt p jO.toArray n0 d0 sl0 (.int k t) (isInt k) (ns.idxOf k) (by simpa[l1] using l2) (by omega)
    (by show isInt k jO[ns.idxOf k] = true
        rw[isInt_at k hi (ns.idxOf k) (by omega) l2]; simp)
    (λj hjs hlt => by
        show isInt k jO[j] = false;rw[isInt_at k hi j (by omega) (by omega)]; exact ne_of_lt_idxOf hlt _)
  refine call_meets qbF ⟨_, hob, rfl⟩ PySem.F.entry_list_index (PySem.F.args_list_index_2 _ _) go ⟨hob, λy hy => (eq_isInt k t hi y (by simp_all)).at _ _, ?_⟩;exact⟨.int (ns.idxOf k : Nat), H, I.tok _, ⟨_, rfl⟩, q⟩
def Zff:D->D->Option D
 | .lst ds,.int k=>(ZH ds).bind λns=>if k∈ns then some (.int (ns.idxOf k:Nat))else none
 | _,_=>none
theorem ZlH {ap cp:Pos}(ho:PD X G r1 o fo)(he:PD X G r2 e fe)
  (hbase:xq o "index" X.env (eval o X.env)=eval o X.env:=by rfl)
  (hfew:((backTo cp (xh [e] X.env)).all (λx=>!x.1)&&(xp cp (xi [] X.env)).all (λx=>x.1.isSome)
   && decide ([e].length+([]:List Keyword).length+(if ([]:List Keyword).isEmpty then 0 else 1)<30))=true:=by rfl)
  (hline:(ap.endLine==cp.line)=true:=by rfl) (hs:xh [e] X.env=(false,eval e X.env)::xh [] X.env:=by rfl) :
  PD X G true (.Call (.Attribute o "index" ap) [e] [] cp) (Zd Zff fo fe):=by
 obtain⟨to,po,qo⟩:=ho.drop;obtain⟨te,pe,qe⟩:=he.drop;refine⟨_,U8 zN qbF PySem.F.type_list_index ZlG po (ZU pe Yn hs) hbase hfew hline hs rfl,fun σ Hf H ρ s d s' Q e1 e2 e3 e4 k=>?_⟩;obtain⟨da,s1,a1,a2⟩:=Zs e4;obtain⟨db,s2,a3,a4⟩:=Zs a2;obtain⟨a5,rfl⟩:=WD a4;refine qo σ Hf H ρ s da s1 _ e1 e2 e3 a1 λx jV H1 g1 jX r1=>?_
 match da,db,a5,r1,a3 with
 | .lst ds,.int kk,a5,r1,a3=>
  have a5:((ZH ds).bind λns=>if kk∈ns then some (D.int (ns.idxOf kk:Nat))else none)=some d:=a5
  cases he:ZH ds with
  | none=>rw[he]at a5;cases a5
  | some ns=>
   rw[he]at a5;have a5:(if kk∈ns then some (D.int (ns.idxOf kk:Nat))else none)=some d:=a5;split at a5
   ·rename_i hmem
    cases a5
    obtain⟨p,vs,rfl,np,hp,rp⟩:=jb.mp r1;refine⟨.inl ⟨rfl,vs,ZD.of (g1.fh _ _ np hp)⟩,?_⟩;refine qe σ jV H1 ρ s1 _ _ _ g1.fh (e2.ext g1.ff) jX a3 λy j6 H2 g2 jY r2=>?_;rw[Wq he]at rp;rw[jk rp]at hp
    cases (ja.mp r2)
    exact⟨p,ns,kk,rfl,rfl,ZD.of (g2.fh _ _ np (g2.ff _ _ np hp)),hmem,k _ j6 H2 (g1.trans g2) jY (ja.mpr rfl) λ_=>.scal λz=>z⟩
   ·cases a5
end
section
variable {X:Cx}{G:Gh}{ob own:List Nat}{fr:Bool}
def keyT:D->Option (List ZG)
 | .tup ks=>Xz ks
 | _=>none
def J3 (i:Nat)(fx fv:Zc->M D):Zc->M Out:=fun ρ=>Zm (fv ρ) λv=>Zm (fx ρ) λx=>match (ρ[i]?).bind id with
 | some (.du kvs)=>match keyT x,Wm v with | some k,some w=>if kvs.length<xg then Zy (.nx (ρ.set i (some (.du (Yf kvs k w)))))else Zq | _,_=>Zq
 | _=>Zq
theorem ZjQ (hu:X.A.units+1<cLine)(hi:i∈own)(hn:PE X (.Name x p1) (ZY i))(px:PE X ex tx)(yx:WZ G own r1 tx fx)(pv':PE X ev tv)(yv:WZ G own r2 tv fv)
  (hs:xr ev (some (.Subscript (.Name x p1) ex p2)) pos.line X.env=pure false) :
  YI X G ob own own fr (.Assign [.Subscript (.Name x p1) ex p2] ev pos) (J3 i fx fv):=by
 refine⟨_,Ze0 hu hn px pv' hs,λkn jS H0 σ H ρ s out s' E ⟨Hf,j⟩ st e po=>?_⟩;obtain⟨v,s1,a1,a2⟩:=Zs e;obtain⟨xx,s2,a3,a4⟩:=Zs a2;refine yv kn jS H0 σ Hf H ρ s v s1 _ j st a1 λw jV H1 j1 e1 e2 jX r1 _=>?_
 cases hb:(ρ[i]?).bind id with
 | none=>rw[hb]at a4;cases a4
 | some c=>
  rw[hb]at a4
  cases c with
  | du kvs=>
   have a4':(match keyT xx,Wm v with | some k,some w=>if kvs.length<xg then Zy (Out.nx (ρ.set i (some (.du (Yf kvs k w)))))else Zq | _,_=>Zq) s2=some (out,s'):=a4
   cases hk:keyT xx with
   | none=>rw[hk]at a4';cases a4'
   | some k=>
    cases hw:Wm v with
    | none=>rw[hk,hw]at a4';cases a4'
    | some w'=>
     rw[hk,hw]at a4';obtain⟨hl,a5⟩:=YQ a4';obtain⟨rfl,rfl⟩:=ZC a5;have ei:=JH hb;obtain⟨a,h1,h2,h3,h4,h5⟩:=j1.ow i _ hi ei;refine⟨_,h1,?_⟩;refine yx kn jS H0 σ jV H1 ρ s1 _ _ _ j1 jX a3 λw2 j6 H2 j2 e3 e4 jY r2 _=>?_;obtain⟨a',h1',h2',h3',h4',h5'⟩:=j2.ow i _ hi ei;rw[h1]at h1';cases h1';have ew:=Zbj hw r1;subst ew
     match xx,hk,r2 with
     | .tup ks,hk,r2=>
      obtain⟨q,vs,rfl,nq,hq,rq⟩:=jc.mp r2;have ey:=UT (show Xz ks=some k from hk) rq;subst ey;refine⟨a,_,rfl,WJ.t (show H2 a=some (.dT kvs)from h5') (j2.gr.fh _ _ nq hq) (by omega),?_⟩;exact po σ _ ⟨j6,j2.put hi ei h1 (show Zi H2 a (.dT (Yf kvs k w)) a=some (.dT (Yf kvs k w))from ZE)⟩ (jq jY h2)
  | _=>cases a4
theorem Zde (hu:X.A.units+1<cLine)(hi:i∈own)(hn:PE X (.Name x p1) (ZY i))(hx:PD X G r1 ex fx)(hv:PD X G r2 ev fv)
  (hs:xr ev (some (.Subscript (.Name x p1) ex p2)) pos.line X.env=pure false:=by rfl) :
  YI X G ob own own fr (.Assign [.Subscript (.Name x p1) ex p2] ev pos) (J3 i (fun ρ=>fx (Yk own ρ)) (fun ρ=>fv (Yk own ρ))):=by
 obtain⟨tv,pv',qv⟩:=hv;obtain⟨tx,px,qx⟩:=hx;have yv:X4 G r2 tv fv:=qv;have yx:X4 G r1 tx fx:=qx;exact ZjQ hu hi hn px yx.a pv' yv.a hs
end
end TF
namespace HT
theorem Zgl:isSubtype (.type "tuple") (.type "set")=pure false:=by rfl
theorem Zcp:isSubtype (.type "tuple") (.type "frozenset")=pure false:=by rfl
section
variable {prog:xB}{w:World}{A:xC}{E:xD}{s:Shared}
abbrev YD (led:Bool):Obj:={ cls:=.type "set",dict:=none,data:=.set #[] 0 (.fresh 0 0 led) }
theorem set_of_tuple {l:Addr}{items:Array Value}{ns:List Int}{Q:xD}(hh:A.handled=none)(hl:s.heap.IsTuple l items)(hi:IntsAre items.toList ns)(hb:items.size+1<scanBound)
  (h:∀(h':Heap) (tk:Nat),h'.SetOf (intKind prog w) s.heap.objs.size (λk'=>(firstMet (λi=>ns.getD i 0) items.size).any (· == k')) (firstMet (λi=>ns.getD i 0) items.size).length->(∀b o,b<s.heap.objs.size->s.heap.get? b=some o->h'.get? b=some o)->Q (.ref s.heap.objs.size) { s with heap:=h',toks:=tk }) :
  xf (xz prog w) A (call (.type "set") [.ref l]) Q E s:=by
 obtain⟨c,tl,hmro⟩:=qN.mro;have hmade:=qN.made;have hsub:=qN.sub;refine xy (codeAny_of_tree ?_);show xf _ _ (callAny (.type "set") _) _ _ _;refine xb ⟨yQ _ (by decide +kernel),xm qaz ?_⟩;rw[qbc (weight_type_call_type "set" [.ref l] []) rfl];have h1:=qN.notType;have h2:=qN.canCreate;have hct:=qaK (.ref l)
 repeat (any_goals (first | assumption | wp_step))
 refine codeAny_mono (code_set_new_1 (.ref l) (E:=E) (Q₁:=λobj s₁=>∃led:Bool,obj=.ref s.heap.objs.size/\s₁ = { s with heap:=s.heap.push (YD led) }) λled=>⟨led,rfl,rfl⟩) λr s₁ hr=>?_
 cases r with
 | error e=>exact hr
 | ok fl=>
  cases fl with
  | ret obj=>
   obtain⟨led,rfl,rfl⟩:=hr;have hS:(s.heap.push (YD led)).get? s.heap.objs.size=some (YD led):=qq _ rfl;have hT:qaN { s with heap:=s.heap.push (YD led) } (.ref s.heap.objs.size) "set":=⟨_,hS,rfl⟩;have hli:=qN.init.lookup;have hbi:=qN.init.bind (.ref s.heap.objs.size)
   repeat (any_goals (first | assumption | wp_step))
   refine codeAny_mono (codeAny_call_builtin (R:=wants (λr s₂=>r=.none/\∃h' tk,s₂ = { s with heap:=h',toks:=tk }/\h'.SetOf (intKind prog w) s.heap.objs.size (λk'=>(firstMet (λi=>ns.getD i 0) items.size).any (· == k')) (firstMet (λi=>ns.getD i 0) items.size).length/\(∀b o,b<s.heap.objs.size->s.heap.get? b=some o->h'.get? b=some o)) E) qN.init.plain qaL (check_set_init_1 hT ?_)) λr₂ s₂ hr₂=>?_
   ·obtain⟨ol,hol,hcl,nl,hdl⟩:=hl;obtain⟨ocls,odict,odata,oslots⟩:=ol
    simp only at hcl hdl;subst hcl;subst hdl;have hol':(s.heap.push (YD led)).get? l=some { cls:=.type "tuple",dict:=odict,data:=.seq items nl,slots:=oslots }:=qf _ hol;have z1:=Zgl;have z2:=Zcp;have hne:(zQ "tuple" == zQ "dict")=false:=by decide
    have hl1:(s.heap.push (YD led)).IsTuple l items:=⟨_,hol',rfl,nl,rfl⟩;unfold Builtin.«set.__init__» noKeywords yW;generalize hPI:pyIter=PI
    wp_walk
    subst hPI;refine wpAny_pyIter_tuple hl1 ?_;refine xa (wpAny_runValue ?_);have hlS:l<s.heap.objs.size:=qy hol;have hh3:A.in1.in1.in1.handled=none:=by simp[hh]
    have hneI:l≠(s.heap.push (YD led)).objs.size:=by rw[zu];exact qA (zl hlS)
    have hSf:s.heap.objs.size∉[(s.heap.push (YD led)).objs.size,l]:=by
     rw[zu];simp only[qu,qL,zi,or_false,not_or];exact⟨qA (yh _),qaj hlS⟩
    have hval:∀(i:Nat) (v:Value),items[i]?=some v->∃t,v=.int ((λi=>ns.getD i 0) i) t:=λi v hv=>qbT hi i v (by rw[zY];exact hv);refine codeAny_set_update_loopS ((Walks.tuple hh3 _ l hneI items).toS) s.heap.objs.size hSf (λi=>ns.getD i 0) hval hb (items.size-0) 0 _ (by omega) (za _) ⟨⟨_,qq _ rfl,rfl,rfl⟩,(hl1.push _)⟩ ?hS0 ?hR
    case hS0=>
     have hget:((s.heap.push (YD led)).push { cls:=.type "tuple_iterator",data:=.fields #[.ref l,.int 0 0] }).get? s.heap.objs.size=some (YD led):=qf _ hS;exact SetOf_congr ((setObjOf_fresh (knd:=intKind prog w) led).setOf hget (by unfold scanBound;omega)) (λ_=>rfl) rfl
    case hR=>
     intro s' hm hS';obtain⟨h',g',d',tk',os'⟩:=s';have eg:g'=s.gens:=hm.gens;have ed:d'=s.drawn:=hm.drawn;have eo:os'=s.os:=hm.os;subst eg;subst ed;subst eo;show xf _ _ _ _ _ _;refine xb ?_;show xf _ _ (ret qW) _ _ _;refine xb ⟨rfl,h',tk',rfl,hS',λb o hb e=>?_⟩;have hb1:b≠s.heap.objs.size:=qA hb;have hb2:b≠(s.heap.push (YD led)).objs.size:=by rw[zu];exact qA (zl hb)
     exact hm.heap b o (by simp only[qu,qL,zi,or_false,not_or];exact⟨hb1,hb2⟩) (qf _ (qf _ e))
   ·cases r₂ with
    | error e=>exact hr₂
    | ok fl₂=>
     cases fl₂ with
     | ret r=>
      obtain⟨rfl,h',tk,rfl,hS',hk'⟩:=hr₂;repeat (any_goals (first | assumption | wp_step))
      exact h _ _ hS' hk'
     | next=>exact hr₂.elim
     | brk=>exact hr₂.elim
     | cont=>exact hr₂.elim
  | next=>exact hr.elim
  | brk=>exact hr.elim
  | cont=>exact hr.elim
end
end HT
namespace TF
open L2
section
variable {X:Cx}{G:Gh}
def XX (ns:List Int):Nat:=(ns.foldl step_dedup []).length
theorem Za0 (ns:List Int)(n:Nat)(h:n=ns.length):firstMet (λi=>ns.getD i 0) n=ns.foldl step_dedup []:=by
 unfold firstMet;congr 1;apply yT;intro i;rw[qG];by_cases hi:i<ns.length
 ·simp_all
 ·grind
theorem ZjR (hc:X.calm=true):Xi X (.type "set") (λxs H Q=>∃(p:Addr) (ns:List Int),xs=[.ref p]/\(ZD X.K H p (ns.map V.int)∨ZO X.K H p (ns.map V.int))/\ns.length<=1000/\∀l S,H l=none->Q (.ref l) (Zi H l (.set S (XX ns)))):=by
 intro jM s σ H xs us Q I r h;obtain⟨p,ns,rfl,hp,hl,q⟩:=h;obtain⟨u,rfl,ru⟩:=XT r
 cases ru
 have hsb:(1000:Nat)+1<scanBound:=by unfold scanBound;omega
 have fin:∀(items:Array Value) (_:IntsAre items.toList ns) (h':Heap) (tk:Nat),h'.SetOf (intKind X.prog X.w) s.heap.objs.size (λk'=>(firstMet (λi=>ns.getD i 0) items.size).any (· == k')) (firstMet (λi=>ns.getD i 0) items.size).length->(∀b o,b<s.heap.objs.size->s.heap.get? b=some o->h'.get? b=some o)->EP X jM σ Q (.ref s.heap.objs.size) { s with heap:=h',toks:=tk }:=λitems hi h' tk hS hk=>by
  have e:=Za0 ns _ (by rw[<-hi.length,qX]);rw[e]at hS;exact⟨.ref s.heap.objs.size,_,I.laid (o:=.set (λk'=>(ns.foldl step_dedup []).any (· == k')) (XX ns)) (λb o e=>hk b o (qy e) e) (qp _) hS,rfl,q _ _ (I.hok.fresh (qp _))⟩
 rcases hp with hp | hp
 ·obtain⟨jO,rv,pl,hz⟩:=I.list hp
  have hi:=WR rv;have hll:=hi.length;exact call_set_list (I.ok.hd hc) pl.isList (by omega) (by simp;omega) (fin jO.toArray (by omega))
 ·obtain⟨jO,rv,pl,hz⟩:=I.tuple hp
  have hi:=WR rv;have hll:=hi.length;exact HT.set_of_tuple (I.ok.hd hc) (show s.heap.IsTuple p jO.toArray from pl) (by omega) (by simp;omega) (fin jO.toArray (by omega))
theorem Zgm:Xi X (.builtin "len") (λxs H Q=>∃(p:Addr) (S:Int->Bool) (n:Nat),xs=[.ref p]/\H p=some (.set S n)/\n<=1000/\Q (.int n) H):=by
 intro jM s σ H xs us Q I r h;obtain⟨p,S,n,rfl,hp,hn,q⟩:=h;obtain⟨u,rfl,ru⟩:=XT r
 cases ru
 obtain⟨o,es,ep,t,h1,h2,h3,h4,h5,h6,h7,h8⟩:=(show s.heap.SetOf (intKind X.prog X.w) p S n from I.hok p _ hp);refine call_len_set h1 h2 h3 h7 (by omega) ?_;rw[h8];exact⟨.int n,H,I.tok _,⟨_,rfl⟩,q⟩
theorem ZiC (ns:List Int):∀jT:List Int,(ns.foldl step_dedup jT).length<=jT.length+ns.length:=by
 induction ns with
 | nil=>simp
 | cons a r ih=>
  intro jT;have:(step_dedup jT a).length<=jT.length+1:=by unfold step_dedup;split <;> simp
  grind
theorem ZjS (ns:List Int):XX ns<=ns.length:=by
 have:=ZiC ns [];simpa[XX]using this
def BL (f:Zc->M D):Zc->M D:=fun ρ=>Zm (f ρ) λd=>match d with
 | .tup ds=>(match ZH ds with | some ns=>if ns.length<=1000 then Zy (.int (XX ns:Nat))else Zq | none=>Zq)
 | .lst ds=>(match ZH ds with | some ns=>if ns.length<=1000 then Zy (.int (XX ns:Nat))else Zq | none=>Zq)
 | _=>Zq
theorem ZjT {p1 p2 pos1 pos:Pos}(hc:X.calm=true)(hg:Gl X "len")(hm:X.mg "len" = none)(hv:xj "len" = some (.builtin "len"))(hg2:Gl X "set")(hm2:X.mg "set" = none)(hv2:xj "set" = some (.type "set"))(ha:PD X G r1 a f)
  (hs:xh [a] X.env=(false,eval a X.env)::xh [] X.env:=by rfl)
  (hs2:xh [qck (.Name "set" p2) [a] [] pos1] X.env=(false,eval (qck (.Name "set" p2) [a] [] pos1) X.env)::xh [] X.env:=by rfl) (hpl:(backTo pos (xh [] X.env)).any (·.1)=false:=by rfl) (hpl1:(backTo pos1 (xh [] X.env)).any (·.1)=false:=by rfl) :
  PD X G true (.Call (.Name "len" p1) [.Call (.Name "set" p2) [a] [] pos1] [] pos) (BL f):=by
 obtain⟨t,pa,qa⟩:=ha.drop;refine⟨_,V9 Zgm hg hm hv (ZU (UU (ZjR hc) hg2 hm2 hv2 (ZU pa Yn hs) (by decide) (by decide) hs hpl1) Yn hs2) (by decide) (by decide) hs2 hpl,fun σ Hf H ρ s d s' Q e1 e2 e3 e4 k=>?_⟩;obtain⟨d0,s1,a1,a2⟩:=Zs e4;refine qa σ Hf H ρ s d0 s1 _ e1 e2 e3 a1 λv jV H1 g1 jX r1=>?_;have go:∀ns:List Int,(if ns.length<=1000 then Zy (D.int (XX ns:Nat))else Zq) s1=some (d,s')->(∃p,v=.ref p/\(ZD X.K H1 p (ns.map V.int)∨ZO X.K H1 p (ns.map V.int)))->∃(p:Addr) (ns:List Int),[v]=[.ref p]/\(ZD X.K H1 p (ns.map V.int)∨ZO X.K H1 p (ns.map V.int))/\ns.length<=1000/\∀l S,H1 l=none->∃(p:Addr) (S':Int->Bool) (n:Nat),[V.ref l]=[.ref p]/\Zi H1 l (.set S (XX ns)) p=some (.set S' n)/\n<=1000/\Q (.int n) (Zi H1 l (.set S (XX ns))):=λns h ⟨p,ev,hp⟩=>by
  obtain⟨hl,h⟩:=YQ h;obtain⟨rfl,rfl⟩:=ZC h;have hu:=ZjS ns;refine⟨p,ns,by rw[ev],hp,hl,λl S hn=>⟨l,S,XX ns,rfl,ZE,by omega,?_⟩⟩;have nf:=Gh.nofp jX hn;have g2:=Gr.new (o:=.set S (XX ns)) g1.fh hn nf;exact k _ _ _ (g1.trans g2) (Gh.grow jX hn) (ja.mpr rfl) λ_=>.scal λz=>z
 match d0,a2,r1 with
 | .tup ds,a2,r1=>
  have a2:(match ZH ds with | some ns=>if ns.length<=1000 then Zy (D.int (XX ns:Nat))else Zq | none=>Zq) s1=some (d,s'):=a2
  cases he:ZH ds with
  | none=>rw[he]at a2;cases a2
  | some ns=>
   rw[he]at a2;obtain⟨p,vs,rfl,np,hp,rp⟩:=jc.mp r1;rw[Wq he]at rp;rw[jk rp]at hp;exact go ns a2 ⟨p,rfl,.inr (ZO.of (g1.fh _ _ np hp))⟩
 | .lst ds,a2,r1=>
  have a2:(match ZH ds with | some ns=>if ns.length<=1000 then Zy (D.int (XX ns:Nat))else Zq | none=>Zq) s1=some (d,s'):=a2
  cases he:ZH ds with
  | none=>rw[he]at a2;cases a2
  | some ns=>
   rw[he]at a2;obtain⟨p,vs,rfl,np,hp,rp⟩:=jb.mp r1;rw[Wq he]at rp;rw[jk rp]at hp;exact go ns a2 ⟨p,rfl,.inl (ZD.of (g1.fh _ _ np hp))⟩
theorem Zau (ns:List Int):(ns.foldl step_dedup []).Nodup/\∀x,x∈ns.foldl step_dedup []↔x∈ns:=by
 have gen:∀(r jT:List Int),jT.Nodup->(r.foldl step_dedup jT).Nodup/\∀x,x∈r.foldl step_dedup jT↔x∈jT∨x∈r:=by
  intro r
  induction r with
  | nil=>intro jT h;exact⟨h,λx=>by simp⟩
  | cons a r ih=>
   intro jT h;show(r.foldl step_dedup (step_dedup jT a)).Nodup/\∀x,x∈r.foldl step_dedup (step_dedup jT a)↔_;by_cases m:jT.any (· == a)=true
   ·have e:step_dedup jT a=jT:=by unfold step_dedup;rw[if_pos m]
    rw[e];obtain⟨h1,h2⟩:=ih jT h;obtain⟨y,hy,ey⟩:=y8.mp m;have ey:y=a:=by simpa using ey
    subst ey;refine⟨h1,λx=>?_⟩;rw[h2 x];constructor
    ·rintro(z | z)
     ·exact .inl z
     ·exact .inr (qZ _ z)
    ·rintro(z | z)
     ·exact .inl z
     ·rcases qu.mp z with z | z
      ·subst z;exact .inl hy
      ·exact .inr z
   ·have e:step_dedup jT a=jT ++ [a]:=by unfold step_dedup;rw[if_neg m]
    rw[e];have na:a∉jT:=λz=>m (y8.mpr ⟨a,z,by simp⟩);obtain⟨h1,h2⟩:=ih (jT ++ [a]) (qaC.mpr ⟨h,by simp,λx hx y hy=>by
     grind⟩)
    refine⟨h1,λx=>?_⟩;rw[h2 x];simp
    grind
 simp_all
end
end TF
namespace HT
section
variable {prog:xB}{w:World}{A:xC}{R:Result->Shared->Prop}{I:Addr}{fp wr:List Addr}{n:Nat}{P:Nat->Value->Prop}{St:Nat->Heap->Prop}
end
section
variable {prog:xB}{w:World}{A:xC}{E:xD}{s:Shared}
end
section
variable {prog:xB}{w:World}{A:xC}{R:Result->Shared->Prop}{I:Addr}{fp wr:List Addr}{n:Nat}{P:Nat->Value->Prop}{St:Nat->Heap->Prop}
end
section
variable {prog:xB}{w:World}{A:xC}{E:xD}{s:Shared}
end
end HT
namespace L2
section
variable {X:Cx}
theorem ZdV {id:String}:qbj M h (keeperOf (.builtin id)) Keeper.machine:=λA Q E s _ q=>by
 exact xb q
end
end L2
namespace TF
open L2
section
variable {X:Cx}{G:Gh}
end
end TF
namespace TS
open L2
section
variable {prog:xB}{w:World}{A:xC}{E:xD}{s:Shared}
end
end TS
namespace TF
open L2 TS
section
variable {X:Cx}{G:Gh}
end
end TF
namespace TP2
open L2 TF TP
end TP2
namespace TP3
open L2 TF TP
open TP2
def Zfg:Zc->M Out:=(Zg (ZL (Zx ZlF (Zb (ZQ [none,some 0] (ZW (Zd Y0 (Zx Yo (Zb (Za 0) Ze)) (dC (.int 1)))) (Zv 0) (asB (Zd WG (Za 0) (Za 1))) (Za 0)) Ze)))
 Zp)
def Jy:List D->M D:=runB 1 1 Zfg
def ZbO:Zc->M Out:=(Zg (Yw (X2 (Wa (asB (Zx XU (Zb (Za 1) (Zb (dC (.ty "tuple")) Ze))))) (asB (Zd Y9 (Zx Yo (Zb (Za 1) Ze)) (Zd Zj (Za 0) (dC (.int 0))))))
 (Zg (ZL (dC (.bl false)))
 Zp)
 Zp)
 (Zg (YS (Uk (Za 1)) (Zv 2)
 (Zg (Yw (X2 (Wa (asB (Zx XU (Zb (Za 2) (Zb (dC (.ty "int")) Ze))))) (X2 (asB (Zx XU (Zb (Za 2) (Zb (dC (.ty "bool")) Ze)))) (Wa (Uh (dC (.int 0)) (VT Vg (Za 2) (VS WC (Zd Zj (Za 0) (dC (.int 0)))))))))
 (Zg (ZL (dC (.bl false)))
 Zp)
 Zp)
 Zp))
 (Zg (ZL (Zd Xk (ZQ [none,some 1] (Uk (Zd Zj (Za 0) (dC (.int 1)))) (Zv 0) (asB (Zd Xk (Zd Zj (Za 1) (Zd Zj (Za 0) (dC (.int 0)))) (Zd Zj (Za 1) (Zd Zj (Za 0) (dC (.int 1)))))) (Za 0)) (Y4 Ze)))
 Zp)))
def Bj:List D->M D:=runB 3 2 ZbO
end TP3
namespace TQ
open L2 TF TQ
open TP
open TP2
open TP3
def ZjU:Zc->M Out:=(Zg (ZL (WK (Zd WC (Zd Zj (Za 0) (dC (.int 0))) (Zd Zj (Za 1) (dC (.int 1)))) (Zd WC (Zd Zj (Za 1) (dC (.int 0))) (Zd Zj (Za 0) (dC (.int 1))))))
 Zp)
def ZjV:List D->M D:=runB 2 2 ZjU
def ZbP:Zc->M Out:=(Zg (ZL (Bc (Zd Xk (Za 1) (Za 2)) (Zu Vl (Zb (Za 0) (Zb (Za 1) (Zb (Za 2) Ze))))))
 Zp)
def ZaD:List D->M D:=runB 3 3 ZbP
def Zfh:List D->M D:=runB 4 4 (Zg (Yw (asB (Zd Xk (Zd Zj (Za 0) (dC (.int 0))) (Zd Zj (Za 1) (dC (.int 0)))))
 (Zg (ZL (Zu Vl (Zb (Zd Zj (Za 2) (Zd Zj (Za 0) (dC (.int 0)))) (Zb (Zd Zj (Za 0) (dC (.int 1))) (Zb (Zd Zj (Za 1) (dC (.int 1))) Ze)))))
 Zp)
 Zp)
 (Zg (ZL (Zu Vl (Zb (Za 3) (Zb (Zd Zj (Za 0) (dC (.int 0))) (Zb (Zd Zj (Za 1) (dC (.int 0))) Ze)))))
 Zp))
def ZbQ:List D->M D:=Y1 3 (J6 (Zu Vl (Zb (Za 2) (Zb (Za 0) (Zb (Za 1) Ze)))))
def Zdf:List D->M D:=runB 4 4 (Zg (ZL (WK (Zu ZaD (Zb (Za 2) (Zb (Zd Zj (Za 0) (dC (.int 0))) (Zb (Zd Zj (Za 1) (dC (.int 0))) Ze)))) (Zu ZaD (Zb (Za 3) (Zb (Zd Zj (Za 0) (dC (.int 1))) (Zb (Zd Zj (Za 1) (dC (.int 1))) Ze))))))
 Zp)
def Zbp:List D->M D:=Y1 3 (Zu Vl (Zb (Za 2) (Zb (Za 0) (Zb (Za 1) Ze))))
def ZaA:List D->M D:=Y1 3 (Bc (Zd YF (ZZ (Zb (Za 0) (Zb (Za 1) Ze))) (Za 2)) (Zd YF (ZZ (Zb (Za 1) (Zb (Za 0) Ze))) (Za 2)))
def Zdg:List D->M D:=Y1 3 (Zd Y9 (Zd dMod (Za 0) (Za 2)) (Zd dMod (Za 1) (Za 2)))
def ZbR:List D->M D:=Y1 4 (Zd YF (Zx Jc (Zb (Zd dSub (Za 1) (Za 0)) (Zb (Zd Y0 (Zd dSub (Za 2) (Za 1)) (Za 0)) Ze))) (Za 3))
def Tl:Nat->List D->M D
 | 0=>ZbQ
 | 1=>Zbp
 | 2=>ZjV
 | 3=>Zfh
 | 4=>Zdf
 | 5=>ZaA
 | 6=>Zdg
 | 7=>ZbR
 | _=>λ_=>Zq
def Zgn:Zc->M Out:=(Zg (ZS 2 (Zu Br (Zb (VF (Zx Yo (Zb (Za 0) Ze))) Ze)))
 (Zg (ZL (ZZ (Zb (Zx Yo (Zb (Za 0) Ze)) (Zb (Zx JL (Zb (ZQ [none,some 1,some 0] (ZX (Za 2)) (Zv 0) (asB (dApp Tl 1 (Zb (Zd Zj (Za 2) (Zd Zj (Za 0) (dC (.int 0)))) (Zb (Zd Zj (Za 2) (Zd Zj (Za 0) (dC (.int 1)))) Ze)))) (Za 0)) Ze)) Ze))))
 Zp))
def Ux:List D->M D:=runB 3 2 Zgn
def ZlI:Zc->M Out:=(Zg (ZS 1 (Zu UP (Zb (Za 0) Ze)))
 (Zg (ZL (J8 Ux 0 [1] (VF (Zd Zj (Za 0) (dC (.int 0))))))
 Zp))
def JE:List D->M D:=runB 2 1 ZlI
end TQ
namespace TF
open L2
def ZhG (K:qd)(L:List (Addr×Str)):Sp:=λvs H Q _=>∃(a:Addr) (ns:List Int),vs=[.ref a]/\ZD K H a (ns.map V.int)/\ns.length<=63/\(∀P q,(P,q)∈L->H P=some (.tbl #[]))/\∀H',Q (.bl true) H'
theorem ZhH {L:List (Addr×Str)}{tb:List (Str×Addr×Addr)}{H:Hp}(h:∀P q,(P,q)∈L->∃x c,(x,c,P)∈tb)(hT:∀e∈tb,H e.2.2=some (.tbl #[])):∀P q,(P,q)∈L->H P=some (.tbl #[]):=λP q m=>by
 obtain⟨x,c,z⟩:=h P q m;exact hT _ z
theorem ZpL (h:∀P q,(P,q)∈L->H P=some (.tbl #[])):∀P q,(P,q)∈L->Zn5 G0 L P q H:=λP q m=>⟨#[],h P q m,trivial,λpos cv hc=>by cases hc⟩
theorem ZjW {H0:Hp}(st:stD p wa ([m,0],w) H)(hTb:∀P q,(P,q)∈L->H0 P=some (.tbl #[]))(kp:∀b u,H0 b=some u->H b=some u)(hp:H0 p=none)(hw:H0 wa=none)(hQ:∀H',Q (.bl true) H')
  (hg:g (none::some .pen::qm n none) ([m,0],w)=some (.rt (.bl true),s')) :
  ∃G,WL We L G/\ZnZ G [] [] [] false g { nx:=λ_ H'=>Q .non H',rt:=Q } (some x::some (.ref p)::qm n none) H:=by
 refine⟨Je (Xl p wa) L,⟨Xl p wa,⟨p,wa,rfl⟩,λb ⟨q,mb⟩ hb=>?_,rfl⟩,λ_=>none,λ_=>none,H,none::some .pen::qm n none,([m,0],w),_,s',⟨λ_=>none,⟨by simp,.refl _ _,.refl (λb o _ e=>by cases e),λi d _ e=>?_,λi d m=>by simp at m,λi j b di dj m=>by simp at m⟩⟩,⟨st,ZpL λP q z=>kp _ _ (hTb P q z)⟩,hg,λv Hf' H' g st r _=>?_⟩
 ·have e:=hTb b q mb
  rcases hb with rfl | rfl
  ·grind
  ·simp_all
 ·match i,e with
  | 0,e=>cases e
  | 1,e=>cases e;exact⟨_,rfl,jo.mpr rfl⟩
  | i+2,e=>
   have e':(qm n (none:Option D))[i]?=some (some d):=e;rw[z9]at e';simp_all
 ·rw[je.mp r]
  exact hQ H'
theorem lok_nd:∀{L:List (Addr×Str)},(L.map (·.1)).Nodup->W4 L
 | [],_=>λP q q' h=>by simp at h
 | (a,b)::L,nd=>λP q q' h1 h2=>by
  rw[zT,zx]at nd;rcases qu.mp h1 with e1 | m1
  ·grind
  ·rcases qu.mp h2 with e2 | m2
   ·grind
   ·exact lok_nd nd.2 P q q' m1 m2
theorem Zgo (xs:List Int):Y6 (xs.map D.int)=true:=by
 induction xs with
 | nil=>rfl
 | cons a r ih=>simp only[zT,Y6,ih];rfl
theorem ZjX:∀ds s d s',VM ds s=some (d,s')->Y6 ds=true/\YZ d=true:=λds s d s' h=>by
 unfold VM at h;split at h
 ·obtain⟨_,h⟩:=YQ h
  obtain⟨xs,s1,_,h2⟩:=Zs h;obtain⟨rfl,rfl⟩:=ZC h2;exact⟨rfl,(Zgo xs)⟩
 ·cases h
end TF
namespace TT
section
variable {M:Model}{A:xC}{E:xD}{s:Shared}
end
section
variable (rk:Keyed->Int)
variable {rk}{a b out:Array Keyed}{ia ib:Nat}
end
section
variable {M:Model}{A:xC}{E:xD}{s:Shared}
variable {rk:Keyed->Int}{κ:SortKind}{In:Keyed->Prop}
end
section
variable (rk:Keyed->Int)
variable {rk}{a b out:Array Keyed}{na nb:Nat}
end
section
variable {M:Model}{A:xC}{E:xD}{s:Shared}{rk:Keyed->Int}{κ:SortKind}{In:Keyed->Prop}
end
section
variable {M:Model}{A:xC}{E:xD}{s:Shared}{rk:Keyed->Int}{κ:SortKind}{In:Keyed->Prop}
end
section
variable (rk:Keyed->Int)
end
section
variable {rk:Keyed->Int}
end
section
variable {M:Model}{A:xC}{E:xD}{s:Shared}{rk:Keyed->Int}{κ:SortKind}{In:Keyed->Prop}
end
section
variable {M:Model}{A:xC}{E:xD}{s:Shared}{rk:Keyed->Int}{κ:SortKind}{In:Keyed->Prop}
end
section
variable {M:Model}{A:xC}{E:xD}{s:Shared}{rk:Keyed->Int}{κ:SortKind}{In:Keyed->Prop}{a₀:List Keyed}
end
section
variable {M:Model}{A:xC}{E:xD}{s:Shared}{rk:Keyed->Int}{κ:SortKind}{In:Keyed->Prop}{a₀:List Keyed}
end
open Classical L2 TS in
section
variable {prog:xB}{w:World}{A:xC}{E:xD}{s:Shared}
end
end TT
namespace TF
open L2
section
variable {X:Cx}{G:Gh}
def Zn8 (i j l:Nat):D->Zc->Option Zc:=λd ρ=>match d with | .tup [a,b,c]=>some (((ρ.set i (some a)).set j (some b)).set l (some c)) | _=>none
theorem ZlJ {i j l:Nat}{pos:Pos}{k:Nat}(hc:X.calm=true)(oi:ok i)(oj:ok j)(ol:ok l)
  (hn:(assignEach [.Name x px,.Name y py,.Name z pz] X.env).length=3:=by rfl) (hst:(assignEach [.Name x px,.Name y py,.Name z pz] X.env).findIdx? (·.1)=none:=by rfl)
  (hp:Bb X [.Name x px,.Name y py,.Name z pz] (JV (Wj i) (JV (Wj j) (JV (Wj l) gNil)))):Vf X G (.Tuple [.Name x px,.Name y py,.Name z pz] k pos) ok (Zn8 i j l):=
 ⟨_,ZkE hc hp hn hst,λx σ Hf H d ρ ρ' Q e r q k=>by
  match d,q,r with
  | .tup [a,b,c],q,r=>
   cases q
   obtain⟨ad,vs,rfl,n,h,rl⟩:=jc.mp r;obtain⟨v1,r1,rfl,q1,q2⟩:=jd.mp rl;obtain⟨v2,r2,rfl,q3,q4⟩:=jd.mp q2;obtain⟨v3,r3,rfl,q5,q6⟩:=jd.mp q4;have:=Zk.nil_iff.mp q6;subst this;exact⟨ad,_,rfl,ZO.of (e _ _ n h),rfl,v1,_,rfl,v2,_,rfl,v3,_,rfl,rfl,k _ (.cons oi q1 (.cons oj q3 (.cons ol q5 .nil)))⟩⟩
theorem ZlK {pos p2 p3:Pos}{fr:Bool}{ob:List Nat}(hi:i∈own)(hv:PE X (.Name x p1) (ZY i))(he:PD X G r1 e f)
  (hbase:xq (.Name x p1) "extend" X.env (eval (.Name x p1) X.env)=eval (.Name x p1) X.env:=by rfl)
  (hfew:((backTo p3 (xh [e] X.env)).all (λx=>!x.1)&&(xp p3 (xi [] X.env)).all (λx=>x.1.isSome)
   && decide ([e].length+([]:List Keyword).length+(if ([]:List Keyword).isEmpty then 0 else 1)<30))=true:=by rfl)
  (hline:(p2.endLine==p3.line)=true:=by rfl) (hs:xh [e] X.env=(false,eval e X.env)::xh [] X.env:=by rfl)
  (hsw:xr (.Call (.Attribute (.Name x p1) "extend" p2) [e] [] p3) none pos.line X.env=pure false:=by rfl) :
  YI X G ob own own fr (.Expr (.Call (.Attribute (.Name x p1) "extend" p2) [e] [] p3) pos) (UK i (fun ρ=>f (Yk own ρ))):=
 Zla hi he λte p=>Zeo hv p hbase hfew hline hs hsw
end
end TF
namespace L2
section
variable {X:Cx}{tg:Expr}
end
end L2
namespace TF
open L2
section
variable {X:Cx}{G:Gh}{ob own:List Nat}{fr:Bool}
end
open Sem (wp)
section
variable {prog:xB}{w:World}{A:xC}{E:xD}{s:Shared}
def Zfi (n:Nat)(a c:Int)(jT:Array Value):Prop:=
 ItemsOf (λi v=>∃t,v=.int (a+i*c) t) jT n
theorem Zgp {n : Nat}
    (hh : A.handled = none) (hr : IsRange s.heap r a b c t u v)
    (hsmall : Builtin.Range.small a b c = true) (hn : yJ a b c = n)
    (jW : n <= 2 ^ 24)
    (hQ : ∀ (h' : Heap) (tk : Nat) (jT : Array Value), (∀ b o', s.heap.get? b = some o' -> h'.get? b = some o') ->
      Zfi n a c jT -> Q jT.toList { s with heap := h', toks := tk }) :
    xf (xz prog w) A (collect (.ref r)) Q E s := by
  unfold collect;apply xa;apply wpAny_runValue;apply xm qbU;rw[zH
    qbV _]
  show xf _ A.in1 (newList [] >>= λz =>
    again (.builtin "list.__iadd__" ⟨[z, .ref r], []⟩)) _ _ s
  apply xa;refine xl ?_;refine xb ⟨plainId_quiet
    qaD _, xm
    F.entry_list_iadd ?_⟩
  rw[zH
    qaD _]
  show xf _ A.in1 (yc
    (.ref s.heap.objs.size) (.ref r)
    (.ref s.heap.objs.size)) _ _ _
  have h0 : (s.heap.push
      { cls := .type "list", data := .seq ([] : List Value).toArray }).get?
      s.heap.objs.size = some { cls := .type "list", data := .seq #[] 0 } :=
    qq _ rfl
  have fin' : ∀ (h' : Heap) (tk : Nat) (jT : Array Value) (k : Nat),
      (∀ b o', s.heap.get? b = some o' -> h'.get? b = some o') ->
      h'.get? s.heap.objs.size = some
        { cls := .type "list", dict := none, data := .seq jT k, slots := #[] } ->
      Zfi n a c jT -> xf (xz prog w) A (match qH s.heap.objs.size with
        | qH a => do
          match (<- load a).data with
            | Data.seq xs _ => pure xs.toList
            | _ => unsupported "internal:collect"
        | _ => unsupported "internal:collect") Q E { s with heap := h', toks := tk } := by
    intro h' tk jT k kp hS hi;show xf _ A (load s.heap.objs.size >>= _) _ _ _;refine xa (wpAny_load hS ?_);exact xb (hQ h' tk jT kp hi)
  refine xc (wpAny_extend_range (A := A)
    (R := λr s' => r = .ok (.ret (.ref s.heap.objs.size)) /\
      ∃ h' tk jT k, (∀ b o', s.heap.get? b = some o' -> h'.get? b = some o') /\
        h'.get? s.heap.objs.size = some
          { cls := .type "list", dict := none, data := .seq jT k, slots := #[] } /\ Zfi n a c jT /\
        s' = { s with heap := h', toks := tk })
    (s := { s with heap := (s.heap.push
      { cls := .type "list", data := .seq ([] : List Value).toArray }) }) hh
    (qf _ hr) hsmall hn jW _ _ 0 h0
    λh' tk acc' c' hk hS' hacc => ⟨rfl, h', tk, acc', c', λb o e => hk b o (qA
      (qy e)) (qf _ e), hS', hacc, rfl⟩)
    (λfin s' h => ?_) (λe s' h => ?_)
  · cases fin with
    | done f =>
      obtain⟨e, h', tk, jT, k, kp, hS, hi, rfl⟩ := h
      cases e
      exact fin' h' tk jT k kp hS hi
    | again c' =>
      refine⟨h.1, codeAny_mono h.2
        λr s'' hr => ?_⟩
      obtain⟨rfl, h', tk, jT, k, kp, hS, hi, rfl⟩ := hr;exact fin' h' tk jT k kp hS hi
  · exact absurd h.1 (by simp)
end
variable {X:Cx}{G:Gh}{f:Zc->M D}
end TF
namespace HT
def W2 (xs:Array Nat):Prop:=xs.toList.Pairwise (· < ·)
theorem W2.lt (h:W2 xs)(hk:k<xs.size)(hi:i<k):xs.getD i 0<xs.getD k 0:=by
 have:=zW.mp h i k (by simp;omega) (by omega) hi;rw[zM,zM,zd (by omega),zd hk];exact this
theorem Zdh (h:W2 xs)(j:Nat):∀(f lo hi:Nat),hi-lo<=f->lo<=hi->hi<=xs.size->(∀i<lo,xs.getD i 0<j)->(∀i,hi<=i->i<xs.size->j<=xs.getD i 0)->
  (∀i<yU xs j f lo hi,xs.getD i 0<j)/\(∀i,yU xs j f lo hi<=i->i<xs.size->j<=xs.getD i 0)/\yU xs j f lo hi<=xs.size
 | 0,lo,hi,e1,e2,e3,a,b=>by
  have:lo=hi:=by omega
  subst this;unfold yU;exact⟨a,b,e3⟩
 | f+1,lo,hi,e1,e2,e3,a,b=>by
  unfold yU;by_cases c:lo<hi
  ·rw[if_pos c]
   dsimp only;have hm:(lo+hi) / 2<xs.size:=by omega
   have eg:xs.getD ((lo+hi) / 2) j=xs.getD ((lo+hi) / 2) 0:=by
    rw[zM,zM,zd hm];rfl
   rw[eg];by_cases d:xs.getD ((lo+hi) / 2) 0<j
   ·rw[if_pos d]
    refine Zdh h j f _ hi (by omega) (by omega) e3 (λi hi'=>?_) b;by_cases z:i<(lo+hi) / 2
    ·exact yF (h.lt hm z) d
    ·have:i=(lo+hi) / 2:=by omega
     rw[this];exact d
   ·rw[if_neg d]
    refine Zdh h j f lo _ (by omega) (by omega) (by omega) a λi hi' hs=>?_;by_cases z:i=(lo+hi) / 2
    ·rw[z];omega
    ·have:=h.lt hs (show(lo+hi) / 2<i by omega)
     omega
  ·rw[if_neg c]
   have:lo=hi:=by omega
   subst this;exact⟨a,b,e3⟩
theorem ZbG (h:W2 xs)(j:Nat):(∀i<qQ xs j,xs.getD i 0<j)/\(∀i,qQ xs j<=i->i<xs.size->j<=xs.getD i 0)/\qQ xs j<=xs.size:=
 Zdh h j xs.size 0 xs.size (by omega) (za _) (qp _) (λi hi=>by omega) λi h1 h2=>by omega
theorem ZhI (h:W2 xs)(hi:i<xs.size):qQ xs (xs.getD i 0+1)=i+1:=by
 obtain⟨a,b,c⟩:=ZbG h (xs.getD i 0+1);have h1:¬qQ xs (xs.getD i 0+1)<=i:=λz=>by
  have:=b i z hi;omega
 by_cases h2:i+1<qQ xs (xs.getD i 0+1)
 ·have:=a (i+1) h2
  have:=h.lt (show i+1<xs.size by omega) (yh i);omega
 ·omega
theorem ZhJ (h:W2 xs):qQ xs 0=0:=by
 obtain⟨a,b,c⟩:=ZbG h 0;by_cases z:0<qQ xs 0
 ·have:=a 0 z;omega
 ·omega
theorem Zgq (h:W2 xs)(hj:¬xs[qQ xs j]?=some j):W2 (SetTable.insertAt xs (qQ xs j) j):=by
 obtain⟨a,b,c⟩:=ZbG h j;unfold W2;rw[SetTable.toList_insertAt];have gl:∀{i:Nat} {x:Nat},xs.toList[i]?=some x->i<xs.size/\xs.getD i 0=x:=λ{i x} e=>by
  rw[zY]at e;obtain⟨l,e2⟩:=Array.getElem?_eq_some_iff.mp e;exact⟨l,by rw[zM,e];rfl⟩
 have m1:∀x∈xs.toList.take (qQ xs j),x<j:=λx hx=>by
  obtain⟨i,hi⟩:=qbW.mp hx;have hl:=(qz.mp hi).1;rw[yg]at hl;rw[qak (by omega)]at hi;have:=a i (by omega);rw[(gl hi).2]at this;exact this
 have m2:∀x∈xs.toList.drop (qQ xs j),j<x:=λx hx=>by
  obtain⟨i,hi⟩:=qbW.mp hx;rw[List.getElem?_drop]at hi;obtain⟨g1,g2⟩:=gl hi;have h1:=b _ (Nat.le_add_right _ i) g1;rw[g2]at h1;by_cases e:j=x
  ·exfalso
   subst e;by_cases z:i=0
   ·subst z
    simp_all
   ·have h2:=h.lt g1 (show qQ xs j<qQ xs j+i by omega)
    have h3:=b _ (qp _) (by omega);omega
  ·omega
 refine zJ.mpr ⟨h.sublist (qaA _ _),yj.mpr ⟨m2,h.sublist (List.drop_sublist _ _)⟩,λx hx y hy=>?_⟩;rcases qu.mp hy with rfl | hy
 ·exact m1 x hx
 ·exact yF (m1 x hx) (m2 y hy)
theorem ZjY {t:SetTable}(h:t.place[qQ t.place j]?=some j):t.slot j=.live (qQ t.place j):=by
 unfold SetTable.slot;simp_all
theorem Zdi:∀(f:Nat) (p:SetTable.Probe) (j:Nat) (dm:Option Nat),(∀d,p.dummy=some d->∀i,t.slot d≠.live i)->qbo t g h f p=some (.empty j dm)->(∀i,t.slot (dm.getD j)≠.live i)
 | 0,p,j,dm,hp,e=>by unfold qbo at e;cases e
 | f+1,p,j,dm,hp,e=>by
  unfold qbo at e;have adv:∀q,(t.advance q).dummy=q.dummy:=λq=>by
   unfold SetTable.advance;split <;> rfl
  cases q:t.slot p.j with
  | empty=>
   rw[q]at e
   cases e
   intro i z
   cases hd:p.dummy with
   | none=>grind
   | some d=>rw[hd]at z;exact hp d hd i z
  | dummy=>
   rw[q]at e;refine Zdi f _ j dm (λd hd i z=>?_) e
   grind
  | live i=>
   rw[q]at e;dsimp only at e;split at e
   ·cases e
   ·exact Zdi f _ j dm (λd hd=>hp d (by simp_all)) e
theorem ZdW {t:SetTable}(e:t.freeSlot h=some (j,b)):¬t.place[qQ t.place j]?=some j:=λz=>by
 unfold SetTable.freeSlot at e;split at e
 ·rename_i k dm q
  cases e
  exact Zdi _ _ _ _ (λd hd=>by cases hd) q _ (ZjY z)
 ·cases e
theorem range_rise (n:Nat):W2 (Array.range n):=by
 unfold W2;rw[Array.toList_range];exact qaM
theorem ZaG (g:Nat->Option Nat):∀l:List Nat,(l.filterMap λj=>(g j).map (j,·)).map (·.1)=l.filter λj=>(g j).isSome
 | []=>rfl
 | a::l=>by
  cases e:g a with
  | none=>simp[e,ZaG g l]
  | some x=>simp[e,ZaG g l]
theorem ZjZ (h:SetTable.laid m f v l p hs=some r):r.1.led=l/\W2 r.1.place:=by
 unfold SetTable.laid at h
 cases e:SetTable.layClean m hs with
 | none=>rw[e]at h;cases h
 | some ow=>
  rw[e]at h
  cases h
  refine⟨rfl,?_⟩;rw[ZaG];exact qaM.sublist zk
def Yj (w:World):Bool:=w.params.followText "set-order"
def Good (w:World)(t:SetTable):Prop:=(Yj w=true∨t.led=true)/\W2 t.place
theorem Good.stand (h:Good w t)(n:Nat):Good w (t.standIn n):=⟨h.1,range_rise n⟩
theorem Zgr (h:Good w t)(es:Array (Int×Value))(k:Int)(x:Value):Good w (layNew t es k x).2.1:=by
 unfold layNew;split
 ·rename_i j b e
  have hj:=ZdW e;have:Good w (t.put j).1:=⟨h.1,Zgq h.2 hj⟩;show Good w ((t.put j).1.orStandIn _);unfold SetTable.orStandIn;split
  ·exact this
  ·exact this.stand _
 ·exact h.stand _
theorem ZdX (h:Good w t)(es:Array (Int×Value))(k:Nat):Good w (relayAll t es k).2.1:=by
 unfold relayAll;split
 ·rename_i t' ord e
  have:=ZjZ e;dsimp only;split
  ·exact⟨by rw[this.1];exact h.1,this.2⟩
  ·exact h.stand _
 ·exact h.stand _
section
variable {prog:xB}{w:World}
variable (prog w) in
def SetLed (h:Heap)(a:Addr)(S:Int->Bool)(n:Nat):Prop:=∃o xs ep t,h.get? a=some o/\o.ExactSet/\o.data=.set xs ep t/\ElemsOf (intKind prog w) xs.toList/\(∀k,S k=true↔∃e∈xs.toList,(intKind prog w).is k e.2=true)/\xs.size<scanBound/\t.fits xs.size=true/\xs.size=n/\Good w t
variable {A:xC}{E:xD}{s:Shared}
theorem SetLed.setOf (z:SetLed prog w h a S n):h.SetOf (intKind prog w) a S n:=by
 obtain⟨o,xs,ep,t,z1,z2,z3,z4,z5,z6,z7,z8,_⟩:=z;exact⟨o,xs,ep,t,z1,z2,z3,z4,z5,z6,z7,z8⟩
theorem SetLed.congr (z:SetLed prog w h a S n)(e:∀k,S k=S' k)(en:n=n'):SetLed prog w h a S' n':=by
 have:=funext e;simp_all
theorem ZeB {h:Heap}(g1:h.get? a=some o)(g2:o.ExactSet)(g3:o.data=.set xs ep t)
  (y1:ElemsOf (intKind prog w) ys.toList) (y2:∀k,Z k=true↔∃e∈ys.toList,(intKind prog w).is k e.2=true) (y3:ys.size<scanBound) (y4:u.fits ys.size=true) (y5:Good w u) :
  (h.update a (Obj.putSet ys u)).get? a=some { o with data:=.set ys (ep+1) u }/\SetLed prog w (h.update a (Obj.putSet ys u)) a Z ys.size:=by
 have q:=(SetOf_store g1 g2 g3 y1 y2 y3 y4).1;exact⟨q,_,ys,ep+1,u,q,g2,rfl,y1,y2,y3,y4,rfl,y5⟩
theorem Zgs {g:Bool->Sem Unit}(hg:∀(b:Bool) (z:Shared) (F:Unit->Shared->Prop),F () z->xf (xz prog w) A (g b) F E z)
  (g1:s.heap.get? a=some o) (g2:o.ExactSet) (g3:o.data=.set xs ep t)
  (y1:ElemsOf (intKind prog w) ys.toList) (y2:∀k,Z k=true↔∃e∈ys.toList,(intKind prog w).is k e.2=true)
  (y3:ys.size<scanBound) (y4:u.fits ys.size=true) (y5:Good w u)
  (k:∀h',zF a s.heap h'->SetLed prog w h' a Z ys.size->R (some true) { s with heap:=h' }) :
  xf (xz prog w) A (do
   storeSet a ys u
   if (!was&&u.tooFull)=true then do
    g (relayAll u ys (yC ys.size)).2.2
    storeSet a (relayAll u ys (yC ys.size)).1 (relayAll u ys (yC ys.size)).2.1
    pure (some true)
   else pure (some true)) R E s:=by
 refine xa (wpAny_storeSet_of g1 g3 ?_ (fits_of_scanBound y3));obtain⟨q1,q2⟩:=ZeB g1 g2 g3 y1 y2 y3 y4 y5;have sb:=yI s.heap a (Obj.putSet ys u);split
 ·have pm:=relayAll_perm u ys (yC ys.size)
  have pf:=relayAll_fits u ys (yC ys.size);have pl:=ZdX y5 ys (yC ys.size);generalize relayAll u ys (yC ys.size)=r at pm pf pl⊢;obtain⟨zs,v,gv⟩:=r;dsimp only at pm pf pl⊢;have sz:zs.size=ys.size:=by rw[<-qX,pm.length_eq,qX]
  have z3:zs.size<scanBound:=by simp_all
  refine xa (hg _ _ _ ?_);refine xa (wpAny_storeSet_of q1 rfl ?_ (fits_of_scanBound z3));have q3:=(ZeB q1 g2 rfl (y1.perm pm) (λk=>(y2 k).trans ⟨λ⟨e,m,x⟩=>⟨e,pm.mem_iff.mpr m,x⟩,λ⟨e,m,x⟩=>⟨e,pm.mem_iff.mp m,x⟩⟩) z3 pf pl).2;rw[sz]at q3;exact xb (k _ (sb.trans (yI _ a _)) q3)
 ·exact xb (k _ sb q2)
theorem Zng (hk:(intKind prog w).is k x=true)(hx:x.scannable=true)(hS:SetLed prog w s.heap a S n)(room:n+1<scanBound)
  (c:∀h',zF a s.heap h'->SetLed prog w h' a (λk'=>S k'||decide (k'=k)) (if S k then n else n+1)->Q (!S k) { s with heap:=h' }) :
  xf (xz prog w) A (setAddHashed a x ((intKind prog w).hash k)) Q E s:=by
 obtain⟨o,xs,ep,t,g1,g2,g3,g4,g5,g6,g7,g8,g9⟩:=hS;have r1:xs.size+1<scanBound:=by rw[g8];exact room
 unfold setAddHashed setAddHashedIn;refine xu (xa (wpAny_setState_of g1 g3 g7 ?_));dsimp only;rw[byScan_of hx g6 g4];simp only[↓reduceIte];unfold setAddByScan;refine xa (xa (wpAny_rule (xa (wpAny_setScan_of hk g1 g3 g7 g4 ?_))))
 cases hr:List.findIdx? (λe=>(intKind prog w).is k e.2) xs.toList with
 | some j=>
  dsimp only;obtain⟨lj,pj,_⟩:=List.findIdx?_eq_some_iff_getElem.mp hr;have sk:S k=true:=(g5 k).mpr ⟨xs.toList[j],yr lj,pj⟩;refine xb (xb ?_);have e:s = { s with heap:=s.heap }:=by cases s;rfl
  have fin:=c s.heap (zF.refl a s.heap) ⟨o,xs,ep,t,g1,g2,g3,g4,λk'=>by
   rw[qag,decide_eq_true_eq,<-g5 k'];exact⟨λq=>q.elim id (λe=>e▸sk),.inl⟩,g6,g7,by rw[sk];exact g8,g9⟩
  rw[sk]at fin;rw[e];exact fin
 | none=>
  dsimp only;have sk:S k=false:=by
   cases q:S k with
   | false=>rfl
   | true=>
    obtain⟨e,m,p⟩:=(g5 k).mp q;have z:=List.findIdx?_eq_none_iff.mp hr e m;rw[p]at z;exact y9 z
  have pm:=layNew_perm t xs ((intKind prog w).hash k) x;have pf:=layNew_fits t xs ((intKind prog w).hash k) x;have pl:=Zgr g9 xs ((intKind prog w).hash k) x;generalize layNew t xs ((intKind prog w).hash k) x=r at pm pf pl⊢;obtain⟨ys,u,was,gv⟩:=r;dsimp only at pm pf pl⊢;rw[Array.toList_push]at pm;have y1:ElemsOf (intKind prog w) ys.toList:=(g4.push hk hx).perm pm;have y2:∀k',(S k'||decide (k'=k))=true↔∃e∈ys.toList,(intKind prog w).is k' e.2=true:=mem_push_iff hk g5 pm;have sz:ys.size=n+1:=by rw[<-qX,pm.length_eq,qP,qX,g8];rfl
  have y3:ys.size<scanBound:=by rw[sz];exact room
  have y5:Good w u:=pl;have gw:∀(b:Bool) (z:Shared) (F:Unit->Shared->Prop),F () z->xf (xz prog w) A (match b with | true=>rule "set.scan.the-table-gave-way" | false=>pure ()) F E z:=λb z F q=>by
   cases b
   ·exact xb q
   ·exact wpAny_rule q
  refine xa (gw _ _ _ ?_);have fin:∀h',zF a s.heap h'->SetLed prog w h' a (λk'=>S k'||decide (k'=k)) ys.size->Q true { s with heap:=h' }:=λh' sb z=>by
   have:=c h' sb;rw[sk]at this;rw[sz]at z;exact this z
  split
  ·refine xa ?_
   rw[hashByValue_scannable 8 hx];refine xb ?_;refine Zgs gw g1 g2 g3 y1 y2 y3 ?_ ?_ λh' sb z=>xb (fin h' sb z)
   ·split
    ·exact pf
    ·exact SetTable.fits_plain_off pf
   ·split
    ·exact y5
    ·exact y5
  ·exact Zgs gw g1 g2 g3 y1 y2 y3 pf y5 λh' sb z=>xb (fin h' sb z)
theorem ZlL (a:Value)(h:Q₁ (.ref s.heap.objs.size) { s with heap:=s.heap.push (YD (!Yj w)) }) :
  xo (xz prog w) A (.call (.builtin "set.__new__") ⟨[.type "set",a],[]⟩) (wants Q₁ E) s:=by
 apply codeAny_of_tree;show xf _ A.in1 (do
  checkBuiltinCall "set.__new__" ⟨[.type "set",a],[]⟩
  again (.builtin "set.__new__" ⟨[.type "set",a],[]⟩)) _ _ s
 refine xa (wpAny_of_eq (PySem.F.newCall_set_1 a) (xb ⟨plainId_quiet qbX _,xm PySem.F.entry_set_new ?_⟩));rw[zH qbX _];unfold Builtin.«set.__new__»;unfold Builtin.Frozenset.newClass;have s1:=sub_set_self;obtain⟨hp,g,d,tk,os⟩:=s;dsimp only
 wp_walk
 refine wpAny_askSetting (xb ?_);dsimp only;simp only[newObj];refine xa (wpAny_alloc (xb (xb ?_)));exact h
theorem ZeC (hg:h.get? a=some (YD (!Yj w))):SetLed prog w h a (λk'=>(firstMet val 0).any (· == k')) (firstMet val 0).length:=
 ⟨_,#[],0,_,hg,⟨rfl,rfl,rfl⟩,rfl,λe he=>by simp at he,λk=>by simp[firstMet_zero],by decide,by rfl,rfl,by
  refine⟨?_,qbl⟩;show Yj w=true∨(!Yj w)=true;simp⟩
theorem Zgt {St:Nat->Shared->Prop}
  (W:WalksS prog w A.in1 I fp wr G n P St) (Z:Addr) (hZ:Z∉fp) (val:Nat->Int) (hv:∀i v,P i v->∃t,v=.int (val i) t) (hb:n+1<scanBound) :
  ∀(k i:Nat) (s:Shared),n-i=k->i<=n->St i s->SetLed prog w s.heap Z (λk'=>(firstMet val i).any (· == k')) (firstMet val i).length->
   (∀s',Moved (Z::wr) G s s'->SetLed prog w s'.heap Z (λk'=>(firstMet val n).any (· == k')) (firstMet val n).length->R (.ok (.ret .none)) s')->
   xo (xz prog w) A (.builtin "set.update.loop" ⟨[.ref Z,.ref I],[]⟩) R s:=by
 have hZw:Z∉wr:=λh=>hZ (W.sub _ h);have sub:∀b∈wr,b∈Z::wr:=λb m=>qZ _ m;have keep:∀{i:Nat} {s s':Shared},Moved wr G s s'->SetLed prog w s.heap Z (λk'=>(firstMet val i).any (· == k')) (firstMet val i).length->SetLed prog w s'.heap Z (λk'=>(firstMet val i).any (· == k')) (firstMet val i).length:=λhm z=>by
  obtain⟨o,xs,ep,t,g,rest⟩:=z;exact⟨o,xs,ep,t,hm.heap Z _ hZw g,rest⟩
 intro k
 induction k with
 | zero=>
  intro i s hk hi st hS hR;have e:i=n:=by omega
  subst e;refine xm qaq ?_;rw[zH yu _];show xf _ A.in1 (pyNext (.ref I) >>= _) _ _ s;refine xa (W.done s _ _ st λs' hm=>?_);show xf _ A.in1 (ret qW) _ _ s';exact xb (hR s' (hm.mono sub) (keep hm hS))
 | succ k ih=>
  intro i s hk hi st hS hR;have hlt:i<n:=by omega
  refine xm qaq ?_;rw[zH yu _];show xf _ A.in1 (pyNext (.ref I) >>= _) _ _ s;refine xa (W.item i s _ _ hlt st λv s' hP st' hm=>?_);obtain⟨t,rfl⟩:=hv i v hP;have hS':=keep hm hS;show xf _ A.in1 (holding [qa9 (val i) t] (setAdd Z (.int (val i) t)) >>= _) _ _ s';refine xa (xu ?_);unfold setAdd;refine xu (xa ((intKind prog w).pyHash (k:=val i) (intKind_is _ _ _ _) ?_));have room:(firstMet val i).length+1<scanBound:=by have:=firstMet_length_le val i;omega
  refine Zng (s:={ s' with toks:=s'.toks+1 }) (intKind_is _ _ _ _) rfl hS' room λh' sb z=>?_;have z':SetLed prog w h' Z (λk'=>(firstMet val (i+1)).any (· == k')) (firstMet val (i+1)).length:=
   z.congr (λk'=>by rw[firstMet_succ,step_any]) (by rw[firstMet_succ,step_length])
  refine xb ⟨plainId_quiet yu _,ih (i+1) _ (by omega) hlt (W.frame _ s' _ _ st' (qa8 _) λb m o e=>?_) z' λs'' hm'' hS''=>?_⟩
  ·rw[sb.2 b (λh:b=Z=>hZ (by rw[<-h];exact m))];exact e
  ·refine hR s'' (Moved.trans W.gtrans ((hm.mono sub).then_heap (qa8 _) λb o m e=>?_) hm'') hS''
   rw[sb.2 b (λh=>m (by rw[h];simp))];exact e
theorem setL_of_tuple {l:Addr}{items:Array Value}{ns:List Int}{Q:xD}(hh:A.handled=none)(hl:s.heap.IsTuple l items)(hi:IntsAre items.toList ns)(hb:items.size+1<scanBound)
  (h:∀(h':Heap) (tk:Nat),SetLed prog w h' s.heap.objs.size (λk'=>(firstMet (λi=>ns.getD i 0) items.size).any (· == k')) (firstMet (λi=>ns.getD i 0) items.size).length->(∀b o,b<s.heap.objs.size->s.heap.get? b=some o->h'.get? b=some o)->Q (.ref s.heap.objs.size) { s with heap:=h',toks:=tk }) :
  xf (xz prog w) A (call (.type "set") [.ref l]) Q E s:=by
 obtain⟨c,tl,hmro⟩:=qN.mro;have hmade:=qN.made;have hsub:=qN.sub;refine xy (codeAny_of_tree ?_);show xf _ _ (callAny (.type "set") _) _ _ _;refine xb ⟨yQ _ (by decide +kernel),xm qaz ?_⟩;rw[qbc (weight_type_call_type "set" [.ref l] []) rfl];have h1:=qN.notType;have h2:=qN.canCreate;have hct:=qaK (.ref l)
 repeat (any_goals (first | assumption | wp_step))
 refine codeAny_mono (ZlL (.ref l) (E:=E) (Q₁:=λobj s₁=>obj=.ref s.heap.objs.size/\s₁ = { s with heap:=s.heap.push (YD (!Yj w)) }) ⟨rfl,rfl⟩) λr s₁ hr=>?_
 cases r with
 | error e=>exact hr
 | ok fl=>
  cases fl with
  | ret obj=>
   obtain⟨rfl,rfl⟩:=hr;have hS:(s.heap.push (YD (!Yj w))).get? s.heap.objs.size=some (YD (!Yj w)):=qq _ rfl;have hT:qaN { s with heap:=s.heap.push (YD (!Yj w)) } (.ref s.heap.objs.size) "set":=⟨_,hS,rfl⟩;have hli:=qN.init.lookup;have hbi:=qN.init.bind (.ref s.heap.objs.size)
   repeat (any_goals (first | assumption | wp_step))
   refine codeAny_mono (codeAny_call_builtin (R:=wants (λr s₂=>r=.none/\∃h' tk,s₂ = { s with heap:=h',toks:=tk }/\SetLed prog w h' s.heap.objs.size (λk'=>(firstMet (λi=>ns.getD i 0) items.size).any (· == k')) (firstMet (λi=>ns.getD i 0) items.size).length/\(∀b o,b<s.heap.objs.size->s.heap.get? b=some o->h'.get? b=some o)) E) qN.init.plain qaL (check_set_init_1 hT ?_)) λr₂ s₂ hr₂=>?_
   ·obtain⟨ol,hol,hcl,nl,hdl⟩:=hl;obtain⟨ocls,odict,odata,oslots⟩:=ol
    simp only at hcl hdl;subst hcl;subst hdl;have hol':(s.heap.push (YD (!Yj w))).get? l=some { cls:=.type "tuple",dict:=odict,data:=.seq items nl,slots:=oslots }:=qf _ hol;have z1:=Zgl;have z2:=Zcp;have hne:(zQ "tuple" == zQ "dict")=false:=by decide
    have hl1:(s.heap.push (YD (!Yj w))).IsTuple l items:=⟨_,hol',rfl,nl,rfl⟩;unfold Builtin.«set.__init__» noKeywords yW;generalize hPI:pyIter=PI
    wp_walk
    subst hPI;refine wpAny_pyIter_tuple hl1 ?_;refine xa (wpAny_runValue ?_);have hlS:l<s.heap.objs.size:=qy hol;have hh3:A.in1.in1.in1.handled=none:=by simp[hh]
    have hneI:l≠(s.heap.push (YD (!Yj w))).objs.size:=by rw[zu];exact qA (zl hlS)
    have hSf:s.heap.objs.size∉[(s.heap.push (YD (!Yj w))).objs.size,l]:=by
     rw[zu];simp only[qu,qL,zi,or_false,not_or];exact⟨qA (yh _),qaj hlS⟩
    have hval:∀(i:Nat) (v:Value),items[i]?=some v->∃t,v=.int ((λi=>ns.getD i 0) i) t:=λi v hv=>qbT hi i v (by rw[zY];exact hv);refine Zgt ((Walks.tuple hh3 _ l hneI items).toS) s.heap.objs.size hSf (λi=>ns.getD i 0) hval hb (items.size-0) 0 _ (by omega) (za _) ⟨⟨_,qq _ rfl,rfl,rfl⟩,(hl1.push _)⟩ ?hS0 ?hR
    case hS0=>
     have hget:((s.heap.push (YD (!Yj w))).push { cls:=.type "tuple_iterator",data:=.fields #[.ref l,.int 0 0] }).get? s.heap.objs.size=some (YD (!Yj w)):=qf _ hS;exact ZeC hget
    case hR=>
     intro s' hm hS';obtain⟨h',g',d',tk',os'⟩:=s';have eg:g'=s.gens:=hm.gens;have ed:d'=s.drawn:=hm.drawn;have eo:os'=s.os:=hm.os;subst eg;subst ed;subst eo;show xf _ _ _ _ _ _;refine xb ?_;show xf _ _ (ret qW) _ _ _;refine xb ⟨rfl,h',tk',rfl,hS',λb o hb e=>?_⟩;have hb1:b≠s.heap.objs.size:=qA hb;have hb2:b≠(s.heap.push (YD (!Yj w))).objs.size:=by rw[zu];exact qA (zl hb)
     exact hm.heap b o (by simp only[qu,qL,zi,or_false,not_or];exact⟨hb1,hb2⟩) (qf _ (qf _ e))
   ·cases r₂ with
    | error e=>exact hr₂
    | ok fl₂=>
     cases fl₂ with
     | ret r=>
      obtain⟨rfl,h',tk,rfl,hS',hk'⟩:=hr₂;repeat (any_goals (first | assumption | wp_step))
      exact h _ _ hS' hk'
     | next=>exact hr₂.elim
     | brk=>exact hr₂.elim
     | cont=>exact hr₂.elim
  | next=>exact hr.elim
  | brk=>exact hr.elim
  | cont=>exact hr.elim
theorem setL_of_list {l:Addr}{items:Array Value}{ns:List Int}{Q:xD}(hh:A.handled=none)(hl:s.heap.IsList l items)(hi:IntsAre items.toList ns)(hb:items.size+1<scanBound)
  (h:∀(h':Heap) (tk:Nat),SetLed prog w h' s.heap.objs.size (λk'=>(firstMet (λi=>ns.getD i 0) items.size).any (· == k')) (firstMet (λi=>ns.getD i 0) items.size).length->(∀b o,b<s.heap.objs.size->s.heap.get? b=some o->h'.get? b=some o)->Q (.ref s.heap.objs.size) { s with heap:=h',toks:=tk }) :
  xf (xz prog w) A (call (.type "set") [.ref l]) Q E s:=by
 obtain⟨c,tl,hmro⟩:=qN.mro;have hmade:=qN.made;have hsub:=qN.sub;refine xy (codeAny_of_tree ?_);show xf _ _ (callAny (.type "set") _) _ _ _;refine xb ⟨yQ _ (by decide +kernel),xm qaz ?_⟩;rw[qbc (weight_type_call_type "set" [.ref l] []) rfl];have h1:=qN.notType;have h2:=qN.canCreate;have hct:=qaK (.ref l)
 repeat (any_goals (first | assumption | wp_step))
 refine codeAny_mono (ZlL (.ref l) (E:=E) (Q₁:=λobj s₁=>obj=.ref s.heap.objs.size/\s₁ = { s with heap:=s.heap.push (YD (!Yj w)) }) ⟨rfl,rfl⟩) λr s₁ hr=>?_
 cases r with
 | error e=>exact hr
 | ok fl=>
  cases fl with
  | ret obj=>
   obtain⟨rfl,rfl⟩:=hr;have hS:(s.heap.push (YD (!Yj w))).get? s.heap.objs.size=some (YD (!Yj w)):=qq _ rfl;have hT:qaN { s with heap:=s.heap.push (YD (!Yj w)) } (.ref s.heap.objs.size) "set":=⟨_,hS,rfl⟩;have hli:=qN.init.lookup;have hbi:=qN.init.bind (.ref s.heap.objs.size)
   repeat (any_goals (first | assumption | wp_step))
   refine codeAny_mono (codeAny_call_builtin (R:=wants (λr s₂=>r=.none/\∃h' tk,s₂ = { s with heap:=h',toks:=tk }/\SetLed prog w h' s.heap.objs.size (λk'=>(firstMet (λi=>ns.getD i 0) items.size).any (· == k')) (firstMet (λi=>ns.getD i 0) items.size).length/\(∀b o,b<s.heap.objs.size->s.heap.get? b=some o->h'.get? b=some o)) E) qN.init.plain qaL (check_set_init_1 hT ?_)) λr₂ s₂ hr₂=>?_
   ·obtain⟨ol,hol,hcl,nl,hdl⟩:=hl;obtain⟨ocls,odict,odata,oslots⟩:=ol
    simp only at hcl hdl;subst hcl;subst hdl;have hol':(s.heap.push (YD (!Yj w))).get? l=some { cls:=.type "list",dict:=odict,data:=.seq items nl,slots:=oslots }:=qf _ hol;have z1:=PySem.F.sub_list_set;have z2:=PySem.F.sub_list_frozenset;have hne:(zQ "list" == zQ "dict")=false:=by decide
    have hl1:(s.heap.push (YD (!Yj w))).IsList l items:=⟨_,hol',rfl,nl,rfl⟩;unfold Builtin.«set.__init__» noKeywords yW;generalize hPI:pyIter=PI
    wp_walk
    subst hPI;refine wpAny_pyIter_list hl1 ?_;refine xa (wpAny_runValue ?_);have hlS:l<s.heap.objs.size:=qy hol;have hh3:A.in1.in1.in1.handled=none:=by simp[hh]
    have hneI:l≠(s.heap.push (YD (!Yj w))).objs.size:=by rw[zu];exact qA (zl hlS)
    have hSf:s.heap.objs.size∉[(s.heap.push (YD (!Yj w))).objs.size,l]:=by
     rw[zu];simp only[qu,qL,zi,or_false,not_or];exact⟨qA (yh _),qaj hlS⟩
    have hval:∀(i:Nat) (v:Value),items[i]?=some v->∃t,v=.int ((λi=>ns.getD i 0) i) t:=λi v hv=>qbT hi i v (by rw[zY];exact hv);refine Zgt ((Walks.list hh3 _ l hneI items).toS) s.heap.objs.size hSf (λi=>ns.getD i 0) hval hb (items.size-0) 0 _ (by omega) (za _) ⟨⟨_,qq _ rfl,rfl,rfl⟩,(hl1.push _)⟩ ?hS0 ?hR
    case hS0=>
     have hget:((s.heap.push (YD (!Yj w))).push { cls:=.type "list_iterator",data:=.fields #[.ref l,.int 0 0] }).get? s.heap.objs.size=some (YD (!Yj w)):=qf _ hS;exact ZeC hget
    case hR=>
     intro s' hm hS';obtain⟨h',g',d',tk',os'⟩:=s';have eg:g'=s.gens:=hm.gens;have ed:d'=s.drawn:=hm.drawn;have eo:os'=s.os:=hm.os;subst eg;subst ed;subst eo;show xf _ _ _ _ _ _;refine xb ?_;show xf _ _ (ret qW) _ _ _;refine xb ⟨rfl,h',tk',rfl,hS',λb o hb e=>?_⟩;have hb1:b≠s.heap.objs.size:=qA hb;have hb2:b≠(s.heap.push (YD (!Yj w))).objs.size:=by rw[zu];exact qA (zl hb)
     exact hm.heap b o (by simp only[qu,qL,zi,or_false,not_or];exact⟨hb1,hb2⟩) (qf _ (qf _ e))
   ·cases r₂ with
    | error e=>exact hr₂
    | ok fl₂=>
     cases fl₂ with
     | ret r=>
      obtain⟨rfl,h',tk,rfl,hS',hk'⟩:=hr₂;repeat (any_goals (first | assumption | wp_step))
      exact h _ _ hS' hk'
     | next=>exact hr₂.elim
     | brk=>exact hr₂.elim
     | cont=>exact hr₂.elim
  | next=>exact hr.elim
  | brk=>exact hr.elim
  | cont=>exact hr.elim
end
namespace FS
theorem entry_set_iter:entryFor table "set.__iter__" = some Builtin.«frozenset.__iter__»:=
 entryFor_alias (id':="frozenset.__iter__") (by kernel_rfl) rfl (by decide +kernel) (by kernel_rfl)
theorem slot_next:Slot "set_iterator" "__next__" "set_iterator.__next__":=
 .of (owner:="set_iterator") (n:="__next__") (by rw[typeLookup_type,builtinLookup_eq_fast];kernel_rfl)
  (by decide +kernel) (by decide +kernel) (by decide +kernel)
  (by first | exact .inl (by rfl) | rfl)
  (by rfl)
theorem entry_next:entryFor table "set_iterator.__next__" = some Builtin.«set_iterator.__next__»:=
 entryFor_of_tree (by kernel_rfl)
theorem args_next (a:Value):argsOk "set_iterator.__next__" ⟨[a],[]⟩:=by
 rfl
end FS
theorem erase_perm {α:Type}:∀(l:List α) {i:Nat} (h:i<l.length),([l[i]]++l.eraseIdx i).Perm l
 | a::l,0,_=>.refl _
 | a::l,i+1,h=>by
  have ih:=erase_perm l (i:=i) (by simp_all);exact(yY.swap _ _ _).trans (ih.cons a)
theorem ZiD (f:Nat->Nat):∀(n k:Nat) (l:List α) (out:Array α),l.length=n->(pickOrder.go f n k l out).toList.Perm (out.toList++l)
 | 0,k,l,out,h=>by
  have:=zO.mp h;subst this;unfold pickOrder.go;simp
 | n+1,k,l,out,h=>by
  unfold pickOrder.go;have hl:f k % l.length<l.length:=Nat.mod_lt _ (by omega);rw[qB hl];refine(ZiD f n (k+1) _ _ (by grind)).trans ?_;rw[Array.toList_push,qbm];refine yY.append_left _ ?_;exact erase_perm l hl
theorem Zce (f:Nat->Nat)(xs:Array α):(pickOrder f xs).toList.Perm xs.toList:=by
 have:=ZiD f xs.size 0 xs.toList #[] (by simp);simpa[pickOrder]using this
section
variable {prog:xB}{w:World}{A:xC}{E:xD}{s:Shared}
theorem ZeD:∀(n:Nat) (l:List α) (s:Shared) (Q:List α->Shared->Prop),l.length=n->(∀(r:List α) d,r.Perm l->Q r { s with drawn:=d })->xf (xz prog w) A (drawOrder n l) Q E s
 | 0,l,s,Q,h,k=>by
  have:=zO.mp h;subst this;exact xb (k [] s.drawn (.refl _))
 | n+1,[],s,Q,h,k=>by cases h
 | n+1,a::l,s,Q,h,k=>by
  refine xa ?_;intro Γ p hΓ;refine⟨by simp,?_⟩;have hl:(xz prog w).w.draws .order (s.drawn.get .order) % (a::l).length<(a::l).length:=Nat.mod_lt _ (by simp);rw[Sem.wp_pure];dsimp only;rw[qB hl];refine xa (ZeD n _ _ _ (by rw[List.length_eraseIdx_of_lt hl,h];rfl) λr d hr=>?_);exact xb (k _ d ((hr.cons _).trans (erase_perm (a::l) hl)))
abbrev X9 (first:Value)(i:Nat)(a:Addr)(n ep:Nat):Obj:={ cls:=.type "set_iterator",data:=.fields #[first,rawInt i,.ref a,rawInt n,rawInt ep] }
theorem ZiE {slot:Nat}
  (hit:s.heap.get? it=some (X9 (rawInt slot) i a es.size ep)) (ho:s.heap.get? a=some o) (hd:o.data=.set es ep t) (hf:t.fits es.size=true)
  (hn:∀(A:xC) (E:xD) (F:Option (Value×Nat)->Shared->Prop),F (some (x,nx)) s->xf (xz prog w) A (setNext a slot i ep) F E s)
  (hQ:∀h',h'.get? it=some (X9 (rawInt nx) (i+1) a es.size ep)->zF it s.heap h'->Q (some x) { s with heap:=h' }):xf (xz prog w) A (pyNext (.ref it)) Q E s:=by
 have hT:s.TypeIs (.ref it) "set_iterator":=⟨_,hit,rfl⟩;unfold pyNext;refine xa (wpAny_attempt (wpAny_callSpecial?_slot (name:=qw "__next__") hT FS.slot_next
  (wpAny_call_entry FS.slot_next hT FS.entry_next ?_ (FS.args_next _))))
 unfold Builtin.«set_iterator.__next__»;refine xa (m:=slotArgs _ _ _) (xb ?_);refine xa (wpAny_fieldsOf hit rfl ?_);refine xa (wpAny_setEntries_of ho hd hf ?_);rw[if_neg (by simp)];refine xa (hn _ _ _ ?_);refine xa (wpAny_setField hit rfl (by simp) ?_);have g1:(s.heap.update it (qaO (·.setIfInBounds 0 (rawInt nx)))).get? it=some (X9 (rawInt nx) i a es.size ep):=zX _ hit rfl;refine xa (wpAny_setField g1 rfl (by simp) ?_);have g2:((s.heap.update it (qaO (·.setIfInBounds 0 (rawInt nx)))).update it (qaO (·.setIfInBounds 1 (rawInt ((i:Int)+1))))).get? it=some (X9 (rawInt nx) (i+1) a es.size ep):=zX _ g1 rfl;exact xb ⟨_,rfl,xb (hQ _ g2 ((yI ..).trans (yI ..)))⟩
theorem ZiF (hh:A.handled=none)(hit:s.heap.get? it=some (X9 f i a n ep))
  (k:∀(A:xC) (G:Fin->Shared->Prop) (F:xD),A.handled=none->(∀v h',qaI it s.heap h'->qaN { s with heap:=h' } v "StopIteration"->F v { s with heap:=h' })->xf (xz prog w) A (Builtin.«set_iterator.__next__» ⟨[.ref it],[]⟩) G F s)
  (hQ:∀h',qaI it s.heap h'->Q none { s with heap:=h' }):xf (xz prog w) A (pyNext (.ref it)) Q E s:=by
 have hT:s.TypeIs (.ref it) "set_iterator":=⟨_,hit,rfl⟩;refine xa (wpAny_attempt (wpAny_callSpecial?_slot hT FS.slot_next
  (wpAny_call_entry FS.slot_next hT FS.entry_next (k _ _ _ hh λv h' e tv=>?_) (FS.args_next _))))
 refine xa (wpAny_isInstance tv isSubtype_stop ?_);exact xb (hQ _ e)
end
end HT
namespace HT
section
variable {prog:xB}{w:World}{A:xC}{E:xD}{s:Shared}
variable {a:Addr}{o:Obj}{es:Array (Int×Value)}{ep:Nat}{t:SetTable}
theorem ZeE (ho:s.heap.get? a=some o)(hd:o.data=.set es ep t)(hf:t.fits es.size=true)(hT:Yj w=true)
  (k:F (((pickOrder (w.params.setOrder a ep) es)[i]?).map λe=>(e.2,slot)) s):xf (xz prog w) A (setNext a slot i ep) F E s:=by
 refine xa (wpAny_setState_of ho hd hf ?_);show xf _ _ (if Yj w=true then _ else _) _ _ _;rw[if_pos hT,if_neg (by simp)];refine xa (xa (wpAny_setState_of ho hd hf ?_));show xf _ _ (if Yj w=true then _ else _) _ _ _;rw[if_pos hT];refine xa (wpAny_askSetting (xb ?_));exact xb k
theorem Zdj (ho:s.heap.get? a=some o)(hd:o.data=.set es ep t)(hf:t.fits es.size=true)(hT:Yj w=false)(hdr:(!t.plain&&decide (es.size > 1))=false)(hl:t.led=true)
  (k:F (match es[qQ t.place slot]?,t.place[qQ t.place slot]? with | some (_,x),some j=>some (x,j+1) | _,_=>none) s):xf (xz prog w) A (setNext a slot i ep) F E s:=by
 unfold setNext;refine xa (wpAny_setState_of ho hd hf ?_);dsimp only;show xf _ _ (if Yj w=true then _ else _) _ _ _;rw[if_neg (by rw[hT];decide)];show xf _ _ (if (!t.plain&&decide (es.size > 1))=true then _ else _) _ _ _;rw[if_neg (by rw[hdr];decide)];show xf _ _ ((if (!t.led && !es.isEmpty)=true then unsupported "set:maker-not-led" else pure ()) >>= _) _ _ _;rw[if_neg (by simp[hl])];exact xb k
theorem Zdk (hh:A.handled=none)(k:∀v h',(∀b u,s.heap.get? b=some u->h'.get? b=some u)->qaN { s with heap:=h' } v "StopIteration"->F v { s with heap:=h' }) :
  xf (xz prog w) A (newExc (.type "StopIteration") [] >>= λe=>(raiseNew e:Sem Fin)) G F s:=by
 refine xa ?_;simp only[newExc,newTuple];refine xa (xl ?_ (by size_fits));refine xa (m:=firstArgMember _ _) (wpAny_of_eq (a:=qW) (by first | rfl | (simp only[firstArgMember];rfl)) ?_);refine xl ?_ (by size_fits);simp only[raiseNew];refine xa (wpAny_handled ?_);rw[hh];refine xa (xb (wpAny_throw ?_));exact k _ _ (λb u e=>qf _ (qf _ e)) ⟨_,qq _ rfl,rfl⟩
theorem ZlM {slot:Nat}(hh:A.handled=none)(hit:s.heap.get? it=some (X9 (rawInt slot) i a es.size ep))(ho:s.heap.get? a=some o)(hd:o.data=.set es ep t)(hf:t.fits es.size=true)
  (hn:∀(A:xC) (E:xD) (F:Option (Value×Nat)->Shared->Prop),F none s->xf (xz prog w) A (setNext a slot i ep) F E s)
  (hQ:∀h',qaI it s.heap h'->Q none { s with heap:=h' }):xf (xz prog w) A (pyNext (.ref it)) Q E s:=by
 refine ZiF hh hit (λA G F hh k=>?_) hQ;refine xa (xb ?_);refine xa (wpAny_fieldsOf hit rfl ?_);refine xa (wpAny_setEntries_of ho hd hf ?_);rw[if_neg (by simp)];refine xa (hn _ _ _ ?_);refine xa (wpAny_setField hit rfl (by simp) ?_);refine Zdk hh λv h' e tv=>k v h' (λb u nb eb=>e b u ?_) tv;exact(zV _ _ (ze nb)).trans eb
namespace FS
theorem entry_si_iter:entryFor table "set_iterator.__iter__" = some Builtin.«dict_keyiterator.__iter__»:=
 entryFor_alias (id':="dict_keyiterator.__iter__") (by kernel_rfl) rfl (by decide +kernel) (by kernel_rfl)
theorem slot_si_iter:Slot "set_iterator" "__iter__" "set_iterator.__iter__":=
 .of (owner:="set_iterator") (n:="__iter__") (by rw[typeLookup_type,builtinLookup_eq_fast];kernel_rfl)
  (by decide +kernel) (by decide +kernel) (by decide +kernel)
  (by first | exact .inl (by rfl) | rfl)
  (by rfl)
theorem args_si_iter (a:Value):argsOk "set_iterator.__iter__" ⟨[a],[]⟩:=by
 rfl
end FS
theorem Zgu (hit:s.heap.get? it=some (X9 f i a n ep))(h:Q (.ref it) s):xf (xz prog w) A (pyIter (.ref it)) Q E s:=by
 have hT:s.TypeIs (.ref it) "set_iterator":=⟨_,hit,rfl⟩;refine wpAny_pyIter_slot hT FS.slot_si_iter (wpAny_call_entry FS.slot_si_iter hT FS.entry_si_iter ?_ (FS.args_si_iter _));exact xb ⟨_,rfl,"set_iterator",_,hT,FS.slot_next.lookup,h⟩
def Ur (w:World)(a:Addr)(ep:Nat)(es:Array (Int×Value)):List Value:=if Yj w=true then (pickOrder (w.params.setOrder a ep) es).toList.map (·.2)else es.toList.map (·.2)
theorem Zgv:(Ur w a ep es).Perm (es.toList.map (·.2)):=by
 unfold Ur;split
 ·exact(Zce _ es).map _
 ·rfl
theorem Znh:(Ur w a ep es).length=es.size:=by rw[Zgv.length_eq,qh,qX]
theorem ZlN (hh:A.handled=none)(I:Addr)(hne:a≠I)(hd:o.data=.set es ep t)(hf:t.fits es.size=true)(hg:Good w t)(hdr:Yj w=true∨(!t.plain&&decide (es.size > 1))=false) :
  Walks prog w A I [I,a] [I] es.size (λi v=>(Ur w a ep es)[i]?=some v) (λi h=>h.get? a=some o/\∃slot:Nat,h.get? I=some (X9 (rawInt slot) i a es.size ep)/\(Yj w=true∨qQ t.place slot=i)) where
 sub:=λb hb=>by simp at hb;simp[hb]
 frame:=λi h h' st k=>by
  obtain⟨h1,slot,h2,h3⟩:=st;exact⟨k a (by simp) _ h1,slot,k I (by simp) _ h2,h3⟩
 item:=λi s Q E hi st k=>by
  obtain⟨h1,slot,h2,h3⟩:=st;have hps:t.place.size=es.size:=by
   simp only[SetTable.fits,zK,beq_iff_eq]at hf;exact hf.1
  have fin:∀(x:Value) (nx:Nat),(Ur w a ep es)[i]?=some x->(Yj w=true∨qQ t.place nx=i+1)->∀h',h'.get? I=some (X9 (rawInt nx) (i+1) a es.size ep)->zF I s.heap h'->Q (some x) { s with heap:=h' }:=λx nx hx hb h' g sb=>
   k x h' s.toks hx ⟨(sb.2 a hne).trans h1,nx,g,hb⟩ λb u nb e=>(sb.2 b (λz=>nb (by simp[z]))).trans e
  cases hT:Yj w with
  | true=>
   have jW:i<(pickOrder (w.params.setOrder a ep) es).size:=by
    have:=(Zce (w.params.setOrder a ep) es).length_eq;simp only[qX]at this;omega
   have hx:(Ur w a ep es)[i]?=some (pickOrder (w.params.setOrder a ep) es)[i].2:=by
    unfold Ur;rw[if_pos hT,qG,zY,zd jW];rfl
   refine ZiE (nx:=slot) h2 h1 hd hf (λA E F q=>ZeE h1 hd hf hT ?_) (fin _ slot hx (.inl hT));rw[zd jW];exact q
  | false=>
   have hb:qQ t.place slot=i:=h3.resolve_left (by rw[hT];decide);have hdr':=hdr.resolve_left (by rw[hT];decide);have hl:=hg.1.resolve_left (by rw[hT];decide);have hx:(Ur w a ep es)[i]?=some es[i].2:=by
    unfold Ur;rw[if_neg (by rw[hT];decide),qG,zY,zd hi];rfl
   have hp:t.place[i]?=some (t.place.getD i 0):=by
    rw[zM,zd (by omega)];rfl
   refine ZiE (nx:=t.place.getD i 0+1) h2 h1 hd hf (λA E F q=>Zdj h1 hd hf hT hdr' hl ?_) (fin _ _ hx (.inr (ZhI hg.2 (by omega))));rw[hb,zd hi,hp];exact q
 done:=λs Q E st k=>by
  obtain⟨h1,slot,h2,h3⟩:=st;have fin:∀h',qaI I s.heap h'->Q none { s with heap:=h' }:=λh' e=>k h' s.toks λb u nb g=>e b u (λz=>nb (by simp[z])) g
  cases hT:Yj w with
  | true=>
   refine ZlM hh h2 h1 hd hf (λA E F q=>ZeE h1 hd hf hT ?_) fin;rw[qbP]
   ·exact q
   ·have:=(Zce (w.params.setOrder a ep) es).length_eq
    simp only[qX]at this;omega
  | false=>
   have hb:qQ t.place slot=es.size:=h3.resolve_left (by rw[hT];decide);refine ZlM hh h2 h1 hd hf (λA E F q=>Zdj h1 hd hf hT (hdr.resolve_left (by rw[hT];decide)) (hg.1.resolve_left (by rw[hT];decide)) ?_) fin;simp_all
 self:=λi s Q E st k=>Zgu st.2.choose_spec.1 k
abbrev Vh (pl:List Nat):Array Value:=(pl.map λ(i:Nat)=>rawInt i).toArray
theorem Zni
  (hit:s.heap.get? it=some (X9 (.ref T) i a es.size ep)) (ho:s.heap.get? a=some o) (hd:o.data=.set es ep t) (hf:t.fits es.size=true)
  (hT:s.heap.get? T=some { cls:=.type "tuple",data:=.seq (Vh pl) c }) (hp:pl[i]?=some p) (hx:es[p]?=some x)
  (hQ:∀h',h'.get? it=some (X9 (.ref T) (i+1) a es.size ep)->zF it s.heap h'->Q (some x.2) { s with heap:=h' }):xf (xz prog w) A (pyNext (.ref it)) Q E s:=by
 have hTy:s.TypeIs (.ref it) "set_iterator":=⟨_,hit,rfl⟩;unfold pyNext;refine xa (wpAny_attempt (wpAny_callSpecial?_slot (name:=qw "__next__") hTy FS.slot_next
  (wpAny_call_entry FS.slot_next hTy FS.entry_next ?_ (FS.args_next _))))
 unfold Builtin.«set_iterator.__next__»;refine xa (m:=slotArgs _ _ _) (xb ?_);refine xa (wpAny_fieldsOf hit rfl ?_);show xf _ _ (setEntries a >>= _) _ _ _;refine xa (wpAny_setEntries_of ho hd hf ?_);rw[if_neg (by simp)];show xf _ _ (seqItems? (.ref T) >>= _) _ _ _;refine xa (xt hT rfl ?_);have e:(Vh pl)[((i:Nat):Int).toNat]?=some (rawInt p):=by
  rw[yA];simp[Vh,hp]
 dsimp only;rw[e];show xf _ _ (setNextDrawn a p ep >>= _) _ _ _;refine xa (xa (wpAny_setState_of ho hd hf ?_));dsimp only;rw[if_neg (by simp),hx];refine xb ?_;refine xa (wpAny_setField hit rfl (by simp) ?_);have g2:(s.heap.update it (qaO (·.setIfInBounds 1 (rawInt ((i:Int)+1))))).get? it=some (X9 (.ref T) (i+1) a es.size ep):=zX _ hit rfl;exact xb ⟨_,rfl,xb (hQ _ g2 (yI ..))⟩
theorem Zo1 (hh:A.handled=none)
  (hit:s.heap.get? it=some (X9 (.ref T) i a es.size ep)) (ho:s.heap.get? a=some o) (hd:o.data=.set es ep t) (hf:t.fits es.size=true)
  (hT:s.heap.get? T=some { cls:=.type "tuple",data:=.seq (Vh pl) c }) (hp:pl.length<=i)
  (hQ:∀h',qaI it s.heap h'->Q none { s with heap:=h' }):xf (xz prog w) A (pyNext (.ref it)) Q E s:=by
 refine ZiF hh hit (λA G F hh k=>?_) hQ;unfold Builtin.«set_iterator.__next__»;refine xa (m:=slotArgs _ _ _) (xb ?_);refine xa (wpAny_fieldsOf hit rfl ?_);show xf _ _ (setEntries a >>= _) _ _ _;refine xa (wpAny_setEntries_of ho hd hf ?_);rw[if_neg (by simp)];show xf _ _ (seqItems? (.ref T) >>= _) _ _ _;refine xa (xt hT rfl ?_);have e:(Vh pl)[((i:Nat):Int).toNat]?=none:=by
  simp_all
 dsimp only;rw[e];refine xa (wpAny_setField hit rfl (by simp) ?_);have g1:(s.heap.update it (qaO (·.setIfInBounds 0 (rawInt 0)))).get? it=some (X9 (rawInt 0) i a es.size ep):=zX _ hit rfl;refine xa (wpAny_setField g1 rfl (by simp) ?_);refine Zdk hh λv h' e tv=>k v h' (λb u nb eb=>e b u ?_) tv;exact(zV _ _ (ze nb)).trans ((zV _ _ (ze nb)).trans eb)
def metD (es:Array (Int×Value))(pl:List Nat):List Value:=pl.map λp=>(es.getD p default).2
theorem Zj0 (hp:pl.Perm (qj es.size)):(metD es pl).Perm (es.toList.map (·.2)):=by
 refine(hp.map _).trans ?_;have:((qj es.size).map λp=>(es.getD p default).2)=es.toList.map (·.2):=by
  apply yT;intro i;by_cases hi:i<es.size
  ·simp_all
  ·simp_all
 rw[this]
theorem ZhK (hh:A.handled=none)(I T:Addr)(hne:a≠I)(hneT:T≠I)(hd:o.data=.set es ep t)(hf:t.fits es.size=true)(hp:pl.Perm (qj es.size)) :
  Walks prog w A I [I,a,T] [I] es.size (λi v=>(metD es pl)[i]?=some v) (λi h=>h.get? a=some o/\h.get? I=some (X9 (.ref T) i a es.size ep)/\h.get? T=some { cls:=.type "tuple",data:=.seq (Vh pl) c }) where
 sub:=λb hb=>by simp at hb;simp[hb]
 frame:=λi h h' st k=>⟨k a (by simp) _ st.1,k I (by simp) _ st.2.1,k T (by simp) _ st.2.2⟩
 item:=λi s Q E hi st k=>by
  obtain⟨h1,h2,h3⟩:=st;have hl:i<pl.length:=by rw[hp.length_eq,qI];exact hi
  have hm:pl[i]<es.size:=qE.mp (hp.mem_iff.mp (yr hl));have hx:(metD es pl)[i]?=some es[pl[i]].2:=by
   unfold metD;simp_all
  exact Zni h2 h1 hd hf h3 (qB hl) (zd hm) λh' g sb=>k _ h' s.toks hx ⟨(sb.2 a hne).trans h1,g,(sb.2 T hneT).trans h3⟩ λb u nb e=>(sb.2 b (λz=>nb (by simp[z]))).trans e
 done:=λs Q E st k=>by
  obtain⟨h1,h2,h3⟩:=st;exact Zo1 hh h2 h1 hd hf h3 (by rw[hp.length_eq];simp) λh' e=>k h' s.toks λb u nb g=>e b u (λz=>nb (by simp[z])) g
 self:=λi s Q E st k=>Zgu st.2.1 k
theorem ZlO (ho:s.heap.get? a=some o)(hex:o.ExactSet)(hd:o.data=.set es ep t)(hf:t.fits es.size=true)(hz:es.size<=1000)
  (k1:(Yj w=true∨(!t.plain&&decide (es.size > 1))=false)->Q (.ref s.heap.objs.size) { s with heap:=s.heap.push (X9 (rawInt (0:Nat)) 0 a es.size ep) })
  (k2:∀(pl:List Nat) d,pl.Perm (qj es.size)->Q (.ref (s.heap.objs.size+1)) { s with heap:=(s.heap.push { cls:=.type "tuple",data:=.seq (Vh pl) }).push (X9 (.ref s.heap.objs.size) 0 a es.size ep),drawn:=d }):xf (xz prog w) A (pyIter (.ref a)) Q E s:=by
 have hT:s.TypeIs (.ref a) "set":=⟨o,ho,hex.1⟩;refine wpAny_pyIter_slot hT qbY (wpAny_call_entry qbY hT FS.entry_set_iter ?_ (PySem.F.args_set_iter_1 _));unfold Builtin.«frozenset.__iter__» Builtin.Frozenset.slot0;refine xa (xa (m:=slotArgs _ _ _) (xb ?_));refine xb ?_;unfold Builtin.Frozenset.sizeOf;refine xa (xa (wpAny_setEntries_of ho hd hf (xb ?_)));unfold setDrawn;refine xa (xa (wpAny_setState_of ho hd hf ?_));dsimp only;unfold setsByText;refine xa (xa (wpAny_askSetting (xb (xb ?_))));show xf _ _ (if (!Yj w&&(!t.plain&&decide (es.size > 1)))=true then _ else _) _ _ _;by_cases hc:(!Yj w&&(!t.plain&&decide (es.size > 1)))=true
 ·rw[if_pos hc]
  refine xa (ZeD es.size (qj es.size) _ _ qI λpl d hp=>?_);have hpl:pl.length=es.size:=by rw[hp.length_eq,qI]
  unfold newTuple;refine xa (xl ?_ (by show(Vh pl).size<=xg;rw[sizeLine_eq];simp[Vh];omega));refine xa (wpAny_setEpoch_of (s:={ s with heap:=s.heap.push { cls:=.type "tuple",data:=.seq (Vh pl) },drawn:=d }) (qf _ ho) hd hf ?_);unfold newFields;refine xa (xl ?_);refine xb ⟨_,rfl,"set_iterator",_,⟨_,qq _ rfl,rfl⟩,FS.slot_next.lookup,?_⟩;have:=k2 pl d hp;rw[<-zu s.heap { cls:=.type "tuple",data:=.seq (Vh pl) }]at this;exact this
 ·rw[if_neg hc]
  refine xa (xb ?_);refine xa (wpAny_setEpoch_of ho hd hf ?_);unfold newFields;refine xa (xl ?_);refine xb ⟨_,rfl,"set_iterator",_,⟨_,qq _ rfl,rfl⟩,FS.slot_next.lookup,?_⟩;refine k1 ?_
  cases hb:Yj w with
  | true=>exact .inl rfl
  | false=>
   simp_all
end
end HT
namespace HT
section
variable {prog:xB}{w:World}{A:xC}{E:xD}{s:Shared}
variable {a:Addr}{o:Obj}{es:Array (Int×Value)}{ep:Nat}{t:SetTable}
theorem ZlP (hT:s.TypeIs (.ref a) "set")(h:Q false s):xf (xz prog w) A (yZ (.ref a)) Q E s:=by
 unfold yZ;refine xa (wpAny_specialOf hT PySem.F.slot_set_len.lookup ?_);generalize hid:("set.__len__" : String)=id0
 wp_delta
 rw[show splitId id0=some ("set","__len__")from by subst hid;decide +kernel];subst hid;refine xa (wpAny_isInstance (T:="set") (b:=true) hT (by rw[isSubtype_type];kernel_rfl) ?_);refine wpAny_ite_split (λz=>absurd z (by decide)) (λ_=>?_);refine xa (wpAny_typeOf hT ?_);exact xb h
theorem ZlQ (h:ItemsOf (λi v=>l[i]?=some v) jT l.length):jT.toList=l:=by
 apply yT;intro i;rw[zY];by_cases hi:i<l.length
 ·have hs:i<jT.size:=by rw[h.1];exact hi
  rw[zd hs];exact(h.2 i _ (zd hs)).symm
 ·rw[qbP (by rw[h.1];omega),yX (by omega)]
theorem after {l:List Value}{St:Nat->Heap->Prop}{g:Bool->Bool}(W:Walks prog w A.in1 I fp wr n (λi v=>l[i]?=some v) St)(hl:l.length=n)(hn:n<=1000)(st:St 0 s1.heap)(hSf:S∉fp)
  (hS:s1.heap.get? S=some { cls:=.type "list",data:=.seq #[] 0 }) (hT:s1.TypeIs (.ref a) "set") (hg:g false=true)
  (k:∀h' tk c,(∀b u,b∉S::wr->s1.heap.get? b=some u->h'.get? b=some u)->h'.get? S=some { cls:=.type "list",dict:=none,data:=.seq l.toArray c,slots:=#[] }->R (.ok (.ret (.ref S))) { s1 with heap:=h',toks:=tk }) :
  xf (xz prog w) A.in1 (do
   let room<-holding [.ref I] (yZ (.ref a))
   if g room=true then do
    rule "list.extend.makes-room"
    Builtin.List.listTouch (.ref S)
    again (.builtin "list.extend.loop" { pos:=[.ref S,.ref I,.ref S] })
   else again (.builtin "list.extend.loop" { pos:=[.ref S,.ref I,.ref S] }))
   (λfin s'=>match fin with | .done f=>R (.ok f) s' | .again c'=>c'.quiet=true/\xo (xz prog w) A c' R s') (λe s'=>R (.error e) s') s1:=by
 refine xa (xu (ZlP hT ?_));rw[if_pos hg];refine xa (wpAny_rule (xa ?_));show xf _ _ (updateSeq S (·.push .none) >>= λ_=>updateSeq S (·.pop)) _ _ _;refine xa (wpAny_updateSeq hS rfl ?_);have q2:=zX (zm (·.push qW)) hS rfl;refine wpAny_updateSeq (hz:=by seq_fits) q2 rfl ?_;have q3:=zX (zm (·.pop)) q2 rfl;have oth:∀b u,b≠S->s1.heap.get? b=some u->((s1.heap.update S (zm (·.push qW))).update S (zm (·.pop))).get? b=some u:=λb u nb e=>
  (zV _ _ (ze nb)).trans ((zV _ _ (ze nb)).trans e)
 refine xb ⟨plainId_quiet F.plain_extend_loop _,codeAny_extend_loopS W.toS (by rw[sizeLine_eq];omega) S hSf _ n 0 _ #[] _ rfl (za _) (W.frame 0 s1.heap _ st λb m u e=>oth b u (λz=>hSf (z▸m)) e) q3 (ItemsOf.nil _) λs' acc' c' hm hS' hacc=>?_⟩;rw[Moved.eq_with hm];rw[<-hl]at hacc;have el:=ZlQ hacc;refine k s'.heap s'.toks c' (λb u nb e=>hm.heap b u nb (oth b u (λz=>nb (by simp[z])) e)) ?_;rw[hS',<-el]
def RF (prog:xB)(w:World)(A:xC)(E:xD)(Q:List Value->Shared->Prop)(S:Addr):Result->Shared->Prop:=λr s'=>r=.ok (.ret (.ref S))/\xf (xz prog w) A (load S >>= λx=>match x.data with | .seq xs _=>pure xs.toList | _=>unsupported "internal:collect") Q E s'
theorem Zgw (hh:A.handled=none)(ho:s.heap.get? a=some o)(hex:o.ExactSet)(hd:o.data=.set es ep t)(hf:t.fits es.size=true)(hg:Good w t)(hz:es.size<=1000)
  (k:∀(vs:List Value) (h':Heap) (tk:Nat) d,(∀b u,s.heap.get? b=some u->h'.get? b=some u)->s.heap.objs.size<h'.objs.size->vs.Perm (es.toList.map (·.2))->Q vs { s with heap:=h',toks:=tk,drawn:=d }):xf (xz prog w) A (collect (.ref a)) Q E s:=by
 unfold collect;apply xa;apply wpAny_runValue;apply xm qbU;rw[zH
  qbV _]
 show xf _ A.in1 (newList [] >>= λz=>
  again (.builtin "list.__iadd__" ⟨[z,.ref a],[]⟩)) _ _ s
 apply xa;refine xl ?_;refine xb ⟨plainId_quiet
  qaD _,xm
  F.entry_list_iadd ?_⟩
 rw[zH
  qaD _]
 show xf _ A.in1 (yc
  (.ref s.heap.objs.size) (.ref a)
  (.ref s.heap.objs.size)) _ _ _
 have hlt:a<s.heap.objs.size:=qy ho;have hS0:(s.heap.push
   { cls:=.type "list",data:=.seq ([]:List Value).toArray }).get?
   s.heap.objs.size=some { cls:=.type "list",data:=.seq #[] 0 }:=
  qq _ rfl
 have ho0:(s.heap.push
   { cls:=.type "list",data:=.seq ([]:List Value).toArray }).get? a=some o:=qf _ ho
 have kp0:∀b u,s.heap.get? b=some u->(s.heap.push
   { cls:=.type "list",data:=.seq ([]:List Value).toArray }).get? b=some u:=λb u e=>qf _ e
 have sz0:(s.heap.push
   { cls:=.type "list",data:=.seq ([]:List Value).toArray }).objs.size=s.heap.objs.size+1:=zu _ _
 generalize (s.heap.push
   { cls:=.type "list",data:=.seq ([]:List Value).toArray })=h0 at hS0 ho0 kp0 sz0⊢
 unfold yc;refine xa (wpAny_typeOf (T:="set") ⟨_,ho0,hex.1⟩ ?_);have b1:qbx (.ref s.heap.objs.size) (.ref a)=false:=by
  have:s.heap.objs.size≠a:=qaj hlt;simp[qbx,this]
 have b2:(zQ "set" == zQ "list")=false:=by decide
 have b3:(zQ "set" == zQ "tuple")=false:=by decide
 simp only[b1,b2,b3,Bool.or_false,qar,if_false];have fin:∀(l:List Value) (I:Addr) (wr:List Addr) (h1:Heap) (d:Drawn),l.Perm (es.toList.map (·.2))->(∀b∈wr,b=I)->s.heap.objs.size<I->(∀b u,h0.get? b=some u->h1.get? b=some u)->∀(h':Heap) (tk c:Nat),(∀b u,b∉s.heap.objs.size::wr->h1.get? b=some u->h'.get? b=some u)->h'.get? s.heap.objs.size=some { cls:=.type "list",dict:=none,data:=.seq l.toArray c,slots:=#[] }->
   xf (xz prog w) A (load s.heap.objs.size >>= λx=>match x.data with | .seq xs _=>pure xs.toList | _=>unsupported "internal:collect") Q E { s with heap:=h',toks:=tk,drawn:=d }:=λl I wr h1 d hp hw hI kp h' tk c kk hL=>by
  refine xa (wpAny_load hL ?_);refine xb ?_;show Q l.toArray.toList _;rw[qce];refine k l h' tk d (λb u e=>kk b u (λz=>?_) (kp b u (kp0 b u e))) (qy hL) hp;have hb:=qy e;rcases qu.mp z with z | z
  ·exact absurd hb (by rw[z];exact ye _)
  ·rw[hw b z]at hb;exact absurd (yF hb hI) (ye _)
 have z1:s.heap.objs.size<h0.objs.size:=by rw[sz0];exact yh _
 have z2:s.heap.objs.size<h0.objs.size+1:=zl z1;have n1:a≠h0.objs.size:=qA (yF hlt z1);have n2:a≠h0.objs.size+1:=qA (yF hlt z2);have n3:s.heap.objs.size≠a:=qaj hlt;refine xc (Q:=λfin s'=>match fin with | .done f=>RF prog w A E Q s.heap.objs.size (.ok f) s' | .again c'=>c'.quiet=true/\xo (xz prog w) A c' (RF prog w A E Q s.heap.objs.size) s') (E:=λe s'=>RF prog w A E Q s.heap.objs.size (.error e) s') ?_ (λfin s' h=>?_) (λe s' h=>?_)
 rotate_left
 ·cases fin with
  | done f=>
   obtain⟨e,q⟩:=h
   cases e
   exact q
  | again c'=>
   refine⟨h.1,codeAny_mono h.2 λr s'' hr=>?_⟩;obtain⟨rfl,q⟩:=hr;exact q
 ·exact absurd h.1 (by simp)
 refine xa (ZlO ho0 hex hd hf hz (λhdr=>?_) λpl d hp=>?_)
 ·refine after (ZlN (A:=A.in1) hh h0.objs.size n1 hd hf hg hdr) Znh hz ?_ ?_ ?_ ?_ ?_ ?_
  ·exact⟨qf _ ho0,0,qq _ rfl,.inr (ZhJ hg.2)⟩
  ·simp only[qu,zi,or_false,not_or]
   exact⟨qA z1,n3⟩
  ·exact qf _ hS0
  ·exact⟨_,qf _ ho0,hex.1⟩
  ·decide +kernel
  ·intro h' tk c kk hL
   exact⟨rfl,fin _ h0.objs.size [h0.objs.size] _ _ Zgv (λb m=>qL.mp m) z1 (λb u e=>qf _ e) h' tk c kk hL⟩
 ·refine after (ZhK (A:=A.in1) hh (h0.objs.size+1) h0.objs.size n2 (qA (yh _)) hd hf hp (c:=0)) ?_ hz ?_ ?_ ?_ ?_ ?_ ?_
  ·unfold metD;rw[qh,hp.length_eq,qI]
  ·refine⟨qf _ (qf _ ho0),?_,qf _ (qq _ rfl)⟩
   have:=qq (h0.push { cls:=.type "tuple",data:=.seq (Vh pl) }) (o:=X9 (.ref h0.objs.size) 0 a es.size ep) rfl;rw[zu]at this;exact this
  ·simp only[qu,zi,or_false,not_or]
   exact⟨qA z2,n3,qA z1⟩
  ·exact qf _ (qf _ hS0)
  ·exact⟨_,qf _ (qf _ ho0),hex.1⟩
  ·rfl
  ·intro h' tk c kk hL
   exact⟨rfl,fin _ (h0.objs.size+1) [h0.objs.size+1] _ _ (Zj0 hp) (λb m=>qL.mp m) z2 (λb u e=>qf _ (qf _ e)) h' tk c kk hL⟩
end
theorem Zj1 (h:us.Perm vs):∀{ns:List Int},IntsAre vs ns->∃ms,ms.Perm ns/\IntsAre us ms:=by
 induction h with
 | nil=>intro ns h;exact⟨ns,.refl _,h⟩
 | cons x p ih=>
  intro ns h
  cases h with
  | cons n t r=>
   obtain⟨ms,p2,i2⟩:=ih r;exact⟨n::ms,p2.cons n,.cons n t i2⟩
 | swap x y l=>
  intro ns h
  cases h with
  | cons n t r=>
   cases r with
   | cons m u r=>exact⟨m::n::_,.swap _ _ _,.cons m u (.cons n t r)⟩
 | trans p q ih1 ih2=>
  intro ns h;obtain⟨ms,p2,i2⟩:=ih2 h;obtain⟨ks,p3,i3⟩:=ih1 i2;exact⟨ks,p3.trans p2,i3⟩
theorem ints_of:∀{l:List (Int×Value)},ElemsOf (intKind prog w) l->∃ms,IntsAre (l.map (·.2)) ms/\∀k,k∈ms↔∃e∈l,(intKind prog w).is k e.2=true
 | [],_=>⟨[],.nil,λk=>by simp⟩
 | e::l,h=>by
  obtain⟨ms,i,m⟩:=ints_of h.tail;obtain⟨⟨k,hk,_⟩,_⟩:=h.head;obtain⟨t,et⟩:=Value.isInt_shape (show qcn k e.2=true from hk);refine⟨k::ms,?_,λj=>?_⟩
  ·rw[zT,et];exact .cons k t i
  ·rw[qu,m j]
   constructor
   ·rintro(rfl | ⟨x,hx,q⟩)
    ·exact⟨e,by simp,hk⟩
    ·exact⟨x,by simp[hx],q⟩
   ·rintro⟨x,hx,q⟩
    rcases qu.mp hx with rfl | hx
    ·exact .inl ((intKind prog w).inj _ j k q hk)
    ·exact .inr ⟨x,hx,q⟩
theorem perm_of_nodup:∀{l m:List Int},l.Nodup->(∀x∈l,x∈m)->m.length=l.length->l.Perm m
 | [],m,_,_,e=>by
  simp_all
 | a::l,m,nd,s,e=>by
  have nd:=zx.mp nd;have ha:=s a (by simp);have p:=List.perm_cons_erase ha;have le:(m.erase a).length=l.length:=by
   simp_all
  refine(qbS a (perm_of_nodup nd.2 (λx hx=>?_) le)).trans p.symm
  grind
section
variable {prog:xB}{w:World}{A:xC}{E:xD}{s:Shared}
variable {a:Addr}{o:Obj}{es:Array (Int×Value)}{ep:Nat}{t:SetTable}
theorem sortedS (hh:A.handled=none)(ho:s.heap.get? a=some o)(hex:o.ExactSet)(hd:o.data=.set es ep t)(hf:t.fits es.size=true)(hg:Good w t)(hz:es.size<64)(hi:IntsAre (es.toList.map (·.2)) ns)
  (k:∀(out:Array Value) (ns':List Int) (L:Addr) (h':Heap) (tk:Nat) d (e:Nat),IntsAre out.toList ns'->ns'.Perm ns->ns'.Pairwise (·<=·)->(∀b u,s.heap.get? b=some u->h'.get? b=some u)->s.heap.objs.size<=L->h'.get? L=some (seqObj "list" out e)->Q (.ref L) { s with heap:=h',toks:=tk,drawn:=d }) :
  xf (xz prog w) A (call (.builtin "sorted") [.ref a]) Q E s:=by
 refine Calls.call_function_entry kind_sorted plain_sorted entry_sorted (args_sorted1 _) ?_;unfold Builtin.«sorted»;refine xa (m:=checkCount "sorted" 1 1 _) (xb ?_);refine xa (Zgw hh ho hex hd hf hg (by omega) λvs h1 tk d kp hs pm=>?_);obtain⟨ms,p2,i2⟩:=Zj1 pm hi;have hl:vs.length=es.size:=by rw[pm.length_eq,qh,qX]
 refine xa (xw ?_ (by rw[sizeLine_eq];omega));have g1:(h1.push (seqObj "list" vs.toArray 0)).get? h1.objs.size=some (seqObj "list" vs.toArray 0):=qq _ rfl;refine xa (xu (wpAny_call_entry slot_list_sort ⟨_,g1,rfl⟩ entry_list_sort (list_sort_tree g1 i2 (by omega) λout ns' a1 a2 a3=>⟨_,rfl,?_⟩) (args_list_sort _)));obtain⟨e,he⟩:=sortedHeap_at g1;refine xb ⟨_,rfl,k out ns' h1.objs.size _ tk d e a1 (a2.trans p2) a3 (λb u q=>?_) (qbq hs) he⟩;have q1:=kp b u q;have l1:=qy q1;rw[sortedHeap_old (qA l1) (by rw[zu];exact zl l1)];exact qf _ q1
end
end HT
namespace TF
open L2
section
variable {X:Cx}{G:Gh}
def Y7 (ns:List Int):List Int:=ns.foldl step_dedup []
theorem jI {σ:St}(I:Inv X jM σ H s):Inv X jM σ H { s with drawn:=d }:=⟨I.ok,I.os,I.bare,I.base,I.loc,I.cell,I.free,I.freeC,I.pin,I.hok,I.len⟩
def LedO (w:World)(o:Obj):Prop:=∃es ep t,o.data=.set es ep t/\HT.Good w t
theorem ZhL (hc:X.calm=true):Xi X (.type "set") (λxs H Q=>∃(p:Addr) (ns:List Int),xs=[.ref p]/\(ZD X.K H p (ns.map V.int)∨ZO X.K H p (ns.map V.int))/\ns.length<=1000/\∀l o,H l=none->LedO X.w o->Q (.ref l) (Zi H l (.frz o (.set (λk'=>(Y7 ns).any (· == k')) (Y7 ns).length)))):=by
 intro jM s σ H xs us Q I r h;obtain⟨p,ns,rfl,hp,hl,q⟩:=h;obtain⟨u,rfl,ru⟩:=XT r
 cases ru
 have fin:∀(items:Array Value) (_:IntsAre items.toList ns) (h':Heap) (tk:Nat),HT.SetLed X.prog X.w h' s.heap.objs.size (λk'=>(firstMet (λi=>ns.getD i 0) items.size).any (· == k')) (firstMet (λi=>ns.getD i 0) items.size).length->(∀b o,b<s.heap.objs.size->s.heap.get? b=some o->h'.get? b=some o)->EP X jM σ Q (.ref s.heap.objs.size) { s with heap:=h',toks:=tk }:=λitems hi h' tk hS hk=>by
  have e:firstMet (λi=>ns.getD i 0) items.size=Y7 ns:=Za0 ns _ (by rw[<-hi.length,qX]);rw[e]at hS;have hS':=hS.setOf;obtain⟨o,xs,ep,t,g1,g2,g3,g4,g5,g6,g7,g8,g9⟩:=hS;exact⟨.ref s.heap.objs.size,_,I.laid (o:=.frz o (.set (λk'=>(Y7 ns).any (· == k')) (Y7 ns).length)) (λb o e=>hk b o (qy e) e) (qp _) ⟨g1,hS'⟩,rfl,q _ o (I.hok.fresh (qp _)) ⟨xs,ep,t,g3,g9⟩⟩
 rcases hp with hp | hp
 ·obtain⟨jO,rv,pl,hz⟩:=I.list hp
  have hi:=WR rv;have hll:=hi.length;exact HT.setL_of_list (I.ok.hd hc) pl.isList (by omega) (by simp[scanBound];omega) (fin jO.toArray (by omega))
 ·obtain⟨jO,rv,pl,hz⟩:=I.tuple hp
  have hi:=WR rv;have hll:=hi.length;exact HT.setL_of_tuple (I.ok.hd hc) (show s.heap.IsTuple p jO.toArray from pl) (by omega) (by simp[scanBound];omega) (fin jO.toArray (by omega))
theorem Zfj (hc:X.calm=true):Xi X (.builtin "sorted") (λxs H Q=>∃(p:Addr) (o:Obj) (ds:List Int),xs=[.ref p]/\H p=some (.frz o (.set (λk'=>ds.any (· == k')) ds.length))/\LedO X.w o/\ds.Nodup/\ds.length<64/\∀l,H l=none->Q (.ref l) (Zi H l (.lst ((Xo ds).map V.int)))):=by
 intro jM s σ H xs us Q I r h;obtain⟨p,o,ds,rfl,hp,hL,nd,h64,q⟩:=h;obtain⟨u,rfl,ru⟩:=XT r
 cases ru
 obtain⟨ho,o2,xs,ep,t,g1,g2,g3,g4,g5,g6,g7,g8⟩:=(show Yq X.prog X.w H s.heap p (.frz o (.set (λk'=>ds.any (· == k')) ds.length))from I.hok p _ hp);rw[ho]at g1;cases g1;obtain⟨xs2,ep2,t2,e2,hg⟩:=hL;rw[g3]at e2;cases e2;obtain⟨ms,hi,hm⟩:=HT.ints_of g4;have hml:ms.length=ds.length:=by rw[<-hi.length,qh,qX,g8]
 have pm:=HT.perm_of_nodup nd (λx hx=>(hm x).mpr ((g5 x).mp (by simp[hx]))) hml;refine HT.sortedS (I.ok.hd hc) ho g2 g3 g7 hg (by omega) hi λout ns' L h' tk d e a1 a2 a3 kp hL he=>?_;have en:=ZaW (a2.trans pm.symm) a3;subst en;refine⟨.ref L,_,jI (I.laid (o:=.lst ((Xo ds).map V.int)) kp hL ⟨?_,out.toList,e,ZaX a1,he⟩),rfl,q _ (I.hok.fresh hL)⟩;rw[qh,(ZbF ds).length_eq,sizeLine_eq];omega
def Bw (f:Zc->M D):Zc->M D:=fun ρ=>Zm (f ρ) λd=>match d with
 | .tup ds=>(match ZH ds with | some ns=>if ns.length<64 then Zy (.lst ((Xo (Y7 ns)).map .int))else Zq | none=>Zq)
 | .lst ds=>(match ZH ds with | some ns=>if ns.length<64 then Zy (.lst ((Xo (Y7 ns)).map .int))else Zq | none=>Zq)
 | _=>Zq
theorem Zj2 (ns:List Int):(Y7 ns).length<=ns.length:=by
 have:=ZiC ns [];simpa[Y7]using this
theorem ZhM {p1 p2 pos1 pos:Pos}(hc:X.calm=true)(hg:Gl X "sorted")(hm:X.mg "sorted" = none)(hv:xj "sorted" = some (.builtin "sorted"))(hg2:Gl X "set")(hm2:X.mg "set" = none)(hv2:xj "set" = some (.type "set"))(ha:PD X G r1 a f)
  (hs:xh [a] X.env=(false,eval a X.env)::xh [] X.env:=by rfl)
  (hs2:xh [qck (.Name "set" p2) [a] [] pos1] X.env=(false,eval (qck (.Name "set" p2) [a] [] pos1) X.env)::xh [] X.env:=by rfl) (hpl:(backTo pos (xh [] X.env)).any (·.1)=false:=by rfl) (hpl1:(backTo pos1 (xh [] X.env)).any (·.1)=false:=by rfl) :
  PD X G true (.Call (.Name "sorted" p1) [.Call (.Name "set" p2) [a] [] pos1] [] pos) (Bw f):=by
 obtain⟨t,pa,qa⟩:=ha.drop;refine⟨_,V9 (Zfj hc) hg hm hv (ZU (UU (ZhL hc) hg2 hm2 hv2 (ZU pa Yn hs) (by decide) (by decide) hs hpl1) Yn hs2) (by decide) (by decide) hs2 hpl,fun σ Hf H ρ s d s' Q e1 e2 e3 e4 k=>?_⟩;obtain⟨d0,s1,a1,a2⟩:=Zs e4;refine qa σ Hf H ρ s d0 s1 _ e1 e2 e3 a1 λv jV H1 g1 jX r1=>?_;have go:∀ns:List Int,(if ns.length<64 then Zy (D.lst ((Xo (Y7 ns)).map .int))else Zq) s1=some (d,s')->(∃p,v=.ref p/\(ZD X.K H1 p (ns.map V.int)∨ZO X.K H1 p (ns.map V.int)))->∃(p:Addr) (ns:List Int),[v]=[.ref p]/\(ZD X.K H1 p (ns.map V.int)∨ZO X.K H1 p (ns.map V.int))/\ns.length<=1000/\∀l o,H1 l=none->LedO X.w o->
   ∃(p:Addr) (o':Obj) (ds:List Int),[V.ref l]=[.ref p]/\Zi H1 l (.frz o (.set (λk'=>(Y7 ns).any (· == k')) (Y7 ns).length)) p=some (.frz o' (.set (λk'=>ds.any (· == k')) ds.length))/\LedO X.w o'/\ds.Nodup/\ds.length<64/\∀l',Zi H1 l (.frz o (.set (λk'=>(Y7 ns).any (· == k')) (Y7 ns).length)) l'=none->Q (.ref l') (Zi (Zi H1 l (.frz o (.set (λk'=>(Y7 ns).any (· == k')) (Y7 ns).length))) l' (.lst ((Xo ds).map V.int))):=λns h ⟨p,ev,hp⟩=>by
  obtain⟨hl,h⟩:=YQ h;obtain⟨rfl,rfl⟩:=ZC h;have hu:=Zj2 ns;refine⟨p,ns,by rw[ev],hp,by omega,λl o hn hL=>⟨l,o,Y7 ns,rfl,ZE,hL,(Zau ns).1,by omega,λl' hn'=>?_⟩⟩;have nf:=Gh.nofp jX hn;have g2:=Gr.new (o:=.frz o (.set (λk'=>(Y7 ns).any (· == k')) (Y7 ns).length)) g1.fh hn nf;have jY:=Gh.grow (o:=.frz o (.set (λk'=>(Y7 ns).any (· == k')) (Y7 ns).length)) jX hn;have nf':=Gh.nofp jY hn';have g3:=Gr.new (o:=.lst ((Xo (Y7 ns)).map V.int)) g2.fh hn' nf';exact k (.ref l') _ _ ((g1.trans g2).trans g3) (Gh.grow jY hn') (jb.mpr ⟨l',_,rfl,nf',ZE,V7 _⟩) λ_=>Z7.old (g1.trans g2).hh (λa ea _=>by cases ea;exact nf') (Z7.mk g2.fh hn' nf' (V7 _))
 match d0,a2,r1 with
 | .tup ds,a2,r1=>
  have a2:(match ZH ds with | some ns=>if ns.length<64 then Zy (D.lst ((Xo (Y7 ns)).map .int))else Zq | none=>Zq) s1=some (d,s'):=a2
  cases he:ZH ds with
  | none=>rw[he]at a2;cases a2
  | some ns=>
   rw[he]at a2;obtain⟨p,vs,rfl,np,hp,rp⟩:=jc.mp r1;rw[Wq he]at rp;rw[jk rp]at hp;exact go ns a2 ⟨p,rfl,.inr (ZO.of (g1.fh _ _ np hp))⟩
 | .lst ds,a2,r1=>
  have a2:(match ZH ds with | some ns=>if ns.length<64 then Zy (D.lst ((Xo (Y7 ns)).map .int))else Zq | none=>Zq) s1=some (d,s'):=a2
  cases he:ZH ds with
  | none=>rw[he]at a2;cases a2
  | some ns=>
   rw[he]at a2;obtain⟨p,vs,rfl,np,hp,rp⟩:=jb.mp r1;rw[Wq he]at rp;rw[jk rp]at hp;exact go ns a2 ⟨p,rfl,.inl (ZD.of (g1.fh _ _ np hp))⟩
end
section
variable {X:Cx}{G:Gh}{ob own:List Nat}{fr:Bool}{f:Zc->M D}
end
end TF
namespace TT
open L2 TS
section
variable {prog:xB}{w:World}{A:xC}{E:xD}{s:Shared}
end
end TT
namespace TS
open L2
section
variable {prog:xB}{w:World}{A:xC}{E:xD}{s:Shared}
end
end TS
namespace TF
open L2 TS
section
variable {X:Cx}{G:Gh}
end
end TF
namespace TF
open L2 TT
section
variable {X:Cx}{G:Gh}
end
end TF
namespace TQ
open L2 TF TQ
open TP
open TP2
open TP3
end TQ
namespace TF
open L2
section
variable {X:Cx}{G:Gh}{f g:Zc->M D}
end
end TF
namespace TQ
open L2 TF
end TQ
namespace TF
open L2
section
variable {X:Cx}{G:Gh}
end
theorem boot_sum:xj "sum" = some (.builtin "sum"):=by rfl
section
variable {X:Cx}{G:Gh}
def Um (ns:List Int):Bool:=ns.all λn=>decide (-4294967296<=n)&&decide (n<=4294967296)
theorem Zgx (h:Um ns=true):∀j:Nat,-(4294967296*(j:Int))<=(ns.take j).sum/\(ns.take j).sum<=4294967296*(j:Int):=by
 intro j
 induction ns generalizing j with
 | nil=>grind
 | cons n r ih=>
  cases j with
  | zero=>simp
  | succ j=>
   unfold Um at h;simp only[qbh,zK,decide_eq_true_eq]at h;have:=ih h.2 j;rw[List.take_succ_cons,List.sum_cons];omega
def dSum:List D->Option D
 | [.lst ds]=>match ZH ds with | some ns=>if Um ns=true then some (.int ns.sum)else none | none=>none
 | _=>none
theorem Zj3 (hc:X.calm=true):Xi X (.builtin "sum") (λxs H Q=>∃p ns,xs=[.ref p]/\ZD X.K H p (ns.map V.int)/\Um ns=true/\Q (.int ns.sum) H):=by
 intro jM s σ H xs us Q I r h;obtain⟨p,ns,rfl,hp,ok,q⟩:=h;obtain⟨u,rfl,ru⟩:=XT r
 cases ru
 obtain⟨jO,rv,pl,hz⟩:=I.list hp;have hi:IntsAre jO ns:=WR rv;obtain⟨xs,e⟩:=hi.allInts.items;have hns:ns=xs.toList.map (·.1):=by rw[<-hi.numsOf,<-nums_intItems,<-e]
 have hl:=pl.isList;rw[e]at hl;have jW:ns.length=xs.size:=by rw[hns,qh,qX]
 have hz2:ns.length<=16777216:=by
  have:=hz;rw[qh]at this;rw[show xg=16777216 by decide]at this;exact this
 refine sum_intList (I.ok.hd hc) hl (λj hj=>?_) λh' tk t' hk=>?_
 ·rw[preSum_eq,<-hns]
  have h1:=Zgx ok (j+1);have h2:-4294967296<=numAt xs j/\numAt xs j<=4294967296:=by
   rw[numAt_eq,<-hns];have hm:ns.getD j 0∈ns:=getD_mem (by omega);have:=zC.mp ok _ hm;simp at this;exact this
  constructor
  ·constructor <;> omega
  ·constructor <;> omega
 ·rw[preSum_eq,<-hns,<-jW,qbw]
  exact⟨.int ns.sum,H,I.kept hk,⟨_,rfl⟩,q⟩
theorem Zj4 (hc:X.calm=true):Wk X G (.builtin "sum") dSum:=
 ⟨_,Zj3 hc,λHf H s xs ds c Q e1 st r q k=>by
  match ds,q,r with
  | [.lst es],q,r=>
   have q:(match ZH es with | some ns=>if Um ns=true then some (D.int ns.sum)else none | none=>none)=some c:=q
   cases he:ZH es with
   | none=>simp_all
   | some ns=>
    rw[he]at q;by_cases ok:Um ns=true
    ·have q:(if Um ns=true then some (D.int ns.sum)else none)=some c:=q
     rw[if_pos ok]at q
     cases q
     obtain⟨v,rfl,rv⟩:=ji r;obtain⟨p,vs,rfl,np,hp,rp⟩:=jb.mp rv;rw[Wq he]at rp;rw[jk rp]at hp;exact⟨p,ns,rfl,ZD.of (e1 _ _ np hp),ok,k _ Hf H (.refl e1) st (ja.mpr rfl) (.scal λz=>z)⟩
    ·simp_all⟩
end
open PySem.SeqAt
open AutoSeq1 (wpAny_loadPart')
theorem Zgy (l:Addr)(items:Array Value)(n:Nat)(dd:Option Addr)(sl:Array (Option Value))(u:Tok) :
  Meets (Builtin.«tuple.__mul__» ⟨[.ref l,.int 1 u],[]⟩) (λ_ R s=>s.heap.get? l=some { cls:=.type "tuple",dict:=dd,data:=.seq items n,slots:=sl }/\R (.ok (.ret (qH l))) s):=
 .of_wp λprog w A R s h=>by
  obtain⟨hp,g,d,tk,os⟩:=s;obtain⟨hl,h⟩:=h;have f1:=qbv;have f2:=yD;have f3:=qaJ;have f4:=qav;have f5:=qaw;wp_walk using wpAny_loadPart' hl;exact⟨_,rfl,h⟩
theorem Zgz (l:Addr)(items:Array Value)(n:Nat)(dd:Option Addr)(sl:Array (Option Value))(u:Tok)(hc1:items.isEmpty=false) :
  Meets (Builtin.«tuple.__mul__» ⟨[.ref l,.int 0 u],[]⟩) (λ_ R s=>s.heap.get? l=some { cls:=.type "tuple",dict:=dd,data:=.seq items n,slots:=sl }/\R (.ok (.ret (qH s.heap.objs.size))) { s with heap:=s.heap.push { cls:=zQ "tuple",data:=Data.seq #[] },toks:=s.toks }):=
 .of_wp λprog w A R s h=>by
  obtain⟨hp,g,d,tk,os⟩:=s;obtain⟨hl,h⟩:=h;have f1:=qbv;have f2:=yD;have f3:=qaJ;have f4:=qav;have f5:=qaw;wp_walk using wpAny_loadPart' hl;exact⟨_,rfl,h⟩
section
variable {X:Cx}{G:Gh}
def Zo2 (K:qd):R2:=λx y H Q=>∃l xs,x=.ref l/\y=.int 1/\ZO K H l xs/\Q (.ref l) H
def Zo3 (K:qd):R2:=λx y H Q=>∃l xs,x=.ref l/\y=.int 0/\ZO K H l xs/\xs≠[]/\∀p,H p=none->Q (.ref p) (Zi H p (.tup []))
theorem ZlR:Yl X (binaryOp .Mult) (Zo2 X.K):=by
 intro jM s σ H x y v u Q I rx ry h;obtain⟨l,xs,rfl,rfl,hH,q⟩:=h
 cases rx
 obtain⟨t,rfl⟩:=ry;obtain⟨jO,r,p1,_⟩:=I.tuple hH;obtain⟨⟨cls,dd,data,sl⟩,ho,hc,n,hd⟩:=id p1;subst hc hd;exact wpAny_binaryOp_repeat_ref (by decide) ⟨_,ho,rfl⟩ (λs'=>typeIs_int s' 1 t) Zag qa1 yn ZaV qaP.lookup
  (call_meets yn (typeIs_int s 1 t) qaQ (qaB _ _) (Zaz 1 t l jO.toArray n dd sl)
   ⟨ho,rfl,⟨_,ho,rfl⟩,call_meets yS ⟨_,ho,rfl⟩ qax (qao _ _) (Zgy l jO.toArray n dd sl t) ⟨ho,.ref l,H,I,rfl,q⟩⟩)
theorem ZlS:Yl X (binaryOp .Mult) (Zo3 X.K):=by
 intro jM s σ H x y v u Q I rx ry h;obtain⟨l,xs,rfl,rfl,hH,hne,q⟩:=h
 cases rx
 obtain⟨t,rfl⟩:=ry;obtain⟨jO,r,p1,_⟩:=I.tuple hH;obtain⟨⟨cls,dd,data,sl⟩,ho,hc,n,hd⟩:=id p1;subst hc hd;have hne':=λz=>hne (r.nil_iff.mp z);have hemp:jO.toArray.isEmpty=false:=by grind
 exact wpAny_binaryOp_repeat_ref (by decide) ⟨_,ho,rfl⟩ (λs'=>typeIs_int s' 0 t) Zag qa1 yn ZaV qaP.lookup
  (call_meets yn (typeIs_int s 0 t) qaQ (qaB _ _) (Zaz 0 t l jO.toArray n dd sl)
   ⟨ho,rfl,⟨_,ho,rfl⟩,call_meets yS ⟨_,ho,rfl⟩ qax (qao _ _) (Zgz l jO.toArray n dd sl t hemp) ⟨ho,.ref s.heap.objs.size,_,I.laid (o:=.tup []) (λb ob q=>qf _ q) (qp _) ⟨za _,[],.nil,qch _ _⟩,rfl,q _ (I.hok.fresh (qp _))⟩⟩)
def ZiG (d e:D):Option D:=match d,e with
 | .tup ds,.int k=>if k=1 then some (.tup ds)else if k=0/\ds≠[]then some (.tup [])else JZ (.tup ds) (.int k)
 | _,_=>JZ d e
theorem ZlT:XD X G (binaryOp .Mult) ZiG:=by
 obtain⟨r0,po,qo⟩:=Zlj (X:=X) (G:=G);refine⟨_,po.or (ZlR.or ZlS),λHf H s x y d e c Q e1 st rx ry q k=>?_⟩;by_cases hd:∃ds j,d=.tup ds/\e=.int j
 ·obtain⟨ds,j,rfl,rfl⟩:=hd
  have q:(if j=1 then some (D.tup ds)else if j=0/\ds≠[]then some (.tup [])else JZ (.tup ds) (.int j))=some c:=q;by_cases h1:j=1
  ·rw[if_pos h1]at q
   cases q
   obtain⟨p,vs,rfl,np,hp,rp⟩:=jc.mp rx;refine .inr (.inl ⟨p,vs,rfl,by rw[ja.mp ry,h1],ZO.of (e1 _ _ np hp),?_⟩);exact k (.ref p) _ _ (.refl e1) st (jc.mpr ⟨p,vs,rfl,np,hp,rp⟩) (.scal λz=>z)
  ·rw[if_neg h1]at q
   by_cases h2:j=0/\ds≠[]
   ·rw[if_pos h2]at q
    cases q
    obtain⟨p,vs,rfl,np,hp,rp⟩:=jc.mp rx;refine .inr (.inr ⟨p,vs,rfl,by rw[ja.mp ry,h2.1],ZO.of (e1 _ _ np hp),λz=>h2.2 (zO.mp (by rw[rp.length,z];rfl)),λl hl=>?_⟩);have nf:=Gh.nofp st hl;have g2:=Gr.new (o:=.tup []) e1 hl nf;exact k (.ref l) _ _ g2 (Gh.grow st hl) (jc.mpr ⟨l,_,rfl,nf,ZE,Zk.nil_iff.mpr rfl⟩) (.scal λz=>z)
   ·rw[if_neg h2]at q
    exact .inl (qo Hf H s x y _ _ c Q e1 st rx ry q k)
 ·have q':JZ d e=some c:=by
   unfold ZiG at q;simp_all
  exact .inl (qo Hf H s x y _ _ c Q e1 st rx ry q' k)
end
end TF
namespace TQ
open L2 TF TQ
open TP
open TP2
open TP3
def ZhN:Zc->M Out:=(Zg (ZS 1 (ZZ (Zb (Zd Zj (Za 0) (dC (.int 0))) (Zb (Zu UP (Zb (Za 0) Ze)) Ze))))
 (Zg (ZL (ZQ [none,some 1] (ZW (Zd Zj (Za 0) (dC (.int 0)))) (Zv 0) Yc (Zu JN (Zb (Za 1) (Zb (Za 0) Ze)))))
 Zp))
def JA:List D->M D:=runB 2 1 ZhN
def Zcz (Fs:List D->M D):Zc->M Out:=(Zg (ZS 4 (ZQ [none,some 2,some 0] (ZX (Za 3)) (Zv 0) (XZ (asB (Zd Y9 (Za 0) (Za 1))) (asB (Zd WG (Za 0) (Zd Zj (Za 2) (Za 1))))) (Za 0)))
 (Zg (ZL (Zd Y0 (Y4 (Zb (Za 2) Ze)) (Zu Fs (Zb (Za 0) (Zb (Za 1) (Zb (Za 4) Ze))))))
 Zp))
def Zac (Fs:List D->M D):List D->M D:=runB 5 4 (Zcz Fs)
def ZdY:Zc->M Out:=(Zg (ZL (ZQ [none,some 0,some 1] (ZX (Za 2)) (Zv 0) (asB (Zd YF (Za 0) (Zd Zj (Za 1) (Za 2)))) (Za 0)))
 Zp)
def ZaH:List D->M D:=runB 3 3 ZdY
def Zj5:Zc->M Out:=(Zg (ZL (Zx dSum (Zb (ZQ [none,some 0] (ZX (Za 1)) (Zv 0) Yc (Zd Zj (Za 1) (Za 0))) Ze)))
 Zp)
def Bt:List D->M D:=runB 2 2 Zj5
def ZaO (Fs:List D->M D):Zc->M Out:=(Zg (Yw (asB (Zd Xk (Za 2) (Y4 Ze)))
 (Zg (ZL (Y4 Ze))
 Zp)
 Zp)
 (Zg (ZS 3 (ZQ [none,some 0,some 2] (ZX (Za 2)) (Zv 0) Yc (Zu ZaH (Zb (Za 1) (Zb (Za 0) (Zb (Za 2) Ze))))))
 (Zg (YS (ZW (Zx Yo (Zb (Za 2) Ze))) (Zv 4)
 (Zg (Yw (asB (Zd Vg (Zu Bt (Zb (Za 1) (Zb (Zd Zj (Za 3) (Za 4)) Ze))) (Zd Zj (Za 1) (Zd Zj (Za 2) (Za 4)))))
 (Zg (ZL (Zu (Zac Fs) (Zb (Za 0) (Zb (Za 1) (Zb (Zd Zj (Za 2) (Za 4)) (Zb (Za 2) Ze))))))
 Zp)
 Zp)
 Zp))
 (Zg (ZS 5 (ZQ [none] (ZX (Za 3)) (Zv 0) Yc (Zx Yo (Zb (Za 0) Ze))))
 (Zg (ZS 6 (Zd Zj (Za 2) (Zd Zff (Za 5) (Zx VW (Zb (Za 5) Ze)))))
 (Zg (ZS 7 (Zu (Zac Fs) (Zb (Za 0) (Zb (Za 1) (Zb (Za 6) (Zb (Za 2) Ze))))))
 (Zg (ZS 8 (Zu Fs (Zb (Za 0) (Zb (Za 1) (Zb (ZQ [none,some 6] (ZX (Za 2)) (Zv 0) (asB (Zd Y9 (Za 0) (Za 1))) (Za 0)) Ze)))))
 (Zg (ZL (dIf (asB (Zd Js (Zu Bt (Zb (Za 1) (Zb (Za 7) Ze))) (Zu Bt (Zb (Za 1) (Zb (Za 8) Ze))))) (Za 7) (Za 8)))
 Zp))))))))
def Bk:Nat->List D->M D
 | 0=>λ_=>Zq
 | n+1=>runB 9 3 (ZaO (Bk n))
def ZcA:Zc->M Out:=(Zg (ZS 2 (ZQ [none] (ZX (Zu JA (Zb (Zu JE (Zb (Za 0) Ze)) Ze))) (Zv 0) Yc (Zx Ze6 (Zb (ZQ [none] (ZX (Za 0)) (Zv 0) Yc (ZZ (Zb (Za 0) (Zb (dC (.bl true)) Ze)))) Ze))))
 (Zg (ZL (Zx JL (Zb (Zx ZcK (Zb (Zu (Bk 26) (Zb (Za 2) (Zb (Za 1) (Zb (VF (Zd Zj (Za 0) (dC (.int 0)))) Ze)))) Ze)) Ze)))
 Zp))
def Zak:List D->M D:=runB 3 2 ZcA
def Zo4:Zc->M Out:=(Zg (ZS 1 (Zu Zak (Zb (Za 0) (Zb (Zd ZiG (ZZ (Zb (dC (.int 1)) Ze)) (Zd Zj (Za 0) (dC (.int 0)))) Ze))))
 (Zg (ZL (ZZ (Zb (Zx Yo (Zb (Za 1) Ze)) (Zb (Za 1) Ze))))
 Zp))
def UE:List D->M D:=runB 2 1 Zo4
def Zfk:Zc->M Out:=(Zg (ZS 2 (Zu JA (Zb (Za 0) Ze)))
 (Zg (Wo 3 (dC (.dk [])))
 (Zg (YS (fun ρ=>(ZX (Za 1)) (Yk [3] ρ)) (Zv 4)
 (Zg (Ul 3 (fun ρ=>(Za 4) (Yk [3] ρ)) (Xa true (Zu Jy (Zb (ZQ [none,some 3] (ZX (Zd Zj (Za 2) (Za 4))) (Zv 0) (asB (Zd YF (Za 0) (Za 1))) (Zd UL (Za 1) (Za 0))) Ze))))
 Zp))
 (Zg (ZL (Zx JL (Zb (ZQ [none,some 3] (ZW (Zd Zj (Za 0) (dC (.int 0)))) (Zv 0) Yc (Zd UL (Za 1) (Za 0))) Ze)))
 Zp))))
def UR:List D->M D:=runB 5 2 Zfk
end TQ
namespace TF
open L2
section
variable {X:Cx}{G:Gh}
end
section
variable {X:Cx}{G:Gh}
end
end TF
namespace TS
open PySem.W
def VN {α:Type}(lt:Nat->Nat->Bool):KasT α->α
 | .ret a=>a
 | .ask i j k=>VN lt (k (lt i j))
theorem Ym.run {Q:α->Prop}:∀{t:KasT α},Ym lt n t Q->Ym lt n t (λa=>a=VN lt t)/\Q (VN lt t)
 | .ret a,h=>⟨rfl,h⟩
 | .ask i j k,h=>⟨⟨h.1,h.2.1,(Ym.run h.2.2).1⟩,(Ym.run h.2.2).2⟩
structure OrdW (lt:Nat->Nat->Bool):Prop where
 tr:∀a b c,lt a b=false->lt b c=false->lt a c=false
 as:∀a b,lt a b=true->lt b a=false
section
variable {lt:Nat->Nat->Bool}{n:Nat}{p q:Array Nat}
def V5 (lt:Nat->Nat->Bool)(p:Array Nat)(m:Nat):Prop:=∀i j,i<j->j<m->lt (g p j) (g p i)=false
def Bf (lt:Nat->Nat->Bool)(p:Array Nat)(m:Nat):Prop:=∀i j,i<j->j<m->lt (g p i) (g p j)=false
def EqW (lt:Nat->Nat->Bool)(p:Array Nat)(l m:Nat):Prop:=∀i j,l<=i->i<m->l<=j->j<m->lt (g p i) (g p j)=false
theorem OrdW.irr (o:OrdW lt)(a:Nat):lt a a=false:=by
 cases e:lt a a with
 | false=>rfl
 | true=>have:=o.as a a e;grind
theorem ascW (o:OrdW lt)(h:Pm n p):∀(f k:Nat),1<=k->k+f=n->V5 lt p k->Ym lt n (kas_asc p f k) (λm=>k<=m/\m<=n/\V5 lt p m/\(m<n->lt (g p m) (g p (m-1))=true))
 | 0,k,h1,h2,hs=>⟨qp _,by omega,hs,λz=>by omega⟩
 | f+1,k,h1,h2,hs=>by
  show g p k<n/\g p (k-1)<n/\Ym lt n (if lt (g p k) (g p (k-1))=true then .ret k else kas_asc p f (k+1)) _;refine⟨h.bd _,h.bd _,?_⟩
  cases e:lt (g p k) (g p (k-1))with
  | true=>rw[if_pos rfl];exact⟨qp _,by omega,hs,λ_=>e⟩
  | false=>
   refine Ym.mono (λm ⟨a,b⟩=>⟨by omega,b⟩) (ascW o h f (k+1) (by omega) (by omega) λi j hij hj=>?_);by_cases hjk:j<k
   ·exact hs i j hij hjk
   ·have:j=k:=by omega
    subst this;by_cases hi:i=j-1
    ·simp_all
    ·exact o.tr _ _ _ e (hs i (j-1) (by omega) (by omega))
theorem JQ (hj:q.size=n)(hl:l<=m)(hm:m<=n)(k:Nat):g (kas_rev q l m) k=if l<=k/\k<m then g q (l+(m-1-k))else g q k:=by
 have e:=getElem?_mirror_all (xs:=q) (i:=l) (j:=m) (by omega) k;unfold kas_rev;by_cases hk:l<=k/\k<m
 ·rw[if_pos hk]at e
  rw[if_pos hk];exact Jp (by rw[e];grind)
 ·rw[if_neg hk]at e
  rw[if_neg hk];exact Jp e
theorem Zn9 (hs:p.size=n)(hl:l<=m)(hm:m<=n)(hd:Bf lt p m)(he:EqW lt p l m):Bf lt (kas_rev p l m) m:=λi j hij hj=>by
 rw[JQ hs hl hm,JQ hs hl hm];by_cases hi:l<=i
 ·rw[if_pos ⟨hi,by omega⟩,if_pos ⟨by omega,hj⟩]
  exact he _ _ (by omega) (by omega) (by omega) (by omega)
 ·rw[if_neg (λz=>hi z.1)]
  by_cases hjl:l<=j
  ·rw[if_pos ⟨hjl,hj⟩]
   exact hd _ _ (by omega) (by omega)
  ·rw[if_neg (λz=>hjl z.1)]
   exact hd _ _ hij hj
theorem ZiH (o:OrdW lt):∀(f k q:Nat) (p:Array Nat),Pm n p->q+1<=k->k+f=n->Bf lt p k->EqW lt p (k-(q+1)) k->
  Ym lt n (kas_desc f p k q) (λr=>Pm n r.1/\r.2.2+1<=r.2.1/\r.2.1<=n/\Bf lt r.1 r.2.1/\EqW lt r.1 (r.2.1-(r.2.2+1)) r.2.1)
 | 0,k,q,p,h,h1,h2,hd,he=>⟨h,h1,by show k<=n;omega,hd,he⟩
 | f+1,k,q,p,h,h1,h2,hd,he=>by
  show g p k<n/\g p (k-1)<n/\Ym lt n (if lt (g p k) (g p (k-1))=true then (if q > 0 then kas_desc f (kas_rev p (k-(q+1)) k) (k+1) 0 else kas_desc f p (k+1) 0)else .ask (g p (k-1)) (g p k) λd=>if d=true then .ret (p,k,q)else kas_desc f p (k+1) (q+1)) _;refine⟨h.bd _,h.bd _,?_⟩;have one:∀p:Array Nat,EqW lt p (k+1-(0+1)) (k+1):=λp i j a b c d=>by
   have:i=j:=by omega
   subst this;exact o.irr _
  cases e:lt (g p k) (g p (k-1))with
  | true=>
   rw[if_pos rfl];have e2:=o.as _ _ e;by_cases hq:q > 0
   ·rw[if_pos hq]
    have h':Pm n (kas_rev p (k-(q+1)) k):=h.of (mirror_perm _ _ _ _);refine ZiH o f (k+1) 0 _ h' (by omega) (by omega) (λi j hij hj=>?_) (one _);have hr:=Zn9 h.size (by omega:k-(q+1)<=k) (by omega) hd he;by_cases hjk:j<k
    ·exact hr i j hij hjk
    ·have:j=k:=by omega
     subst this;rw[JQ h.size (by omega) (by omega),JQ h.size (by omega) (by omega),if_neg (by omega:¬(j-(q+1)<=j/\j<j))];have hlast:∀x,x<j->lt (g p x) (g p j)=false:=λx hx=>by
      by_cases hx1:x=j-1
      ·subst hx1;exact e2
      ·exact o.tr _ _ _ (hd x (j-1) (by omega) (by omega)) e2
     by_cases hi:j-(q+1)<=i/\i<j
     ·rw[if_pos hi];exact hlast _ (by omega)
     ·rw[if_neg hi];exact hlast _ hij
   ·rw[if_neg hq]
    refine ZiH o f (k+1) 0 p h (by omega) (by omega) (λi j hij hj=>?_) (one _);by_cases hjk:j<k
    ·exact hd i j hij hjk
    ·have:j=k:=by omega
     subst this;by_cases hi:i=j-1
     ·subst hi;exact e2
     ·exact o.tr _ _ _ (hd i (j-1) (by omega) (by omega)) e2
  | false=>
   rw[if_neg (by simp)];refine⟨h.bd _,h.bd _,?_⟩;show Ym lt n (if lt (g p (k-1)) (g p k)=true then .ret (p,k,q)else kas_desc f p (k+1) (q+1)) _
   cases e2:lt (g p (k-1)) (g p k)with
   | true=>rw[if_pos rfl];exact⟨h,h1,by show k<=n;omega,hd,he⟩
   | false=>
    rw[if_neg (by simp)];refine ZiH o f (k+1) (q+1) p h (by omega) (by omega) (λi j hij hj=>?_) λi j a b c d=>?_
    ·by_cases hjk:j<k
     ·exact hd i j hij hjk
     ·have:j=k:=by omega
      subst this;by_cases hi:i=j-1
      ·subst hi;exact e2
      ·exact o.tr _ _ _ (hd i (j-1) (by omega) (by omega)) e2
    ·have low:∀x,k-(q+1)<=x->x<k->lt (g p x) (g p k)=false/\lt (g p k) (g p x)=false:=λx hx hx2=>
      ⟨o.tr _ _ _ (he x (k-1) hx hx2 (by omega) (by omega)) e2,o.tr _ _ _ e (he (k-1) x (by omega) (by omega) hx hx2)⟩
     by_cases hi:i<k
     ·by_cases hj:j<k
      ·exact he i j (by omega) hi (by omega) hj
      ·have:j=k:=by omega
       subst this;exact(low i (by omega) hi).1
     ·have:i=k:=by omega
      subst this;by_cases hj:j<i
      ·exact(low j (by omega) hj).2
      ·have:j=i:=by omega
       subst this;exact o.irr _
theorem Zoa (o:OrdW lt)(h:Pm n p)(h1:1<=k)(h2:k<=n)(hs:Bf lt p k):Ym lt n (kas_tail3 k n p) (λr=>1<=r.1/\r.1<=n/\Pm n r.2/\V5 lt r.2 r.1):=by
 have h':Pm n (kas_rev p 0 k):=h.of (mirror_perm _ _ _ _);have hs':V5 lt (kas_rev p 0 k) k:=λi j hij hj=>by
  rw[Zn6 h.size h2,Zn6 h.size h2,if_pos (by omega),if_pos (by omega)];exact hs _ _ (by omega) (by omega)
 refine Ym.bind (Ym.mono (λm ⟨a,b,c,_⟩=>?_) (ascW o h' (n-k) k h1 (by omega) hs'));exact⟨by omega,b,h',c⟩
theorem Zob (o:OrdW lt)(h:Pm n p)(h1:1<=m)(h2:m<n)(hd:Bf lt p (m+1)):Ym lt n (kas_descPart m n p) (λr=>1<=r.1/\r.1<=n/\Pm n r.2/\V5 lt r.2 r.1):=by
 refine Ym.bind (Ym.mono (λr ⟨r1,r2,r3,r4,r5⟩=>?_) (ZiH o (n-(m+1)) (m+1) 0 p h (by omega) (by omega) hd λi j a b c d=>by
  have:i=j:=by omega
  subst this;exact o.irr _))
 by_cases hq:r.2.2 > 0
 ·rw[if_pos hq]
  exact Zoa o (r1.of (mirror_perm _ _ _ _)) (by omega) r3 (Zn9 r1.size (by omega) r3 r4 r5)
 ·rw[if_neg hq]
  exact Zoa o r1 (by omega) r3 r4
theorem Zo5 (o:OrdW lt)(h:Pm n p):Ym lt n (kas_count n p) (λr=>1<=r.1/\r.1<=n/\Pm n r.2/\V5 lt r.2 r.1):=by
 have hn:=h.pos;refine Ym.bind (Ym.mono (λm ⟨a,b,c,d⟩=>?_) (ascW o h (n-1) 1 (by omega) (by omega) λi j hij hj=>by omega));by_cases hm:m=n
 ·rw[if_pos (by simpa using hm)]
  exact⟨a,b,h,c⟩
 ·rw[if_neg (by simpa using hm)]
  have dm:=o.as _ _ (d (by omega));by_cases h1:m > 1
  ·rw[if_pos h1]
   refine⟨h.bd 0,h.bd (m-1),?_⟩;show Ym lt n (if lt (g p 0) (g p (m-1))=true then .ret (m,p)else kas_descPart m n (kas_rev p 0 m)) _
   cases e:lt (g p 0) (g p (m-1))with
   | true=>rw[if_pos rfl];exact⟨a,b,h,c⟩
   | false=>
    rw[if_neg (by simp)];have up:∀i j,i<m->j<m->lt (g p i) (g p j)=false:=λi j hi hj=>by
     -- g i<=g (m-1)<=g 0<=g j
     have x1:lt (g p 0) (g p j)=false:=by
      by_cases z:j=m-1
      ·subst z;exact e
      ·exact o.tr _ _ _ e (c j (m-1) (by omega) (by omega))
     by_cases z:i=0
     ·subst z;exact x1
     ·exact o.tr _ _ _ (c 0 i (by omega) hi) x1
    have h':Pm n (kas_rev p 0 m):=h.of (mirror_perm _ _ _ _);refine Zob o h' (by omega) (by omega) λi j hij hj=>?_;rw[JQ h.size (by omega) (by omega),JQ h.size (by omega) (by omega),if_pos (by omega:0<=i/\i<m)];by_cases hjm:j<m
    ·rw[if_pos (by omega:0<=j/\j<m)]
     exact up _ _ (by omega) (by omega)
    ·have:j=m:=by omega
     subst this;rw[if_neg (by omega:¬(0<=j/\j<j))];exact o.tr _ _ _ (up _ (j-1) (by omega) (by omega)) dm
  ·have:m=1:=by omega
   subst this;refine Zob o h (by omega) (by omega) λi j hij hj=>?_
   grind
theorem ZhO (o:OrdW lt)(h:Pm n p)(hk:k<n)(hs:V5 lt p k):∀(f l r:Nat),l<=r->r<=k->r-l<=f->(∀i,i<l->lt (g p k) (g p i)=false)->(∀i,r<=i->i<k->lt (g p i) (g p k)=false)->
  Ym lt n (kas_place p k f l r) (λm=>m<=k/\(∀i,i<m->lt (g p k) (g p i)=false)/\∀i,m<=i->i<k->lt (g p i) (g p k)=false)
 | 0,l,r,h1,h2,h3,ha,hb=>⟨by omega,ha,λi hi=>hb i (by omega)⟩
 | f+1,l,r,h1,h2,h3,ha,hb=>by
  show Ym lt n (if l≥r then .ret l else .ask (g p k) (g p ((l+r) / 2)) λc=>if c=true then kas_place p k f l ((l+r) / 2)else kas_place p k f ((l+r) / 2+1) r) _;by_cases hlr:l≥r
  ·rw[if_pos hlr]
   exact⟨by omega,ha,λi hi=>hb i (by omega)⟩
  ·rw[if_neg hlr]
   refine⟨h.bd _,h.bd _,?_⟩;show Ym lt n (if lt (g p k) (g p ((l+r) / 2))=true then kas_place p k f l ((l+r) / 2)else kas_place p k f ((l+r) / 2+1) r) _
   cases e:lt (g p k) (g p ((l+r) / 2))with
   | true=>
    rw[if_pos rfl];refine ZhO o h hk hs f l _ (by omega) (by omega) (by omega) ha λi hi hik=>?_;have e2:=o.as _ _ e;by_cases hq:i=(l+r) / 2
    ·subst hq;exact e2
    ·exact o.tr _ _ _ (hs _ i (by omega) hik) e2
   | false=>
    rw[if_neg (by simp)];refine ZhO o h hk hs f _ r (by omega) h2 (by omega) (λi hi=>?_) hb;by_cases hq:i=(l+r) / 2
    ·simp_all
    ·exact o.tr _ _ _ e (hs i _ (by omega) (by omega))
theorem binW (o:OrdW lt):∀(f k:Nat) (p:Array Nat),Pm n p->1<=k->k+f=n->V5 lt p k->Ym lt n (kas_bin f p k) (λq=>Pm n q/\V5 lt q n)
 | 0,k,p,h,h1,h2,hs=>⟨h,by have:k=n:=(by omega);subst this;exact hs⟩
 | f+1,k,p,h,h1,h2,hs=>by
  refine Ym.bind (Ym.mono (λm ⟨a,b,c⟩=>?_) (ZhO o h (k:=k) (by omega) hs k 0 k (by omega) (by omega) (by omega) (λi hi=>by omega) λi hi hik=>by omega));have hg:∀i,g (bubble p k (k-m)) i=if i=m then g p k else if m<i/\i<=k then g p (i-1)else g p i:=λi=>by
   have e:=getElem?_bubble (xs:=p) (src:=k) (by rw[h.size];omega) (k-m) (by omega) i;rw[show k-(k-m)=m by omega]at e;by_cases q1:i=m
   ·rw[if_pos q1]at e⊢;exact Jp e
   ·rw[if_neg q1]at e⊢
    by_cases q2:m<i/\i<=k
    ·rw[if_pos q2]at e⊢;exact Jp e
    ·rw[if_neg q2]at e⊢;exact Jp e
  refine binW o f (k+1) _ (h.of (bubble_perm _ _ _)) (by omega) (by omega) λi j hij hj=>?_;rw[hg,hg];by_cases i1:i=m
  ·rw[if_pos i1,if_neg (by omega:¬j=m),if_pos (by omega:m<j/\j<=k)]
   exact c _ (by omega) (by omega)
  ·rw[if_neg i1]
   by_cases i2:m<i/\i<=k
   ·rw[if_pos i2,if_neg (by omega:¬j=m),if_pos (by omega:m<j/\j<=k)]
    exact hs _ _ (by omega) (by omega)
   ·rw[if_neg i2]
    by_cases j1:j=m
    ·rw[if_pos j1];exact b i (by omega)
    ·rw[if_neg j1]
     by_cases j2:m<j/\j<=k
     ·rw[if_pos j2]
      exact hs _ _ (by omega) (by omega)
     ·rw[if_neg j2]
      exact hs _ _ hij (by omega)
theorem ZlU (o:OrdW lt)(hn:0<n):Ym lt n (kas_sort n) (λq=>Pm n q/\V5 lt q n):=by
 have h:Pm n (qU (qj n)):=⟨hn,by simp⟩;refine Ym.bind (Ym.mono (λr ⟨a,b,c,d⟩=>?_) (Zo5 o h));by_cases hr:r.1<n
 ·rw[if_pos hr]
  have e:max r.1 1=r.1:=by omega
  rw[e];exact binW o _ _ _ c a (by omega) d
 ·rw[if_neg hr]
  exact⟨c,by grind⟩
def YR (lt:Nat->Nat->Bool)(n:Nat):List Nat:=if n<2 then qj n else (VN lt (kas_sort n)).toList
theorem Bo (o:OrdW lt):(YR lt n).Perm (qj n):=by
 unfold YR;by_cases h:n<2
 ·rw[if_pos h]
 ·rw[if_neg h]
  exact(ZlU o (by omega)).run.2.1.pm
theorem ZgA (o:OrdW lt):(YR lt n).Pairwise λa b=>lt b a=false:=by
 unfold YR;by_cases h:n<2
 ·match n,h with
  | 0,_=>simp
  | 1,_=>exact yL _ _
 ·rw[if_neg h]
  obtain⟨h1,h2⟩:=(ZlU (n:=n) o (by omega)).run.2;rw[zW];intro i j hi hj hij;have hs:=h1.size;have e:∀k,(hk:k<(VN lt (kas_sort n)).toList.length)->(VN lt (kas_sort n)).toList[k]=g (VN lt (kas_sort n)) k:=λk hk=>by
   have hk':k<(VN lt (kas_sort n)).size:=by omega
   unfold g;simp[hk']
  rw[e i hi,e j hj];exact h2 i j hij (by simp_all)
end
end TS
namespace TF
open L2 TS PySem.W
section
variable {X:Cx}{jM:Qb}{σ:St}{H:Hp}{s:Shared}
def UH (X:Cx)(σ:St)(sp:Heap->Sp):List V->Hp->(List V->Hp->Prop)->Prop
 | [],H,R=>R [] H
 | v::r,H,R=>∀base',Cells X σ base'->sp base' [v] H (λk H1=>UH X σ sp r H1 λks H2=>R (k::ks) H2) E0
structure KeyFn (X:Cx)(σ:St)(k:Nat)(f:Addr)(sp:Heap->Sp):Prop where
 fn:∀x,X.fn x=true
 ok:∃fd ps,XJ X.K fd ps []/\∀base',Cells X σ base'->FnOk X.prog X.w X.K X.mg base' ZN k f fd ps (sp base')
theorem ZlV (F:KeyFn X σ k f sp)(I:Inv X jM σ H s)(hA:∀{base H s},Env0 X.prog X.w X.K X.mg base X.A X.stack s H->Env0 X.prog X.w X.K X.mg base A X.stack s H)(hr:Room k A)(rv:ZF v u)(q:∀base',Cells X σ base'->sp base' [v] H Q E0) :
  xf (xz X.prog X.w) A (call (.ref f) [u]) (EP X jM σ Q) E s:=by
 obtain⟨fd,ps,hb,F0⟩:=F.ok;obtain⟨e0,cs⟩:=Zep I F.fn;have q':=q _ cs;have r:ZB [v] [u]:=.cons rv .nil;have hl:=((F0 _ cs).len _ _ _ _ q');refine xy (codeAny_mono ((F0 _ cs).run A X.stack s H ⟨[u],[]⟩ [u] [v] Q E0 hr (hA e0) (by have:=hb s [u] I.kIn hl;simp_all) r q') λr s' hq=>?_)
 cases r with
 | error e=>exact hq.elim
 | ok fl=>
  cases fl with
  | ret u=>exact I.after hq
  | next=>exact zj hq
  | brk=>exact zj hq
  | cont=>exact zj hq
def Bg (X:Cx)(jM:Qb)(b:Addr):Prop:=b≠X.env.locals/\b∉X.fs/\(b∈X.ex∨X.s₀.heap.objs.size<=b)/\(∀x c,X.env.cells.lookup x=some c->c≠b)/\∀p∈X.pn++jM,p.1≠b
theorem ZlW (I:Inv X jM σ H s){b:Addr}(hb:s.heap.objs.size<=b):Bg X jM b:=(I.fpOk hb (I.hok.fresh hb)).2
theorem ZiI {rest:Qb}(I:Inv X (jM++(b,o)::rest) σ H s)(k:∀c u,c≠b->s.heap.get? c=some u->h'.get? c=some u)(hb':h'.get? b=some o')(hd:∀v,o'.data≠.cell v)(fp:Bg X jM b)
  (hr:∀p∈rest,p.1≠b):Inv X (jM++(b,o')::rest) σ H { s with heap:=h',toks:=t' }:=by
 obtain⟨pb1,pb2,pb3,pb4,pb5⟩:=I.pin (b,o) (qk _ (qk _ (.head _)));have I1:=I.pins_of λp hp=>I.pin p (qk _ ((qS.mp hp).elim (λz=>qM _ z) λz=>qk _ (.tail _ z)));obtain⟨f1,f2,f3,f4,f5⟩:=fp;have I2:=I1.turned (t':=t') k pb2 f1 f3 f4 (λp hp=>by
  grind)
 refine I2.pins_of λp hp=>?_;rcases qS.mp hp with z | z
 ·exact I2.pin p (qk _ (qM _ z))
 ·rcases qu.mp z with rfl | z
  ·exact⟨hb',pb2,f1,f2,hd⟩
  ·exact I2.pin p (qk _ (qk _ z))
theorem ZpM {rest:Qb}(I:Inv X (jM++(b,o)::rest) σ H s)(fp:Bg X jM b)(hx:X.s₀.heap.objs.size<=b)(new:Yq X.prog X.w (Zi H b u) s.heap b u):Inv X jM σ (Zi H b u) s:=by
 obtain⟨pb1,pb2,pb3,pb4,pb5⟩:=I.pin (b,o) (qk _ (qk _ (.head _)));obtain⟨f1,f2,f3,f4,f5⟩:=fp;refine⟨I.ok,I.os,I.bare,?_,I.loc,I.cell,?_,?_,?_,?_,I.len⟩
 ·exact⟨I.base.keep,I.base.slot,λc q e n x=>by
   rw[Zl (qA (qR (qy e) hx))];exact I.base.free c q e n x,I.base.there,λc xs e=>by have:=I.base.tups c xs e;rw[Zl (ZP this pb2)];exact this,λc q xs e=>by have:=I.base.frzs c q xs e;rw[Zl (ZP this pb2)];exact this,λc ps e=>by
   obtain⟨m,this⟩:=I.base.tbls c ps e;exact⟨m,by rw[Zl (ZP this pb2)];exact this⟩⟩
 ·rw[Zl (ze f1)];exact I.free
 ·intro x c e
  rw[Zl (f4 x c e)];exact I.freeC x c e
 ·intro p hp
  have hp':p∈X.pn++(jM++(b,o)::rest):=(qS.mp hp).elim (λz=>qM _ z) λz=>qk _ (qM _ z);obtain⟨q1,q2,q3,q4,q5⟩:=I.pin p hp';exact⟨q1,by rw[Zl (f5 p hp)];exact q2,q3,q4,q5⟩
 ·intro c v e
  by_cases hc:c=b
  ·subst hc;rw[ZE]at e;grind
  ·rw[Zl hc]at e
   exact(I.hok c v e).stay (λd w _ q=>q) (λd q=>by rw[Zl (ZP q pb2)];exact q) λd xs q=>by rw[Zl (ZP q pb2)];exact q
theorem ZeF:∀{xs:List V} {us:List Value} {v:V} {u:Value},ZB xs us->ZF v u->ZB (xs ++ [v]) (us ++ [u])
 | [],_,v,u,h,r=>by cases h;exact .cons r .nil
 | x::xs,_,v,u,h,r=>by
  cases h with
  | cons h1 h2=>exact .cons h1 (ZeF h2 r)
theorem JB:∀v,(seqObj c xs n).data≠.cell v:=λv h=>by cases h
theorem ZeG {R:List V->Hp->Prop}(F:KeyFn X σ k f sp)(hA:∀{base H s},Env0 X.prog X.w X.K X.mg base X.A X.stack s H->Env0 X.prog X.w X.K X.mg base A X.stack s H)(hr:Room k A)
  (fp:Bg X jM kS) (hka:a≠kS)
  (hbody:∀x ks e (s:Shared) (D:xD),yR ks<64->xf (xz X.prog X.w) A (call (.ref f) [x]) (λu s'=>s'.heap.get? kS=some (seqObj "list" (qU ks) e)/\D u { s' with heap:=s'.heap.update kS (zm (·.push u)) }) (λ_ _=>False) s->
   xf (xz X.prog X.w) A (body x ⟨⟩) (λr s'=>r=.yield ⟨⟩/\∃u,D u s') E s) :
  ∀(r:List V) (us:List Value) (kvs:List V) (ks:List Value) (e:Nat) (H:Hp) (s:Shared),ZB r us->ZB kvs ks->ks.length+us.length<64->Inv X (jM ++ [(kS,seqObj "list" (qU ks) e),(a,seqObj "list" #[] e1)]) σ H s->UH X σ sp r H (λk2 H2=>R (kvs++k2) H2)->
   xf (xz X.prog X.w) A (forIn us PUnit.unit body) (λ_ s'=>∃kvs' ks' e' H',Inv X (jM ++ [(kS,seqObj "list" (qU ks') e'),(a,seqObj "list" #[] e1)]) σ H' s'/\ZB kvs' ks'/\ks'.length=ks.length+us.length/\R kvs' H') E s
 | [],_,kvs,ks,e,H,s,h,hv,hz,I,q=>by
  cases h
  rw[List.forIn_nil];refine xb ⟨kvs,ks,e,H,I,hv,rfl,?_⟩;have q:R (kvs ++ []) H:=q;rw[zw]at q;exact q
 | v::r,_,kvs,ks,e,H,s,h,hv,hz,I,q=>by
  cases h with
  | @cons _ u _ us r1 r2=>
   rw[zB]at hz;rw[qbJ];refine xa (xc (hbody u ks e s (λu' s'=>∃v' H',Inv X (jM ++ [(kS,seqObj "list" (qU (ks ++ [u'])) (e+1)),(a,seqObj "list" #[] e1)]) σ H' s'/\ZF v' u'/\UH X σ sp r H' λks H2=>R (kvs++v'::ks) H2) (by omega) ?_) (λq' s' hq=>?_) λ_ _ x=>x)
   ·refine xc (ZlV F I hA hr r1 q) (λu' s' ⟨v',H',I',rv,q'⟩=>?_) λ_ _ x=>x
    have pk:=(I'.pin (kS,seqObj "list" (qU ks) e) (qk _ (qk _ (.head _)))).1;refine⟨pk,v',H',?_,rv,q'⟩;refine ZiI (o:=seqObj "list" (qU ks) e) (t':=s'.toks) I' (λc w hc e=>by rw[yq _ _ _ _ hc];exact e) ?_ JB fp (λp hp=>by rw[qL.mp hp];exact hka);have ea:(qU ks).push u'=qU (ks ++ [u']):=by simp
    rw[get?_update_seq pk (·.push u'),ea];have:((qU (ks ++ [u'])).size==(qU ks).size)=false:=by simp
    rw[this];rfl
   ·obtain⟨rfl,u',v',H',I',rv,q'⟩:=hq
    show xf (xz X.prog X.w) A (forIn us PUnit.unit body) _ E s';refine xc (ZeG F hA hr fp hka hbody r us (kvs ++ [v']) (ks ++ [u']) (e+1) H' s' r2 (ZeF hv rv) (by rw[qP,zo];omega) I' ?_) (λ_ s'' ⟨a1,a2,a3,a4,a5,a6,a7,a8⟩=>⟨a1,a2,a3,a4,a5,a6,by grind,a8⟩) λ_ _ x=>x;simp_all
end
section
variable {prog:xB}{w:World}{A:xC}{E:xD}{s:Shared}
def Bp (h:Heap)(kS a:Addr)(out:List Value):Heap:=(h.update kS (zm λ_=>(#[]:Array Value))).update a (zm λ_=>qU out)
theorem ZeH {st:SortSt}(hk:s.heap.get? kS=some (seqObj "list" (qU ks) e))(ha:s.heap.get? a=some (seqObj "list" #[] e1))(hka:a≠kS)(hout:(arrOf st).map (·.2)=qU out)(hz:out.length<64)(hkz:ks.length<64)(hf:failedOf st=none)
  (h:P (.done (.ret .none)) { s with heap:=Bp s.heap kS a out }):xf (xz prog w) A (ksk_tail a false e1 (.ref kS) st) P E s:=by
 have ha2:(s.heap.update kS (zm λ_=>(#[]:Array Value))).get? a=some (seqObj "list" #[] e1):=by rw[yq _ _ _ _ hka];exact ha
 unfold ksk_tail;rw[hout];refine xa (listUpdate_at hk rfl ?_ (by rw[zf,sizeLine_eq];omega) (za _));refine xa (wpAny_letGo ?_);refine xa (seqEpoch_at ha2 rfl ?_);refine xa (listUpdate_at ha2 rfl ?_ (za _) (by show(qU out).size<=_;rw[zf,sizeLine_eq];omega));rw[hf];simp;exact xb h
theorem ZlX {us:List Value}(o:OrdW lt)(hk:s.heap.get? kS=some (seqObj "list" (qU ks) e))(ha:s.heap.get? a=some (seqObj "list" #[] e1))(hka:a≠kS)(hl:ks.length=us.length)(h64:us.length<64)
  (hkind:2<=ks.length->∃κ,(∀Q:SortKind->Shared->Prop,Q κ s->xf (xz prog w) A (keyKind' (qU ks)) Q E s)/\∀i j,i<ks.length->j<ks.length->∀C:Bool->Shared->Prop,C (lt i j) s->kas_ask prog w A κ ks i j C s)
  (h:P (.done (.ret .none)) { s with heap:=Bp s.heap kS a ((YR lt us.length).map λi=>us.getD i qW) }):xf (xz prog w) A (ksk_end a false us.toArray e1 (.ref kS) (qU ks)) P E s:=by
 have hol:((YR lt us.length).map λi=>us.getD i qW).length=us.length:=by rw[qh,(Bo o).length_eq,qI]
 unfold ksk_end
 try dsimp only
 simp only[qar,if_false];by_cases h2:us.toArray.size<2
 ·rw[if_pos h2,if_pos h2]
  refine xa (xb ?_);rw[StateT.run_pure];refine xa (xb ?_)
  try dsimp only
  have hlt:us.length<2:=by simpa using h2
  refine ZeH (out:=(YR lt us.length).map λi=>us.getD i qW) hk ha hka ?_ (by omega) (by omega) rfl h;have e:(YR lt us.length).map (λi=>us.getD i qW)=us:=by
   unfold YR;rw[if_pos hlt];exact TS.range_getD us _
  rw[e];apply Array.toList_inj.mp;show(((qU ks).zip us.toArray).map (·.2)).toList=_;rw[Array.toList_map,ksk_zip];show(ks.zip us).map Prod.snd=_;rw[List.map_snd_zip (by omega)]
 ·rw[if_neg h2,if_neg h2]
  have h2':2<=us.length:=by simpa using h2
  obtain⟨κ,hκ,hask⟩:=hkind (by omega);refine xa (hκ _ ?_);have tr:=(ZlU (n:=us.length) o (by omega)).run;have wp:=jG (s:=s) (cmp:=kas_ask prog w A κ ks) (R:=λq s'=>q=VN lt (kas_sort us.length)/\s'=s) (λi j hi hj C hC=>hask i j (by omega) (by omega) C hC) (λq hq=>⟨hq,rfl⟩) tr.1;refine xa (xc (kat_run (ks:=ks) (vs:=us) (Q:=λst' s'=>arrOf st'=(VN lt (kas_sort us.length)).map (kas_item (ks.toArray.zip us.toArray))/\failedOf st'=none/\s'=s) hl h2' h64 (λp' st' s' a1 a2 a3 a4=>⟨by rw[<-a4.1];exact a2,a3,a4.2⟩) wp) ?_ λ_ _ e=>e);rintro⟨⟨⟩,st'⟩ s' ⟨har,hf,rfl⟩;have hout:=kat_snds hl har;refine ZeH hk ha hka ?_ (by omega) (by omega) hf h;rw[hout];unfold YR;rw[if_neg (by omega)]
end
section
variable {X:Cx}{jM:Qb}{σ:St}{H:Hp}{s:Shared}
def Vq (X:Cx)(kvs:List V)(H:Hp)(lt:Nat->Nat->Bool):Prop:=
 (∃ns:List Int,kvs=ns.map V.int/\lt=λi j=>decide (ns.getD i 0<ns.getD j 0))∨
 ∃(kC:List (List Int)) (T:V->List Int->Prop),(∀v ns,T v ns->∃a,v=.ref a/\ZO X.K H a (ns.map V.int))/\Paired T kvs kC/\(∀ns∈kC,ns≠[])/\lt=λi j=>XV (kC.getD i []) (kC.getD j [])
theorem Vq.ord (h:Vq X kvs H lt):OrdW lt:=by
 rcases h with⟨ns,_,rfl⟩ | ⟨kC,T,_,_,_,rfl⟩
 ·refine⟨λa b c h1 h2=>?_,λa b h=>?_⟩
  ·grind
  ·grind
 ·refine⟨λa b c h1 h2=>?_,λa b h=>Zgi h⟩
  have t:=ZoY (kC.getD c []) (kC.getD b []) (kC.getD a []) (by unfold Ju;rw[h2];rfl) (by unfold Ju;rw[h1];rfl);unfold Ju at t
  grind
theorem Zfl:∀{ks:List Value} {ns:List Int} {i:Nat},IntsAre ks ns->i<ks.length->∃t,ks.getD i qW=.int (ns.getD i 0) t
 | _,_,_,.nil,h=>absurd h (by simp)
 | _,_,0,.cons n t _,_=>⟨t,rfl⟩
 | _,_,i+1,.cons n t r,h=>by
  obtain⟨t',e⟩:=Zfl r (i:=i) (by simp_all);exact⟨t',by simpa using e⟩
theorem Zj6 (h:Vq X kvs H lt)(I:Inv X jM σ H s)(rv:ZB kvs ks):2<=ks.length->∃κ,(∀Q:SortKind->Shared->Prop,Q κ s->xf (xz X.prog X.w) A (keyKind' (qU ks)) Q E s)/\∀i j,i<ks.length->j<ks.length->∀C:Bool->Shared->Prop,C (lt i j) s->kas_ask X.prog X.w A κ ks i j C s:=λh2=>by
 rcases h with⟨ns,rfl,rfl⟩ | ⟨kC,T,hT,pT,hne,rfl⟩
 ·have hi:IntsAre ks ns:=WR rv
  refine⟨oneType',λQ q=>?_,λi j hi' hj' C hC=>?_⟩
  ·rw[ksk_kind (keys:=qU ks) (kz:=ns) hi (by simpa using h2)]
   exact xb q
  ·obtain⟨t,et⟩:=Zfl hi hi'
   obtain⟨t',et'⟩:=Zfl hi hj';show xf (xz X.prog X.w) A (keyLt' oneType' (ks.getD i qW) (ks.getD j qW)) C _ s;rw[et,et'];exact kat_lt_int hC
 ·have ht:=Zex I hT rv pT
  exact⟨tuples' true,λQ q=>ZoZ ht hne (by omega) q,λi j hi hj C hC=>ZpK (jv _ [] ht hi) (jv _ [] ht hj) hC⟩
theorem ZgB:∀{xs:List V} {us:List Value} {i:Nat},ZB xs us->i<xs.length->ZF (xs.getD i .non) (us.getD i qW)
 | _,_,_,.nil,h=>absurd h (by simp)
 | _,_,0,.cons h _,_=>h
 | _,_,i+1,.cons _ r,h=>by
  have:=ZgB r (i:=i) (by simp_all);simpa using this
theorem ZeI (h:ZB xs us):∀{ix:List Nat},(∀i∈ix,i<xs.length)->ZB (ix.map λi=>xs.getD i .non) (ix.map λi=>us.getD i qW)
 | [],_=>.nil
 | i::r,hb=>.cons (ZgB h (hb i (by simp))) (ZeI h λj m=>hb j (by simp[m]))
theorem ZhP (F:KeyFn X σ k f sp)(hr:Room (k+2) X.A)(I:Inv X jM σ H s)(h64:xs.length<64)
  (hcol:∀Q1:List Value->Shared->Prop,(∀(h':Heap) (tk:Nat) (jO:List Value),(∀b o,s.heap.get? b=some o->h'.get? b=some o)->ZB xs jO->Q1 jO { s with heap:=h',toks:=tk })->xf (xz X.prog X.w) X.A.in1 (collect u) Q1 E s)
  (q:UH X σ sp xs H λkvs H1=>∃lt,Vq X kvs H1 lt/\∀l,H1 l=none->Q (.ref l) (Zi H1 l (.lst ((YR lt xs.length).map λi=>xs.getD i .non)))) :
  xf (xz X.prog X.w) X.A (call (.builtin "sorted") [u] [(qw "key",.ref f)]) (EP X jM σ Q) E s:=by
 refine call_function_entry_kw kind_sorted plain_sorted entry_sorted (ksk_s1 _ _) ?_;unfold Builtin.«sorted»;refine xa (m:=checkCount "sorted" 1 1 _) (xb ?_);refine xa (hcol _ λh1 tk jO k1 rv=>?_);have hil:jO.length=xs.length:=rv.length.symm;have I1:Inv X jM σ H { s with heap:=h1,toks:=tk }:=I.kept k1;refine xa (xw ?_ (by rw[sizeLine_eq];omega));generalize hs2:({ s with heap:=h1.push (seqObj "list" jO.toArray 0),toks:=tk }:Shared)=s2;have hh2:s2.heap=h1.push (seqObj "list" jO.toArray 0):=by rw[<-hs2]
 have I2:Inv X jM σ H s2:=by rw[<-hs2];exact I1.kept (λb o e=>qf _ e)
 generalize ha:h1.objs.size=a;have fpa:Bg X jM a:=by rw[<-ha];exact ZlW I1 (qp _)
 have hxa:X.s₀.heap.objs.size<=a:=by rw[<-ha];exact I1.sz
 have hna:H a=none:=by rw[<-ha];exact I1.hok.fresh (qp _)
 have ho:s2.heap.get? a=some (seqObj "list" jO.toArray 0):=by rw[hh2,<-ha];exact qq _ rfl
 refine xa (xu (wpAny_call_entry_kw slot_list_sort ⟨_,ho,rfl⟩ entry_list_sort ?body (ksk_l1 _ _)))
 case body=>
  show xf (xz X.prog X.w) X.A.in1.in1 (Builtin.«list.sort» ⟨[.ref a],[(qw "key",.ref f)]⟩) _ E s2;rw[ksk_t1];obtain⟨e1,ho1⟩:∃e1,(s2.heap.update a (zm λ_=>(#[]:Array Value))).get? a=some (seqObj "list" #[] e1):=⟨_,get?_update_seq ho λ_=>#[]⟩;unfold ksk_tree;refine xa (listItems_at ho rfl ?_);refine xa (listUpdate_at ho rfl ?_ (by rw[zf,sizeLine_eq];omega) (za _));refine xa (seqEpoch_at ho1 rfl ?_);refine xa (wpAny_newTuple ?_ (by show jO.length<=_;rw[sizeLine_eq];omega));refine xa (xw ?_ (za _));refine xu ?_;generalize hs3:({ s2 with heap:=(s2.heap.update a (zm λ_=>(#[]:Array Value))).push (seqObj "tuple" jO.toArray 0) }:Shared)=s3;have hh3:s3.heap=(s2.heap.update a (zm λ_=>(#[]:Array Value))).push (seqObj "tuple" jO.toArray 0):=by rw[<-hs3]
  generalize hkS:s3.heap.objs.size=kS;have I3:Inv X (jM ++ [(a,seqObj "list" #[] e1)]) σ H { s2 with heap:=s2.heap.update a (zm λ_=>(#[]:Array Value)),toks:=s2.toks }:=by
   have Ia:Inv X (jM++(a,seqObj "list" jO.toArray 0) :: []) σ H s2:=I2.pins_of λp hp=>by
    rcases qS.mp hp with z | z
    ·exact I2.pin p (qk _ z)
    ·rw[qL.mp z]
     exact⟨ho,hna,fpa.1,fpa.2.1,JB⟩
   exact ZiI Ia (λc w hc e=>by rw[yq _ _ _ _ hc];exact e) ho1 JB fpa (λp hp=>by simp at hp)
  have I4:Inv X (jM ++ [(a,seqObj "list" #[] e1)]) σ H s3:=by rw[<-hs3];exact I3.kept (t':=s2.toks) (λb o e=>qf _ e)
  have hak:a<kS:=by
   rw[<-hkS,hh3,size_push',Heap.size_update];exact zl (qy ho)
  have fpk:Bg X jM kS:=by
   have:=ZlW I4 (b:=kS) (by rw[hkS];exact qp _);exact⟨this.1,this.2.1,this.2.2.1,this.2.2.2.1,λp hp=>this.2.2.2.2 p ((qS.mp hp).elim (λz=>qM _ z) λz=>qk _ (qM _ z))⟩
  have I5:Inv X (jM ++ [(kS,seqObj "list" (qU []) 0),(a,seqObj "list" #[] e1)]) σ H { s3 with heap:=s3.heap.push (seqObj "list" #[] 0),toks:=s3.toks }:=by
   have I':=I4.kept (t':=s3.toks) (h':=s3.heap.push (seqObj "list" #[] 0)) (λb o e=>qf _ e);refine I'.pins_of λp hp=>?_;rcases qS.mp hp with z | z
   ·exact I'.pin p (qk _ (qM _ z))
   ·rcases qu.mp z with rfl | z
    ·exact⟨by rw[<-hkS];exact qq _ rfl,by rw[<-hkS];exact I4.hok.fresh (qp _),fpk.1,fpk.2.1,JB⟩
    ·exact I'.pin p (qk _ (qk _ z))
  show xf (xz X.prog X.w) X.A.in1.in1 _ _ E { s3 with heap:=s3.heap.push (seqObj "list" #[] 0),toks:=s3.toks };generalize ({ s3 with heap:=s3.heap.push (seqObj "list" #[] 0),toks:=s3.toks }:Shared)=s5 at I5⊢;unfold ksk_rest;refine xa (wpAny_rule ?_)
  first
   | rw[List.forIn_toArray]
   | (rw[<-Array.forIn_toList];simp only[qce])
   | rw[<-Array.forIn_toList]
  have hr2:Room k X.A.in1.in1:=(hr.in1).in1;refine xa (xc (ZeG (E:=E) (R:=λkvs H1=>∃lt,Vq X kvs H1 lt/\∀l,H1 l=none->Q (.ref l) (Zi H1 l (.lst ((YR lt xs.length).map λi=>xs.getD i .non)))) F (λe=>e.in1.in1) hr2 fpk (qA hak) (λx ks e s' D hz hx=>?_) xs jO [] [] 0 H s5 rv .nil (by simp only[yw];omega) I5 q) (λ_ s' hd=>?_) λ_ _ x=>x)
  ·refine xa (wpAny_attempt (xc hx (λu' s'' hk=>?_) λ_ _ hF=>hF.elim))
   obtain⟨hk1,hk2⟩:=hk
   try dsimp only
   refine xa (listUpdate_at hk1 rfl ?_ (by rw[zf,sizeLine_eq];omega) (qY (qbu (Array.size_push ..)) (by rw[zf,sizeLine_eq];omega)));exact xb ⟨rfl,u',hk2⟩
  ·obtain⟨kvs,ks,e',H',I',hv,hl,lt,hok,hq⟩:=hd
   have hl:ks.length=jO.length:=by simpa using hl
   have pk:=I'.pin (kS,seqObj "list" (qU ks) e') (qk _ (qk _ (.head _)));have pa:=I'.pin (a,seqObj "list" #[] e1) (qk _ (qk _ (.tail _ (.head _))))
   try dsimp only
   refine xa (listItems_at pk.1 rfl ?_);refine ZlX hok.ord pk.1 pa.1 (qA hak) hl (by omega) (Zj6 hok I' hv) ⟨_,rfl,?_⟩;refine xb ⟨_,rfl,?_⟩;have hol:((YR lt jO.length).map λi=>jO.getD i qW).length=jO.length:=by rw[qh,(Bo hok.ord).length_eq,qI]
   -- the store of keys is emptied
   obtain⟨c1,hc1⟩:∃c1,(s'.heap.update kS (zm λ_=>(#[]:Array Value))).get? kS=some (seqObj "list" #[] c1):=⟨_,get?_update_seq pk.1 λ_=>#[]⟩;have I6:=ZiI (o':=seqObj "list" #[] c1) (h':=s'.heap.update kS (zm λ_=>(#[]:Array Value))) (t':=s'.toks) I' (λc w hc e=>by rw[yq _ _ _ _ hc];exact e) hc1 JB fpk (λp hp=>by rw[qL.mp hp];exact qA hak);have I7:Inv X (jM++(a,seqObj "list" #[] e1) :: []) σ H' { s' with heap:=s'.heap.update kS (zm λ_=>(#[]:Array Value)),toks:=s'.toks }:=I6.pins_of λp hp=>I6.pin p (qk _ ((qS.mp hp).elim (λz=>qM _ z) λz=>qk _ (.tail _ z)));have pa2:=I7.pin (a,seqObj "list" #[] e1) (qk _ (qk _ (.head _)));obtain⟨c2,hc2⟩:∃c2,(Bp s'.heap kS a ((YR lt jO.length).map λi=>jO.getD i qW)).get? a=some (seqObj "list" (qU ((YR lt jO.length).map λi=>jO.getD i qW)) c2):=⟨_,get?_update_seq pa2.1 _⟩;have I8:=ZiI (o':=seqObj "list" (qU ((YR lt jO.length).map λi=>jO.getD i qW)) c2) (h':=Bp s'.heap kS a ((YR lt jO.length).map λi=>jO.getD i qW)) (t':=s'.toks) I7 (λc w hc e=>by unfold Bp;rw[yq _ _ _ _ hc];exact e) hc2 JB fpa (λp hp=>by simp at hp);have hout:ZB ((YR lt xs.length).map λi=>xs.getD i .non) ((YR lt jO.length).map λi=>jO.getD i qW):=by
    rw[hil];exact ZeI rv λi hi=>qE.mp ((Bo hok.ord).mem_iff.mp hi)
   refine⟨.ref a,_,ZpM (u:=.lst ((YR lt xs.length).map λi=>xs.getD i .non)) I8 fpa hxa ⟨?_,_,c2,hout,hc2⟩,rfl,hq a pa2.2.1⟩;rw[hout.length,sizeLine_eq];omega
end
end TF
namespace TF
open L2 TS
section
variable {X:Cx}
def ZlY (X:Cx)(id:String)(nm:Str)(r:St->List V->List V->Hp->VK->Prop):Prop:=
 ∀(jM:Qb) (s:Shared) (σ:St) (H:Hp) (xs ys:List V) (us vs:List Value) (Q:VK),Inv X jM σ H s->ZB xs us->ZB ys vs->r σ xs ys H Q->xf (xz X.prog X.w) X.A (call (.builtin id) us ([nm].zip vs)) (EP X jM σ Q) X.xe s
theorem ZeJ {id:String}{p pos kpos:Pos}(hc:ZlY X id nm r)(hg:Gl X x)(hm:X.mg x=none)(hv:xj x=some (.builtin id))(ha:PE X e ta)(hb:PE X d tb)
  (hn:x≠"__name__":=by decide) (hdb:(x==("__debug__" : Str))=false:=by decide) (he:xh [e] X.env=(false,eval e X.env)::xh [] X.env:=by rfl)
  (hall:(xp pos (xi [⟨some nm,d,kpos⟩] X.env)).all (·.1.isSome)=true:=by rfl) (hks:(xp pos (xi [⟨some nm,d,kpos⟩] X.env)).filterMap (·.1)=[nm]:=by rfl)
  (hpl:((backTo pos (xh [e] X.env)).any (·.1)||(xp pos (xi [⟨some nm,d,kpos⟩] X.env)).any (·.1.isNone))=false:=by rfl) :
  PE X (.Call (.Name x p) [e] [⟨some nm,d,kpos⟩] pos) (fun σ H Q=>Xn ta XA σ H λxs H1=>Xn tb XA σ H1 λys H2=>r σ xs ys H2 Q):=by
 intro jM s σ H Q I h;refine wpAny_Call_Name_kw (UB I hg hm hv ?_ hn hdb);refine PySem.W.callWith_of (P:=λ_=>True) hpl (λh _=>⟨Keeper.machine,.inr (.inl rfl),ZdV⟩) (evalArgs_kw2 hall (ZJ ((ZU ha Yn he) pos jM s σ H _ I h) λus s1 ⟨vs,H1,I1,rv,q1⟩=>?_) he);refine ZJ ((ZmI hb Zoy) pos jM s1 σ H1 _ I1 q1) λws s2 ⟨zs,H2,I2,rz,q2⟩=>?_;refine⟨trivial,?_⟩;exact hc jM s2 σ H2 vs zs us ws Q I2 rv rz q2
def JR (X:Cx)(H:Hp)(p:Addr)(ns:List Int):Prop:=
 ZD X.K H p (ns.map V.int)∨ZO X.K H p (ns.map V.int)∨∃j:Int,H p=some (.rng 0 j)/\-(2 ^ 62)<=j/\j<=2 ^ 24/\ns=(qj j.toNat).map λ(i:Nat)=>(i:Int)
theorem ZhQ {σ:St}(hc:X.calm=true)(I:Inv X jM σ H s)(h:JR X H p ns)(Q1:List Value->Shared->Prop)
  (k:∀(h':Heap) (tk:Nat) (jO:List Value),(∀b o,s.heap.get? b=some o->h'.get? b=some o)->ZB (ns.map V.int) jO->Q1 jO { s with heap:=h',toks:=tk }):xf (xz X.prog X.w) X.A.in1 (collect (.ref p)) Q1 E s:=by
 have keep:∀jO:List Value,∀b o,s.heap.get? b=some o->((s.heap.push (seqObj "list" #[] 0)).update s.heap.objs.size (zm (· ++ jO.toArray))).get? b=some o:=λjO b o e=>by
  rw[yq _ _ _ _ (qA (qy e))];exact qf _ e
 rcases h with h | h | ⟨j,hr,h1,h2,rfl⟩
 ·obtain⟨jO,rv,pl,hz⟩:=I.list h
  have hl:=rv.length;exact collect_list pl.isList (k _ s.toks jO (keep jO) rv) (by rw[<-hl];exact hz)
 ·obtain⟨jO,rv,pl,hz⟩:=I.tuple h
  have hl:=rv.length;exact Zlz (show s.heap.IsTuple p jO.toArray from pl) (k _ s.toks jO (keep jO) rv) (by rw[<-hl];exact hz)
 ·obtain⟨t,u',v',hro⟩:=(show Yq X.prog X.w H s.heap p (.rng 0 j)from I.hok p _ hr)
  have hn:yJ 0 j 1=((j.toNat:Nat):Int):=by rw[rangeSize_one];split <;> omega
  refine Zgp (A:=X.A.in1) (I.ok.hd hc) (show IsRange s.heap p 0 j 1 t u' v' from hro) (small_one (by omega) (by omega) h1 (by omega)) hn (by omega) λh' tk jT kp hi=>?_;obtain⟨sz,hit⟩:=hi;have rv:=ZbC jT.toList 0 λi v hv=>by
   simp_all
  have el:jT.toList.length=j.toNat:=by omega
  rw[el]at rv;refine k h' tk jT.toList kp ?_;rw[qC];have e:(qj j.toNat).map (V.int∘λ(i:Nat)=>(i:Int))=(qj j.toNat).map λ(i:Nat)=>V.int (0+i):=zp λi _=>by simp
  rw[e];exact rv
theorem ZbS (hc:X.calm=true):ZlY X "sorted" "key" (fun σ xs ys H Q=>∃(p f:Addr) (ns:List Int) (sp:Heap->Sp) (k:Nat),xs=[.ref p]/\ys=[.ref f]/\JR X H p ns/\KeyFn X σ k f sp/\Room (k+2) X.A/\ns.length<64/\
  UH X σ sp (ns.map V.int) H λkvs H1=>∃lt,Vq X kvs H1 lt/\∀l,H1 l=none->Q (.ref l) (Zi H1 l (.lst ((YR lt ns.length).map λi=>V.int (ns.getD i 0))))):=by
 intro jM s σ H xs ys us vs Q I r r2 h;obtain⟨p,f,ns,sp,k,rfl,rfl,hp,F,hr,h64,q⟩:=h;obtain⟨u,rfl,ru⟩:=XT r
 cases ru
 obtain⟨v,rfl,rv⟩:=XT r2
 cases rv
 refine ZhP F hr I (by simp_all) (λQ1 k=>ZhQ hc I hp Q1 k) ?_;have ek:(λkvs H1=>∃lt,Vq X kvs H1 lt/\∀l,H1 l=none->Q (.ref l) (Zi H1 l (.lst ((YR lt ns.length).map λi=>V.int (ns.getD i 0)))))=λkvs H1=>∃lt,Vq X kvs H1 lt/\∀l,H1 l=none->Q (.ref l) (Zi H1 l (.lst ((YR lt (ns.map V.int).length).map λi=>(ns.map V.int).getD i .non))):=by
  funext kvs H1;refine propext (exists_congr λlt=>and_congr_right λok=>?_);have e:(YR lt (ns.map V.int).length).map (λi=>(ns.map V.int).getD i .non)=(YR lt ns.length).map λi=>V.int (ns.getD i 0):=by
   rw[qh];refine zp λi hi=>?_;have hi:=qE.mp ((Bo ok.ord).mem_iff.mp hi);simp_all
  rw[e]
 rw[ek]at q;exact q
end
def B7 (F:List D->M D)(cds:List D):List Int->M (List D)
 | []=>Zy []
 | n::r=>Zm (F (.int n::cds)) λk=>Zm (B7 F cds r) λks=>Zy (k::ks)
def ltD (ks:List D):Option (Nat->Nat->Bool):=match ZH ks with
 | some ns=>some λi j=>decide (ns.getD i 0<ns.getD j 0)
 | none=>match JO ks with
  | some kC=>if kC.all (λns=>!ns.isEmpty)=true then some λi j=>XV (kC.getD i []) (kC.getD j [])else none
  | none=>none
def Vm (F:List D->M D)(cds:List D)(ns:List Int):M D:=if (decide (ns.length<64)&&Y6 cds)=true then Zm (B7 F cds ns) λks=>match ltD ks with
 | some lt=>Zy (.lst ((YR lt ns.length).map λi=>.int (ns.getD i 0)))
 | none=>Zq else Zq
section
variable {X:Cx}{G:Gh}{σ:St}
theorem ZgC:∀(ns:List Int) (Hf H:Hp) (s s':Pn) (ks:List D) (R:List V->Hp->Prop),Zz G Hf H->Zk G Hf cds cvs->G.st s H->B7 F cds ns s=some (ks,s')->
  (∀kvs jV H1,Gr G Hf H jV H1->G.st s' H1->Zk G jV ks kvs->R kvs H1)->UH X σ (λ_=>spK 1 G cvs F) (ns.map V.int) H R
 | [],Hf,H,s,s',ks,R,e,rc,st,h,k=>by
  obtain⟨rfl,rfl⟩:=ZC h;exact k [] Hf H (.refl e) st (Zk.nil_iff.mpr rfl)
 | n::r,Hf,H,s,s',ks,R,e,rc,st,h,k=>by
  obtain⟨d,s1,a1,a2⟩:=Zs h;obtain⟨ks',s2,a3,a4⟩:=Zs a2;obtain⟨rfl,rfl⟩:=ZC a4;intro base' cs;refine⟨Hf,[.int n],cds,s,d,s1,rfl,e,.one (ja.mpr rfl),rc,st,a1,λv jV H1 g1 jX rv=>?_⟩;exact ZgC r jV H1 s1 _ ks' _ g1.fh (rc.ext g1.ff) jX a3 λkvs j6 H2 g2 jY rk=>k (v::kvs) j6 H2 (g1.trans g2) jY (.cons (rv.ext g2.ff) rk)
theorem Zj7 (e:Zz G Hf H)(r:Zk G Hf ks kvs)(h:ltD ks=some lt):Vq X kvs H lt:=by
 unfold ltD at h
 cases hi:ZH ks with
 | some ns=>
  rw[hi]at h
  cases h
  rw[Wq hi]at r;exact .inl ⟨ns,jk r,rfl⟩
 | none=>
  rw[hi]at h
  cases ht:JO ks with
  | none=>simp_all
  | some kC=>
   rw[ht]at h;have h:(if kC.all (λns=>!ns.isEmpty)=true then some λi j=>XV (kC.getD i []) (kC.getD j [])else none)=some lt:=h;by_cases hn:kC.all (λns=>!ns.isEmpty)=true
   ·rw[if_pos hn]at h
    cases h
    rw[Zey ht]at r;refine .inr ⟨kC,λv ns=>Zo G Hf (tupI ns) v,λv ns rv=>?_,Zez r,λns hm z=>?_,rfl⟩
    ·obtain⟨a,vs,rfl,na,ha,rl⟩:=jc.mp rv
     rw[jk rl]at ha;exact⟨a,rfl,ZO.of (e _ _ na ha)⟩
    ·grind
   ·simp_all
end
section
variable {X:Cx}{G:Gh}{P c:Addr}{q:Str}{kl:Nat}{frb:Bool}{e1:Expr}{f1:Zc->M D}{r1:Bool}{params:Arguments}{scope:Scope}{lpos ppos pos kpos:Pos}{XN N ps:List Str}{NS:List (Str×NameKind)}{cix:List Nat}{body:Expr}{fe:Zc->M D}
theorem Zbr {Q:VK}(hfn:∀x,X.fn x=true)(hr:Room (kl+3) X.A)(M:Mk0 X c P)(TG:TabG P q G)(S:CloScope N ps scope)(B:CapS X XN NS N ps cix scope)(hps:ps.length=1)
  (hbind:∀(cl:List (Str×Addr)) (pm cd ct:Value) (us:List Value),us.length=ps.length->bindArgs (zg "<lambda>" q params body scope cl pm cd ct) ⟨us,[]⟩=pure (ps.zip us))
  (hb:∀(base:Heap) (f c':Addr) (cl:List (Str×Addr)) (G:Gh) (A:xC) (outer:List Env) (s:Shared) (H:Hp) (E:XK),Room kl (A.deeper (zZ q scope s.heap.objs.size f (.ref c') cl))->PD (Uu ZN X.prog X.w X.K X.mg base N q scope f (.ref c') cl A outer s H E).nox G frb body fe)
  (x1:Zz G jV H1) (x2:YM G jV σ ρ) (jX:G.st s H1) (hcap:Vt ρ cix=some cds) (hk:Vm (Y1 N.length fe) cds ns s=some (d,s'))
  (hit:∀H2,Zz G H1 H2->(∀b u,H1 b=some u->(∀t,u≠.tbl t)->H2 b=some u)->JR X H2 p0 ns)
  (k:∀v Hf3 H3,Gr G jV H1 Hf3 H3->G.st s' H3->Zo G Hf3 d v->(∀a,v=.ref a->¬G.fp a/\H1 a=none)->Q v H3) :
  Xn (fun σ H Q=>Zlc P q lpos (λfd c'=>∃cl pm ctv,CloOf X scope cl/\fd=zg "<lambda>" q params body scope cl pm (.ref c') ctv) H λp _ _ H'=>Q (.ref p) H') XA σ H1 λys H2=>
   ∃(p f:Addr) (ns:List Int) (sp:Heap->Sp) (k:Nat),[V.ref p0]=[.ref p]/\ys=[.ref f]/\JR X H2 p ns/\KeyFn X σ k f sp/\Room (k+2) X.A/\ns.length<64/\
    UH X σ sp (ns.map V.int) H2 λkvs H1=>∃lt,Vq X kvs H1 lt/\∀l,H1 l=none->Q (.ref l) (Zi H1 l (.lst ((YR lt ns.length).map λi=>V.int (ns.getD i 0)))):=by
 unfold Vm at hk;obtain⟨hn,a5⟩:=YQ hk;obtain⟨hn0,hn1⟩:=yB.mp hn;have h64:=of_decide_eq_true hn0;obtain⟨ks,s1,a6,a7⟩:=Zs a5;obtain⟨tp,hP,htr,hhit⟩:=TG.get _ H1 jX;refine⟨tp,hP,htr,λcv h=>let ⟨c',z1,z2,_⟩:=hhit lpos cv h;⟨c',z1,z2⟩,λp c' fd Hm ⟨cl,pm,ctv,co,efd⟩ sl hp=>?_⟩;subst efd;obtain⟨stm,hc',ex⟩:=Ziq TG jX hP sl;have gr:=Zir (o:=.ext (fnφ p (zg "<lambda>" q params body scope cl pm (.ref c') ctv))) x1 ex hp;have hcp:c'≠p:=λz=>by rw[z,hp]at hc';cases hc'
 obtain⟨cvs,l1,l2,l3⟩:=Zc6 x2 hcap;have jY:(Wy G 0 p c' (zg "<lambda>" q params body scope cl pm (.ref c') ctv) q cvs).st s (Zi Hm p (.ext (fnφ p (zg "<lambda>" q params body scope cl pm (.ref c') ctv)))):=⟨Gh.grow stm hp,ZE,by rw[Zl hcp];exact hc'⟩;refine⟨p0,p,ns,λ_=>spK 1 (Wy G 0 p c' (zg "<lambda>" q params body scope cl pm (.ref c') ctv) q cvs) cvs (Y1 N.length fe),kl+1,rfl,rfl,?_,⟨hfn,_,ps,.all (hbind cl pm (.ref c') ctv),λbase' cs=>?_⟩,hr,h64,?_⟩
 ·refine hit _ gr.hh λb u e nt=>?_
  have e2:Hm b=some u:=by
   rcases sl with⟨rfl,h1,h2⟩ | ⟨h1,h2,h3,rfl⟩
   ·exact e
   ·have hbP:b≠P:=λz=>by
     rw[z,hP]at e;cases e;exact nt _ rfl
    rw[Zl (ZP e h2),Zl hbP];exact e
  rw[Zl (ZP e2 hp)];exact e2
 ·have:=fnKE S (B.cloAt cs co l1 l3) (λs H st=>st.2) (G:=Wy G 0 p c' (zg "<lambda>" q params body scope cl pm (.ref c') ctv) q cvs) λA outer s H E hr=>hb base' p c' cl _ A outer s H E hr
  rw[hps]at this;exact this
 ·refine ZgC ns jV _ s s1 ks _ (Zz.re (G:=G) rfl gr.fh) (toCL hn1 l2) jY a6 λkvs j6 H2 g2 st3 rk=>?_
  cases hlt:ltD ks with
  | none=>rw[hlt]at a7;cases a7
  | some lt=>
   rw[hlt]at a7;obtain⟨rfl,rfl⟩:=ZC a7;refine⟨lt,Zj7 g2.fh rk hlt,λl hl=>?_⟩;have g2':Gr G jV _ j6 H2:=grC g2;have nf:=Gh.nofp st3.1 hl;have gB:=Gr.new (o:=.lst ((YR lt ns.length).map λi=>V.int (ns.getD i 0))) g2'.fh hl nf;have gg:=(gr.trans g2').trans gB;have hrl:=by
    have:=V7 (G:=G) (Hf:=Zi j6 l (.lst ((YR lt ns.length).map λi=>V.int (ns.getD i 0)))) ((YR lt ns.length).map λi=>ns.getD i 0);rw[qC,qC]at this;exact this
   refine k (.ref l) _ _ gg (Gh.grow st3.1 hl) (jb.mpr ⟨l,_,rfl,nf,ZE,hrl⟩) λa ea=>?_
   cases ea
   refine⟨nf,?_⟩
   cases q:H1 l with
   | none=>rfl
   | some u=>rw[(gr.trans g2').hh l u nf q]at hl;cases hl
def UZ (F:List D->M D)(cix:List Nat)(f:Zc->M D):Zc->M D:=fun ρ=>Zm (f ρ) λd=>Zm (YU (Vt ρ cix)) λcds=>match d with
 | .lst ds=>(match ZH ds with | some ns=>Vm F cds ns | none=>Zq)
 | .tup ds=>(match ZH ds with | some ns=>Vm F cds ns | none=>Zq)
 | _=>Zq
def PDa (X:Cx)(G:Gh)(e:Expr)(f:Zc->M D):Prop:=
 ∃t,PE X e t/\∀(σ:St) (Hf H:Hp) (ρ:Zc) (s:Pn) (d:D) (s':Pn) (Q:VK),Zz G Hf H->YM G Hf σ ρ->G.st s H->f ρ s=some (d,s')->
  (∀v Hf' H',Gr G Hf H Hf' H'->G.st s' H'->Zo G Hf' d v->(∀a,v=.ref a->H a=none)->Q v H')->t σ H Q
theorem Zcq (hc:X.calm=true)(hg:Gl X "sorted")(hm:X.mg "sorted" = none)(hv:xj "sorted" = some (.builtin "sorted"))(M:Mk0 X c P)(TG:TabG P q G)(hfn:∀x,X.fn x=true)(hr:Room (kl+3) X.A)(h1:PD X G r1 e1 f1)
  (hq:X.env.qual ++ "<lambda>" = q) (S:CloScope N ps scope) (B:CapS X XN NS N ps cix scope) (hps:ps.length=1)
  (hbind:∀(cl:List (Str×Addr)) (pm cd ct:Value) (us:List Value),us.length=ps.length->bindArgs (zg "<lambda>" q params body scope cl pm cd ct) ⟨us,[]⟩=pure (ps.zip us))
  (hb:∀(base:Heap) (f c':Addr) (cl:List (Str×Addr)) (G:Gh) (A:xC) (outer:List Env) (s:Shared) (H:Hp) (E:XK),Room kl (A.deeper (zZ q scope s.heap.objs.size f (.ref c') cl))->PD (Uu ZN X.prog X.w X.K X.mg base N q scope f (.ref c') cl A outer s H E).nox G frb body fe)
  (hdef:defaultsOf params X.env=([],[]):=by rfl)
  (he:xh [e1] X.env=(false,eval e1 X.env)::xh [] X.env:=by rfl)
  (hall:(xp pos (xi [⟨some "key",.Lambda params body scope lpos,kpos⟩] X.env)).all (·.1.isSome)=true:=by rfl) (hks:(xp pos (xi [⟨some "key",.Lambda params body scope lpos,kpos⟩] X.env)).filterMap (·.1)=[("key" : Str)]:=by rfl)
  (hpl:((backTo pos (xh [e1] X.env)).any (·.1)||(xp pos (xi [⟨some "key",.Lambda params body scope lpos,kpos⟩] X.env)).any (·.1.isNone))=false:=by rfl) :
  PDa X G (.Call (.Name "sorted" ppos) [e1] [⟨some "key",.Lambda params body scope lpos,kpos⟩] pos) (UZ (Y1 N.length fe) cix f1):=by
 obtain⟨t1,p1,q1⟩:=h1.drop;refine⟨_,ZeJ (ZbS hc) hg hm hv p1 (Zhv M hq B.hfree hdef) (by decide) (by decide) he hall hks hpl,fun σ Hf H ρ s d s' Q x1 x2 x3 x4 k=>?_⟩;obtain⟨d1,s1,a1,a2⟩:=Zs x4;obtain⟨cds,s2,b3,a4⟩:=Zs a2;obtain⟨a3,rfl⟩:=WD b3;refine q1 σ Hf H ρ s d1 _ _ x1 x2 x3 a1 λv1 jV H1 g1 jX rv1=>?_;have go:∀(ns:List Int) (p0:Addr),v1=.ref p0->Vm (Y1 N.length fe) cds ns s2=some (d,s')->(∀H2,Zz G H1 H2->(∀b u,H1 b=some u->(∀t,u≠.tbl t)->H2 b=some u)->JR X H2 p0 ns)->Xn (fun σ H Q=>Zlc P q lpos (λfd c'=>∃cl pm ctv,CloOf X scope cl/\fd=zg "<lambda>" q params body scope cl pm (.ref c') ctv) H λp _ _ H'=>Q (.ref p) H') XA σ H1 λys H2=>
   ∃(p f:Addr) (ns:List Int) (sp:Heap->Sp) (k:Nat),[v1]=[.ref p]/\ys=[.ref f]/\JR X H2 p ns/\KeyFn X σ k f sp/\Room (k+2) X.A/\ns.length<64/\
    UH X σ sp (ns.map V.int) H2 λkvs H1=>∃lt,Vq X kvs H1 lt/\∀l,H1 l=none->Q (.ref l) (Zi H1 l (.lst ((YR lt ns.length).map λi=>V.int (ns.getD i 0)))):=by
  rintro ns p0 rfl hkk hit;refine Zbr hfn hr M TG S B hps hbind hb g1.fh (x2.ext g1.ff) jX a3 hkk hit λv Hf3 H3 g3 st3 r3 fz=>k v Hf3 H3 (g1.trans g3) st3 r3 λa ea=>by
   obtain⟨n,z⟩:=fz a ea
   cases e:H a with
   | none=>rfl
   | some u=>rw[g1.hh a u n e]at z;cases z
 match d1,a4,rv1 with
 | .lst ds,a4,rv1=>
  have a4:(match ZH ds with | some ns=>Vm (Y1 N.length fe) cds ns | none=>Zq) s2=some (d,s'):=a4
  cases hi:ZH ds with
  | none=>rw[hi]at a4;cases a4
  | some ns=>
   rw[hi]at a4;obtain⟨p0,vs,rfl,n0,h0,rl⟩:=jb.mp rv1;rw[Wq hi]at rl;rw[jk rl]at h0;exact go ns p0 rfl a4 λH2 e _=>.inl (ZD.of (e _ _ n0 (g1.fh _ _ n0 h0)))
 | .tup ds,a4,rv1=>
  have a4:(match ZH ds with | some ns=>Vm (Y1 N.length fe) cds ns | none=>Zq) s2=some (d,s'):=a4
  cases hi:ZH ds with
  | none=>rw[hi]at a4;cases a4
  | some ns=>
   rw[hi]at a4;obtain⟨p0,vs,rfl,n0,h0,rl⟩:=jc.mp rv1;rw[Wq hi]at rl;rw[jk rl]at h0;exact go ns p0 rfl a4 λH2 e _=>.inr (.inl (ZO.of (e _ _ n0 (g1.fh _ _ n0 h0))))
theorem ZhR (hc:X.calm=true)(hg:Gl X "sorted")(hm:X.mg "sorted" = none)(hv:xj "sorted" = some (.builtin "sorted"))(M:Mk0 X c P)(TG:TabG P q G)(hfn:∀x,X.fn x=true)(hr:Room (kl+3) X.A)(h1:PD X G r1 e1 f1)
  (hq:X.env.qual ++ "<lambda>" = q) (S:CloScope N ps scope) (B:CapS X XN NS N ps cix scope) (hps:ps.length=1)
  (hbind:∀(cl:List (Str×Addr)) (pm cd ct:Value) (us:List Value),us.length=ps.length->bindArgs (zg "<lambda>" q params body scope cl pm cd ct) ⟨us,[]⟩=pure (ps.zip us))
  (hb:∀(base:Heap) (f c':Addr) (cl:List (Str×Addr)) (G:Gh) (A:xC) (outer:List Env) (s:Shared) (H:Hp) (E:XK),Room kl (A.deeper (zZ q scope s.heap.objs.size f (.ref c') cl))->PD (Uu ZN X.prog X.w X.K X.mg base N q scope f (.ref c') cl A outer s H E).nox G frb body fe)
  (hdef:defaultsOf params X.env=([],[]):=by rfl)
  (he:xh [e1] X.env=(false,eval e1 X.env)::xh [] X.env:=by rfl)
  (hall:(xp pos (xi [⟨some "key",.Lambda params body scope lpos,kpos⟩] X.env)).all (·.1.isSome)=true:=by rfl) (hks:(xp pos (xi [⟨some "key",.Lambda params body scope lpos,kpos⟩] X.env)).filterMap (·.1)=[("key" : Str)]:=by rfl)
  (hpl:((backTo pos (xh [e1] X.env)).any (·.1)||(xp pos (xi [⟨some "key",.Lambda params body scope lpos,kpos⟩] X.env)).any (·.1.isNone))=false:=by rfl) :
  PD X G false (.Call (.Name "sorted" ppos) [e1] [⟨some "key",.Lambda params body scope lpos,kpos⟩] pos) (UZ (Y1 N.length fe) cix f1):=
 let ⟨t,p,q⟩:=Zcq hc hg hm hv M TG hfn hr h1 hq S B hps hbind hb hdef he hall hks hpl;⟨t,p,fun σ Hf H ρ s d s' Q a b c e k=>q σ Hf H ρ s d s' Q a b c e λv Hf' H' g st r _=>k v Hf' H' g st r λz=>y9 z⟩
def JC (F:List D->M D)(cix:List Nat)(f:Zc->M D):Zc->M D:=fun ρ=>Zm (f ρ) λd=>Zm (YU (Vt ρ cix)) λcds=>match d with
 | .int j=>if -(2 ^ 62)<=j/\j<=2 ^ 24 then Vm F cds ((qj j.toNat).map λ(i:Nat)=>(i:Int))else Zq
 | _=>Zq
theorem Zcr {p2 pos2:Pos}(hc:X.calm=true)(hg:Gl X "sorted")(hm:X.mg "sorted" = none)(hv:xj "sorted" = some (.builtin "sorted"))(hgr:Gl X "range")(hmr:X.mg "range" = none)(M:Mk0 X c P)(TG:TabG P q G)(hfn:∀x,X.fn x=true)(hr:Room (kl+3) X.A)(h1:PD X G r1 e1 f1)
  (hq:X.env.qual ++ "<lambda>" = q) (S:CloScope N ps scope) (B:CapS X XN NS N ps cix scope) (hps:ps.length=1)
  (hbind:∀(cl:List (Str×Addr)) (pm cd ct:Value) (us:List Value),us.length=ps.length->bindArgs (zg "<lambda>" q params body scope cl pm cd ct) ⟨us,[]⟩=pure (ps.zip us))
  (hb:∀(base:Heap) (f c':Addr) (cl:List (Str×Addr)) (G:Gh) (A:xC) (outer:List Env) (s:Shared) (H:Hp) (E:XK),Room kl (A.deeper (zZ q scope s.heap.objs.size f (.ref c') cl))->PD (Uu ZN X.prog X.w X.K X.mg base N q scope f (.ref c') cl A outer s H E).nox G frb body fe)
  (hdef:defaultsOf params X.env=([],[]):=by rfl)
  (hs1:xh [e1] X.env=[(false,eval e1 X.env)]:=by rfl)
  (he:xh [.Call (.Name "range" p2) [e1] [] pos2] X.env=(false,eval (.Call (.Name "range" p2) [e1] [] pos2) X.env)::xh [] X.env:=by rfl)
  (hall:(xp pos (xi [⟨some "key",.Lambda params body scope lpos,kpos⟩] X.env)).all (·.1.isSome)=true:=by rfl) (hks:(xp pos (xi [⟨some "key",.Lambda params body scope lpos,kpos⟩] X.env)).filterMap (·.1)=[("key" : Str)]:=by rfl)
  (hpl:((backTo pos (xh [.Call (.Name "range" p2) [e1] [] pos2] X.env)).any (·.1)||(xp pos (xi [⟨some "key",.Lambda params body scope lpos,kpos⟩] X.env)).any (·.1.isNone))=false:=by rfl) :
  PD X G false (.Call (.Name "sorted" ppos) [.Call (.Name "range" p2) [e1] [] pos2] [⟨some "key",.Lambda params body scope lpos,kpos⟩] pos) (JC (Y1 N.length fe) cix f1):=by
 obtain⟨t1,p1,q1⟩:=h1.drop;refine⟨_,ZeJ (ZbS hc) hg hm hv (Zcb hgr hmr (ZU p1 Yn (by rw[hs1];rfl)) hs1) (Zhv M hq B.hfree hdef) (by decide) (by decide) he hall hks hpl,fun σ Hf H ρ s d s' Q x1 x2 x3 x4 k=>?_⟩;obtain⟨d1,s1,a1,a2⟩:=Zs x4;obtain⟨cds,s2,b3,a4⟩:=Zs a2;obtain⟨a3,rfl⟩:=WD b3
 cases d1 with
 | int j=>
  obtain⟨cj,a5⟩:=YQ a4;refine q1 σ Hf H ρ s _ _ _ x1 x2 x3 a1 λv1 jV H1 g1 jX rv1=>?_;rw[ja.mp rv1];refine⟨j,rfl,λp hp=>?_⟩;have jY:G.st s2 (Zi H1 p (.rng 0 j)):=Gh.grow jX hp;have fp:jV p=none:=by
   cases q:jV p with
   | none=>rfl
   | some o=>rw[g1.fh p o (Gh.nofp jX hp) q]at hp;cases hp
  have gA:Gr G jV H1 jV (Zi H1 p (.rng 0 j)):=⟨λb o n q=>by rw[Zl (ZP q hp)];exact q,.refl _ _,λb o n q=>by rw[Zl (ZP q fp)];exact g1.fh b o n q,λb n h1 h2=>h1⟩;refine Zbr hfn hr M TG S B hps hbind hb gA.fh (x2.ext g1.ff) jY a3 a5 (λH2 _ keep=>.inr (.inr ⟨j,keep _ _ ZE (λt z=>by cases z),cj.1,cj.2,rfl⟩)) λv Hf3 H3 g3 st3 r3 _=>k v Hf3 H3 ((g1.trans gA).trans g3) st3 r3 (λz=>by cases z)
 | _=>cases a4
end
open PySem.W
section
variable {X:Cx}{jM:Qb}{σ:St}{H:Hp}{s:Shared}
end
section
variable {X:Cx}{G:Gh}{σ:St}
end
section
variable {X:Cx}{G:Gh}{P c:Addr}{q:Str}{kl:Nat}{frb:Bool}{e1:Expr}{f1:Zc->M D}{r1:Bool}{params:Arguments}{scope:Scope}{lpos ppos pos kpos:Pos}{XN N ps:List Str}{NS:List (Str×NameKind)}{cix:List Nat}{body:Expr}{fe:Zc->M D}
end
end TF
namespace TF
open L2
section
variable {X:Cx}{G:Gh}
def Zfm:List D->Option D
 | [.lst ds]=>if ds.length<=xg then (WW [] ds).map .du else none
 | _=>none
theorem Zdl (hc:X.calm=true)(hu:X.A.units+64<cLine):Wk X G (.type "dict") Zfm:=
 ⟨_,ZbB hc hu true,λHf H s xs ds c Q e1 st r q k=>by
  match ds,q,r with
  | [.lst es],q,r=>
   have q:(if es.length<=xg then (WW [] es).map D.du else none)=some c:=q;split at q
   ·cases e:WW [] es with
    | none=>simp_all
    | some res=>
     rw[e]at q
     cases q
     obtain⟨v,rfl,rv⟩:=ji r;obtain⟨l,vs,rfl,nl,hl,rl⟩:=jb.mp rv;refine⟨l,vs,rfl,e1 _ _ nl hl,λp hp=>⟨_,Zhq e1 hp rl e (by simp_all),?_⟩⟩;have nf:=Gh.nofp st hp;have g2:=Gr.new (o:=.dT res) e1 hp nf;exact k (.ref p) _ _ g2 (Gh.grow st hp) (jn.mpr ⟨p,rfl,nf,ZE⟩) λa ea _=>by simp_all
   ·cases q⟩
end
end TF
namespace TS
open PySem.W
section
variable {prog:xB}{w:World}{A:xC}{E:xD}{s:Shared}
end
end TS
namespace TF
open L2 TS
section
variable {X:Cx}{G:Gh}
end
end TF
namespace L2
section
variable {X:Cx}
def ZiJ:V->List V->Hp->VK->Prop:=λx vs H Q=>∃l xs r y,x=.ref l/\vs=[.int r,y]/\H l=some (.lst xs)/\xs.length<xg/\0<=r/\r<=1000000/\Q .non (Zi H l (.lst (xs.take r.toNat++y::xs.drop r.toNat)))
theorem ZgD {α:Type}(l:List α)(k:Nat):l.take (min k l.length)=l.take k/\l.drop (min k l.length)=l.drop k:=by
 simp
theorem ZgE:∀{xs:List V} {us:List Value} (k:Nat) {v:V} {u:Value},ZB xs us->ZF v u->ZB (xs.take k++v::xs.drop k) (us.take k++u::us.drop k)
 | [],_,k,v,u,h,r=>by cases h;simp;exact .cons r .nil
 | x::xs,_,0,v,u,h,r=>(.cons r h)
 | x::xs,_,k+1,v,u,h,r=>by
  cases h with
  | cons h1 h2=>exact .cons h1 (ZgE k h2 r)
theorem Zj8:MtM X "list.insert" ZiJ:=by
 intro jM s σ H x vs v us Q I rx rv h;obtain⟨l,xs,r,y,rfl,rfl,hH,hz,r0,r1,q⟩:=h
 cases rx
 obtain⟨u1,u2,rfl,ru1,ru2⟩:=BZ rv;obtain⟨t,rfl⟩:=ru1;obtain⟨z,jO,n,rr,hl,e⟩:=I.lstM hH;have jW:jO.length=xs.length:=rr.length.symm;refine call_meets qby ⟨_,e,rfl⟩ PySem.F.entry_list_insert (PySem.F.args_list_insert_3 _ _ _) (PySem.AutoSeq1.list_insert_list_int_val_1 l jO.toArray n r t u2 (by
  unfold Builtin.List.listFitsIndex;rw[decide_eq_true (show -(2 ^ 63:Int)<=r by omega),decide_eq_true (show r<2 ^ 63 by omega)];decide) (by rw[zf];omega)) ⟨e,?_⟩
 refine⟨.non,_,I.lset (its':=jO.take r.toNat++u2::jO.drop r.toNat) (ys:=xs.take r.toNat++y::xs.drop r.toNat) hH e ?_ (ZgE _ rr ru2) ?_,rfl,q⟩
 ·show(jO.toArray.extract 0 (if r<0 then (r+(jO.toArray.size:Int)).toNat else min r.toNat jO.toArray.size)).push u2++jO.toArray.extract (if r<0 then (r+(jO.toArray.size:Int)).toNat else min r.toNat jO.toArray.size)=_
  rw[if_neg (by omega)];have:=PySem.W.kl_ins_eq jO (min r.toNat jO.length) u2;rw[(ZgD jO r.toNat).1,(ZgD jO r.toNat).2]at this;exact this
 ·grind
end
end L2
namespace TF
open L2
section
variable {X:Cx}{G:Gh}{ob own:List Nat}{fr:Bool}{f g:Zc->M D}
theorem Zk.ins:∀{ds:List D} {vs:List V} (k:Nat) {d:D} {v:V},Zk G H ds vs->Zo G H d v->Zk G H (ds.take k++d::ds.drop k) (vs.take k++v::vs.drop k)
 | [],vs,k,d,v,h,r=>by
  rw[Zk.nil_iff.mp h];simp;exact .one r
 | x::ds,vs,0,d,v,h,r=>(.cons r h)
 | x::ds,vs,k+1,d,v,h,r=>by
  obtain⟨w,rr,rfl,h1,h2⟩:=jd.mp h;exact .cons h1 (Zk.ins k h2 r)
def Jq (i:Nat)(f g:Zc->M D):Zc->M Out:=fun ρ=>Zm (f ρ) λd=>Zm (g ρ) λe=>match d,(ρ[i]?).bind id with
 | .int r,some (.lst ds)=>if ds.length<xg/\0<=r/\r<=1000000 then Zy (.nx (ρ.set i (some (.lst (ds.take r.toNat++e::ds.drop r.toNat)))))else Zq
 | _,_=>Zq
theorem Znj (hi:i∈own)(hy:WZ G own r1 te f)(hy2:WZ G own r2 tg g) :
  Bd G ob own own fr (VP (VB X.K "list" ZiJ (ZY i) (Xn te (Xn tg XA)))) (Jq i f g):=λkn jS H0 σ H ρ s out s' E ⟨Hf,j⟩ st e po=>by
 obtain⟨d,s1,a1,a2⟩:=Zs e;obtain⟨d2,s2,a3,a4⟩:=Zs a2
 cases d with
 | int r=>
  cases hb:(ρ[i]?).bind id with
  | none=>rw[hb]at a4;cases a4
  | some c=>
   rw[hb]at a4
   cases c with
   | lst ds=>
    obtain⟨hc,a5⟩:=YQ (show(if ds.length<xg/\0<=r/\r<=1000000 then Zy (.nx (ρ.set i (some (.lst (ds.take r.toNat++d2::ds.drop r.toNat)))))else Zq) s2=some (out,s')from a4);obtain⟨rfl,rfl⟩:=ZC a5;have ei:=JH hb;obtain⟨a,vs,h1,h2,h3,h4⟩:=JG j hi ei;refine⟨_,h1,.inl ⟨rfl,vs,ZD.of h3⟩,?_⟩;refine hy kn jS H0 σ Hf H ρ s (.int r) s1 _ j st a1 λv Hf' H' j' e1 e2 st' rp fz=>?_;rw[ja.mp rp];refine hy2 kn jS H0 σ Hf' H' ρ s1 d2 s' _ j' st' a3 λv2 j6 H2 j2 e3 e4 jY rp2 fz2=>?_;obtain⟨a',vs',h1',h2',h3',h4'⟩:=JG j2 hi ei;rw[h1]at h1';cases h1';refine⟨a,vs',r,v2,rfl,rfl,h3',by rw[<-h4'.length];exact hc.1,hc.2.1,hc.2.2,?_⟩;exact po σ _ ⟨j6,j2.put hi ei h1 ⟨_,ZE,Zk.ins _ h4' rp2⟩⟩ (jq jY h2)
   | _=>cases a4
 | _=>cases hb:(ρ[i]?).bind id with
  | none=>cases a4
  | some c=>cases c <;> cases a4
theorem ZgF {pos p2 p3:Pos}(hi:i∈own)(hv:PE X (.Name x p1) (ZY i))(he:PD X G r1 e1 f)(he2:PD X G r2 e2 g)
  (hbase:xq (.Name x p1) "insert" X.env (eval (.Name x p1) X.env)=eval (.Name x p1) X.env:=by rfl)
  (hfew:((backTo p3 (xh [e1,e2] X.env)).all (λx=>!x.1)&&(xp p3 (xi [] X.env)).all (λx=>x.1.isSome)
   && decide ([e1,e2].length+([]:List Keyword).length+(if ([]:List Keyword).isEmpty then 0 else 1)<30))=true:=by rfl)
  (hline:(p2.endLine==p3.line)=true:=by rfl) (hs:xh [e1,e2] X.env=(false,eval e1 X.env)::xh [e2] X.env:=by rfl) (hs2:xh [e2] X.env=(false,eval e2 X.env)::xh [] X.env:=by rfl)
  (hsw:xr (.Call (.Attribute (.Name x p1) "insert" p2) [e1,e2] [] p3) none pos.line X.env=pure false:=by rfl) :
  YI X G ob own own fr (.Expr (.Call (.Attribute (.Name x p1) "insert" p2) [e1,e2] [] p3) pos) (Jq i (Xa r1 f) (Xa r2 g)):=by
 obtain⟨t,p,q⟩:=he;obtain⟨t2,p',q'⟩:=he2;exact⟨_,BC (U8 zN qby PySem.F.type_list_insert Zj8 hv (ZU p (ZU p' Yn hs2) hs) hbase hfew hline hs (by rw[hs2];rfl)) hsw,Znj hi (X4.b q) (X4.b q')⟩
theorem Zj9 {pos p2 p3:Pos}(hi:i∈own)(hv:PE X (.Name x p1) (ZY i))(he:PD X G r1 e f)
  (hbase:xq (.Name x p1) "extend" X.env (eval (.Name x p1) X.env)=eval (.Name x p1) X.env:=by rfl)
  (hfew:((backTo p3 (xh [e] X.env)).all (λx=>!x.1)&&(xp p3 (xi [] X.env)).all (λx=>x.1.isSome)
   && decide ([e].length+([]:List Keyword).length+(if ([]:List Keyword).isEmpty then 0 else 1)<30))=true:=by rfl)
  (hline:(p2.endLine==p3.line)=true:=by rfl) (hs:xh [e] X.env=(false,eval e X.env)::xh [] X.env:=by rfl)
  (hsw:xr (.Call (.Attribute (.Name x p1) "extend" p2) [e] [] p3) none pos.line X.env=pure false:=by rfl) :
  YI X G ob own own fr (.Expr (.Call (.Attribute (.Name x p1) "extend" p2) [e] [] p3) pos) (UK i (Xa r1 f)):=by
 obtain⟨t,p,q⟩:=he;exact⟨_,Zeo hv p hbase hfew hline hs hsw,Zio hi (X4.b q)⟩
end
section
variable {X:Cx}{G:Gh}
def B8 (fa fb fc:Zc->M D):Zc->M D:=fun ρ=>Zm (fa ρ) λd=>Zm (fb ρ) λy=>Zm (fc ρ) λz=>match d with
 | .dk kvs=>(match Xs y with | some k=>(match ZR kvs k with | some v=>YU (vD v) | none=>Zy z) | none=>Zq)
 | _=>Zq
theorem Znk {apos cpos:Pos}(hu:X.A.units+1<cLine)(ha:PD X G r1 a fa)(hb:PD X G r2 b fb)(hc:PD X G r3 c fc)
  (hbase:xq a "get" X.env (eval a X.env)=eval a X.env:=by rfl)
  (hfew:((backTo cpos (xh [b,c] X.env)).all (λx=>!x.1)&&(xp cpos (xi [] X.env)).all (λx=>x.1.isSome)
   && decide (([b,c]:List Expr).length+([]:List Keyword).length+(if ([]:List Keyword).isEmpty then 0 else 1)<30))=true:=by rfl)
  (hline:(apos.endLine==cpos.line)=true:=by rfl) (htr:backTo cpos (xh [b,c] X.env)=[(false,eval b X.env),(false,eval c X.env)]:=by rfl) :
  PD X G false (.Call (.Attribute a "get" apos) [b,c] [] cpos) (B8 fa fb fc):=by
 obtain⟨ta,pa,qa⟩:=ha.drop;obtain⟨tb,pb,qb⟩:=hb.drop;obtain⟨tc,pc,qc⟩:=hc.drop;refine⟨_,ZkV hu pa pb pc ⟨hbase,hfew,hline,htr⟩,fun σ Hf H ρ s d s' Q e1 e2 e3 e4 k=>?_⟩;obtain⟨da,s1,a1,a2⟩:=Zs e4;obtain⟨db,s2,a3,a4⟩:=Zs a2;obtain⟨dc,s3,a5,a6⟩:=Zs a4;refine qa σ Hf H ρ s da s1 _ e1 e2 e3 a1 λx jV H1 g1 jX r1=>?_
 match da,a6,r1 with
 | .dk kvs,a6,r1=>
  obtain⟨p,rfl,np,hp⟩:=jj.mp r1;have a6:(match Xs db with | some k=>(match ZR kvs k with | some v=>YU (vD v) | none=>Zy dc) | none=>Zq) s3=some (d,s'):=a6;refine⟨p,rfl,.inl ⟨kvs,.of (g1.fh _ _ np hp)⟩,qb σ jV H1 ρ s1 db _ _ g1.fh (e2.ext g1.ff) jX a3 λy j6 H2 g2 jY r2=>?_⟩;refine qc σ j6 H2 ρ s2 dc _ _ g2.fh ((e2.ext g1.ff).ext g2.ff) jY a5 λz Hf3 H3 g3 st3 r3=>?_;have hp3:H3 p=some (.dK kvs):=g3.fh _ _ np (g3.ff _ _ np (g2.ff _ _ np hp))
  cases ek:Xs db with
  | none=>rw[ek]at a6;cases a6
  | some ky=>
   rw[ek]at a6;have ey:=UW ek r2;subst ey;refine⟨ZR kvs ky,.inl ⟨kvs,ky,.of hp3,rfl,rfl⟩,?_⟩;have a6:(match ZR kvs ky with | some v=>YU (vD v) | none=>Zy dc) s3=some (d,s'):=a6
   cases ev:ZR kvs ky with
   | none=>
    rw[ev]at a6;obtain⟨rfl,rfl⟩:=ZC a6;exact k z Hf3 H3 ((g1.trans g2).trans g3) st3 r3 (λz=>by cases z)
   | some v=>
    rw[ev]at a6;obtain⟨a7,rfl⟩:=WD a6;exact k v Hf3 H3 ((g1.trans g2).trans g3) st3 (ZlC a7) (λz=>by cases z)
def valφ (v a:Addr):Heap->Prop:=λh=>h.IsValuesView v a
def ZpN (td:TE):TE:=fun σ H Q=>td σ H λx H1=>∃a kvs,x=.ref a/\Rd H1 a (.dK kvs)/\∀v,H1 v=none->Q (.ref v) (Zi H1 v (.ext (valφ v a)))
theorem Zka {apos cpos:Pos}(ho:PE X o td)(hbase:xq o "values" X.env (eval o X.env)=eval o X.env:=by rfl)
  (hfew:((backTo cpos (xh [] X.env)).all (λx=>!x.1)&&(xp cpos (xi [] X.env)).all (λx=>x.1.isSome)
   && decide (([]:List Expr).length+([]:List Keyword).length+(if ([]:List Keyword).isEmpty then 0 else 1)<30))=true:=by rfl)
  (hline:(apos.endLine==cpos.line)=true:=by rfl) (htr:backTo cpos (xh [] X.env)=[]:=by rfl):PE X (.Call (.Attribute o "values" apos) [] [] cpos) (ZpN td):=by
 intro jM s σ H Q I h;refine wpAny_Call_method hbase hfew hline qbD qbz PySem.F.type_dict_values (ZJ (ho jM s σ H _ I h) λu s1 ⟨x,H1,I1,rx,a,kvs,ex,d,q1⟩=>?_);subst ex;obtain rfl:u=qH a:=rx;obtain⟨t1,t2,_⟩:=ZkU I1 (.inl ⟨kvs,d⟩);refine⟨t1,t2,?_⟩;rw[htr];refine qaG rfl (PySem.evalArgs_none ?_);obtain⟨z,hd,vs,rel,dd⟩:=Uj I1.hok d;refine call_meetsIn qbz dd.typeIs PySem.F.entry_dict_values (PySem.F.args_dict_values_1 _) (meets_dict_values (XW X.prog X.w) a hd) ⟨⟨vs,dd⟩,?_⟩;refine⟨.ref s1.heap.objs.size,Zi H1 s1.heap.objs.size (.ext (valφ s1.heap.objs.size a)),I1.laid (λb u e=>qf _ e) (qp _) ?_,rfl,q1 _ (I1.hok.fresh (qp _))⟩;exact⟨⟨_,qq _ rfl,rfl,rfl⟩,⟨_,qq _ rfl⟩,λh1 h2 ⟨o,e,c⟩ k=>⟨o,k _ e,c⟩⟩
theorem ZgG {F:α->β->Prop}:∀{l:List α} {r:List β} {i:Nat} {y:β},Paired F l r->r[i]?=some y->∃x,l[i]?=some x/\F x y
 | _,_,i,y,.nil,h=>by simp at h
 | _,_,0,y,.cons f _,h=>by simp_all
 | _,_,i+1,y,.cons _ r,h=>by
  obtain⟨x,h1,h2⟩:=ZgG r (by simpa using h);simp_all
def UI:List (ZG×V)->Option (List Int)
 | []=>some []
 | (_,.int n)::r=>(UI r).map (n :: ·)
 | _=>none
theorem ZgH:∀{kvs:List (ZG×V)} {ns:List Int},UI kvs=some ns->kvs.map (·.2)=ns.map V.int
 | [],ns,h=>by cases h;rfl
 | (k,.int n)::r,ns,h=>by
  obtain⟨m,h1,rfl⟩:=qbN.mp h;rw[zT,zT,ZgH h1]
 | (_,.non)::_,_,h=>by cases h
 | (_,.bl _)::_,_,h=>by cases h
 | (_,.str _)::_,_,h=>by cases h
 | (_,.ref _)::_,_,h=>by cases h
 | (_,.ty _)::_,_,h=>by cases h
 | (_,.flt _)::_,_,h=>by cases h
 | (_,.byt _)::_,_,h=>by cases h
end
section
variable {X:Cx}{G:Gh}
theorem Zdm:∀{ns:List Int} {vs:List Value},vs.length=ns.length->(∀(i:Nat) (v:Value),vs[i]?=some v->∃t,v=.int (ns.getD i 0) t)->ZB (ns.map V.int) vs
 | [],[],_,_=>.nil
 | [],_::_,h,_=>by cases h
 | _::_,[],h,_=>by cases h
 | n::ns,v::vs,h,q=>by
  obtain⟨t,e⟩:=q 0 v rfl;refine .cons ⟨t,by simpa using e⟩ (Zdm (qbA h) λi u hu=>?_);obtain⟨t',e'⟩:=q (i+1) u (by simpa using hu);exact⟨t',by simpa using e'⟩
theorem ZdZ (hc:X.calm=true):Xi X (.type "list") (λxs H Q=>∃(v a:Addr) (kvs:List (ZG×V)) (ns:List Int),xs=[.ref v]/\H v=some (.ext (valφ v a))/\Rd H a (.dK kvs)/\kvs.map (·.2)=ns.map V.int/\ns.length<=xg/\∀l,H l=none->Q (.ref l) (Zi H l (.lst (ns.map V.int)))):=by
 intro jM s σ H xs us Q I r h;obtain⟨v,a,kvs,ns,rfl,hv,hd,hns,hz,q⟩:=h;obtain⟨u,rfl,ru⟩:=XT r
 cases ru
 obtain⟨z,hy,vs,rel,dd⟩:=Uj I.hok hd;obtain⟨ep,hat⟩:=dd.dictAt;have hvv:s.heap.IsValuesView v a:=(I.hok v _ hv).1;have jW:kvs.length=vs.length:=rel.length;have hl2:ns.length=vs.length:=by
  have:=congrArg yR hns;rw[qh,qh]at this;omega
 refine PySem.W.kdl_call (PySem.W.kdl_values (prog:=X.prog) (w:=X.w) (r:=v) (d:=a) (knd:=XW X.prog X.w) (kvs:=vs) (ep:=ep)) (I.ok.hd hc) ⟨hvv,hat⟩ (by rw[<-hl2];exact hz) λh' tk acc' c' hk hS hacc=>?_;obtain⟨sz,hit⟩:=hacc;have el:acc'.toList.length=ns.length:=by rw[hl2];simpa using sz
 have rv:ZB (ns.map V.int) acc'.toList:=Zdm el λi v hv=>by
  obtain⟨k,hx⟩:=hit i v (by simpa using hv);obtain⟨kv,hkv,rkv⟩:=ZgG rel hx;have e1:(kvs.map (·.2))[i]?=some kv.2:=by rw[qG,hkv];rfl
  rw[hns,qG]at e1
  cases q2:ns[i]? with
  | none=>rw[q2]at e1;cases e1
  | some n=>
   rw[q2]at e1;have e2:V.int n=kv.2:=zG e1;have r2:ZF kv.2 v:=rkv.2;rw[<-e2]at r2;obtain⟨t,rfl⟩:=r2;exact⟨t,by rw[qJ,q2];rfl⟩
 refine⟨.ref s.heap.objs.size,Zi H s.heap.objs.size (.lst (ns.map V.int)),I.laid hk (qp _) ?_,rfl,q _ (I.hok.fresh (qp _))⟩;refine⟨by rw[qh];exact hz,acc'.toList,c',rv,?_⟩;rw[Array.toArray_toList];exact hS
def Bu (f:Zc->M D):Zc->M D:=fun ρ=>Zm (f ρ) λd=>match d with
 | .dk kvs=>(match UI kvs with | some ns=>if ns.length<=xg then Zy (.lst (ns.map D.int))else Zq | none=>Zq)
 | _=>Zq
theorem ZgI {a:Expr}{p pos apos cpos:Pos}{f:Zc->M D}{r1:Bool}(hc:X.calm=true)(hg:Gl X "list")(hm:X.mg "list" = none)(hv:xj "list" = some (.type "list"))(ha:PD X G r1 a f)
  (hbase:xq a "values" X.env (eval a X.env)=eval a X.env:=by rfl)
  (hfew:((backTo cpos (xh [] X.env)).all (λx=>!x.1)&&(xp cpos (xi [] X.env)).all (λx=>x.1.isSome)
   && decide (([]:List Expr).length+([]:List Keyword).length+(if ([]:List Keyword).isEmpty then 0 else 1)<30))=true:=by rfl)
  (hline:(apos.endLine==cpos.line)=true:=by rfl) (htr:backTo cpos (xh [] X.env)=[]:=by rfl)
  (he:xh [.Call (.Attribute a "values" apos) [] [] cpos] X.env=(false,eval (.Call (.Attribute a "values" apos) [] [] cpos) X.env)::xh [] X.env:=by rfl) :
  PD X G true (.Call (.Name "list" p) [.Call (.Attribute a "values" apos) [] [] cpos] [] pos) (Bu f):=by
 obtain⟨t,pa,qa⟩:=ha.drop;refine⟨_,UU (ZdZ hc) hg hm hv (ZU (Zka pa hbase hfew hline htr) Yn he) (by decide) (by decide) he rfl,fun σ Hf H ρ s d s' Q e1 e2 e3 e4 k=>?_⟩;obtain⟨da,s1,a1,a2⟩:=Zs e4
 match da,a2 with
 | .dk kvs,a2=>
  have a2:(match UI kvs with | some ns=>if ns.length<=xg then Zy (D.lst (ns.map D.int))else Zq | none=>Zq) s1=some (d,s'):=a2
  cases hn:UI kvs with
  | none=>rw[hn]at a2;cases a2
  | some ns=>
   rw[hn]at a2;obtain⟨hz,a3⟩:=YQ a2;obtain⟨rfl,rfl⟩:=ZC a3;refine qa σ Hf H ρ s _ _ _ e1 e2 e3 a1 λx jV H1 g1 jX r1=>?_;obtain⟨q,rfl,nq,hq⟩:=jj.mp r1;have hq1:=g1.fh _ _ nq hq;refine⟨q,kvs,rfl,.of hq1,λv hv=>?_⟩;have hqv:q≠v:=λz=>by rw[<-z,hq1]at hv;cases hv
   have jY:G.st _ (Zi H1 v (.ext (valφ v q))):=Gh.grow jX hv;have fp:jV v=none:=by
    cases q:jV v with
    | none=>rfl
    | some o=>rw[g1.fh v o (Gh.nofp jX hv) q]at hv;cases hv
   have gA:Gr G jV H1 jV (Zi H1 v (.ext (valφ v q))):=⟨λb o n q=>by rw[Zl (ZP q hv)];exact q,.refl _ _,λb o n q=>by rw[Zl (ZP q fp)];exact g1.fh b o n q,λb n h1 h2=>h1⟩;refine⟨v,q,kvs,ns,rfl,ZE,.of (by rw[Zl hqv];exact hq1),ZgH hn,hz,λl hl=>?_⟩;have nf:=Gh.nofp jY hl;have gB:=Gr.new (o:=.lst (ns.map V.int)) gA.fh hl nf;have rr:Zk G jV (ns.map D.int) (ns.map V.int):=V7 ns;refine k (.ref l) _ _ ((g1.trans gA).trans gB) (Gh.grow jY hl) (jb.mpr ⟨l,_,rfl,nf,ZE,rr.ext gB.ff⟩) λ_=>?_;exact Z7.old (g1.trans gA).hh (λa ea _=>by cases ea;exact nf) (Z7.mk gA.fh hl nf rr)
end
section
variable {X:Cx}{G:Gh}
end
end TF
namespace TP2
open L2 TF TP
abbrev nD (i:Nat):D:=.int (i:Int)
def Yr (k:List Nat):D:=.tup (k.map nD)
def okK (jN:Qa)(i:Nat)(k:List Nat):Bool:=k.all λo=>decide ((o,i)∈jN)
def kn (jN:Qa):Nat->List (List Nat)
 | 0=>[[]]
 | i+1=>kn jN i++((kn jN i).filter (okK jN i)).map (· ++ [i])
theorem U5:∀{i:Nat} {k:List Nat},k∈kn jN i->(∀o∈k,o<i)/\k.length<=i
 | 0,k,h=>by
  have:=by simpa[kn]using h
  subst this;simp
 | i+1,k,h=>by
  rcases qS.mp h with h | h
  ·have:=U5 h
   exact⟨λo ho=>zl (this.1 o ho),by omega⟩
  ·obtain⟨q,hq,rfl⟩:=ql.mp h
   have:=U5 (qD.mp hq).1;refine⟨λo ho=>?_,by simp;omega⟩;rcases qS.mp ho with ho | ho
   ·exact zl (this.1 o ho)
   ·grind
theorem ZlZ (p:Nat×Nat)(jN:Qa):YF (Zt p) (.dt (Z5 [] jN))=some (.bl (decide (p∈jN))):=by
 have e:Jk (Zt p) (.dt (Z5 [] jN))=some (decide (p∈jN)):=by
  show some ((ZR (Z5 [] jN) (W1 p)).isSome)=_;rw[Zf7];simp[ZR]
 unfold YF;rw[e];rfl
def Yu (n:Nat)(jN:Qa)(p:Nat):List Nat:=(qj n).filter λo=>tied jN p o
def VO (n:Nat)(jN:Qa):D:=.lst ((qj n).map λp=>.lst ((Yu n jN p).map nD))
theorem ZhS (a b:Nat):ZM (nD a) (nD b)=decide (a=b):=by
 show((a:Int)==(b:Int))=_
 grind
theorem Zl0 (o:Nat)(l:List Nat):VC (nD o) (l.map nD)=decide (o∈l):=by
 unfold VC
 induction l with
 | nil=>simp
 | cons t ts ih=>
  rw[zT,qbg,ih,ZhS]
  grind
theorem Zdn (l:List Nat):YX (l.map nD)=true:=by
 induction l with
 | nil=>rfl
 | cons a l ih=>simp[YX,Zr,ih]
theorem ZiK (l:List Nat):XM (l.map nD)=0:=by
 induction l with
 | nil=>simp[XM]
 | cons a l ih=>simp[XM,Yz,ih]
theorem ZgJ (o:Nat)(l:List Nat):YF (nD o) (.lst (l.map nD))=some (.bl (decide (o∈l))):=by
 have h:Vy (nD o) (l.map nD)=true:=by simp[Vy,Zr,Zdn,Yz,ZiK]
 simp only[YF,Jk,h,if_true,Option.map,Zl0]
def YA (l:List Nat):Nat:=l.foldl max 0
theorem Zfn (l:List Nat):∀a,a<=l.foldl max a/\∀x∈l,x<=l.foldl max a:=by
 induction l with
 | nil=>simp
 | cons b l ih=>
  intro a
  grind
theorem Zl1 (l:List Nat):∀a:Nat,Wp (a:Int) (l.map λ(i:Nat)=>(i:Int))=((l.foldl max a:Nat):Int):=by
 induction l with
 | nil=>intro a;rfl
 | cons b l ih=>
  intro a;show Wp (max (a:Int) (b:Int)) (l.map λ(i:Nat)=>(i:Int))=_;rw[show max (a:Int) (b:Int)=((max a b:Nat):Int) by omega,ih];rfl
theorem Za4 (l:List Nat):ZH (l.map nD)=some (l.map λ(i:Nat)=>(i:Int)):=by
 have:=ZaS (l.map λ(i:Nat)=>(i:Int));rw[qC]at this;exact this
theorem ZeK {α:Type}(q:α->Bool):∀l:List α,l.length=(l.filter q).length+(l.filter λx=>!q x).length
 | []=>rfl
 | a::l=>by
  have:=ZeK q l
  grind
def RT (jN:Qa)(a b:Nat):Prop:=a<b/\(a,b)∈jN
theorem BT:∀{n:Nat} {k:List Nat},k∈kn jN n↔k.Pairwise (RT jN)/\∀o∈k,o<n
 | 0,k=>by
  constructor
  ·intro h
   have:k=[]:=by simpa[kn]using h
   subst this;exact⟨.nil,by simp⟩
  ·rintro⟨_,h⟩
   cases k with
   | nil=>simp[kn]
   | cons a k=>exact absurd (h a (by simp)) (by omega)
 | n+1,k=>by
  rw[kn,qS];constructor
  ·rintro(h | h)
   ·have:=BT.mp h
    exact⟨this.1,λo ho=>zl (this.2 o ho)⟩
   ·obtain⟨q,hq,rfl⟩:=ql.mp h
    obtain⟨hq1,hq2⟩:=qD.mp hq;have:=BT.mp hq1;unfold okK at hq2;rw[zC]at hq2;refine⟨zJ.mpr ⟨this.1,by simp,λa ha b hb=>?_⟩,λo ho=>?_⟩
    ·rw[qL.mp hb]
     exact⟨this.2 a ha,by simpa using hq2 a ha⟩
    ·rcases qS.mp ho with ho | ho
     ·exact zl (this.2 o ho)
     ·rw[qL.mp ho];omega
  ·rintro⟨h1,h2⟩
   by_cases hn:n∈k
   ·right
    obtain⟨a,b,rfl⟩:=List.append_of_mem hn;have hp:=zJ.mp h1;have hb:b=[]:=by
     cases b with
     | nil=>rfl
     | cons y b=>
      have r1:=(yj.mp hp.2.1).1 y (by simp);have:=h2 y (by simp);have:=r1.1;omega
    subst hb;have ha:=λo ho=>hp.2.2 o ho n (by simp);refine ql.mpr ⟨a,qD.mpr ⟨BT.mpr ⟨hp.1,λo ho=>(ha o ho).1⟩,?_⟩,rfl⟩;unfold okK;rw[zC];exact λo ho=>by simpa using(ha o ho).2
   ·left
    refine BT.mpr ⟨h1,λo ho=>?_⟩
    grind
theorem Zl2 {k:List Nat}(hr:k.Pairwise (· < ·))(h:k.Pairwise R)(ha:a∈k)(hb:b∈k)(hab:a<b):R a b:=by
 obtain⟨i,hi,rfl⟩:=qa5 ha;obtain⟨j,hj,rfl⟩:=qa5 hb;have p1:=zW.mp hr;have p2:=zW.mp h;rcases qbp i j with z | z | z
 ·simp_all
 ·simp_all
 ·have:=p1 j i hj hi z;omega
end TP2
namespace TP3
open L2 TF TP TS
open TP2
theorem ZeL {α:Type}(l:List α)(p:α->Bool):UJ [.lst (l.map λx=>D.bl (p x))]=some (.bl (l.any p)):=by
 show(Xx _).map _=_;rw[show l.map (λx=>D.bl (p x))=(l.map p).map D.bl by rw[qC];rfl,ZfZ];simp
def YL (k:List Nat):List Int:=k.map λ(x:Nat)=>(x:Int)
theorem U0:k∈kn jN n↔k.Pairwise (· < ·)/\(∀o∈k,o<n)/\∀a∈k,∀b∈k,a≠b->tied jN a b=true:=by
 rw[BT];constructor
 ·rintro⟨h1,h2⟩
  have hr:=h1.imp λh=>h.1;refine⟨hr,h2,λa ha b hb hab=>?_⟩;by_cases hlt:a<b
  ·rw[BJ hlt];simpa using(Zl2 hr h1 ha hb hlt).2
  ·have hlt:b<a:=by omega
   rw[Zbl,BJ hlt];simpa using(Zl2 hr h1 hb ha hlt).2
 ·rintro⟨hr,h2,h3⟩
  refine⟨?_,h2⟩;refine yG (λ{a b} ha hb hab=>?_) hr;refine⟨hab,?_⟩;have:=h3 a ha b hb (by omega);rw[BJ hab]at this;simp_all
theorem range_rise (n:Nat):(qj n).Pairwise (· < ·):=qaM
theorem Bs {k:List Nat}(h:k.Pairwise (· < ·)):k.Nodup:=h.imp λh=>by omega
section
variable {m n:Nat}{f:Nat->Nat}{tm tn:Qa}
theorem VI {α:Type}[BEq α][LawfulBEq α]:∀{a b:List α},a.Nodup->(∀x∈a,x∈b)->a.length<=b.length
 | [],_,_,_=>by simp
 | x::a,b,nd,h=>by
  have nd':=zx.mp nd;have ih:=VI nd'.2 λy hy=>(List.mem_erase_of_ne (λ(z:y=x)=>nd'.1 (by simp_all))).mpr (h y (by simp[hy]))
  grind
theorem Znl (h:∃r,l=0::r):YA l∈l:=by
 have key:∀(l:List Nat) (a:Nat),l.foldl max a=a∨l.foldl max a∈l:=by
  intro l
  induction l with
  | nil=>intro a;simp
  | cons b l ih=>
   grind
 obtain⟨r,rfl⟩:=h;rcases key (0::r) 0 with e | e
 ·unfold YA;rw[e];simp
 ·exact e
theorem JS (h:x∈l):x<=YA l:=(Zfn l 0).2 x h
end
theorem ZbT (jN:Qa)(a b:Nat)(s:Pn):Vl [.dt (Z5 [] jN),.int a,.int b] s=some (.bl (tied jN a b),s):=by
 simp[Vl,Zc8,runB,Zg,ZL,Zd,Zx,Zb,Ze,ZZ,Za,Zm,Zy,YU,Jc,JY,two_le,Zhx,ZlZ,tied]
theorem ZcM {as:List Nat}(hj:j<as.length):WA (as.map nD) (j:Int)=some (nD (as.getD j 0)):=by
 refine X7 ?_;simp_all
theorem Zkb (ps:List Nat):Yo [.lst (ps.map nD)]=some (nD ps.length):=by
 show some (D.int ((ps.map nD).length:Nat))=_;simp
theorem ZiL (h:Zr d=true)(hd:Yz d<=60):Y9 d d=some (.bl false):=by
 unfold Y9 V1;rw[if_pos (by simp[h,hd]),Zc2 d h];rfl
def Jh (l:List Nat):List Nat:=(qj (l.length+1)).filter λh=>!decide (h∈l)
theorem ZiM (l:List Nat):Jh l≠[]:=λh=>by
 have:=VI yi λx hx=>by
  by_cases m:x∈l
  ·exact m
  ·have:x∈Jh l:=qD.mpr ⟨hx,by simpa using m⟩
   simp_all
 grind
def X5 (l:List Nat):Nat:=(Jh l).headD 0
theorem Bx (l:List Nat):X5 l∉l/\∀x<X5 l,x∈l:=by
 have hne:=ZiM l
 cases e:Jh l with
 | nil=>exact absurd e hne
 | cons m r=>
  have hm:X5 l=m:=by unfold X5;rw[e];rfl
  have h1:m∈Jh l:=by rw[e];simp
  have h2:=qD.mp h1;rw[hm];refine⟨by simpa using h2.2,λx hx=>?_⟩;by_cases mx:x∈l
  ·exact mx
  ·have hr:=qE.mp h2.1
   have h3:x∈Jh l:=qD.mpr ⟨qE.mpr (by omega),by simpa using mx⟩;have h4:(Jh l).Pairwise (· < ·):=(range_rise _).sublist zk;rw[e]at h3 h4;rcases qu.mp h3 with z | z
   ·omega
   ·have:=(yj.mp h4).1 x z
    omega
theorem Zl3 (h1:m∉l)(h2:∀x<m,x∈l):m=X5 l:=by
 obtain⟨g1,g2⟩:=Bx l;rcases qbp m (X5 l)with h | h | h
 ·simp_all
 ·exact h
 ·simp_all
theorem ZeM (h:∀x,x∈l↔x∈l'):X5 l=X5 l':=by
 obtain⟨g1,g2⟩:=Bx l;exact Zl3 (λz=>g1 ((h _).mpr z)) λx hx=>(h x).mp (g2 x hx)
theorem Zo6 (l:List Nat):X5 l<=l.length:=by
 have h:=VI yi λx hx=>(Bx l).2 x (qE.mp hx);simp_all
theorem Zkc (h:∀a∈r,n<=a):Wz n r=n:=(Zgk (by simp) λa ha=>by
 rcases qu.mp ha with rfl | ha
 ·simp
 simp_all).symm
theorem Zl4 (hr:l.Pairwise (· < ·))(hn:l≠[]):ZlF [.lst (l.map nD)]=some (nD (l.headD 0)):=by
 cases l with
 | nil=>simp_all
 | cons m r=>
  have e:=Za4 (m::r);show(match ZH ((m::r).map nD)with | some (n::r)=>some (D.int (Wz n r)) | _=>none)=_;rw[e];show some (D.int (Wz (m:Int) (r.map λ(i:Nat)=>(i:Int))))=_;rw[Zkc λa ha=>?_]
  ·rfl
  ·obtain⟨x,hx,rfl⟩:=ql.mp ha
   have:=(yj.mp hr).1 x hx;omega
theorem Znm (l:List D):Yo [.lst l]=some (nD l.length):=rfl
theorem Za5 (o:Nat)(l:List Nat):WG (nD o) (.lst (l.map nD))=some (.bl (!decide (o∈l))):=by
 have h:=ZgJ o l;unfold YF at h;unfold WG;simp_all
theorem Zd0 (l:List Nat)(hl:l.length<=1000)(s:Pn):Jy [.lst (l.map nD)] s=some (nD (X5 l),s):=by
 have hc:=Xh (src:=[none,some 0]) (fi:=ZW (Zd Y0 (Zx Yo (Zb (Za 0) Ze)) (dC (.int 1)))) (τ:=Zv 0) (ft:=asB (Zd WG (Za 0) (Za 1))) (fe:=Za 0) (ρ:=[some (.lst (l.map nD))]) (s:=s) (ds:=Yt 0 (l.length+1)) (λd=>[some d,some (.lst (l.map nD))]) (λd=>!decide (Yg d∈l)) (λd=>d)
  (XQ (ZA (Z4 (Zh rfl rfl) (by rw[Znm,qh])) rfl rfl) (by omega)) (by rw[Y2,Yi];omega) (λd hd=>by
  obtain⟨i,hi,rfl⟩:=VG hd;exact⟨rfl,Z9 (ZA rfl rfl (Za5 i l)),λ_=>rfl⟩)
 rw[Za2 (l.length+1) λh=>!decide (h∈l)]at hc;refine Xy rfl (YY (XH (Z4 (Zh hc rfl) ?_)));exact Zl4 ((range_rise _).sublist zk) (ZiM l)
def hr (jN:Qa):List Nat->Nat->Nat
 | [],_=>0
 | p::qs,x=>if x=p then X5 ((qs.filter λo=>tied jN p o).map (hr jN qs))else hr jN qs x
def Yh (qs:List Nat)(f:Nat->Nat):List (ZG×V):=qs.map λ(q:Nat)=>(zr (q:Int),V.int (f q))
theorem BM {x:Nat}:∀qs:List Nat,ZR (Yh qs f) (zr (x:Int))=if x∈qs then some (.int (f x))else none
 | []=>rfl
 | q::qs=>by
  by_cases e:q=x
  ·subst e
   show ZR ((zr (q:Int),V.int (f q))::Yh qs f) _=_;rw[Wr rfl];simp
  ·have hn:¬((zr (q:Int):ZG)=zr (x:Int)):=λz=>by
    grind
   show ZR ((zr (q:Int),V.int (f q))::Yh qs f) _=_;rw[Ws hn,BM qs];have:x≠q:=λz=>e z.symm;simp[this]
theorem Zkd {g:Nat->Nat}(h:∀q∈qs,f q=g q):Yh qs f=Yh qs g:=zp λq hq=>by rw[h q hq]
theorem Zo7 (qs:List Nat)(f:Nat->Nat)(x:Nat):YF (nD x) (.dk (Yh qs f))=some (.bl (decide (x∈qs))):=by
 show((some (zr (x:Int):ZG)).map λk=>(ZR (Yh qs f) k).isSome).map D.bl=_;simp;rw[BM];by_cases h:x∈qs <;> simp[h]
theorem Zl5 (h:x∈qs):UL (.dk (Yh qs f)) (nD x)=some (nD (f x)):=by
 show(ZR (Yh qs f) (zr (x:Int))).bind vD=_;rw[BM,if_pos h];rfl
theorem ZiN {qs:List Nat}{h:Nat}(hp:p∉qs):Yf (Yh qs f) (zr (p:Int)) (.int (h:Int))=Yh (qs ++ [p]) λx=>if x=p then h else f x:=by
 rw[ZfM _ (by rw[BM,if_neg hp])];have e:Yh qs (λx=>if x=p then h else f x)=Yh qs f:=Zkd λq hq=>if_neg λ(z:q=p)=>hp (z▸hq);show Yh qs f++_=(qs ++ [p]).map _;rw[zI,<-e];show _++_=Yh qs _ ++ [(zr (p:Int),V.int ((if p=p then h else f p:Nat):Int))];simp
theorem Zcf {ps:List Nat}(h:ps[k]?=some p):ps.take (k+1)=ps.take k ++ [p]:=by
 obtain⟨hl,e⟩:=qz.mp h;rw[List.take_succ_eq_append_getElem hl,e]
theorem ZhT {ps:List Nat}(nd:ps.Nodup)(h:ps[k]?=some p):p∉ps.take k:=λm=>by
 have h2:(ps.take (k+1)).Nodup:=nd.sublist (qaA _ _);rw[Zcf h]at h2;have:=(qaC.mp h2).2.2 p m p (by simp);exact this rfl
theorem Znn (h1:fv ρ s=some (v,s))(h2:fx ρ s=some (x,s))(h3:(ρ[i]?).bind id=some (.dk kvs))(h4:Xs x=some key)(h5:Wm v=some w)(hl:kvs.length<xg) :
  Ul i fx fv ρ s=some (.nx (ρ.set i (some (.dk (Yf kvs key w)))),s):=by
 unfold Ul Zm;rw[h1];simp;rw[h2];simp;rw[h3];rw[h4,h5];simp;rw[if_pos hl];rfl
theorem Zno (jN:Qa){ps:List Nat}(h:ps[k]?=some p):hr jN (ps.take (k+1)).reverse=λx=>if x=p then X5 (((ps.take k).filter λo=>tied jN p o).map (hr jN (ps.take k).reverse))else hr jN (ps.take k).reverse x:=by
 rw[Zcf h,List.reverse_append];funext x;show(if x=p then X5 (((ps.take k).reverse.filter λo=>tied jN p o).map (hr jN (ps.take k).reverse))else _)=_;by_cases e:x=p
 ·rw[if_pos e,if_pos e]
  refine ZeM λy=>?_;simp
 ·simp_all
def Ww (n:Nat)(jN:Qa)(ps:List Nat):List Nat:=(qj n).map (hr jN ps.reverse)
theorem ZhU (h:xs.Perm (WX n)):∃ps:List Nat,xs=YL ps/\ps.Perm (qj n):=by
 refine⟨xs.map qcl,?_,?_⟩
 ·unfold YL
  rw[qC];have:∀x∈xs,((λ(x:Nat)=>(x:Int))∘qcl) x=x:=λx hx=>by
   obtain⟨a,_,rfl⟩:=ql.mp (h.mem_iff.mp hx);rfl
  rw[zp this];simp
 ·have:=h.map qcl
  unfold WX at this;have e:(qj n).map (qcl∘λ(i:Nat)=>(i:Int))=qj n:=List.map_id' _;simp_all
section
variable (ap:Nat->Nat->Bool)
def Xv (ps:List Nat)(p:Nat):Nat:=(ps.filter λo=>ap p o).length
def Xu (ps:List Nat)(p:Nat):List Nat:=ps.filter λo=>!decide (o=p) && !ap p o
def YH (ps:List Nat):Nat:=ps.getD ((ps.map (Xv ap ps)).idxOf (YA (ps.map (Xv ap ps)))) 0
structure KnA (ps K:List Nat):Prop where
 nd:K.Nodup
 sub:∀x∈K,x∈ps
 two:∀x∈K,∀y∈K,x≠y->ap x y=false
end
section
variable {ap:Nat->Nat->Bool}
theorem Zfo (h:l≠[]):YA l∈l:=by
 have:=Znl ⟨l,rfl⟩;have e:YA (0::l)=YA l:=rfl;rw[e]at this;rcases qu.mp this with z | z
 ·cases l with
  | nil=>simp_all
  | cons a r=>
   have h1:=JS (l:=a::r) (x:=a) (by simp);simp_all
 ·exact z
theorem Znp {ps:List Nat}(f:Nat->Nat)(h:v∈ps.map f):ps.getD ((ps.map f).idxOf v) 0∈ps/\f (ps.getD ((ps.map f).idxOf v) 0)=v:=by
 have hl:=qap.mpr h;have e:=List.getElem_idxOf hl;rw[List.getElem_map]at e;have hl':=by simpa using hl
 simp_all
theorem Zav (h:ps≠[]):YH ap ps∈ps:=(Znp (Xv ap ps) (Zfo (by simp_all))).1
theorem UX:∀x∈Xu ap ps p,x∈ps/\x≠p/\ap p x=false:=λx hx=>by
 obtain⟨h1,h2⟩:=qD.mp hx
 grind
theorem ZeN {ps:List Nat}(h:p∈ps)(f:Nat->Bool)(hf:f p=false):(ps.filter f).length<ps.length:=by
 induction ps with
 | nil=>simp at h
 | cons a r ih=>
  grind
theorem ZgK (h:p∈ps):(Xu ap ps p).length<ps.length:=ZeN h _ (by simp)
theorem Zdo {ps:List Nat}(h:p∈ps):(ps.filter λo=>!decide (o=p)).length<ps.length:=ZeN h _ (by simp)
theorem jJ {K:List Nat}(sy:∀a b,ap a b=ap b a)(hp:p∈ps)(h:KnA ap (Xu ap ps p) K):KnA ap ps (p::K) where
 nd:=zx.mpr ⟨λz=>(UX p (h.sub p z)).2.1 rfl,h.nd⟩
 sub:=λx hx=>by
  rcases qu.mp hx with e | hx
  ·simp_all
  ·exact(UX x (h.sub x hx)).1
 two:=λx hx y hy ne=>by
  rcases qu.mp hx with e | hx
  ·rcases qu.mp hy with e' | hy
   ·grind
   ·rw[e];exact(UX y (h.sub y hy)).2.2
  ·rcases qu.mp hy with e' | hy
   ·rw[e',sy];exact(UX x (h.sub x hx)).2.2
   ·exact h.two x hx y hy ne
theorem KnA.mono {K:List Nat}(h:KnA ap ps K)(s:∀x∈ps,x∈qs):KnA ap qs K:=⟨h.nd,λx hx=>s x (h.sub x hx),h.two⟩
theorem KnA.rest {K:List Nat}(h:KnA ap ps K):KnA ap (Xu ap ps p) (K.filter λo=>!decide (o=p) && !ap p o) where
 nd:=h.nd.sublist zk
 sub:=λx hx=>by
  obtain⟨h1,h2⟩:=qD.mp hx;exact qD.mpr ⟨h.sub x h1,h2⟩
 two:=λx hx y hy=>h.two x (qD.mp hx).1 y (qD.mp hy).1
theorem Zke {K:List Nat}(ir:∀a,ap a a=false)(h:KnA ap ps K)(hm:p∈K∨Xv ap ps p<=1):K.length<=(K.filter λo=>!decide (o=p) && !ap p o).length+1:=by
 have e:=ZeK (λo=>!decide (o=p) && !ap p o) K;have hd:(K.filter λo=>!(!decide (o=p) && !ap p o)).length<=1:=by
  have nd:(K.filter λo=>!(!decide (o=p) && !ap p o)).Nodup:=h.nd.sublist zk;by_cases hp:p∈K
  ·have:=VI (b:=[p]) nd λx hx=>by
    obtain⟨h1,h2⟩:=qD.mp hx;by_cases z:x=p
    ·simp[z]
    ·have:=h.two p hp x h1 (ze z)
     simp[z,this]at h2
   omega
  ·have hc:=hm.resolve_left hp
   have:=VI (b:=ps.filter λo=>ap p o) nd λx hx=>by
    obtain⟨h1,h2⟩:=qD.mp hx;have z:x≠p:=λz=>hp (z▸h1);simp[z]at h2;exact qD.mpr ⟨h.sub x h1,h2⟩
   unfold Xv at hc;omega
 omega
end
def X6 (l:List Nat):List (ZG×V):=l.map λ(o:Nat)=>(zr (o:Int),V.bl true)
theorem Zfp {x:Nat}:∀l:List Nat,ZR (X6 l) (zr (x:Int))=if x∈l then some (.bl true)else none
 | []=>rfl
 | q::qs=>by
  by_cases e:q=x
  ·subst e
   show ZR ((zr (q:Int),V.bl true)::X6 qs) _=_;rw[Wr rfl];simp
  ·have hn:¬((zr (q:Int):ZG)=zr (x:Int)):=λz=>by
    grind
   show ZR ((zr (q:Int),V.bl true)::X6 qs) _=_;rw[Ws hn,Zfp qs];have:x≠q:=λz=>e z.symm;simp[this]
theorem Zl6:∀(l:List Nat) (jT:List (ZG×V)),l.Nodup->(∀x∈l,ZR jT (zr (x:Int))=none)->Vs jT (l.map λo=>D.tup [nD o,.bl true])=some (jT++X6 l)
 | [],jT,_,_=>by simp[Vs,X6]
 | p::ps,jT,nd,h=>by
  have nd':=zx.mp nd;show Vs (Yf jT (zr (p:Int)) (.bl true)) (ps.map λo=>D.tup [nD o,.bl true])=_;rw[Zl6 ps _ nd'.2 λx hx=>?_,ZfM _ (h p (by simp))]
  ·show some ((jT ++ [_])++X6 ps)=some (jT++(_::X6 ps))
   simp
  ·rw[ZfL,if_neg (λz=>nd'.1 (by
    grind))]
   exact h x (by simp[hx])
theorem Zo8 (l:List Nat)(x:Nat):YF (nD x) (.dk (X6 l))=some (.bl (decide (x∈l))):=by
 show((some (zr (x:Int):ZG)).map λk=>(ZR (X6 l) k).isSome).map D.bl=_;simp;rw[Zfp];by_cases h:x∈l <;> simp[h]
theorem Zkf (l:List Nat)(x:Nat):WG (nD x) (.dk (X6 l))=some (.bl (!decide (x∈l))):=by
 show((some (zr (x:Int):ZG)).map λk=>(ZR (X6 l) k).isSome).map (λb=>D.bl (!b))=_;simp;rw[Zfp];by_cases h:x∈l <;> simp[h]
def XB (n:Nat)(A:Nat->List Nat):D:=.lst ((qj n).map λp=>.dk (X6 (A p)))
theorem Zl7 (h:p<n):Zj (XB n A) (nD p)=some (.dk (X6 (A p))):=by
 refine X7 ?_;simp_all
section
variable {n:Nat}{A:Nat->List Nat}{ap:Nat->Nat->Bool}
theorem BU (a b:Nat):Y9 (nD a) (nD b)=some (.bl (!decide (a=b))):=by
 rw[nei];congr 3
 grind
theorem Znq (h:ds.length+es.length<=100000):Y0 (.lst ds) (.lst es)=some (.lst (ds++es)):=by
 show(if ds.length+es.length<=xg then some (D.lst (ds++es))else none)=_;rw[if_pos (by rw[Yi];omega)]
theorem Zl8 (ds:List D)(hp:YX ds=true)(hd:XM ds<=10):Xk (.lst ds) (.lst [])=some (.bl (decide (ds=[]))):=by
 have hok:V1 (.lst ds) (.lst [])=true:=by
  unfold V1;simp[Zr,Yz,YX,XM,hp];omega
 unfold Xk;rw[if_pos hok]
 cases ds with
 | nil=>rfl
 | cons a r=>rfl
theorem Zdp (h:l≠[]):VW [.lst (l.map nD)]=some (nD (YA l)):=by
 cases l with
 | nil=>simp_all
 | cons m r=>
  have e:=Za4 (m::r);show(match ZH ((m::r).map nD)with | some (n::r)=>some (D.int (Wp n r)) | _=>none)=_;rw[e];show some (D.int (Wp (m:Int) (r.map λ(i:Nat)=>(i:Int))))=_;rw[Zl1 r m];rfl
theorem ZhV {l:List Nat}(h:v∈l):Zff (.lst (l.map nD)) (nD v)=some (nD (l.idxOf v)):=by
 show((ZH (l.map nD)).bind λns=>if (v:Int)∈ns then some (D.int (ns.idxOf (v:Int):Nat))else none)=_;rw[Za4];show(if (v:Int)∈l.map (λ(i:Nat)=>(i:Int))then some (D.int ((l.map λ(i:Nat)=>(i:Int)).idxOf (v:Int):Nat))else none)=_;rw[if_pos (ql.mpr ⟨v,h,rfl⟩)];have:(l.map λ(i:Nat)=>(i:Int)).idxOf (v:Int)=l.idxOf v:=by
  clear h
  induction l with
  | nil=>rfl
  | cons a r ih=>
   rw[zT,List.idxOf_cons,List.idxOf_cons,ih]
   grind
 rw[this]
end
def Yv (n:Nat)(jN:Qa):Qa:=(Wd n).filter λp=>!decide (p∈jN)
theorem Zkg (n:Nat)(jN:Qa):IsWeb n (Yv n jN):=IsWeb.filter _
theorem ZgL:tied jN a b=true↔(min a b,max a b)∈jN:=by unfold tied;simp
theorem Zbm:tied (Yv n jN) a b=true↔a<n/\b<n/\a≠b/\tied jN a b=false:=by
 rw[ZgL];unfold Yv;rw[qD,UY];have e:tied jN a b=decide ((min a b,max a b)∈jN):=rfl;rw[e]
 grind
theorem Zd1 (p o:Nat):tied (Yv n jN) p o=decide (o∈Yu n (Yv n jN) p):=by
 unfold Yu;rw[yy,decide_eq_true_iff,qD,qE];exact⟨λh=>⟨(Zbm.mp h).2.1,h⟩,λh=>h.2⟩
theorem Zl9 (a:Nat):tied (Yv n jN) a a=false:=by
 cases h:tied (Yv n jN) a a with
 | false=>rfl
 | true=>exact absurd rfl (Zbm.mp h).2.2.1
def JT (n:Nat)(b:List Nat):List Nat:=(qj n).filter λx=>decide (x∈b)
theorem Za6 (nd:b.Nodup)(h:∀x∈b,x<n):(JT n b).Perm b:=by
 refine(qac (yi.sublist zk) nd).mpr λa=>?_;simp_all
theorem Zcs (n:Nat)(b:List Nat):(JT n b).Pairwise (· < ·):=(range_rise n).sublist zk
def Vd (a k:List Nat):List Nat:=if a.length<k.length then k else a
def ZiO (n:Nat)(jN:Qa):List Nat:=(kn jN n).foldl Vd []
theorem Zct:∀(l:List (List Nat)) (a:List Nat),(l.foldl Vd a=a∨l.foldl Vd a∈l)/\a.length<=(l.foldl Vd a).length/\∀k∈l,k.length<=(l.foldl Vd a).length
 | [],a=>⟨.inl rfl,qp _,λk h=>by cases h⟩
 | x::r,a=>by
  obtain⟨h1,h2,h3⟩:=Zct r (Vd a x);have h4:a.length<=(Vd a x).length/\x.length<=(Vd a x).length/\(Vd a x=a∨Vd a x=x):=by
   unfold Vd
   grind
  rw[List.foldl_cons]
  grind
theorem Zkh (nd:b.Nodup)(h:∀x∈b,x<n)(hl:b.length<64):ZcK [.lst (b.map nD)]=some (.lst ((JT n b).map nD)):=by
 have e:ZH (b.map nD)=some (YL b):=by
  have:b.map nD=(YL b).map D.int:=by unfold YL;rw[qC];rfl
  rw[this,ZaS]
 show(match ZH (b.map nD)with | some ns=>if ns.length<64 then some (D.lst ((Xo ns).map .int))else none | none=>none)=_;rw[e];show(if (YL b).length<64 then some (D.lst ((Xo (YL b)).map .int))else none)=_;rw[if_pos (by unfold YL;simp;omega)];have q:YL (JT n b)=Xo (YL b):=ZaW ((Za6 nd h).map _) (yz.mpr ((Zcs n b).imp λh=>by omega));rw[<-q];unfold YL;rw[qC];rfl
theorem Zdq (hw:IsWeb n jN)(hn:n<=24):ZiO n jN∈kn jN n/\∀K∈kn jN n,K.length<=(ZiO n jN).length:=by
 obtain⟨h1,_,h3⟩:=Zct (kn jN n) [];refine⟨?_,h3⟩;rcases h1 with h | h
 ·show(kn jN n).foldl Vd []∈_
  rw[h];exact U0.mpr ⟨qbl,(λo h=>by cases h),λa h=>by cases h⟩
 ·exact h
theorem Zo9 (p:Nat×Nat)(jN:Qa):YF (Zt p) (.du (Z5 [] jN))=some (.bl (decide (p∈jN))):=ZlZ p jN
theorem Znr (jN:Qa):∀jT:List (List ZG×V),(Z5 jT jN).length<=jT.length+jN.length:=by
 induction jN with
 | nil=>intro jT;exact qp _
 | cons t r ih=>
  intro jT;have h2:=Uw jT (W1 t) (.bl true);show(Z5 (Yf jT (W1 t) (.bl true)) r).length<=_
  grind
theorem Zma (jN:Qa)(t:Nat×Nat):Z5 [] (jN ++ [t])=Yf (Z5 [] jN) (W1 t) (.bl true):=by
 unfold Z5;simp
theorem Zcg (k:List Nat):ZH (k.map nD)=some (YL k):=by
 have:k.map nD=(YL k).map D.int:=by unfold YL;rw[qC];rfl
 rw[this,ZaS]
theorem Zki (h:f ρ s=some (Yr k,s'))(hl:k.length<=1000):BL f ρ s=some (nD (XX (YL k)),s'):=by
 unfold BL Zm;rw[h];show(match ZH (k.map nD)with | some ns=>if ns.length<=1000 then Zy (D.int (XX ns:Nat))else Zq | none=>Zq) s'=_;rw[Zcg];show(if (YL k).length<=1000 then Zy (D.int (XX (YL k):Nat))else Zq) s'=_;rw[if_pos (by unfold YL;simp_all)];rfl
section
variable (jN:Qa)
end
section
variable {jN:Qa}{many:Nat}
end
theorem Zns (h:p<n):Zj (VO n jN) (nD p)=some (.lst ((Yu n jN p).map nD)):=by
 refine X7 ?_;simp_all
theorem Zpa (a b:Nat):WC (nD a) (nD b)=some (.bl (decide (a<b))):=by
 show some (D.bl (decide ((a:Int)<(b:Int))))=_;simp
theorem ZeO (I:Zc->Prop)(g:Nat->Option D):∀(l:List Nat) (ρ:Zc),I ρ->
  (∀x∈l,∀ρ,I ρ->∃ρ1,τ (nD x) ρ=some ρ1/\match g x with | some d=>body ρ1 s=some (.rt d,s) | none=>∃ρ2,body ρ1 s=some (.nx ρ2,s)/\I ρ2)->
  match l.findSome? g with | some d=>Wx τ body (l.map nD) ρ s=some (.rt d,s) | none=>∃ρ2,Wx τ body (l.map nD) ρ s=some (.nx ρ2,s)/\I ρ2
 | [],ρ,h0,_=>⟨ρ,rfl,h0⟩
 | x::l,ρ,h0,h=>by
  obtain⟨ρ1,e1,e2⟩:=h x (by simp) ρ h0;rw[qcf]
  cases hg:g x with
  | some d=>
   rw[hg]at e2;exact ZbN e1 e2
  | none=>
   rw[hg]at e2;obtain⟨ρ2,e3,h2⟩:=e2;have ih:=ZeO I g l ρ2 h2 λy hy=>h y (by simp[hy])
   cases hl:l.findSome? g with
   | some d=>rw[hl]at ih;exact Zat e1 e3 ih
   | none=>
    rw[hl]at ih;obtain⟨ρ3,e4,h3⟩:=ih;exact⟨ρ3,Zat e1 e3 e4,h3⟩
theorem ZgM (I:Zc->Prop)(b:D->Bool):∀(ds:List D) (ρ:Zc),I ρ->
  (∀d∈ds,∀ρ,I ρ->∃ρ1,τ d ρ=some ρ1/\(b d=true->∃ρ2,body ρ1 s=some (.nx ρ2,s)/\I ρ2)/\(b d=false->body ρ1 s=some (.rt (.bl false),s)))->
  (ds.all b=true->∃ρ',Wx τ body ds ρ s=some (.nx ρ',s)/\I ρ')/\(ds.all b=false->Wx τ body ds ρ s=some (.rt (.bl false),s))
 | [],ρ,h0,_=>⟨λ_=>⟨ρ,rfl,h0⟩,λh=>by simp at h⟩
 | d::ds,ρ,h0,h=>by
  obtain⟨ρ1,e1,ht,hf⟩:=h d (by simp) ρ h0;rw[qbh]
  cases hb:b d with
  | false=>
   refine⟨λz=>?_,λ_=>ZbN e1 (hf hb)⟩
   grind
  | true=>
   obtain⟨ρ2,e2,h2⟩:=ht hb;obtain⟨r1,r2⟩:=ZgM I b ds ρ2 h2 λx hx=>h x (by simp[hx]);refine⟨λz=>?_,λz=>Zat e1 e2 (r2 z)⟩;obtain⟨ρ',e3,h3⟩:=r1 z;exact⟨ρ',Zat e1 e2 e3,h3⟩
def hueB (n:Nat)(jN:Qa):D->Bool
 | .tup ds=>decide (ds.length=n)&&(ds.all (Ui (n:Int))&&jN.all λp=>!decide (Yg (ds.getD p.1 .non)=Yg (ds.getD p.2 .non)))
 | _=>false
theorem Znt (ds:List D):Yo [.tup ds]=some (nD ds.length):=rfl
theorem Zpb (a b:Nat):Y9 (nD a) (nD b)=some (.bl (!decide (a=b))):=BU a b
theorem Zdr:∀{ds:List D},ds.all (Ui n)=true->∃as:List Nat,ds=as.map nD
 | [],_=>⟨[],rfl⟩
 | d::ds,h=>by
  rw[qbh,zK]at h;obtain⟨i,rfl⟩:=ZjE h.1;have h0:=by
   have:=h.1;simp only[Ui,zK,decide_eq_true_eq]at this;exact this.1
  obtain⟨a,rfl⟩:=qay h0;obtain⟨as,rfl⟩:=Zdr h.2;exact⟨a::as,rfl⟩
theorem Zmb (p:Nat×Nat):Zj (Zt p) (.int 0)=some (nD p.1):=B4 _ _
theorem Zmc (p:Nat×Nat):Zj (Zt p) (.int 1)=some (nD p.2):=Zis _ _ _
theorem ZhW (h:B5 d=true)(t:D)(s:Pn):X2 (Wa (asB (Zx XU (Zb (Za 2) (Zb (dC (.ty "int")) Ze))))) (X2 (asB (Zx XU (Zb (Za 2) (Zb (dC (.ty "bool")) Ze)))) (Wa (Uh (dC (.int 0)) (VT Vg (Za 2) (VS WC (Zd Zj (Za 0) (dC (.int 0)))))))) [some (Yd n jN),some t,some d] s=some (!Ui (n:Int) d,s):=by
 have hi:=Zm5 h
 cases d with
 | int i=>
  have e1:Vg (.int 0) (.int i)=some (.bl (decide (0<=i))):=rfl;have e2:WC (.int i) (nD n)=some (.bl (decide (i<(n:Int)))):=rfl;have hch:Uh (dC (.int 0)) (VT Vg (Za 2) (VS WC (Zd Zj (Za 0) (dC (.int 0))))) [some (Yd n jN),some t,some (.int i)] s=some (decide (0<=i)&&decide (i<(n:Int)),s):=Zeu rfl (Zgc rfl e1 λ_=>Zgb (ZA rfl rfl Jn) e2);exact UG (Vo (b:=true) (Z9 (Z4 (Zh rfl (Zh rfl rfl)) rfl))) (UG (Z9 (Z4 (Zh rfl (Zh rfl rfl)) rfl)) (Vo hch))
 | bl b=>rfl
 | _=>
  first
   | exact Zn0 (Vo (Z9 (Z4 (Zh rfl (Zh rfl rfl)) hi)))
   | (rfl)
theorem Zds (htl:jN.length<=1000)(hme:∀p∈jN,p.1<p.2/\p.2<n)(hn:n<=24)(hk:B5 t=true)(hks:∀ds,t=.tup ds->∀d∈ds,B5 d=true)(s:Pn):Bj [Yd n jN,t] s=some (.bl (hueB n jN t),s):=by
 have hT:=ZjD hk
 cases t with
 | tup ds=>
  have hl:Y9 (nD ds.length) (nD n)=some (.bl (!decide (ds.length=n))):=Zpb _ _;have h0:X2 (Wa (asB (Zx XU (Zb (Za 1) (Zb (dC (.ty "tuple")) Ze))))) (asB (Zd Y9 (Zx Yo (Zb (Za 1) Ze)) (Zd Zj (Za 0) (dC (.int 0))))) [some (Yd n jN),some (.tup ds),none] s=some (!decide (ds.length=n),s):=UG (Vo (b:=true) (Z9 (Z4 (Zh rfl (Zh rfl rfl)) rfl))) (Z9 (ZA (d:=nD ds.length) (e:=nD n) (Z4 (Zh rfl rfl) (Znt ds)) (ZA (d:=Yd n jN) (e:=.int 0) rfl rfl Jn) hl));by_cases jW:ds.length=n
  ·rw[decide_eq_true jW]at h0
   have hsee:=ZgM (τ:=Zv 2) (body:=(Zg (Yw (X2 (Wa (asB (Zx XU (Zb (Za 2) (Zb (dC (.ty "int")) Ze))))) (X2 (asB (Zx XU (Zb (Za 2) (Zb (dC (.ty "bool")) Ze)))) (Wa (Uh (dC (.int 0)) (VT Vg (Za 2) (VS WC (Zd Zj (Za 0) (dC (.int 0)))))))))
 (Zg (ZL (dC (.bl false)))
 Zp)
 Zp)
 Zp)) (s:=s) (fun ρ=>∃o2,ρ=[some (Yd n jN),some (.tup ds),o2]) (Ui (n:Int)) ds [some (Yd n jN),some (.tup ds),none] ⟨none,rfl⟩ (λd hd ρ hI=>by
    obtain⟨o2,rfl⟩:=hI;have q:=ZhW (n:=n) (jN:=jN) (hks ds rfl d hd) (.tup ds) s;refine⟨_,rfl,λhb=>?_,λhb=>?_⟩
    ·rw[hb]at q
     exact⟨_,XR (Jd q rfl) rfl,some d,rfl⟩
    ·rw[hb]at q
     exact YY (J0 q (YY (XH rfl))))
   have hB:hueB n jN (.tup ds)=(ds.all (Ui (n:Int))&&jN.all λp=>!decide (Yg (ds.getD p.1 .non)=Yg (ds.getD p.2 .non))):=by
    show(decide (ds.length=n)&&_)=_;rw[decide_eq_true jW,qcb]
   rw[hB]
   cases ha:ds.all (Ui (n:Int))with
   | false=>exact Xy rfl (XR (Jd h0 rfl) (YY (ZcJ (Ze9 rfl) (hsee.2 ha))))
   | true=>
    obtain⟨ρ',e1,o2,rfl⟩:=hsee.1 ha;refine Xy rfl (XR (Jd h0 rfl) (XR (ZcJ (Ze9 rfl) e1) (YY (XH ?_))));obtain⟨as,rfl⟩:=Zdr ha;rw[qh]at jW;have gg:∀i,i<n->(as.map nD).getD i .non=nD (as.getD i 0):=λi hi=>by
     rw[qJ,qG,qJ,qB (by omega)];rfl
    have hc:=Xh (src:=[none,some 1]) (fi:=Uk (Zd Zj (Za 0) (dC (.int 1)))) (τ:=Zv 0) (ft:=asB (Zd Xk (Zd Zj (Za 1) (Zd Zj (Za 0) (dC (.int 0)))) (Zd Zj (Za 1) (Zd Zj (Za 0) (dC (.int 1)))))) (fe:=Za 0) (ρ:=[some (Yd n jN),some (Yr as),o2]) (s:=s) (ds:=jN.map Zt) (λd=>[some d,some (Yr as)]) (λd=>decide (as.getD (p2 d).1.toNat 0=as.getD (p2 d).2.toNat 0)) (λd=>d) (Ze9 (ZA (d:=Yd n jN) (e:=.int 1) rfl rfl web1)) (by rw[qh,Yi];omega) (λd hd=>by
     obtain⟨p,hp,rfl⟩:=ql.mp hd;obtain⟨g1,g2⟩:=hme p hp;have i1:Zj (Yr as) (nD p.1)=some (nD (as.getD p.1 0)):=ZcM (by omega);have i2:Zj (Yr as) (nD p.2)=some (nD (as.getD p.2 0)):=ZcM (by omega);refine⟨rfl,Z9 (ZA (d:=nD (as.getD p.1 0)) (e:=nD (as.getD p.2 0)) (ZA (d:=Yr as) (e:=nD p.1) rfl (ZA (d:=Zt p) (e:=.int 0) rfl rfl (Zmb p)) i1) (ZA (d:=Yr as) (e:=nD p.2) rfl (ZA (d:=Zt p) (e:=.int 1) rfl rfl (Zmc p)) i2) ?_),λ_=>rfl⟩;rw[eqi];congr 2;show((as.getD p.1 0:Int)==(as.getD p.2 0:Int))=decide (as.getD (p.1:Int).toNat 0=as.getD (p.2:Int).toNat 0);rw[yA,yA,yy,beq_iff_eq,decide_eq_true_iff];constructor <;> intro h <;> omega)
    have e2:((jN.map Zt).filter λd=>decide (as.getD (p2 d).1.toNat 0=as.getD (p2 d).2.toNat 0)).map (λd=>d)=(jN.filter λp=>decide (as.getD p.1 0=as.getD p.2 0)).map Zt:=by
     rw[yb,qC];rfl
    rw[e2]at hc;refine ZA (s1:=s) (d:=.lst ((jN.filter λ(p:Nat×Nat)=>decide (as.getD p.1 0=as.getD p.2 0)).map Zt)) (e:=.lst []) hc (JM rfl (za _)) ?_;rw[Zl8 _ (plain_pairs _) (qY (Zc9 _) (by omega))];congr 2;rw[qcb,yy,decide_eq_true_iff,List.map_eq_nil_iff,List.filter_eq_nil_iff,zC];constructor
    ·intro h p hp
     obtain⟨g1,g2⟩:=hme p hp;have:=h p hp;rw[gg p.1 (by omega),gg p.2 g2];show(!decide (as.getD p.1 0=as.getD p.2 0))=true;simpa using this
    ·intro h p hp
     obtain⟨g1,g2⟩:=hme p hp;have:=h p hp;rw[gg p.1 (by omega),gg p.2 g2]at this;have:(!decide (as.getD p.1 0=as.getD p.2 0))=true:=this;simpa using this
  ·rw[decide_eq_false jW]at h0
   have:hueB n jN (.tup ds)=false:=by
    show(decide (ds.length=n)&&_)=false;rw[decide_eq_false jW,Bool.false_and]
   rw[this];exact Xy rfl (YY (J0 h0 (YY (XH rfl))))
 | _=>
  first
   | exact Xy rfl (YY (J0 (Zn0 (Vo (Z9 (Z4 (Zh rfl (Zh rfl rfl)) hT)))) (YY (XH rfl))))
   | (rfl)
theorem Zkj (hw:IsWeb n jN)(hl:f.length=n):hueB n jN (Yr f)=(f.all (λx=>decide (x<n))&&jN.all λp=>!decide (f.getD p.1 0=f.getD p.2 0)):=by
 show(decide ((f.map nD).length=n)&&((f.map nD).all (Ui (n:Int))&&jN.all λp=>!decide (Yg ((f.map nD).getD p.1 .non)=Yg ((f.map nD).getD p.2 .non))))=_;have gg:∀i,i<n->(f.map nD).getD i .non=nD (f.getD i 0):=λi hi=>by
  rw[qJ,qG,qJ,qB (by omega)];rfl
 rw[qh,decide_eq_true hl,qcb,List.all_map];congr 1
 ·congr 1
  funext x;show(decide (0<=(x:Int))&&decide ((x:Int)<(n:Int)))=_;simp
 ·rw[yy,zC,zC]
  constructor
  ·intro h p hp
   obtain⟨g1,g2⟩:=TP.IsWeb.mem hw hp;have:=h p hp;rw[gg p.1 (by omega),gg p.2 g2]at this;exact this
  ·intro h p hp
   obtain⟨g1,g2⟩:=TP.IsWeb.mem hw hp;rw[gg p.1 (by omega),gg p.2 g2];exact h p hp
theorem Zmd (h:(ρ[i]?).bind id=some (Yr w))(hl:w.length<=1000):BL (Za i) ρ s=some (nD (XX (YL w)),s):=Zki (by unfold Za YU;rw[h]) hl
theorem Zkk (ds:List D)(hp:YX ds=true)(hd:XM ds<=10):Y9 (.lst ds) (.lst [])=some (.bl (!decide (ds=[]))):=by
 have hok:V1 (.lst ds) (.lst [])=true:=by
  unfold V1;simp[Zr,Yz,YX,XM,hp];omega
 unfold Y9;rw[if_pos hok]
 cases ds with
 | nil=>rfl
 | cons a r=>rfl
end TP3
namespace TQ
open L2 TF TS
open TP
open TP2
open TP3
theorem Zpc (h1:(ρ[i]?).bind id=some (.clo t cds))(h2:fs ρ s=some (ds,s1))(h3:T t (ds++cds) s1=r):dApp T i fs ρ s=r:=by
 unfold dApp Zm Za YU;simp_all
theorem Zme (h1:f ρ s=some (d,s1))(h2:Vt ρ cix=some cds)(n1:YZ d=true)(n2:Y6 cds=true)(h3:F [d,.clo t cds] s1=some (c,s2))(n3:YZ c=true):J8 F t cix f ρ s=some (c,s2):=by
 unfold J8 Zm YU;rw[h1,h2];simp only;rw[if_pos (by simp_all),h3];simp;rw[if_pos n3];rfl
theorem Zbn:∀{ds:List D},(∀d∈ds,YZ d=true)->Y6 ds=true
 | [],_=>rfl
 | d::ds,h=>by
  show(YZ d&&Y6 ds)=true;rw[h d qan,Zbn λx (hx:x∈ds)=>h x (qZ _ hx)];rfl
theorem Zfq (hl:ds.length=n)(h:f (ds.map some) s=r):Y1 n f ds s=r:=by
 unfold Y1;simp_all
theorem ZeP (n:Nat)(jN:Qa):YZ (Yd n jN)=true:=by
 have:Y6 (jN.map Zt)=true:=Zbn λd hd=>by obtain⟨p,_,rfl⟩:=ql.mp hd;rfl
 simp only[Yd,YZ,Y6,this];rfl
theorem ZbU (lo:Int)(n:Nat):Y6 (Yt lo n)=true:=Zbn λd hd=>by
 obtain⟨i,_,rfl⟩:=ql.mp hd;rfl
theorem ZbV (h:J9 row ds)(hn:ds.length<=1000)(b:Nat×Nat->Bool)(s:Pn)(hb:∀p∈Wd ds.length,Tl t ([ds.getD p.1 .non,ds.getD p.2 .non]++cds) s=some (.bl (b p),s)):Ux [row,.clo t cds] s=some (Yd ds.length ((Wd ds.length).filter b),s):=by
 have hln:∀r,Zx Yo (Zb (Za 0) Ze) (some row::r) s=some (nD ds.length,s):=λr=>Z4 (Zh rfl rfl) h.len;refine Xy rfl (XR (Vn (YK (Zh (ZaU (hln _) hn) rfl) (Zf8 s hn))) (YY (XH ?_)));have hap:=Zlg ds.length hn;have hc:=Xh (src:=[none,some 1,some 0]) (fi:=ZX (Za 2)) (τ:=Zv 0) (ft:=asB (dApp Tl 1 (Zb (Zd Zj (Za 2) (Zd Zj (Za 0) (dC (.int 0)))) (Zb (Zd Zj (Za 2) (Zd Zj (Za 0) (dC (.int 1)))) Ze)))) (fe:=Za 0) (ρ:=[some row,some (.clo t cds),some (.lst ((Wd ds.length).map Zt))]) (λd=>[some d,some (.clo t cds),some row]) (λd=>b (VA d)) (λd=>d) (Wv rfl) (by rw[qh,Yi];omega) λd hd=>by
  obtain⟨p,hpm,rfl⟩:=ql.mp hd;have hpp:=UY.mp hpm;refine⟨rfl,Z9 (Zpc rfl (Zh (ZA rfl (ZA rfl rfl (B4 _ _)) (h.ix (by omega))) (Zh (ZA rfl (ZA rfl rfl (Zis _ _ _)) (h.ix (by omega))) rfl)) (hb p hpm)),λ_=>rfl⟩
 rw[Ze7 (Wd ds.length) _ b λp=>by rfl]at hc;exact WN (Zh (hln _) (Zh (Z4 (Zh hc rfl) rfl) rfl)) two_le
theorem range_getD (h:i<n):(Yt 0 n).getD i .non=nD i:=by
 rw[UA];simp[h]
theorem ZhX (n:Nat)(jN:Qa)(s:Pn)(hn:n<=1000)(hl:jN.length<=100000):JE [Yd n jN] s=some (Yd n ((Wd n).filter λp=>!decide (p∈jN)),s):=by
 refine Xy rfl (XR (Vn (YK (Zh rfl rfl) (Zer n jN s hl))) (YY (XH ?_)));refine Zme (ZaU (ZA rfl rfl Jn) hn) rfl ((ZbU _ _)) rfl ?_ (ZeP _ _);have:=ZbV (row:=.lst (Yt 0 n)) (t:=0) (.inl rfl) (by rw[Y2];exact hn) (λp=>!decide (p∈jN)) s (λp hp=>by
  rw[Y2]at hp;have hpp:=UY.mp hp;rw[range_getD (by omega),range_getD (by omega)];show ZbQ [nD p.1,nD p.2,.dt (Z5 [] jN)] s=_;refine Zfq rfl ?_;refine Ziu (YK (Zh rfl (Zh rfl (Zh rfl rfl))) ?_);rw[ZbT,BJ hpp.1])
 rw[Y2]at this;exact this
theorem Zpd {g:Zc->M D}(h:f ρ s=some (.bl a,s))(h2:a=false->g ρ s=some (.bl b,s)):Bc f g ρ s=some (.bl (a||b),s):=by
 unfold Bc Zm;rw[h]
 cases a with
 | true=>rfl
 | false=>exact h2 rfl
theorem mulN (a b:Nat)(h:a<1000000):dMul (nD a) (nD b)=some (nD (a*b)):=by
 show(if B1 (a:Int) (b:Int)=true then some (D.int ((a:Int)*(b:Int)))else none)=_;rw[if_pos (by unfold B1;simp;left;omega)];simp[nD]
theorem jL {gs:Zc->M (List D)}(hl:gs ρ s=some (ds,s))(hm1:ds.length=m)(ok:Xw T s)(hT:T<1000000000)(h1:fs ρ s=some ([.pen,.int (m:Int)],s))(hm:0<m)(hm2:m<1000)(h:∀d s',d∈ds->Xw (T+1) s'->Q d s'):Ok (Zd Zj (Y4 gs) (Zu Yy fs) ρ) s Q:=by
 refine .op (.eq (JM hl (by rw[Yi];omega)) (.drawD ok hT h1 hm (by omega) λr s' hr ok'=>?_));obtain⟨d,hd,e⟩:=Zm4 (ds:=ds) (r:=r) (by omega);exact⟨d,e,h d s' hd ok'⟩
theorem Zcu (h:a<b)(hb:b<N):tied ((Wd N).filter B) a b=B (a,b):=by
 rw[BJ h,yy,decide_eq_true_eq,qD];exact⟨λz=>z.2,λz=>⟨UY.mpr ⟨h,hb⟩,z⟩⟩
abbrev Bh (n:Nat)(jN:Qa):D:=.tup [nD n,.dt (Z5 [] jN)]
theorem mk0:Zj (Bh n jN) (.int 0)=some (nD n):=B4 _ _
theorem mk1:Zj (Bh n jN) (.int 1)=some (.dt (Z5 [] jN)):=Zis _ _ _
theorem Zmf (n:Nat)(jN:Qa)(p:Nat)(s:Pn)(hn:n<=100000):JN [Bh n jN,.int p] s=some (.lst ((Yu n jN p).map nD),s):=by
 refine Xy rfl (YY (XH ?_));unfold Yu;rw[<-Za2];refine Xh (λd=>[some d,some (Bh n jN),some (.int p)]) (λd=>tied jN p (Yg d)) (λd=>d) (XQ (ZA rfl rfl mk0) hn) (Zit hn) ?_;intro d hd;obtain⟨i,hi,rfl⟩:=VG hd;exact⟨rfl,Z9 (YK (Zh (ZA rfl rfl mk1) (Zh rfl (Zh rfl rfl))) (ZbT jN p i s)),λ_=>rfl⟩
def gN:Zc->M Out:=(Zg (ZS 1 (ZZ (Zb (Zd Zj (Za 0) (dC (.int 0))) (Zb (Zu UP (Zb (Za 0) Ze)) Ze))))
 (Zg (ZL (ZQ [none,some 1] (ZW (Zd Zj (Za 0) (dC (.int 0)))) (Zv 0) Yc (Zu JN (Zb (Za 1) (Zb (Za 0) Ze)))))
 Zp))
theorem ZbW (n:Nat)(jN:Qa)(hn:n<=1000)(hl:jN.length<=100000)(s:Pn):runB 2 1 gN [Yd n jN] s=some (VO n jN,s):=by
 refine Xy rfl (XR (Vn (WN (Zh (ZA rfl rfl Jn) (Zh (YK (Zh rfl rfl) (Zer n jN s hl)) rfl)) two_le)) (YY (XH ?_)));have hc:=Xh (src:=[none,some 1]) (fi:=ZW (Zd Zj (Za 0) (dC (.int 0)))) (τ:=Zv 0) (ft:=Yc) (fe:=Zu JN (Zb (Za 1) (Zb (Za 0) Ze))) (ρ:=[some (Yd n jN),some (Bh n jN)]) (λd=>[some d,some (Bh n jN)]) (λ_=>true) (λd=>.lst ((Yu n jN (Yg d)).map nD)) (XQ (ZA rfl rfl Jn) (by omega)) (Zit (by omega)) λd hd=>by
  obtain⟨i,hi,rfl⟩:=VG hd;exact⟨rfl,rfl,λ_=>YK (Zh rfl (Zh rfl rfl)) (Zmf n jN i s (by omega))⟩
 rw[Uy,UA,qC]at hc;exact hc
section
variable (ap:Nat->Nat->Bool)
def one? (ps:List Nat):Option Nat:=ps.find? λp=>decide (Xv ap ps p<=1)
def YB:Nat->List Nat->List Nat
 | 0,_=>[]
 | m+1,ps=>if ps=[]then []else match one? ap ps with
  | some p=>p::YB m (Xu ap ps p)
  | none=>if (YB m (ps.filter λo=>!decide (o=YH ap ps))).length<=(YH ap ps::YB m (Xu ap ps (YH ap ps))).length then YH ap ps::YB m (Xu ap ps (YH ap ps))
   else YB m (ps.filter λo=>!decide (o=YH ap ps))
end
section
variable {ap:Nat->Nat->Bool}
theorem ZbX (h:one? ap ps=some p):p∈ps/\Xv ap ps p<=1:=⟨List.mem_of_find?_eq_some h,by have:=List.find?_some h;simp_all⟩
theorem ZbY (sy:∀a b,ap a b=ap b a):∀(m:Nat) (ps:List Nat),KnA ap ps (YB ap m ps)
 | 0,ps=>⟨qbR,λx hx=>by simp[YB]at hx,λx hx=>by simp[YB]at hx⟩
 | m+1,ps=>by
  unfold YB;by_cases h0:ps=[]
  ·rw[if_pos h0];exact⟨qbR,λx hx=>by simp at hx,λx hx=>by simp at hx⟩
  ·rw[if_neg h0]
   have w:=λp (hp:p∈ps)=>jJ sy hp (ZbY sy m (Xu ap ps p));split
   ·rename_i p hp
    exact w _ (ZbX hp).1
   ·split
    ·exact w _ (Zav h0)
    ·exact(ZbY sy m _).mono λx hx=>(qD.mp hx).1
theorem Zdt (sy:∀a b,ap a b=ap b a)(ir:∀a,ap a a=false):∀(m:Nat) (ps K:List Nat),ps.length<m->KnA ap ps K->K.length<=(YB ap m ps).length
 | 0,ps,K,h,_=>by omega
 | m+1,ps,K,hl,h=>by
  unfold YB;by_cases h0:ps=[]
  ·rw[if_pos h0]
   cases K with
   | nil=>simp
   | cons a r=>have:=h.sub a (by simp);rw[h0]at this;simp at this
  ·rw[if_neg h0]
   have w:∀p,p∈ps->(p∈K∨Xv ap ps p<=1)->K.length<=(p::YB ap m (Xu ap ps p)).length:=λp hp hm=>by
    have h1:=Zke ir h hm;have h2:=Zdt sy ir m (Xu ap ps p) _ (by have:=ZgK (ap:=ap) hp;omega) (h.rest (p:=p));simp only[zB];omega
   split
   ·rename_i p hp
    exact w _ (ZbX hp).1 (.inr (ZbX hp).2)
   ·have hb:=Zav (ap:=ap) h0
    by_cases hk:YH ap ps∈K
    ·have:=w _ hb (.inl hk)
     grind
    ·have h3:=Zdt sy ir m (ps.filter λo=>!decide (o=YH ap ps)) K (by have:=Zdo hb;omega) ⟨h.nd,λx hx=>qD.mpr ⟨h.sub x hx,by
      grind⟩,h.two⟩
     grind
theorem ZcN (m:Nat):∀(ps:List Nat),(YB ap m ps).length<=m:=by
 induction m with
 | zero=>simp[YB]
 | succ m ih=>
  intro ps;unfold YB;split
  ·simp
  ·grind
end
abbrev Xp (n:Nat):D:=.tup (qm n (nD 1))
theorem ZiP (h:p<n):Zj (Xp n) (nD p)=some (nD 1):=by
 refine X7 ?_;simp_all
theorem Zmg (k:Nat):dSum [.lst (qm k (nD 1))]=some (nD k):=by
 have h1:ZH (qm k (nD 1))=some (qm k 1):=by
  rw[show qm k (nD 1)=(qm k (1:Int)).map D.int by simp];exact ZaS _
 show(match ZH (qm k (nD 1))with | some ns=>if Um ns=true then some (D.int ns.sum)else none | none=>none)=_;have h2:Um (qm k 1)=true:=zC.mpr λx hx=>by simp_all
 simp_all
def ZgN:Zc->M Out:=(Zg (ZL (Zx dSum (Zb (ZQ [none,some 0] (ZX (Za 1)) (Zv 0) Yc (Zd Zj (Za 1) (Za 0))) Ze)))
 Zp)
theorem ZaY {ps:List Nat}(hp:∀p∈ps,p<n)(hl:ps.length<=1000)(s:Pn):runB 2 2 ZgN [Xp n,.lst (ps.map nD)] s=some (nD ps.length,s):=by
 have hc:=Xh (src:=[none,some 0]) (fi:=ZX (Za 1)) (τ:=Zv 0) (ft:=Yc) (fe:=Zd Zj (Za 1) (Za 0)) (ρ:=[some (Xp n),some (.lst (ps.map nD))]) (s:=s) (λd=>[some d,some (Xp n)]) (λ_=>true) (λ_=>nD 1) (Wv rfl) (by rw[qh,Yi];omega) (λd hd=>by
  obtain⟨x,hx,rfl⟩:=ql.mp hd;exact⟨rfl,rfl,λ_=>ZA rfl rfl (ZiP (hp x hx))⟩)
 rw[Uy,List.map_const',qh]at hc;exact Xy rfl (YY (XH (Z4 (Zh hc rfl) (Zmg _))))
def Zpe:Zc->M Out:=(Zg (ZL (ZQ [none,some 0,some 1] (ZX (Za 2)) (Zv 0) (asB (Zd YF (Za 0) (Zd Zj (Za 1) (Za 2)))) (Za 0)))
 Zp)
def ZhY:List D->M D:=runB 3 3 Zpe
def VJ:List D->M D:=runB 2 2 ZgN
def gHW (Fs:List D->M D):Zc->M Out:=(Zg (ZS 4 (ZQ [none,some 2,some 0] (ZX (Za 3)) (Zv 0) (XZ (asB (Zd Y9 (Za 0) (Za 1))) (asB (Zd WG (Za 0) (Zd Zj (Za 2) (Za 1))))) (Za 0)))
 (Zg (ZL (Zd Y0 (Y4 (Zb (Za 2) Ze)) (Zu Fs (Zb (Za 0) (Zb (Za 1) (Zb (Za 4) Ze))))))
 Zp))
def FHW (Fs:List D->M D):List D->M D:=runB 5 4 (gHW Fs)
def Zoc (Fs:List D->M D):Zc->M Out:=(Zg (Yw (asB (Zd Vg (Zu VJ (Zb (Za 1) (Zb (Zd Zj (Za 3) (Za 4)) Ze))) (Zd Zj (Za 1) (Zd Zj (Za 2) (Za 4)))))
 (Zg (ZL (Zu (FHW Fs) (Zb (Za 0) (Zb (Za 1) (Zb (Zd Zj (Za 2) (Za 4)) (Zb (Za 2) Ze))))))
 Zp)
 Zp)
 Zp)
def gHA (Fs:List D->M D):Zc->M Out:=(Zg (Yw (asB (Zd Xk (Za 2) (Y4 Ze)))
 (Zg (ZL (Y4 Ze))
 Zp)
 Zp)
 (Zg (ZS 3 (ZQ [none,some 0,some 2] (ZX (Za 2)) (Zv 0) Yc (Zu ZhY (Zb (Za 1) (Zb (Za 0) (Zb (Za 2) Ze))))))
 (Zg (YS (ZW (Zx Yo (Zb (Za 2) Ze))) (Zv 4) (Zoc Fs))
 (Zg (ZS 5 (ZQ [none] (ZX (Za 3)) (Zv 0) Yc (Zx Yo (Zb (Za 0) Ze))))
 (Zg (ZS 6 (Zd Zj (Za 2) (Zd Zff (Za 5) (Zx VW (Zb (Za 5) Ze)))))
 (Zg (ZS 7 (Zu (FHW Fs) (Zb (Za 0) (Zb (Za 1) (Zb (Za 6) (Zb (Za 2) Ze))))))
 (Zg (ZS 8 (Zu Fs (Zb (Za 0) (Zb (Za 1) (Zb (ZQ [none,some 6] (ZX (Za 2)) (Zv 0) (asB (Zd Y9 (Za 0) (Za 1))) (Za 0)) Ze)))))
 (Zg (ZL (dIf (asB (Zd Js (Zu VJ (Zb (Za 1) (Zb (Za 7) Ze))) (Zu VJ (Zb (Za 1) (Zb (Za 8) Ze))))) (Za 7) (Za 8)))
 Zp))))))))
def FHA:Nat->List D->M D
 | 0=>λ_=>Zq
 | n+1=>runB 9 3 (gHA (FHA n))
theorem geN (a b:Nat):Js (nD a) (nD b)=some (.bl (decide (b<=a))):=by
 show some (D.bl (decide ((b:Int)<=(a:Int))))=_;simp
theorem ZhZ (P:Nat->Bool)(h:Nat->D)(ps:List Nat):(qj ps.length).findSome? (λi=>if P (ps.getD i 0)=true then some (h (ps.getD i 0))else none)=(ps.find? P).map h:=by
 have e:(qj ps.length).map (λi=>ps.getD i 0)=ps:=by
  apply yT;intro i;by_cases hi:i<ps.length
  ·simp_all
  ·simp_all
 have k:∀l:List Nat,l.findSome? (λx=>if P x=true then some (h x)else none)=(l.find? P).map h:=λl=>by
  induction l with
  | nil=>rfl
  | cons x l ih=>
   rw[qcf,List.find?_cons]
   cases hx:P x with
   | true=>rfl
   | false=>exact ih
 rw[<-k ps]
 conv=>rhs;rw[<-e]
 rw[List.findSome?_map];rfl
section
variable {n:Nat}{A:Nat->List Nat}{ap:Nat->Nat->Bool}
theorem Zmh (hA:∀p o,ap p o=decide (o∈A p))(hp:p<n)(ps:List Nat)(hl:ps.length<=1000)(s:Pn):ZhY [XB n A,nD p,.lst (ps.map nD)] s=some (.lst ((ps.filter λo=>ap p o).map nD),s):=by
 have hc:=Xh (src:=[none,some 0,some 1]) (fi:=ZX (Za 2)) (τ:=Zv 0) (ft:=asB (Zd YF (Za 0) (Zd Zj (Za 1) (Za 2)))) (fe:=Za 0) (ρ:=[some (XB n A),some (nD p),some (.lst (ps.map nD))]) (s:=s) (λd=>[some d,some (XB n A),some (nD p)]) (λd=>ap p (Yg d)) (λd=>d) (Wv rfl) (by rw[qh,Yi];omega) (λd hd=>by
  obtain⟨x,hx,rfl⟩:=ql.mp hd;exact⟨rfl,Z9 (ZA rfl (ZA rfl rfl (Zl7 hp)) (by rw[Zo8,<-hA];rfl)),λ_=>rfl⟩)
 rw[yb,qC]at hc;exact Xy rfl (YY (XH hc))
theorem ZpO (hA:∀p o,ap p o=decide (o∈A p))(hp:p<n)(hl:ps.length<=1000)(hr:r.length<=1000)(hF:Fs [XB n A,Xp n,.lst ((Xu ap ps p).map nD)] s=some (.lst (r.map nD),s)):FHW Fs [XB n A,Xp n,nD p,.lst (ps.map nD)] s=some (.lst ((p::r).map nD),s):=by
 have hc:=Xh (src:=[none,some 2,some 0]) (fi:=ZX (Za 3)) (τ:=Zv 0) (ft:=XZ (asB (Zd Y9 (Za 0) (Za 1))) (asB (Zd WG (Za 0) (Zd Zj (Za 2) (Za 1))))) (fe:=Za 0) (ρ:=[some (XB n A),some (Xp n),some (nD p),some (.lst (ps.map nD)),none]) (s:=s) (λd=>[some d,some (nD p),some (XB n A)]) (λd=>!decide (Yg d=p) && !ap p (Yg d)) (λd=>d) (Wv rfl) (by rw[qh,Yi];omega) (λd hd=>by
  obtain⟨x,hx,rfl⟩:=ql.mp hd;refine⟨rfl,BK (Z9 (ZA rfl rfl (BU x p))) λ_=>Z9 (ZA rfl (ZA rfl rfl (Zl7 hp)) (by rw[Zkf,<-hA];rfl)),λ_=>rfl⟩)
 rw[yb,qC]at hc;refine Xy rfl (XR (Vn hc) (YY (XH (ZA (JM (Zh rfl rfl) (by show 1<=xg;decide)) (YK (Zh rfl (Zh rfl (Zh rfl rfl))) hF) ?_))));rw[Znq (by grind)];rfl
theorem ZcO:∀(m:Nat) (ps:List Nat),∀x∈YB ap m ps,x∈ps
 | 0,ps,x,hx=>by simp[YB]at hx
 | m+1,ps,x,hx=>by
  unfold YB at hx;by_cases h0:ps=[]
  ·grind
  ·rw[if_neg h0]at hx
   have w:=λp (hp:p∈ps) (h:x∈p::YB ap m (Xu ap ps p))=>show x∈ps from by
    rcases qu.mp h with e | h
    ·simp_all
    ·exact(UX x (ZcO m _ x h)).1
   split at hx
   ·rename_i p hp
    exact w _ (ZbX hp).1 hx
   ·split at hx
    ·exact w _ (Zav h0) hx
    ·exact(qD.mp (ZcO m _ x hx)).1
theorem Za7 (hA:∀p o,ap p o=decide (o∈A p))(s:Pn):∀(m:Nat) (ps:List Nat),ps.length<m->m<=100->(∀p∈ps,p<n)->FHA m [XB n A,Xp n,.lst (ps.map nD)] s=some (.lst ((YB ap m ps).map nD),s)
 | 0,_,h,_,_=>by omega
 | m+1,ps,hl,hm,hn=>by
  have hpl:YX (ps.map nD)=true:=Zdn ps;have hdp:XM (ps.map nD)<=10:=by rw[ZiK];omega
  have heq:=Zl8 (ps.map nD) hpl hdp;by_cases h0:ps=[]
  ·subst h0
   refine Xy rfl (YY (J0 (Z9 (ZA (d:=.lst []) (e:=.lst []) rfl (JM rfl (za _)) heq)) (YY (XH (d:=.lst []) (JM rfl (za _))))))
  ·have hf:decide (ps.map nD=[])=false:=by simpa using h0
   rw[hf]at heq;have hcs:ps.map (Xv ap ps)≠[]:=by simpa using h0
   have hc:=Xh (src:=[none,some 0,some 2]) (fi:=ZX (Za 2)) (τ:=Zv 0) (ft:=Yc) (fe:=Zu ZhY (Zb (Za 1) (Zb (Za 0) (Zb (Za 2) Ze)))) (ρ:=[some (XB n A),some (Xp n),some (.lst (ps.map nD)),none,none,none,none,none,none]) (s:=s) (ds:=ps.map nD) (λd=>[some d,some (XB n A),some (.lst (ps.map nD))]) (λ_=>true) (λd=>.lst ((ps.filter λo=>ap (Yg d) o).map nD)) (Wv rfl) (by rw[qh,Yi];omega) (λd hd=>by
    obtain⟨x,hx,rfl⟩:=ql.mp hd;exact⟨rfl,rfl,λ_=>YK (Zh rfl (Zh rfl (Zh rfl rfl))) (Zmh hA (hn x hx) ps (by omega) s)⟩)
   rw[Uy,qC]at hc;generalize hR:ps.map ((λd=>D.lst ((ps.filter λo=>ap (Yg d) o).map nD))∘nD)=R at hc;have kw:∀p,p∈ps->FHW (FHA m) [XB n A,Xp n,nD p,.lst (ps.map nD)] s=some (.lst ((p::YB ap m (Xu ap ps p)).map nD),s):=λp hp=>by
    have hlt:=ZgK (ap:=ap) hp;have hb:=ZcN (ap:=ap) m (Xu ap ps p);exact ZpO hA (hn p hp) (by omega) (by omega) (Za7 hA s m (Xu ap ps p) (by omega) (by omega) λx hx=>hn x (UX x hx).1)
   have hrow:∀i,i<ps.length->Zj (.lst R) (nD i)=some (.lst ((ps.filter λo=>ap (ps.getD i 0) o).map nD)):=λi hi=>by
    refine X7 ?_;rw[<-hR,qG,qJ,qB hi];rfl
   have hpl2:∀i,i<ps.length->Zj (.lst (ps.map nD)) (nD i)=some (nD (ps.getD i 0)):=λi hi=>ZcM hi;have hgm:∀i,i<ps.length->ps.getD i 0∈ps:=λi hi=>by
    rw[qJ,qB hi];exact yr hi
   have hfind:=ZeO (τ:=Zv 4) (body:=Zoc (FHA m)) (s:=s) (fun ρ=>∃o4,ρ=[some (XB n A),some (Xp n),some (.lst (ps.map nD)),some (.lst R),o4,none,none,none,none]) (λi=>if decide (Xv ap ps (ps.getD i 0)<=1)=true then some (.lst ((ps.getD i 0::YB ap m (Xu ap ps (ps.getD i 0))).map nD))else none) (qj ps.length) [some (XB n A),some (Xp n),some (.lst (ps.map nD)),some (.lst R),none,none,none,none,none] ⟨none,rfl⟩ (λi hi ρ hρ=>by
    obtain⟨o4,rfl⟩:=hρ;have hi:=qE.mp hi;refine⟨_,rfl,?_⟩;have hcond:asB (Zd Vg (Zu VJ (Zb (Za 1) (Zb (Zd Zj (Za 3) (Za 4)) Ze))) (Zd Zj (Za 1) (Zd Zj (Za 2) (Za 4)))) [some (XB n A),some (Xp n),some (.lst (ps.map nD)),some (.lst R),some (nD i),none,none,none,none] s=some (decide (Xv ap ps (ps.getD i 0)<=1),s):=by
     refine Z9 (ZA (YK (Zh rfl (Zh (ZA (d:=.lst R) (e:=nD i) rfl rfl (hrow i hi)) rfl)) (ZaY (λp hp=>hn p (qD.mp hp).1) (by have:=zh (λo=>ap (ps.getD i 0) o) ps;omega) s)) (ZA (d:=Xp n) rfl (ZA (d:=.lst (ps.map nD)) (e:=nD i) rfl rfl (hpl2 i hi)) (ZiP (hn _ (hgm i hi)))) ?_);show some (D.bl (decide (((ps.filter λo=>ap (ps.getD i 0) o).length:Int)<=(1:Int))))=_;congr 2;exact decide_eq_decide.mpr (by unfold Xv;omega)
    by_cases hq:Xv ap ps (ps.getD i 0)<=1
    ·rw[decide_eq_true hq]at hcond⊢
     rw[if_pos rfl];exact YY (J0 hcond (YY (XH (YK (Zh rfl (Zh rfl (Zh (ZA (d:=.lst (ps.map nD)) (e:=nD i) rfl rfl (hpl2 i hi)) (Zh rfl rfl)))) (kw _ (hgm i hi))))))
    ·rw[decide_eq_false hq]at hcond⊢
     rw[if_neg yt];exact⟨_,XR (Jd hcond rfl) rfl,some (nD i),rfl⟩)
   rw[ZhZ (λp=>decide (Xv ap ps p<=1)) (λp=>.lst ((p::YB ap m (Xu ap ps p)).map nD)) ps]at hfind;have hit:ZW (Zx Yo (Zb (Za 2) Ze)) [some (XB n A),some (Xp n),some (.lst (ps.map nD)),some (.lst R),none,none,none,none,none] s=some ((qj ps.length).map nD,s):=by
    have:=XQ (f:=Zx Yo (Zb (Za 2) Ze)) (ρ:=[some (XB n A),some (Xp n),some (.lst (ps.map nD)),some (.lst R),none,none,none,none,none]) (s:=s) (n:=ps.length) (Z4 (Zh rfl rfl) (Zkb ps)) (by omega);rw[UA]at this;exact this
   unfold YB;rw[if_neg h0];refine Xy rfl (XR (Jd (Z9 (ZA (d:=.lst (ps.map nD)) (e:=.lst []) rfl (JM rfl (za _)) heq)) rfl) (XR (Vn hc) ?_));show Zg _ _ [some (XB n A),some (Xp n),some (.lst (ps.map nD)),some (.lst R),none,none,none,none,none] s=_
   cases ho:one? ap ps with
   | some p=>
    have ho':ps.find? (λp=>decide (Xv ap ps p<=1))=some p:=ho;rw[ho']at hfind;exact YY (ZcJ hit hfind)
   | none=>
    have ho':ps.find? (λp=>decide (Xv ap ps p<=1))=none:=ho;rw[ho']at hfind;obtain⟨ρ2,hf2,o4,rfl⟩:=hfind;refine XR (ZcJ hit hf2) ?_;have hmax:=Zdp hcs;have hp1:=Zav (ap:=ap) h0;have hix:Zj (.lst (ps.map nD)) (nD ((ps.map (Xv ap ps)).idxOf (YA (ps.map (Xv ap ps)))))=some (nD (YH ap ps)):=ZcM (by
     have:=qap.mpr (Zfo hcs);simpa using this)
    have hcc:=Xh (src:=[none]) (fi:=ZX (Za 3)) (τ:=Zv 0) (ft:=Yc) (fe:=Zx Yo (Zb (Za 0) Ze)) (ρ:=[some (XB n A),some (Xp n),some (.lst (ps.map nD)),some (.lst R),o4,none,none,none,none]) (s:=s) (ds:=R) (λd=>[some d]) (λ_=>true) (λd=>match d with | .lst l=>nD l.length | _=>.non) (Wv rfl) (by rw[<-hR,qh,Yi];omega) (λd hd=>by
     rw[<-hR]at hd;obtain⟨x,hx,rfl⟩:=ql.mp hd;exact⟨rfl,rfl,λ_=>Z4 (Zh rfl rfl) rfl⟩)
    rw[Uy,<-hR,qC]at hcc;have e5:ps.map ((λd=>match d with | .lst l=>nD l.length | _=>D.non)∘((λd=>D.lst ((ps.filter λo=>ap (Yg d) o).map nD))∘nD))=(ps.map (Xv ap ps)).map nD:=by
     rw[qC];refine zp λx _=>?_;show nD ((ps.filter λo=>ap x o).map nD).length=nD (Xv ap ps x);rw[qh];rfl
    rw[e5,hR]at hcc;have hwo:=Zdo hp1;have ih2:=Za7 hA s m (ps.filter λo=>!decide (o=YH ap ps)) (by omega) (by omega) λx hx=>hn x (qD.mp hx).1;have hc2:=Xh (src:=[none,some 6]) (fi:=ZX (Za 2)) (τ:=Zv 0) (ft:=asB (Zd Y9 (Za 0) (Za 1))) (fe:=Za 0) (ρ:=[some (XB n A),some (Xp n),some (.lst (ps.map nD)),some (.lst R),o4,some (.lst ((ps.map (Xv ap ps)).map nD)),some (nD (YH ap ps)),some (.lst ((YH ap ps::YB ap m (Xu ap ps (YH ap ps))).map nD)),none]) (s:=s) (ds:=ps.map nD) (λd=>[some d,some (nD (YH ap ps))]) (λd=>!decide (Yg d=YH ap ps)) (λd=>d) (Wv rfl) (by rw[qh,Yi];omega) (λd hd=>by
     obtain⟨x,hx,rfl⟩:=ql.mp hd;exact⟨rfl,Z9 (ZA (d:=nD x) (e:=nD (YH ap ps)) rfl rfl (BU _ _)),λ_=>rfl⟩)
    have e2:((ps.map nD).filter λd=>!decide (Yg d=YH ap ps)).map (λd=>d)=(ps.filter λo=>!decide (o=YH ap ps)).map nD:=by rw[yb,qC];rfl
    rw[e2]at hc2;have bl1:=ZcN (ap:=ap) m (Xu ap ps (YH ap ps));have bl2:=ZcN (ap:=ap) m (ps.filter λo=>!decide (o=YH ap ps));have w1:=ZaY (n:=n) (ps:=YH ap ps::YB ap m (Xu ap ps (YH ap ps))) (λp hp=>by
     rcases qu.mp hp with e | hp
     ·rw[e];exact hn _ hp1
     ·exact hn p (UX p (ZcO m _ p hp)).1) (by simp only[zB];omega) s
    have w2:=ZaY (n:=n) (ps:=YB ap m (ps.filter λo=>!decide (o=YH ap ps))) (λp hp=>hn p (qD.mp (ZcO m _ p hp)).1) (by omega) s;refine XR (Vn hcc) (XR (Vn (ZA (d:=.lst (ps.map nD)) rfl (ZA (d:=.lst ((ps.map (Xv ap ps)).map nD)) rfl (Z4 (Zh rfl rfl) hmax) (ZhV (Zfo hcs))) hix)) (XR (Vn (YK (Zh rfl (Zh rfl (Zh rfl (Zh rfl rfl)))) (kw _ hp1))) (XR (Vn (YK (Zh rfl (Zh rfl (Zh hc2 rfl))) ih2)) (YY (XH ?_)))));have hge:=geN (YH ap ps::YB ap m (Xu ap ps (YH ap ps))).length (YB ap m (ps.filter λo=>!decide (o=YH ap ps))).length;have ht:=Z9 (ZA (g:=Js) (ρ:=[some (XB n A),some (Xp n),some (.lst (ps.map nD)),some (.lst R),o4,some (.lst ((ps.map (Xv ap ps)).map nD)),some (nD (YH ap ps)),some (.lst ((YH ap ps::YB ap m (Xu ap ps (YH ap ps))).map nD)),some (.lst ((YB ap m (ps.filter λo=>!decide (o=YH ap ps))).map nD))]) (s:=s) (YK (F:=VJ) (fs:=Zb (Za 1) (Zb (Za 7) Ze)) (Zh rfl (Zh rfl rfl)) w1) (YK (F:=VJ) (fs:=Zb (Za 1) (Zb (Za 8) Ze)) (Zh rfl (Zh rfl rfl)) w2) hge);generalize hX:YH ap ps::YB ap m (Xu ap ps (YH ap ps))=X at ht⊢;generalize hY:YB ap m (ps.filter λo=>!decide (o=YH ap ps))=Y at ht⊢;have hfin:∀ρ:Zc,(ρ[7]?).bind id=some (.lst (X.map nD))->(ρ[8]?).bind id=some (.lst (Y.map nD))->asB (Zd Js (Zu VJ (Zb (Za 1) (Zb (Za 7) Ze))) (Zu VJ (Zb (Za 1) (Zb (Za 8) Ze)))) ρ s=some (decide (Y.length<=X.length),s)->dIf (asB (Zd Js (Zu VJ (Zb (Za 1) (Zb (Za 7) Ze))) (Zu VJ (Zb (Za 1) (Zb (Za 8) Ze))))) (Za 7) (Za 8) ρ s=some (.lst ((if Y.length<=X.length then X else Y).map nD),s):=fun ρ h7 h8 ht=>by
     unfold dIf Zm;rw[ht];by_cases hq:Y.length<=X.length
     ·simp only[hq,decide_true,if_true]
      unfold Za YU;rw[h7]
     ·simp only[hq,decide_false,if_false,qar]
      unfold Za YU;rw[h8]
    exact hfin _ rfl rfl ht
end
def WH (n:Nat)(jN:Qa):List Nat:=JT n (YB (tied (Yv n jN)) 26 (qj n))
def gHK:Zc->M Out:=(Zg (ZS 2 (ZQ [none] (ZX (Zu (runB 2 1 gN) (Zb (Zu JE (Zb (Za 0) Ze)) Ze))) (Zv 0) Yc (Zx Ze6 (Zb (ZQ [none] (ZX (Za 0)) (Zv 0) Yc (ZZ (Zb (Za 0) (Zb (dC (.bl true)) Ze)))) Ze))))
 (Zg (ZL (Zx JL (Zb (Zx ZcK (Zb (Zu (FHA 26) (Zb (Za 2) (Zb (Za 1) (Zb (VF (Zd Zj (Za 0) (dC (.int 0)))) Ze)))) Ze)) Ze)))
 Zp))
theorem ZaE (hw:IsWeb n jN)(hn:n<=24):WH n jN∈kn jN n/\∀K∈kn jN n,K.length<=(WH n jN).length:=by
 have sy:∀a b,tied (Yv n jN) a b=tied (Yv n jN) b a:=Zbl _;have hk:=ZbY sy 26 (qj n);have hlt:=λx hx=>qE.mp (hk.sub x hx);have hp:=Za6 hk.nd hlt;constructor
 ·refine U0.mpr ⟨Zcs _ _,λo ho=>hlt o (hp.mem_iff.mp ho),λa ha b hb ne=>?_⟩
  have ha':=hp.mem_iff.mp ha;have hb':=hp.mem_iff.mp hb;have:=hk.two a ha' b hb' ne
  cases h:tied jN a b with
  | true=>rfl
  | false=>
   have:=Zbm.mpr ⟨hlt a ha',hlt b hb',ne,h⟩;simp_all
 ·intro K hK
  obtain⟨h1,h2,h3⟩:=U0.mp hK;have:=Zdt sy Zl9 26 (qj n) K (by rw[qI];omega) ⟨Bs h1,λx hx=>qE.mpr (h2 x hx),λx hx y hy ne=>by
   cases h:tied (Yv n jN) x y with
   | false=>rfl
   | true=>
    have h4:=(Zbm.mp h).2.2.2;simp_all⟩
  have e:=hp.length_eq;show K.length<=(JT n _).length;omega
theorem Zh0:(WH n jN).length<=n:=by
 have:=zh (λx=>decide (x∈YB (tied (Yv n jN)) 26 (qj n))) (qj n);rw[qI]at this;exact this
theorem Zmi (n:Nat)(jN:Qa)(hn:n<=24)(hl:jN.length<=100000)(s:Pn):runB 3 2 gHK [Yd n jN,Xp n] s=some (Yr (WH n jN),s):=by
 have sy:∀a b,tied (Yv n jN) a b=tied (Yv n jN) b a:=Zbl _;have hk:=ZbY sy 26 (qj n);have hlt:∀x∈YB (tied (Yv n jN)) 26 (qj n),x<n:=λx hx=>qE.mp (hk.sub x hx);have hp:=Za6 hk.nd hlt;have htl:=(Zkg n jN).len hn;have hc:=Xh (src:=[none]) (fi:=ZX (Zu (runB 2 1 gN) (Zb (Zu JE (Zb (Za 0) Ze)) Ze))) (τ:=Zv 0) (ft:=Yc) (fe:=Zx Ze6 (Zb (ZQ [none] (ZX (Za 0)) (Zv 0) Yc (ZZ (Zb (Za 0) (Zb (dC (.bl true)) Ze)))) Ze)) (ρ:=[some (Yd n jN),some (Xp n),none]) (s:=s) (ds:=(qj n).map λp=>D.lst ((Yu n (Yv n jN) p).map nD)) (λd=>[some d]) (λ_=>true) (λd=>match d with | .lst ds=>.dk (X6 (ds.map Yg)) | _=>.non)
  (Wv (YK (Zh (YK (Zh rfl rfl) (ZhX n jN s (by omega) hl)) rfl) (ZbW n (Yv n jN) (by omega) (by omega) s))) (by rw[qh,qI,Yi];omega) (λd hd=>by
  obtain⟨p,hp,rfl⟩:=ql.mp hd;refine⟨rfl,rfl,λ_=>?_⟩;have hnl:(Yu n (Yv n jN) p).length<=n:=by
   have:=zh (λo=>tied (Yv n jN) p o) (qj n);rw[qI]at this;exact this
  have hc2:=Xh (src:=[none]) (fi:=ZX (Za 0)) (τ:=Zv 0) (ft:=Yc) (fe:=ZZ (Zb (Za 0) (Zb (dC (.bl true)) Ze))) (ρ:=[some (D.lst ((Yu n (Yv n jN) p).map nD))]) (s:=s) (ds:=(Yu n (Yv n jN) p).map nD) (λd=>[some d]) (λ_=>true) (λd=>D.tup [d,.bl true]) (Wv rfl) (by rw[qh,Yi];omega) (λd hd=>⟨rfl,rfl,λ_=>WN (Zh rfl (Zh rfl rfl)) two_le⟩);rw[Uy,qC]at hc2;refine Z4 (Zh hc2 rfl) ?_;show(if ((Yu n (Yv n jN) p).map ((λd=>D.tup [d,.bl true])∘nD)).length<=xg then (Vs [] _).map D.dk else none)=_;rw[if_pos (by rw[qh,Yi];omega)];have e:=Zl6 (Yu n (Yv n jN) p) [] (yi.sublist zk) λ_ _=>rfl;show(Vs [] ((Yu n (Yv n jN) p).map λo=>D.tup [nD o,.bl true])).map D.dk=_;rw[e];show some (D.dk (X6 (Yu n (Yv n jN) p)))=some (D.dk (X6 (((Yu n (Yv n jN) p).map nD).map Yg)));rw[qC];have:(Yu n (Yv n jN) p).map (Yg∘nD)=Yu n (Yv n jN) p:=List.map_id _;rw[this])
 rw[Uy,qC]at hc;have e1:(qj n).map ((λd=>match d with | .lst ds=>D.dk (X6 (ds.map Yg)) | _=>.non)∘λp=>D.lst ((Yu n (Yv n jN) p).map nD))=(qj n).map λp=>.dk (X6 (Yu n (Yv n jN) p)):=by
  refine zp λp _=>?_;show D.dk (X6 (((Yu n (Yv n jN) p).map nD).map Yg))=_;rw[qC];have:(Yu n (Yv n jN) p).map (Yg∘nD)=Yu n (Yv n jN) p:=List.map_id _;rw[this]
 rw[e1]at hc;have hb:=Za7 (n:=n) (A:=Yu n (Yv n jN)) (ap:=tied (Yv n jN)) Zd1 s 26 (qj n) (by rw[qI];omega) (by omega) λp hp=>qE.mp hp;have hlr:VF (Zd Zj (Za 0) (dC (.int 0))) [some (Yd n jN),some (Xp n),some (XB n (Yu n (Yv n jN)))] s=some (.lst ((qj n).map nD),s):=by
  show(if -(2 ^ 62)<=(n:Int)/\(n:Int)<=2 ^ 24 then Zy (D.lst (Yt 0 (n:Int).toNat))else Zq) s=_;rw[if_pos ⟨by omega,by omega⟩,UA];rfl
 have hbl:=ZcN (ap:=tied (Yv n jN)) 26 (qj n);have hs:=Zkh hk.nd hlt (by omega);exact Xy rfl (XR (Vn hc) (YY (XH (Z4 (Zh (Z4 (Zh (YK (Zh rfl (Zh rfl (Zh hlr rfl))) hb) rfl) hs) rfl) rfl))))
theorem Zkl (n:Nat)(hn:n<=1000):ZiG (.tup [nD 1]) (nD n)=some (Xp n):=by
 show(if (n:Int)=1 then some (D.tup [nD 1])else if (n:Int)=0/\[nD 1]≠[]then some (.tup [])else JZ (.tup [nD 1]) (.int (n:Int)))=_;by_cases h1:n=1
 ·subst h1;rfl
 ·rw[if_neg (by omega)]
  by_cases h0:n=0
  ·subst h0;rfl
  ·rw[if_neg (by omega)]
   show(if [nD 1]≠[]/\2<=(n:Int)/\(n:Int)<2 ^ 62/\[nD 1].length*(n:Int).toNat<=xg then some (D.tup (qm (n:Int).toNat [nD 1]).flatten)else none)=_;rw[if_pos ⟨by simp,by omega,by omega,by simp only[zo,yA,Yi];omega⟩,yA,List.flatten_replicate_singleton]
theorem ZeQ (hw:IsWeb n jN)(hn:n<=24):(ZiO n jN).length=(WH n jN).length:=by
 obtain⟨a1,a2⟩:=Zdq hw hn;obtain⟨b1,b2⟩:=ZaE hw hn;have:=a2 _ b1
 grind
end TQ
namespace TP3
open L2 TF TP TS
open TP2
abbrev om (n:Nat)(jN:Qa):Nat:=(ZiO n jN).length
section
variable {n:Nat}{jN:Qa}
theorem ZpP {K:List Nat}(hw:IsWeb n jN)(hn:n<=24)(h:K∈kn jN n):K.length<=om n jN:=(Zdq hw hn).2 K h
def Yx (n:Nat)(p:Nat->Bool):List Nat:=(qj n).filter p
theorem Zdu (n:Nat)(p:Nat->Bool):(Yx n p).Pairwise (· < ·):=(range_rise n).sublist zk
theorem XI:x∈Yx n p↔x<n/\p x=true:=by unfold Yx;simp
end
end TP3
namespace TQ
open L2 TF TS
open TP
open TP2
open TP3
theorem ZpQ (n:Nat)(jN:Qa)(hn:n<=1000)(hl:jN.length<=100000)(s:Pn):JA [Yd n jN] s=some (VO n jN,s):=ZbW n jN hn hl s
theorem Zmj (n:Nat)(jN:Qa)(hn:n<=24)(hl:jN.length<=100000)(s:Pn):UE [Yd n jN] s=some (.tup [nD (WH n jN).length,Yr (WH n jN)],s):=by
 have h:=Zmi n jN hn hl s;exact Xy rfl (XR (Vn (YK (Zh rfl (Zh (ZA (WN (Zh rfl rfl) (by decide)) (ZA rfl rfl Jn) (Zkl n (by omega))) rfl)) h)) (YY (XH (WN (Zh (Z4 (Zh rfl rfl) (by show some (D.int _)=_;simp)) (Zh rfl rfl)) two_le))))
theorem Zmk (hw:IsWeb n jN)(hn:n<=24)(s:Pn):UE [Yd n jN] s=some (.tup [nD (om n jN),Yr (WH n jN)],s):=by
 have hl:=hw.len hn;have h:=Zmj n jN hn (by omega) s;rw[<-ZeQ hw hn]at h;exact h
theorem Znu (hn:n<=24)(hpn:p<n)(hp:p∉qs)(hq:∀q∈qs,q<n)(hl:qs.length<=1000)(o1:Option D)(s:Pn) :
  (Ul 3 (fun ρ=>(Za 4) (Yk [3] ρ)) (Xa true (Zu Jy (Zb (ZQ [none,some 3] (ZX (Zd Zj (Za 2) (Za 4))) (Zv 0) (asB (Zd YF (Za 0) (Za 1))) (Zd UL (Za 1) (Za 0))) Ze)))) [some (Yd n jN),o1,some (VO n jN),some (.dk (Yh qs f)),some (nD p)] s
   = some (.nx [some (Yd n jN),o1,some (VO n jN),some (.dk (Yh (qs ++ [p]) λx=>if x=p then X5 ((qs.filter λo=>tied jN p o).map f)else f x)),some (nD p)],s):=by
 have hc:=Xh (src:=[none,some 3]) (fi:=ZX (Zd Zj (Za 2) (Za 4))) (τ:=Zv 0) (ft:=asB (Zd YF (Za 0) (Za 1))) (fe:=Zd UL (Za 1) (Za 0)) (ρ:=[some (Yd n jN),o1,some (VO n jN),some (.dk (Yh qs f)),some (nD p)]) (s:=s) (ds:=(Yu n jN p).map nD) (λd=>[some d,some (.dk (Yh qs f))]) (λd=>decide (Yg d∈qs)) (λd=>nD (f (Yg d)))
  (Wv (ZA (d:=VO n jN) (e:=nD p) rfl rfl (Zns hpn))) (by
   have:=zh (λo=>tied jN p o) (qj n);rw[qh,Yi];rw[qI]at this;show(Yu n jN p).length<=_;unfold Yu;omega) (λd hd=>by
  obtain⟨x,hx,rfl⟩:=ql.mp hd;exact⟨rfl,Z9 (ZA (d:=nD x) (e:=.dk (Yh qs f)) rfl rfl (Zo7 qs f x)),λhb=>ZA (d:=.dk (Yh qs f)) (e:=nD x) rfl rfl (Zl5 (of_decide_eq_true hb))⟩)
 have e:(((Yu n jN p).map nD).filter λd=>decide (Yg d∈qs)).map (λd=>nD (f (Yg d)))=(((Yu n jN p).filter λo=>decide (o∈qs)).map f).map nD:=by
  rw[yb,qC,qC];rfl
 rw[e]at hc;have jW:(((Yu n jN p).filter λo=>decide (o∈qs)).map f).length<=1000:=by
  rw[qh];have h1:=zh (λo=>decide (o∈qs)) (Yu n jN p);have h2:=zh (λo=>tied jN p o) (qj n);rw[qI]at h2;unfold Yu at h1;unfold Yu;omega
 have hm:X5 (((Yu n jN p).filter λo=>decide (o∈qs)).map f)=X5 ((qs.filter λo=>tied jN p o).map f):=ZeM λx=>by
  simp only[Yu,ql,qD,qE,decide_eq_true_eq];constructor
  ·rintro⟨a,⟨⟨_,h2⟩,h3⟩,rfl⟩;exact⟨a,⟨h3,h2⟩,rfl⟩
  ·rintro⟨a,⟨h3,h2⟩,rfl⟩;exact⟨a,⟨⟨hq a h3,h2⟩,h3⟩,rfl⟩
 have hf:=Zd0 (((Yu n jN p).filter λo=>decide (o∈qs)).map f) jW s;rw[hm]at hf;have hv:(Xa true (Zu Jy (Zb (ZQ [none,some 3] (ZX (Zd Zj (Za 2) (Za 4))) (Zv 0) (asB (Zd YF (Za 0) (Za 1))) (Zd UL (Za 1) (Za 0))) Ze))) [some (Yd n jN),o1,some (VO n jN),some (.dk (Yh qs f)),some (nD p)] s=some (nD (X5 ((qs.filter λo=>tied jN p o).map f)),s):=Zhh (YK (Zh hc rfl) hf) rfl;rw[Znn hv rfl rfl rfl rfl (by unfold Yh;rw[qh,Yi];omega),ZiN hp];rfl
theorem Zml (n:Nat)(jN:Qa)(hw:IsWeb n jN)(hn:n<=24)(hp:ps.Perm (qj n))(s:Pn):UR [Yd n jN,.lst (ps.map nD)] s=some (Yr (Ww n jN ps),s):=by
 have nd:ps.Nodup:=hp.nodup_iff.mpr yi;have hl:ps.length=n:=by rw[hp.length_eq,qI]
 have hlt:∀q∈ps,q<n:=λq hq=>qE.mp (hp.mem_iff.mp hq);have hlt2:=hw.len hn;refine jy (Ok.runB rfl (Ok.seq (.sset (.eq (YK (Zh rfl rfl) (ZpQ n jN (by omega) (by omega) s)) (Ok.seq (Ok.sown (.eq (a:=.dk []) rfl ⟨rfl,?_⟩)))))));refine Ok.seq (.sfor (λk ρ s'=>s'=s/\k<=ps.length/\∃o3,ρ=[some (Yd n jN),some (.lst (ps.map nD)),some (VO n jN),some (.dk (Yh (ps.take k) (hr jN (ps.take k).reverse))),o3]) (.eq (a:=ps.map nD) (s':=s) (Wv rfl) ⟨⟨rfl,za _,none,by rw[List.take_zero];rfl⟩,λk d ρ s' hd hI=>?_,fun ρ' s' hI=>?_⟩))
 ·obtain⟨rfl,_,o3,rfl⟩:=hI
  rw[qG]at hd
  cases e:ps[k]? with
  | none=>rw[e]at hd;cases hd
  | some p=>
   rw[e]at hd
   cases hd
   refine⟨_,rfl,Ok.seq (.eq (Znu (f:=hr jN (ps.take k).reverse) hn (hlt p (zR e)) (ZhT nd e) (λq hq=>hlt q (List.take_subset _ _ hq)) (by rw[yg];omega) _ s') (.next ⟨_,rfl,rfl,?_,some (nD p),?_⟩))⟩
   ·have:=(qz.mp e).1;omega
   ·rw[Zno jN e,Zcf e]
 ·obtain⟨rfl,_,o3,rfl⟩:=hI
  rw[qh,qbw];have hc:=Xh (src:=[none,some 3]) (fi:=ZW (Zd Zj (Za 0) (dC (.int 0)))) (τ:=Zv 0) (ft:=Yc) (fe:=Zd UL (Za 1) (Za 0)) (ρ:=[some (Yd n jN),some (.lst (ps.map nD)),some (VO n jN),some (.dk (Yh ps (hr jN ps.reverse))),o3]) (s:=s') (ds:=Yt 0 n) (λd=>[some d,some (.dk (Yh ps (hr jN ps.reverse)))]) (λ_=>true) (λd=>nD (hr jN ps.reverse (Yg d)))
   (XQ (ZA (d:=Yd n jN) (e:=.int 0) rfl rfl Jn) (by omega)) (by rw[Y2,Yi];omega) (λd hd=>by
   obtain⟨i,hi,rfl⟩:=VG hd;exact⟨rfl,rfl,λ_=>ZA rfl rfl (Zl5 (hp.mem_iff.mpr (qE.mpr hi)))⟩)
  rw[Uy,UA,qC]at hc;refine Ok.seq (.sret (.eq (Z4 (Zh hc rfl) ?_) ⟨rfl,rfl⟩));show some (D.tup _)=some (D.tup _);unfold Ww;rw[qC];rfl
section
variable {jN:Qa}{ws:List Wb}
end
section
variable {n m:Nat}{t1 t2 T:Qa}
end
end TQ
namespace TF
open L2
section
variable {X:Cx}{G:Gh}
end
end TF
namespace TQ
open L2 TF TQ
open TP
open TP2
open TP3
end TQ
namespace TQ
open L2 TF TS
open TP
open TP2
open TP3
section
variable {jN:Qa}
theorem ZiQ (p:Nat)(b:List Nat):hr jN (p::b) p=X5 ((b.filter λo=>tied jN p o).map (hr jN b)):=by
 show(if p=p then _ else _)=_;simp
theorem ZcP (h:x≠p):hr jN (p::b) x=hr jN b x:=by
 show(if x=p then _ else _)=_;simp_all
theorem ZgO:∀{qs:List Nat},qs.Nodup->∀x∈qs,∀y∈qs,x≠y->tied jN x y=true->hr jN qs x≠hr jN qs y
 | [],_,x,hx,_,_,_,_=>by simp at hx
 | p::b,nd,x,hx,y,hy,ne,ht=>by
  have nd':=zx.mp nd;have key:∀z∈b,tied jN p z=true->hr jN (p::b) p≠hr jN (p::b) z:=λz hz hp=>by
   have hzp:z≠p:=λe=>nd'.1 (e▸hz);rw[ZiQ,ZcP hzp];intro e;exact(Bx _).1 (by rw[e];exact ql.mpr ⟨z,qD.mpr ⟨hz,hp⟩,rfl⟩)
  by_cases ex:x=p
  ·grind
  ·have hx':=(qu.mp hx).resolve_left ex
   by_cases ey:y=p
   ·subst ey
    exact(key x hx' (by rw[Zbl];exact ht)).symm
   ·have hy':=(qu.mp hy).resolve_left ey
    rw[ZcP ex,ZcP ey];exact ZgO nd'.2 x hx' y hy' ne ht
theorem Zod:∀{qs:List Nat},∀x∈qs,hr jN qs x<qs.length
 | [],x,hx=>by simp at hx
 | p::b,x,hx=>by
  by_cases ex:x=p
  ·subst ex
   rw[ZiQ];have h1:=Zo6 ((b.filter λo=>tied jN x o).map (hr jN b))
   grind
  ·have hx':=(qu.mp hx).resolve_left ex
   rw[ZcP ex,zB];have:=Zod x hx';omega
variable {n:Nat}{ps:List Nat}
theorem ZeR:(Ww n jN ps).length=n:=by unfold Ww;simp
theorem Zbo (h:i<n):(Ww n jN ps).getD i 0=hr jN ps.reverse i:=by
 unfold Ww;simp_all
theorem ZiR (hp:ps.Perm (qj n)):ps.reverse.Nodup/\(∀i,i∈ps.reverse↔i<n)/\ps.reverse.length=n:=
 ⟨(List.reverse_perm ps).nodup_iff.mpr (hp.nodup_iff.mpr yi),λi=>by rw[qaR,hp.mem_iff,qE],by rw[List.length_reverse,hp.length_eq,qI]⟩
theorem ZgP (hp:ps.Perm (qj n))(ha:a<n)(hb:b<n)(ne:a≠b)(ht:tied jN a b=true):(Ww n jN ps).getD a 0≠(Ww n jN ps).getD b 0:=by
 obtain⟨nd,mm,_⟩:=ZiR hp;rw[Zbo ha,Zbo hb];exact ZgO nd a ((mm a).mpr ha) b ((mm b).mpr hb) ne ht
theorem Zmm (hp:ps.Perm (qj n))(ha:a<n):(Ww n jN ps).getD a 0<n:=by
 obtain⟨nd,mm,ll⟩:=ZiR hp;rw[Zbo ha];have:=Zod (jN:=jN) a ((mm a).mpr ha);omega
structure RightH (n:Nat)(jN:Qa)(f:List Nat):Prop where
 len:f.length=n
 lt:∀a<n,f.getD a 0<n
 ri:∀a<n,∀b<n,a≠b->tied jN a b=true->f.getD a 0≠f.getD b 0
theorem Zfr (hp:ps.Perm (qj n)):RightH n jN (Ww n jN ps):=⟨ZeR,λa ha=>Zmm hp ha,λa ha b hb ne ht=>ZgP hp ha hb ne ht⟩
theorem RightH.hueB (R:RightH n jN f)(hw:IsWeb n jN):hueB n jN (Yr f)=true:=by
 rw[Zkj hw R.len,zK,zC,zC];constructor
 ·intro y hy
  obtain⟨i,hi,rfl⟩:=qaa.mp hy;have:=R.lt i (by rw[<-R.len];exact hi);simp_all
 ·intro p hp
  obtain⟨q1,q2⟩:=hw.mem hp;have:=R.ri p.1 (by omega) p.2 q2 (by omega) (by rw[ZgL,qbK (by omega),qaT (by omega)];exact hp)
  grind
end
end TQ
namespace TF
open L2
section
variable {X:Cx}{G:Gh}{f:Zc->M D}
end
end TF
namespace TQ
open L2 TF TS
open TP
open TP2
open TP3
section
variable (ap:Nat->Nat->Bool)(W:List Nat)
end
section
variable {ap:Nat->Nat->Bool}{W:List Nat}
end
section
variable {n:Nat}{A:Nat->List Nat}{ap:Nat->Nat->Bool}
end
theorem ZgQ (key:Nat->D):∀(ps:List Nat),(∀p∈ps,F (nD p::cds) s=some (key p,s))->B7 F cds (ps.map λ(i:Nat)=>(i:Int)) s=some (ps.map key,s)
 | [],_=>rfl
 | p::ps,h=>by
  show Zm (F (nD p::cds)) (λk=>Zm (B7 F cds (ps.map λ(i:Nat)=>(i:Int))) λks=>Zy (k::ks)) s=_;unfold Zm;rw[h p qan];dsimp only;rw[ZgQ key ps λq hq=>h q (qZ _ hq)];rfl
theorem Zh1 {K:List Nat}(R:RightH n jN hs)(h:∀x<n,hs.getD x 0<m)(hK:K∈kn jN n)(hm:K.length=m):XX (YL hs)=m:=by
 obtain⟨u1,u2⟩:=Zau (YL hs);refine qa2 ?_ ?_
 ·have:=VI (b:=(qj m).map λ(i:Nat)=>(i:Int)) u1 λx hx=>by
   have hx:=(u2 x).mp hx;obtain⟨y,hy,rfl⟩:=ql.mp hx;obtain⟨i,hi,e⟩:=qaa.mp hy;have:=h i (by rw[<-R.len];exact hi);exact ql.mpr ⟨y,qE.mpr (by simp_all),rfl⟩
  rw[qh,qI]at this;exact this
 ·obtain⟨q1,q2,q3⟩:=U0.mp hK
  have:=VI (a:=K.map λp=>((hs.getD p 0:Nat):Int)) (by
   refine z0.map _ (λa b h=>h) (yG (λ{a b} ha hb h=>?_) (Bs q1));have:=R.ri a (q2 a ha) b (q2 b hb) h (q3 a ha b hb h);omega) λx hx=>by
    obtain⟨p,hp,rfl⟩:=ql.mp hx;have hp:=q2 p hp;have hm:hs.getD p 0∈hs:=by
     rw[qJ,qB (by rw[R.len];exact hp)];simp
    exact(u2 _).mpr (ql.mpr ⟨hs.getD p 0,hm,rfl⟩)
  rw[qh,hm]at this;exact this
theorem Zmn (ns:List Int):ZH (ns.map D.int)=some ns:=by
 induction ns with
 | nil=>rfl
 | cons n r ih=>show(ZH (r.map D.int)).map (n :: ·)=_;rw[ih];rfl
abbrev ltS (ns:List Int):Nat->Nat->Bool:=λi j=>decide (ns.getD i 0<ns.getD j 0)
theorem Znv (ns:List Int):OrdW (ltS ns):=by
 refine⟨λa b c h1 h2=>?_,λa b h=>?_⟩
 ·grind
 ·grind
namespace PC
end PC
end TQ
namespace TQ
open L2 TF TS
open TP
open TP2
open TP3
def gWb:Zc->M Out:=(Zg (ZL (J8 Ux 5 [1] (VF (Za 0))))
 Zp)
def FWb:List D->M D:=runB 2 2 gWb
def gA1:Zc->M Out:=(Wo 2 (Zx Zfm (Zb (ZQ [none] (ZX (Za 1)) (Zv 0) Yc (ZZ (Zb (Za 0) (Zb (dC (.bl true)) Ze)))) Ze)))
def gA2:Zc->M Out:=(YS (ZW (Za 0)) (Zv 3)
 (Zg (YS (ZW (Za 0)) (Zv 4)
 (Zg (YS (ZW (Za 0)) (Zv 5)
 (Zg (Yw (XZ (asB (Zd YF (ZZ (Zb (Za 4) (Zb (Za 3) Ze))) (Za 2))) (asB (Zd YF (ZZ (Zb (Za 3) (Zb (Za 5) Ze))) (Za 2))))
 (Zg (J3 2 (fun ρ=>(ZZ (Zb (Za 4) (Zb (Za 5) Ze))) (Yk [2] ρ)) (fun ρ=>(dC (.bl true)) (Yk [2] ρ)))
 Zp)
 Zp)
 Zp))
 Zp))
 Zp))
def cA:Zc->M Bool:=(asB (Zx UJ (Zb (ZQ [none,some 2] (ZW (Za 0)) (Zv 0) Yc (Zd YF (ZZ (Zb (Za 0) (Zb (Za 0) Ze))) (Za 1))) Ze)))
def gAb:Zc->M Out:=Zg gA1 (Zg gA2 (Zg (Yw cA (λ_=>Zq) Zp) (Zg (ZL (Za 2)) Zp)))
def FAb:List D->M D:=runB 6 2 gAb
def gCb:Zc->M Out:=(Zg (ZL (Zx Yo (Zb (ZQ [none,some 2,some 1] (ZW (Za 0)) (Zv 0) (asB (Zd YF (ZZ (Zb (Za 0) (Zb (Za 1) Ze))) (Za 2))) (Za 0)) Ze)))
 Zp)
def FCb:List D->M D:=runB 3 3 gCb
def gCt:Zc->M Out:=(Zg (ZS 2 (Zu FAb (Zb (Za 0) (Zb (Za 1) Ze))))
 (Zg (ZS 3 (Zu FWb (Zb (Za 0) (Zb (Za 2) Ze))))
 (Zg (ZS 4 (ZQ [none,some 0,some 2] (ZW (Za 0)) (Zv 0) Yc (Zu FCb (Zb (Za 1) (Zb (Za 2) (Zb (Za 0) Ze))))))
 (Zg (ZS 5 (Zu UR (Zb (Za 3) (Zb (JC (Y1 2 (Zd Zj (Za 1) (Za 0))) [4] (Za 0)) Ze))))
 (Zg (ZS 6 (Zu UE (Zb (Za 3) Ze)))
 (Zg (ZL (ZZ (Zb (Zd Zj (Za 6) (dC (.int 0))) (Zb (UZ (Y1 2 (Zd Zj (Za 1) (Za 0))) [4] (Zd Zj (Za 6) (dC (.int 1)))) (Zb (Za 5) Ze)))))
 Zp))))))
def FCt:List D->M D:=runB 7 2 gCt
inductive Pth (L:Qa)(k:Nat):Nat->Nat->Prop
 | one {a b:Nat} (h:(a,b)∈L):Pth L k a b
 | two {a c b:Nat} (hc:c<k) (h1:Pth L k a c) (h2:Pth L k c b):Pth L k a b
theorem Pth.zero (h:Pth L 0 a b):(a,b)∈L:=by
 cases h with
 | one h=>exact h
 | two hc _ _=>omega
theorem Pth.split (h:Pth L (k+1) a b):Pth L k a b∨(Pth L k a k/\Pth L k k b):=by
 induction h with
 | one h=>exact .inl (.one h)
 | @two a c b hc _ _ i1 i2=>
  by_cases e:c=k
  ·grind
  ·have hk:c<k:=by omega
   rcases i1 with p | ⟨p,q⟩
   ·rcases i2 with u | ⟨u,v⟩
    ·exact .inl (.two hk p u)
    ·exact .inr ⟨.two hk p u,v⟩
   ·rcases i2 with u | ⟨u,v⟩
    ·exact .inr ⟨p,.two hk q u⟩
    simp_all
theorem Pth.trans (hL:∀p∈L,p.1<n/\p.2<n)(h1:Pth L n a c)(h2:Pth L n c b):Pth L n a b:=by
 have hc:c<n:=by
  clear h2
  induction h1 with
  | one h=>exact(hL _ h).2
  | two _ _ _ _ i2=>exact i2
 exact .two hc h1 h2
theorem jK (h3:(ρ[i]?).bind id=some (.du (Z5 [] T)))(hv:fv ρ s=some (.bl true,s))(hx:fx ρ s=some (Zt p,s))(hl:T.length<=1000000)(h:Q (.nx (ρ.set i (some (.du (Z5 [] (T ++ [p])))))) s):Ok (J3 i fx fv ρ) s Q:=by
 refine .eq ?_ h;have hk:=Znr T [];rw[yw,qcj]at hk;unfold J3 Zm;rw[hv];dsimp only;rw[hx];dsimp only;rw[h3];rw[show keyT (Zt p)=some (W1 p)from rfl,show Wm (.bl true)=some (.bl true)from rfl];dsimp only;rw[if_pos (by rw[Yi];omega),Zma];rfl
theorem J4 (ha:fa ρ s=some (nD a,s))(hb:fb ρ s=some (nD b,s))(hf:f ρ s=some (.du (Z5 [] T),s)):Zd YF (ZZ (Zb fa (Zb fb Ze))) f ρ s=some (.bl (decide ((a,b)∈T)),s):=
 ZA (WN (Zh ha (Zh hb rfl)) two_le) hf (Zo9 (a,b) T)
theorem ZiS (L:Qa)(hl:L.length<=100000)(s:Pn):Zx Zfm (Zb (ZQ [none] (ZX (Za 1)) (Zv 0) Yc (ZZ (Zb (Za 0) (Zb (dC (.bl true)) Ze)))) Ze) [o0,some (.lst (L.map Zt)),o2,o3,o4,o5] s=some (.du (Z5 [] L),s):=by
 have hc:=Xh (src:=[none]) (fi:=ZX (Za 1)) (τ:=Zv 0) (ft:=Yc) (fe:=ZZ (Zb (Za 0) (Zb (dC (.bl true)) Ze))) (ρ:=[o0,some (.lst (L.map Zt)),o2,o3,o4,o5]) (s:=s) (λd=>[some d]) (λ_=>true) (λd=>D.tup [d,.bl true]) (Wv rfl) (by rw[qh,Yi];omega) λd hd=>⟨rfl,rfl,λ_=>Zm6 rfl rfl⟩;rw[yd.mpr λ_ _=>rfl,qC]at hc;refine Z4 (Zh hc rfl) ?_;show(if (L.map ((λd=>D.tup [d,.bl true])∘Zt)).length<=xg then (WW [] (L.map ((λd=>D.tup [d,.bl true])∘Zt))).map D.du else none)=_;rw[if_pos (by rw[qh,Yi];omega)];have:=Zcd L [];rw[show(L.map ((λd=>D.tup [d,.bl true])∘Zt))=L.map λp=>D.tup [Zt p,.bl true]from rfl,this];rfl
theorem ZeS {n:Nat}{L:Qa}(hn:n<=24)(hl:L.length<=1000)(hL:∀p∈L,p.1<n/\p.2<n)(r:Nat->Nat->Bool)(hr:∀a b,r a b=true↔Pth L n a b)(s:Pn):Ok (gA2 [some (nD n),some (.lst (L.map Zt)),some (.du (Z5 [] L)),none,none,none]) s λo s'=>s=s'/\∃(T:Qa) (o3 o4 o5:Option D),(∀a b,decide ((a,b)∈T)=r a b)/\o=.nx [some (nD n),some (.lst (L.map Zt)),some (.du (Z5 [] T)),o3,o4,o5]:=by
 refine .sfor (λk ρ s'=>s=s'/\∃(T:Qa) (o3 o4 o5:Option D),T.length<=1000+k*10000/\(∀p∈T,Pth L n p.1 p.2)/\(∀a b,Pth L k a b->(a,b)∈T)/\ρ=[some (nD n),some (.lst (L.map Zt)),some (.du (Z5 [] T)),o3,o4,o5]) (.eq (XQ (n:=n) rfl (by omega)) ⟨⟨rfl,L,none,none,none,by omega,λp hp=>.one hp,λa b h=>h.zero,rfl⟩,λk d ρ s' hd hI=>?_,fun ρ' s' hI=>?_⟩)
 ·obtain⟨rfl,T,o3,o4,o5,hT,snd,cpl,rfl⟩:=hI
  obtain⟨hk,rfl⟩:=WQ hd;refine⟨_,rfl,?_⟩;refine Ok.seq (.sfor (λx ρ s'=>s=s'/\∃(T:Qa) (o4 o5:Option D),T.length<=1000+k*10000+x*100/\(∀p∈T,Pth L n p.1 p.2)/\(∀a b,Pth L k a b->(a,b)∈T)/\(∀a<x,∀b<n,Pth L (k+1) a b->(a,b)∈T)/\ρ=[some (nD n),some (.lst (L.map Zt)),some (.du (Z5 [] T)),some (nD k),o4,o5]) (.eq (XQ (n:=n) rfl (by omega)) ⟨⟨rfl,T,o4,o5,by omega,snd,cpl,λa ha=>by omega,rfl⟩,λx d ρ s' hd hJ=>?_,fun ρ' s' hJ=>?_⟩))
  ·obtain⟨rfl,T,o4,o5,hT,snd,cpl,dn,rfl⟩:=hJ
   obtain⟨hx,rfl⟩:=WQ hd;refine⟨_,rfl,?_⟩;refine Ok.seq (.sfor (λy ρ s'=>s=s'/\∃(T:Qa) (o5:Option D),T.length<=1000+k*10000+x*100+y/\(∀p∈T,Pth L n p.1 p.2)/\(∀a b,Pth L k a b->(a,b)∈T)/\(∀a<x,∀b<n,Pth L (k+1) a b->(a,b)∈T)/\(∀b<y,Pth L (k+1) x b->(x,b)∈T)/\ρ=[some (nD n),some (.lst (L.map Zt)),some (.du (Z5 [] T)),some (nD k),some (nD x),o5]) (.eq (XQ (n:=n) rfl (by omega)) ⟨⟨rfl,T,o5,by omega,snd,cpl,dn,λb hb=>by omega,rfl⟩,λy d ρ s' hd hK=>?_,fun ρ' s' hK=>?_⟩))
   ·obtain⟨rfl,T,o5,hT,snd,cpl,dn,dm,rfl⟩:=hK
    obtain⟨hy,rfl⟩:=WQ hd;refine⟨_,rfl,?_⟩;refine Ok.seq (.sif (.eq (s':=s) (a:=decide ((x,k)∈T)&&decide ((k,y)∈T)) (BK (Z9 (J4 rfl rfl rfl)) λ_=>Z9 (J4 rfl rfl rfl)) ?_));by_cases hc:(x,k)∈T/\(k,y)∈T
    ·rw[decide_eq_true hc.1,decide_eq_true hc.2,if_pos (by rfl)]
     refine .seq (jK (T:=T) (p:=(x,y)) rfl rfl (WN (Zh rfl (Zh rfl rfl)) two_le) (by omega) (.next (.next ⟨_,rfl,rfl,T ++ [(x,y)],_,?_,?_,?_,?_,?_,rfl⟩)))
     ·rw[qP,zo];omega
     ·intro p hp
      rcases qS.mp hp with h | h
      ·exact snd p h
      ·rw[qL.mp h]
       exact .two hk (snd _ hc.1) (snd _ hc.2)
     ·exact λa b h=>qM _ (cpl a b h)
     ·exact λa ha b hb h=>qM _ (dn a ha b hb h)
     ·intro b hb h
      by_cases e:b=y
      ·subst e;simp
      ·exact qM _ (dm b (by omega) h)
    ·rw[if_neg (by
      rw[zK,decide_eq_true_eq,decide_eq_true_eq];exact hc)]
     refine .next (.next ⟨_,rfl,rfl,T,_,by omega,snd,cpl,dn,?_,rfl⟩);intro b hb h;by_cases e:b=y
     ·subst e
      rcases h.split with z | ⟨z1,z2⟩
      ·exact cpl _ _ z
      ·exact absurd ⟨cpl _ _ z1,cpl _ _ z2⟩ hc
     ·exact dm b (by omega) h
   ·obtain⟨rfl,T,o5,hT,snd,cpl,dn,dm,rfl⟩:=hK
    rw[Y2]at hT dm;refine .next ⟨_,rfl,rfl,T,_,_,by omega,snd,cpl,?_,rfl⟩;intro a ha b hb h;by_cases e:a=x
    ·subst e;exact dm b hb h
    ·exact dn a (by omega) b hb h
  ·obtain⟨rfl,T,o4,o5,hT,snd,cpl,dn,rfl⟩:=hJ
   rw[Y2]at hT dn;refine .next ⟨_,rfl,rfl,T,_,_,_,by omega,snd,?_,rfl⟩;intro a b h;have hab:a<n/\b<n:=by
    have:∀{a b:Nat},Pth L (k+1) a b->a<n/\b<n:=λh=>by
     induction h with
     | one h=>exact hL _ h
     | two _ _ _ i1 i2=>exact⟨i1.1,i2.2⟩
    exact this h
   exact dn a hab.1 b hab.2 h
 obtain⟨rfl,T,o3,o4,o5,hT,snd,cpl,rfl⟩:=hI;rw[Y2]at cpl;refine⟨rfl,T,o3,o4,o5,λa b=>?_,rfl⟩;rw[yy,decide_eq_true_eq,hr];exact⟨λh=>snd _ h,cpl a b⟩
theorem ZeT {n a:Nat}(h:a<n):nD a∈Yt 0 n:=ql.mpr ⟨a,qE.mpr h,by show D.int (0+(a:Int))=_;rw[Int.zero_add]⟩
theorem ZeU {n:Nat}{L T:Qa}{o3 o4 o5:Option D}{r:Nat->Nat->Bool}(hn:n<=24)(hm:∀a b,decide ((a,b)∈T)=r a b)(s:Pn):∃b,cA [some (nD n),some (.lst (L.map Zt)),some (.du (Z5 [] T)),o3,o4,o5] s=some (b,s)/\(b=true↔∃a,a<n/\r a a=true):=by
 have hc:=Xh (src:=[none,some 2]) (fi:=ZW (Za 0)) (τ:=Zv 0) (ft:=Yc) (fe:=Zd YF (ZZ (Zb (Za 0) (Zb (Za 0) Ze))) (Za 1)) (ρ:=[some (nD n),some (.lst (L.map Zt)),some (.du (Z5 [] T)),o3,o4,o5]) (s:=s) (ds:=Yt 0 n) (λd=>[some d,some (.du (Z5 [] T))]) (λ_=>true) (λd=>.bl (r (Yg d) (Yg d))) (XQ (n:=n) rfl (by omega)) (by rw[Y2,Yi];omega) λd hd=>by
  obtain⟨q,hq,rfl⟩:=VG hd;exact⟨rfl,rfl,λ_=>(J4 (a:=q) (b:=q) rfl rfl rfl).trans (by rw[hm];rfl)⟩
 rw[yd.mpr λ_ _=>rfl]at hc;refine⟨_,Z9 (Z4 (Zh hc rfl) (ZeL (Yt 0 n) λd=>r (Yg d) (Yg d))),?_⟩;rw[y8];constructor
 ·rintro⟨d,hd,h⟩
  obtain⟨q,hq,rfl⟩:=VG hd;exact⟨q,hq,h⟩
 ·rintro⟨a,ha,h⟩
  exact⟨nD a,ZeT ha,h⟩
theorem Zfs {n:Nat}{L:Qa}(hn:n<=24)(hl:L.length<=1000)(hL:∀p∈L,p.1<n/\p.2<n)(r:Nat->Nat->Bool)(hr:∀a b,r a b=true↔Pth L n a b)(irr:∀a,r a a=false)(s:Pn):∃T:Qa,FAb [nD n,.lst (L.map Zt)] s=some (.du (Z5 [] T),s)/\∀a b,decide ((a,b)∈T)=r a b:=by
 have main:Ok (FAb [nD n,.lst (L.map Zt)]) s λd s'=>s=s'/\∃T:Qa,d=.du (Z5 [] T)/\∀a b,decide ((a,b)∈T)=r a b:=by
  refine Ok.runB rfl ?_;refine Ok.seq (.sown (.eq (ZiS L (by omega) s) ⟨rfl,?_⟩));refine Ok.seq ((ZeS hn hl hL r hr s).mono λo s' q=>?_);obtain⟨rfl,T,o3,o4,o5,hm,rfl⟩:=q;obtain⟨b,eb,hb⟩:=ZeU (L:=L) (o3:=o3) (o4:=o4) (o5:=o5) hn hm s;have hb:b=false:=by
   cases b with
   | false=>rfl
   | true=>obtain⟨a,_,h⟩:=hb.mp rfl;rw[irr]at h;cases h
  subst hb;refine Ok.seq (.sif (.eq (a:=false) eb (.next ?_)));exact Ok.seq (.sret (.eq rfl ⟨rfl,T,rfl,hm⟩))
 obtain⟨d,s',e,rfl,T,rfl,h⟩:=main;exact⟨T,e,h⟩
abbrev Z8 (n:Nat)(r:Nat->Nat->Bool):Qa:=(Wd n).filter λp=>r p.1 p.2||r p.2 p.1
def YO (n:Nat)(r:Nat->Nat->Bool)(p:Nat):Nat:=(Yx n λo=>r o p).length
theorem Zkm (hn:n<=1000)(hT:∀a b,decide ((a,b)∈T)=r a b)(s:Pn):FWb [nD n,.du (Z5 [] T)] s=some (Yd n (Z8 n r),s):=by
 refine Xy rfl (YY (XH ?_));refine Zme (ZaU rfl hn) rfl ((ZbU _ _)) rfl ?_ (ZeP _ _);have:=ZbV (row:=.lst (Yt 0 n)) (t:=5) (.inl rfl) (by rw[Y2];exact hn) (λp=>r p.1 p.2||r p.2 p.1) s (λp hp=>by
  rw[Y2]at hp;have hpp:=UY.mp hp;rw[range_getD (by omega),range_getD (by omega)];show ZaA [nD p.1,nD p.2,.du (Z5 [] T)] s=_;refine Zfq rfl ?_;rw[<-hT,<-hT];exact Zpd (J4 rfl rfl rfl) λ_=>J4 rfl rfl rfl)
 rw[Y2]at this;exact this
section
variable {n:Nat}{L:Qa}
theorem Zdv (hn:n<=1000)(hT:∀a b,decide ((a,b)∈T)=r a b)(p:Nat)(s:Pn):FCb [nD n,.du (Z5 [] T),nD p] s=some (nD (YO n r p),s):=by
 have hc:=Xh (src:=[none,some 2,some 1]) (fi:=ZW (Za 0)) (τ:=Zv 0) (ft:=asB (Zd YF (ZZ (Zb (Za 0) (Zb (Za 1) Ze))) (Za 2))) (fe:=Za 0) (ρ:=[some (nD n),some (.du (Z5 [] T)),some (nD p)]) (s:=s) (λd=>[some d,some (nD p),some (.du (Z5 [] T))]) (λd=>r (Yg d) p) (λd=>d) (XQ rfl (by omega)) (by rw[Y2,Yi];omega) λd hd=>by
  obtain⟨q,hq,rfl⟩:=VG hd;exact⟨rfl,Z9 ((J4 rfl rfl rfl).trans (by rw[hT];rfl)),λ_=>rfl⟩
 rw[Za2 n λo=>r o p]at hc;refine Xy rfl (YY (XH (Z4 (Zh hc rfl) ?_)));show some (D.int _)=some (D.int _);rw[qh];rfl
end
theorem Zdw (K:List Nat)(rk:Nat->Nat)(hF:∀p∈K,F (nD p::cds) s=some (nD (rk p),s))(hl:K.length<64)(hc:Y6 cds=true):∃C:List Nat,Vm F cds (K.map λ(i:Nat)=>(i:Int)) s=some (.lst (C.map nD),s)/\C.Perm K/\C.Pairwise λa b=>rk a<=rk b:=by
 have hk:=ZgQ (F:=F) (cds:=cds) (s:=s) (λp=>nD (rk p)) K hF;have e1:K.map (λp=>nD (rk p))=(K.map λp=>((rk p:Nat):Int)).map D.int:=by rw[qC];rfl
 have o:=Znv (K.map λp=>((rk p:Nat):Int));have pm:=Bo (n:=K.length) o;refine⟨(YR (ltS (K.map λp=>((rk p:Nat):Int))) K.length).map λi=>K.getD i 0,?_,?_,?_⟩
 ·unfold Vm
  rw[if_pos (by rw[hc,qh,decide_eq_true hl];rfl)];unfold Zm;rw[hk,e1];dsimp only;unfold ltD;rw[Zmn];dsimp only;rw[qh,qC];show some (D.lst _,s)=some (D.lst _,s);congr 3;refine zp λi hi=>?_;have hi:=qE.mp (pm.mem_iff.mp hi);show D.int _=D.int ((K.getD i 0:Nat):Int);rw[qJ,qG,qJ,qB hi];rfl
 ·have:=pm.map λi=>K.getD i 0
  rwa[TS.range_getD K 0]at this
 ·refine yz.mpr (yG (λ{a b} ha hb h=>?_) (ZgA o))
  have ha:=qE.mp (pm.mem_iff.mp ha);have hb:=qE.mp (pm.mem_iff.mp hb);simp_all
theorem ZiT {rk:Nat->Nat}(h:p<n):Y1 2 (Zd Zj (Za 1) (Za 0)) (nD p :: [.lst ((qj n).map λp=>nD (rk p))]) s=some (nD (rk p),s):=by
 refine Zfq rfl (ZA rfl rfl (X7 ?_));simp_all
theorem Zch (n:Nat)(rk:Nat->Nat):Y6 [.lst ((qj n).map λp=>nD (rk p))]=true:=by
 show(Y6 ((qj n).map λp=>nD (rk p))&&true)=true;rw[Zbn λd hd=>by obtain⟨p,_,rfl⟩:=ql.mp hd;rfl];rfl
theorem Zkn (hn:n<=24)(hl:L.length<=1000)(hL:∀p∈L,p.1<n/\p.2<n)(r:Nat->Nat->Bool)(hr:∀a b,r a b=true↔Pth L n a b)(irr:∀a,r a a=false)(s:Pn) :
  ∃C ps:List Nat,FCt [nD n,.lst (L.map Zt)] s=some (.tup [nD (om n (Z8 n r)),.lst (C.map nD),Yr (Ww n (Z8 n r) ps)],s)/\C.Perm (WH n (Z8 n r))/\C.Pairwise (λa b=>YO n r a<=YO n r b)/\ps.Perm (qj n)/\ps.Pairwise λa b=>YO n r a<=YO n r b:=by
 obtain⟨T,eT,hT⟩:=Zfs hn hl hL r hr irr s;have hw:IsWeb n (Z8 n r):=.filter _;obtain⟨ps,e1,p1,q1⟩:=Zdw (F:=Y1 2 (Zd Zj (Za 1) (Za 0))) (cds:=[.lst ((qj n).map λp=>nD (YO n r p))]) (s:=s) (qj n) (YO n r) (λp hp=>ZiT (qE.mp hp)) (by rw[qI];omega) (Zch _ _);have hmk:=(ZaE hw hn).1;obtain⟨k1,k2,k3⟩:=U0.mp hmk;have hkl:(WH n (Z8 n r)).length<=n:=Zh0;obtain⟨C,e2,p2,q2⟩:=Zdw (F:=Y1 2 (Zd Zj (Za 1) (Za 0))) (cds:=[.lst ((qj n).map λp=>nD (YO n r p))]) (s:=s) (WH n (Z8 n r)) (YO n r) (λp hp=>ZiT (k2 p hp)) (by omega) (Zch _ _);refine⟨C,ps,?_,p2,q2,p1,q1⟩;have hrk:=Xh (src:=[none,some 0,some 2]) (fi:=ZW (Za 0)) (τ:=Zv 0) (ft:=Yc) (fe:=Zu FCb (Zb (Za 1) (Zb (Za 2) (Zb (Za 0) Ze)))) (ρ:=[some (nD n),some (.lst (L.map Zt)),some (.du (Z5 [] T)),some (Yd n (Z8 n r)),none,none,none]) (s:=s) (ds:=Yt 0 n) (λd=>[some d,some (nD n),some (.du (Z5 [] T))]) (λ_=>true) (λd=>nD (YO n r (Yg d))) (XQ (n:=n) rfl (by omega)) (by rw[Y2,Yi];omega) λd hd=>by
  obtain⟨q,hq,rfl⟩:=VG hd;exact⟨rfl,rfl,λ_=>YK (Zh rfl (Zh rfl (Zh rfl rfl))) (Zdv (by omega) hT q s)⟩
 rw[yd.mpr λ_ _=>rfl,UA,qC]at hrk;have hrk':ZQ [none,some 0,some 2] (ZW (Za 0)) (Zv 0) Yc (Zu FCb (Zb (Za 1) (Zb (Za 2) (Zb (Za 0) Ze)))) [some (nD n),some (.lst (L.map Zt)),some (.du (Z5 [] T)),some (Yd n (Z8 n r)),none,none,none] s=some (.lst ((qj n).map λp=>nD (YO n r p)),s):=hrk;clear hrk;have hncl:=Zch n (YO n r);generalize hrl:((qj n).map λp=>nD (YO n r p))=RL at hrk' e1 e2 hncl;have hso:JC (Y1 2 (Zd Zj (Za 1) (Za 0))) [4] (Za 0) [some (nD n),some (.lst (L.map Zt)),some (.du (Z5 [] T)),some (Yd n (Z8 n r)),some (.lst RL),none,none] s=some (.lst (ps.map nD),s):=by
  unfold JC Zm;rw[show Za 0 [some (nD n),some (.lst (L.map Zt)),some (.du (Z5 [] T)),some (Yd n (Z8 n r)),some (.lst RL),none,none] s=some (nD n,s)from rfl];dsimp only;rw[show YU (Vt [some (nD n),some (.lst (L.map Zt)),some (.du (Z5 [] T)),some (Yd n (Z8 n r)),some (.lst RL),none,none] [4]) s=some ([.lst RL],s)from rfl];dsimp only;rw[if_pos (by omega)];rw[yA];exact e1
 have hmo:=Zmk hw hn s;have hh:=Zml n (Z8 n r) hw hn p1 s;have hW:=Zkm (n:=n) (by omega) hT s;generalize Ww n (Z8 n r) ps=hs at hh;generalize WH n (Z8 n r)=MK at hmo e2;generalize hWb:Z8 n r=WB at hW hmo hh hrk' hso;have hsc:UZ (Y1 2 (Zd Zj (Za 1) (Za 0))) [4] (Zd Zj (Za 6) (dC (.int 1))) [some (nD n),some (.lst (L.map Zt)),some (.du (Z5 [] T)),some (Yd n WB),some (.lst RL),some (Yr hs),some (.tup [nD (om n WB),Yr MK])] s=some (.lst (C.map nD),s):=by
  unfold UZ Zm;rw[show Zd Zj (Za 6) (dC (.int 1)) [some (nD n),some (.lst (L.map Zt)),some (.du (Z5 [] T)),some (Yd n WB),some (.lst RL),some (Yr hs),some (.tup [nD (om n WB),Yr MK])] s=some (Yr MK,s)from ZA rfl rfl (Zis _ _ _)];dsimp only;rw[show YU (Vt [some (nD n),some (.lst (L.map Zt)),some (.du (Z5 [] T)),some (Yd n WB),some (.lst RL),some (Yr hs),some (.tup [nD (om n WB),Yr MK])] [4]) s=some ([.lst RL],s)from rfl];dsimp only;show(match ZH (MK.map nD)with | some ns=>Vm (Y1 2 (Zd Zj (Za 1) (Za 0))) [D.lst RL] ns | none=>Zq) s=_;rw[Zcg MK];exact e2
 refine Xy rfl (jy ?_);refine Ok.seq (.sset (.eq (YK (Zh rfl (Zh rfl rfl)) eT) ?_));refine Ok.seq (.sset (.eq (YK (Zh rfl (Zh rfl rfl)) hW) ?_));refine Ok.seq (.sset (.eq hrk' ?_));refine Ok.seq (.sset (.eq (YK (Zh rfl (Zh hso rfl)) hh) ?_));refine Ok.seq (.sset (.eq (YK (Zh rfl rfl) hmo) ?_));exact Ok.seq (.sret (.eq (WN (Zh (ZA rfl rfl (B4 _ _)) (Zh hsc (Zh rfl rfl))) (by show 3<=xg;decide)) ⟨rfl,rfl⟩))
structure OrdN (n:Nat)(r:Nat->Nat->Bool):Prop where
 irr:∀a,r a a=false
 tr:∀a b c,r a b=true->r b c=true->r a c=true
 lt:∀a b,r a b=true->a<n/\b<n
section
variable {n:Nat}{r:Nat->Nat->Bool}
theorem Zft (n:Nat)(r:Nat->Nat->Bool):IsWeb n (Z8 n r):=.filter _
theorem Zdx (h:a≠b)(ha:a<n)(hb:b<n):tied (Z8 n r) a b=(r a b||r b a):=by
 rcases Nat.lt_or_gt_of_ne h with z | z
 ·exact Zcu z hb
 ·have:=Zcu (B:=λp=>r p.1 p.2||r p.2 p.1) z ha
  rw[Bool.or_comm];rw[<-this];unfold tied;rw[Nat.min_comm,Nat.max_comm]
theorem Zoe (o:OrdN n r)(h:r a b=true):YO n r a<YO n r b:=by
 have hna:a∉Yx n λx=>r x a:=λz=>by
  have:=(XI.mp z).2;rw[o.irr]at this
  cases this
 have:=VI (b:=Yx n λx=>r x b) (zx.mpr ⟨hna,Bs (Zdu _ _)⟩) λx hx=>by
   rcases qu.mp hx with rfl | hx
   ·exact XI.mpr ⟨(o.lt _ _ h).1,h⟩
   ·obtain⟨h1,h2⟩:=XI.mp hx
    exact XI.mpr ⟨h1,o.tr _ _ _ h2 h⟩
 exact this
theorem ZgR {K:List Nat}(o:OrdN n r){C:List Nat}(pm:C.Perm K)(hK:K∈kn (Z8 n r) n)(hs:C.Pairwise λa b=>YO n r a<=YO n r b):C.Pairwise λa b=>r a b=true:=by
 obtain⟨q1,q2,q3⟩:=U0.mp hK;have nd:=pm.nodup_iff.mpr (Bs q1);have both:=z0.and hs nd;refine yG (λ{a b} ha hb h=>?_) both;have ha:=pm.mem_iff.mp ha;have hb:=pm.mem_iff.mp hb;have ht:=q3 a ha b hb h.2;rw[Zdx h.2 (q2 a ha) (q2 b hb),qag]at ht;rcases ht with z | z
 ·exact z
 ·have:=Zoe o z
  omega
end
section
variable {n:Nat}{r:Nat->Nat->Bool}
theorem ZgS (o:OrdN n r)(hn:n<=24){c:List Nat}(hc:c.Pairwise λa b=>r a b=true)(hlt:∀x∈c,x<n):c.length<=om n (Z8 n r):=by
 have nd:c.Nodup:=hc.imp λ{a b} h e=>by rw[e,o.irr]at h;cases h
 have hK:(Yx n λx=>decide (x∈c))∈kn (Z8 n r) n:=U0.mpr ⟨Zdu _ _,λx hx=>(XI.mp hx).1,λa ha b hb ne=>by
  obtain⟨a1,a2⟩:=XI.mp ha;obtain⟨b1,b2⟩:=XI.mp hb;rw[Zdx ne a1 b1];obtain⟨i,hi,rfl⟩:=qaa.mp (of_decide_eq_true a2);obtain⟨j,hj,rfl⟩:=qaa.mp (of_decide_eq_true b2);have pw:=zW.mp hc;rcases qbp i j with z | z | z
  ·simp_all
  ·simp_all
  ·simp_all⟩
 exact qY (VI nd λx hx=>XI.mpr ⟨hlt x hx,decide_eq_true hx⟩) (ZpP (Zft n r) hn hK)
theorem ZgT (o:OrdN n r):∀qs:List Nat,qs.Nodup->(∀q∈qs,q<n)->(qs.Pairwise λa b=>YO n r b<=YO n r a)->∀x∈qs,∃c:List Nat,(c ++ [x]).Pairwise (λa b=>r a b=true)/\c.length=hr (Z8 n r) qs x/\∀y∈c,y<n
 | [],_,_,_,x,hx=>by simp at hx
 | p::qs,nd,hlt,hs,x,hx=>by
  have nd':=zx.mp nd;have hs':=yj.mp hs;have ih:=ZgT o qs nd'.2 (λq hq=>hlt q (qZ _ hq)) hs'.2;unfold hr;by_cases e:x=p
  ·rw[if_pos e]
   subst e;generalize hh:X5 ((qs.filter λo=>tied (Z8 n r) x o).map (hr (Z8 n r) qs))=h
   cases h with
   | zero=>exact⟨[],by simp,rfl,by simp⟩
   | succ h=>
    have hm:=(Bx ((qs.filter λo=>tied (Z8 n r) x o).map (hr (Z8 n r) qs))).2 h (by rw[hh];omega);obtain⟨q,hq,hqh⟩:=ql.mp hm;obtain⟨q1,q2⟩:=qD.mp hq;obtain⟨c,c1,c2,c3⟩:=ih q q1;have ne:x≠q:=λz=>nd'.1 (z▸q1);have hqn:=hlt q (qZ _ q1);have hxn:=hlt x qan;have hrq:r q x=true:=by
     rw[Zdx ne hxn hqn,qag]at q2;rcases q2 with z | z
     ·have:=Zoe o z
      have:=hs'.1 q q1;omega
     ·exact z
    refine⟨c ++ [q],zJ.mpr ⟨c1,by simp,λa ha b hb=>?_⟩,by rw[qP,c2,hqh];rfl,λy hy=>?_⟩
    ·rw[qL.mp hb]
     rcases qS.mp ha with z | z
     ·exact o.tr a q x ((zJ.mp c1).2.2 a z q (by simp)) hrq
     ·simp_all
    ·rcases qS.mp hy with z | z
     ·exact c3 y z
     ·rw[qL.mp z];exact hqn
  ·simp_all
theorem Znw (o:OrdN n r)(hn:n<=24)(pm:ps.Perm (qj n))(hs:ps.Pairwise λa b=>YO n r a<=YO n r b):∀x<n,(Ww n (Z8 n r) ps).getD x 0<om n (Z8 n r):=λx hx=>by
 rw[Zbo hx];have nd:=pm.nodup_iff.mpr yi;obtain⟨c,c1,c2,c3⟩:=ZgT o ps.reverse (qaV.mpr (z0.imp (λh=>ze h) nd)) (λq hq=>qE.mp (pm.mem_iff.mp (qaR.mp hq))) (qaV.mpr hs) x (qaR.mpr (pm.mem_iff.mpr (qE.mpr hx)));have:=ZgS o hn c1 λy hy=>by
  rcases qS.mp hy with z | z
  ·exact c3 y z
  ·simp_all
 rw[qP,zo,c2]at this;omega
end
def gTl:Zc->M Out:=(Zg (YS (ZW (Zd dMul (Zd Zj (Y4 (Zb (dC (.int 0)) (Zb (dC (.int 0)) (Zb (dC (.int 0)) (Zb (dC (.int 1)) (Zb (dC (.int 1)) (Zb (dC (.int 2)) (Zb (dC (.int 3)) Ze)))))))) (Zu Yy (Zb (Za 0) (Zb (dC (.int 7)) Ze)))) (Zx Zk2 (Zb (WK (Za 2) (Zd dGt (Za 1) (dC (.int 0)))) Ze)))) (Zv 8)
 (Zg (Jq 5 (Xa true (Zu Yy (Zb (Za 0) (Zb (Zd Y0 (Zx Yo (Zb (Za 5) Ze)) (dC (.int 1))) Ze)))) (Xa true (ZZ (Zb (Zu Yy (Zb (Za 0) (Zb (Za 1) Ze))) (Zb (Zu Yy (Zb (Za 0) (Zb (Za 1) Ze))) Ze)))))
 Zp))
 (Zg (ZL (Za 5))
 Zp))
def gTpr:Zc->M Out:=(Zg (ZS 3 (Zu VM (Zb (Za 0) (Zb (Za 1) Ze))))
 (Zg (ZS 4 (Zd Y0 (dC (.int 1)) (Zu Yy (Zb (Za 0) (Zb (dC (.int 5)) Ze)))))
 (Zg (Wo 5 (Y4 Ze))
 (Zg (YS (ZW (Za 1)) (Zv 6)
 (Zg (YS (ZW (Za 6)) (Zv 7)
 (Zg (Yw (asB (Zd WC (Zu Yy (Zb (Za 0) (Zb (dC (.int 8)) Ze))) (Za 4)))
 (Zg (Jq 5 (Xa true (Zu Yy (Zb (Za 0) (Zb (Zd Y0 (Zx Yo (Zb (Za 5) Ze)) (dC (.int 1))) Ze)))) (Xa true (ZZ (Zb (Zd Zj (Za 3) (Za 7)) (Zb (Zd Zj (Za 3) (Za 6)) Ze)))))
 Zp)
 Zp)
 Zp))
 Zp))
 (Zg (Yw (XZ (asB (Zd Y9 (Za 5) (Y4 Ze))) (asB (Zd Xk (Zu Yy (Zb (Za 0) (Zb (dC (.int 3)) Ze))) (dC (.int 0)))))
 (Zg (V0 5 (Xa false (Zd Zj (Za 5) (Zu Yy (Zb (Za 0) (Zb (Zx Yo (Zb (Za 5) Ze)) Ze))))))
 Zp)
 Zp)
 gTl)))))
def FTpr:List D->M D:=runB 9 3 gTpr
def gTlo:Zc->M Out:=(Zg (Wo 2 (Y4 Ze))
 (Zg (YS (ZW (Za 0)) (Zv 3)
 (Zg (Wo 4 (fun ρ=>(ZQ [none,none,some 3] (ZX (Za 1)) (VR 0 1) (asB (Zd Xk (Za 1) (Za 2))) (Za 0)) (Yk [2] ρ)))
 (Zg (ZS 5 (fun ρ=>(dC (.int 0)) (Yk [4,2] ρ)))
 (Zg (Zfe 1000000 (asB (Zd WC (Za 5) (Zx Yo (Zb (Za 4) Ze))))
 (Zg (UK 4 (Xa true (ZQ [none,none,some 4,some 5] (ZX (Za 1)) (VR 0 1) (XZ (asB (Zd Xk (Za 1) (Zd Zj (Za 2) (Za 3)))) (asB (Zd WG (Za 0) (Za 2)))) (Za 0))))
 (Zg (ZS 5 (fun ρ=>(Zd Y0 (Za 5) (dC (.int 1))) (Yk [4,2] ρ)))
 Zp)))
 (Zg (V0 2 (fun ρ=>(Bw (Za 4)) (Yk [2] ρ)))
 Zp)))))
 (Zg (ZL (Za 2))
 Zp)))
def FTlo:List D->M D:=runB 6 2 gTlo
theorem jw (h:Ok (f ρ) s λd s1=>XY d=true/\Q d s1):Ok (Xa fr f ρ) s Q:=
 .bind (h.mono λd s1 q=>.ite (by simp[q.1]) (.ret q.2))
theorem jE {g:Zc->M D}(h3:(ρ[i]?).bind id=some (.lst ds))(hl:ds.length<100000)(h:Ok (f ρ) s λd s1=>Ok (g ρ) s1 λe s2=>∃r:Nat,d=.int (r:Int)/\r<=100000/\Q (.nx (ρ.set i (some (.lst (ds.take r++e::ds.drop r))))) s2):Ok (Jq i f g ρ) s Q:=by
 refine .bind (h.mono λd s1 q=>.bind (q.mono λe s2 z=>?_));obtain⟨r,rfl,hr,hQ⟩:=z;simp only[h3];refine .ite ⟨by rw[Yi];omega,by omega,by omega⟩ (.ret ?_);exact hQ
def tri:Nat->Nat
 | 0=>0
 | j+1=>tri j+j
theorem Zpf:∀n,n<11->tri n<=45:=by decide
theorem Zmo (h:j<11):tri j<=45:=Zpf j h
theorem ZiU (L:Qa)(r:Nat)(p:Nat×Nat):(L.map Zt).take r++Zt p::(L.map Zt).drop r=(L.take r++p::L.drop r).map Zt:=by
 simp
theorem ZiV {α:Type}{L:List α}{p x:α}(h:x∈L.take r++p::L.drop r):x∈L∨x=p:=by
 grind
theorem plain_pairs (F:Qa):YX (F.map Zt)=true/\XM (F.map Zt)<=10:=by
 induction F with
 | nil=>exact⟨rfl,qaW rfl⟩
 | cons a l ih=>
  refine⟨?_,?_⟩
  ·show(Zr (Zt a)&&YX (l.map Zt))=true
   rw[ih.1];rfl
  ·exact Nat.max_le.mpr ⟨qaW rfl,ih.2⟩
def Fr (ps:List Nat)(n:Nat)(p:Nat×Nat):Prop:=∃i j,i<j/\j<n/\p=(ps.getD i 0,ps.getD j 0)
theorem Zh2 {b:Bool}{T n:Nat}{s:Pn}{Q:Out->Pn->Prop}(ok:Xw T s)(hT:T<800000000)(hn:n<=10)(cont:∀(ps:List Nat) (L:Qa) (s4:Pn) (q:Nat) (o6 o7:Option D),Xw (T+500) s4->ps.Perm (qj n)->L.length<=46->(∀p∈L,Fr ps n p)->Ok (gTl [some .pen,some (nD n),some (.bl b),some (.lst (ps.map nD)),some (nD (1+q)),some (.lst (L.map Zt)),o6,o7,none]) s4 Q):Ok (gTpr [some .pen,some (nD n),some (.bl b),none,none,none,none,none,none]) s Q:=by
 refine Ok.seq (.sset (.fn (Zh rfl (Zh rfl rfl)) ((Zly ok (by omega) (by omega)).mono λd s1 q=>?_)));obtain⟨ok1,xs,rfl,hpx⟩:=q;obtain⟨ps,rfl,hpp⟩:=ZhU hpx;have hps:(YL ps).map D.int=ps.map nD:=by unfold YL;rw[qC];rfl
 rw[hps];have hpl:ps.length=n:=by rw[hpp.length_eq,qI]
 have hix:∀i,i<n->Zj (.lst (ps.map nD)) (nD i)=some (nD (ps.getD i 0)):=λi hi=>by
  refine X7 ?_;rw[qG,qJ,qB (by omega)];rfl
 refine Ok.seq (.sset (.op (.eq (a:=.int 1) rfl (.drawD (m:=5) ok1 (by omega) (Zh rfl (Zh rfl rfl)) (by omega) (by omega) λq s2 hq ok2=>⟨nD (1+q),rfl,?_⟩))));refine Ok.seq (.sown (.eq (a:=.lst []) rfl ⟨rfl,?_⟩));refine Ok.seq (.sfor (λj ρ s'=>Xw (T+20+j*40) s'/\∃(L:Qa) (o6 o7:Option D),L.length<=tri j/\(∀p∈L,Fr ps n p)/\ρ=[some .pen,some (nD n),some (.bl b),some (.lst (ps.map nD)),some (nD (1+q)),some (.lst (L.map Zt)),o6,o7,none]) (.eq (XQ (n:=n) rfl (by omega)) ⟨⟨ok2.mono (by omega),[],none,none,by simp,by simp,rfl⟩,λj d ρ s' hd hI=>?_,fun ρ' s' hI=>?_⟩))
 ·obtain⟨ok3,L,o6,o7,hL,hF,rfl⟩:=hI
  obtain⟨hj,rfl⟩:=WQ hd;have ht:=Zmo (j:=j) (by omega);refine⟨_,rfl,?_⟩;refine Ok.seq (.sfor (λi ρ s'=>Xw (T+20+j*40+i*2) s'/\∃(L:Qa) (o7:Option D),L.length<=tri j+i/\(∀p∈L,Fr ps n p)/\ρ=[some .pen,some (nD n),some (.bl b),some (.lst (ps.map nD)),some (nD (1+q)),some (.lst (L.map Zt)),some (nD j),o7,none]) (.eq (XQ (n:=j) rfl (by omega)) ⟨⟨ok3.mono (by omega),L,o7,by omega,hF,rfl⟩,λi d ρ s' hd hJ=>?_,fun ρ' s' hJ=>?_⟩))
  ·obtain⟨ok4,L,o7,hL,hF,rfl⟩:=hJ
   obtain⟨hi,rfl⟩:=WQ hd;refine⟨_,rfl,?_⟩;refine Ok.seq (.sif (.asB (.op (.drawD (m:=8) ok4 (by omega) (Zh rfl (Zh rfl rfl)) (by omega) (by omega) λz s5 hz ok5=>.eq (a:=nD (1+q)) rfl ⟨_,rfl,_,rfl,?_⟩))));split
   ·refine .seq (jE (ds:=L.map Zt) rfl (by rw[qh];omega) (jw (.drawD (m:=L.length+1) ok5 (by omega) (Zh rfl (Zh (ZA (d:=nD L.length) (e:=.int 1) (Z4 (Zh rfl rfl) (show some (D.int _)=some (D.int _) by rw[qh])) rfl rfl) rfl)) (by omega) (by omega) λr s6 hr ok6=>⟨rfl,jw (.eq (a:=Zt (ps.getD i 0,ps.getD j 0)) (WN (Zh (ZA rfl rfl (hix i (by omega))) (Zh (ZA rfl rfl (hix j hj)) rfl)) two_le) ⟨rfl,r,rfl,by omega,.next (.next ⟨_,rfl,ok6.mono (by omega),L.take r++(ps.getD i 0,ps.getD j 0)::L.drop r,some (nD i),?_,?_,?_⟩)⟩)⟩)))
    ·rw[qP,zB,yg,List.length_drop];omega
    ·intro p hp
     rcases ZiV hp with w | w
     ·exact hF p w
     ·exact⟨i,j,hi,hj,w⟩
    ·rw[<-ZiU];rfl
   ·exact .next (.next ⟨_,rfl,ok5.mono (by omega),L,some (nD i),by omega,hF,rfl⟩)
  ·obtain⟨ok4,L,o7,hL,hF,rfl⟩:=hJ
   rw[Y2]at ok4 hL;exact .next ⟨_,rfl,ok4.mono (by omega),L,some (nD j),o7,hL,hF,rfl⟩
 obtain⟨ok3,L,o6,o7,hL,hF,rfl⟩:=hI;rw[Y2]at ok3 hL;have ht:=Zmo (j:=n) (by omega);refine Ok.seq (Ok.mono (Q:=λo s'=>Xw (T+500) s'/\∃L:Qa,L.length<=46/\(∀p∈L,Fr ps n p)/\o=.nx [some .pen,some (nD n),some (.bl b),some (.lst (ps.map nD)),some (nD (1+q)),some (.lst (L.map Zt)),o6,o7,none]) ?_ λo s' z=>?_)
 ·have hpp2:=plain_pairs L
  refine .sif (.bind (.eq (Z9 (ZA (d:=.lst (L.map Zt)) (e:=.lst []) rfl rfl (Zkk _ hpp2.1 hpp2.2))) ?_));by_cases hne:L.map Zt=[]
  ·rw[decide_eq_true hne]
   refine .ret ?_;exact .next ⟨ok3.mono (by omega),L,by omega,hF,rfl⟩
  ·rw[decide_eq_false hne]
   have hpos:0<L.length:=by
    cases L with
    | nil=>exact absurd rfl hne
    | cons a r=>exact Nat.succ_pos _
   refine .asB (.op (.drawD (m:=3) ok3 (by omega) (Zh rfl (Zh rfl rfl)) (by omega) (by omega) λz s5 hz ok5=>.eq (a:=.int 0) rfl ⟨_,eqi _ _,_,rfl,?_⟩));split
   ·refine .seq (.sapp (ds:=L.map Zt) rfl (by rw[qh,Yi];omega) (jw (.op (.eq (a:=.lst (L.map Zt)) rfl (.drawD (m:=L.length) ok5 (by omega) (Zh rfl (Zh (Z4 (Zh rfl rfl) (show some (D.int _)=some (D.int _) by rw[qh])) rfl)) hpos (by omega) λr s6 hr ok6=>⟨Zt (L.getD r (0,0)),?_,rfl,.next ⟨ok6.mono (by omega),L ++ [L.getD r (0,0)],?_,?_,?_⟩⟩)))))
    ·refine X7 ?_
     rw[qG,qJ,qB hr];rfl
    ·rw[qP,zo];omega
    ·intro p hp
     rcases qS.mp hp with w | w
     ·exact hF p w
     ·rw[qL.mp w,qJ,qB hr]
      exact hF _ (yr hr)
    ·rw[zI];rfl
   ·exact .next ⟨ok5.mono (by omega),L,by omega,hF,rfl⟩
 obtain⟨ok4,L,hL,hF,rfl⟩:=z;exact cont ps L s' q o6 o7 ok4 hpp hL hF
theorem Znx {L:Qa}(hl:L.length<=1000)(k:Nat)(s:Pn)(h1:(ρ[1]?).bind id=some (.lst (L.map Zt)))(hb:WF [none,none,some 3] ρ=[none,none,some (nD k)]):ZQ [none,none,some 3] (ZX (Za 1)) (VR 0 1) (asB (Zd Xk (Za 1) (Za 2))) (Za 0) ρ s=some (.lst (((L.filter λp=>decide (p.2=k)).map (·.1)).map nD),s):=by
 have hc:=Xh (src:=[none,none,some 3]) (fi:=ZX (Za 1)) (τ:=VR 0 1) (ft:=asB (Zd Xk (Za 1) (Za 2))) (fe:=Za 0) (ρ:=ρ) (s:=s) (ds:=L.map Zt) (λd=>[some (nD (VA d).1),some (nD (VA d).2),some (nD k)]) (λd=>decide ((VA d).2=k)) (λd=>nD (VA d).1) (Wv (by unfold Za YU;rw[h1])) (by rw[qh,Yi];omega) λd hd=>by
  obtain⟨p,_,rfl⟩:=ql.mp hd;rw[hb];exact⟨rfl,Z9 (ZA rfl rfl (by show some (D.bl (ZM _ _))=_;rw[ZhS])),λ_=>rfl⟩
 rw[yb,qC]at hc;rw[hc,qC];rfl
theorem ZgU (l:List Nat):Ud (l.map nD)=true:=by
 induction l with
 | nil=>rfl
 | cons a l ih=>show(XY (nD a)&&Ud (l.map nD))=true;rw[ih];rfl
theorem Zny {L:Qa}(hl:L.length<=1000){lw:List Nat}(hat:at'<lw.length)(s:Pn)(h1:(ρ[1]?).bind id=some (.lst (L.map Zt)))(hb:WF [none,none,some 4,some 5] ρ=[none,none,some (.lst (lw.map nD)),some (nD at')]):ZQ [none,none,some 4,some 5] (ZX (Za 1)) (VR 0 1) (XZ (asB (Zd Xk (Za 1) (Zd Zj (Za 2) (Za 3)))) (asB (Zd WG (Za 0) (Za 2)))) (Za 0) ρ s=some (.lst (((L.filter λp=>decide (p.2=lw.getD at' 0) && !decide (p.1∈lw)).map (·.1)).map nD),s):=by
 have hix:Zj (.lst (lw.map nD)) (nD at')=some (nD (lw.getD at' 0)):=by
  refine X7 ?_;rw[qG,qJ,qB hat];rfl
 have hc:=Xh (src:=[none,none,some 4,some 5]) (fi:=ZX (Za 1)) (τ:=VR 0 1) (ft:=XZ (asB (Zd Xk (Za 1) (Zd Zj (Za 2) (Za 3)))) (asB (Zd WG (Za 0) (Za 2)))) (fe:=Za 0) (ρ:=ρ) (s:=s) (ds:=L.map Zt) (λd=>[some (nD (VA d).1),some (nD (VA d).2),some (.lst (lw.map nD)),some (nD at')]) (λd=>decide ((VA d).2=lw.getD at' 0) && !decide ((VA d).1∈lw)) (λd=>nD (VA d).1) (Wv (by unfold Za YU;rw[h1])) (by rw[qh,Yi];omega) λd hd=>by
  obtain⟨p,_,rfl⟩:=ql.mp hd;rw[ZjB,hb];exact⟨rfl,BK (Z9 (ZA rfl (ZA rfl rfl hix) (by show some (D.bl (ZM _ _))=_;rw[ZhS]))) λ_=>Z9 (ZA rfl rfl (Za5 _ _)),λ_=>rfl⟩
 rw[yb,qC]at hc;rw[hc,qC];rfl
theorem ZiW {α:Type}{p q r:α->Bool}(h:∀x,p x=true->r x=true)(h2:∀x,q x=true->r x=true)(h3:∀x,p x=true->q x=true->False):∀l:List α,(l.filter p).length+(l.filter q).length<=(l.filter r).length
 | []=>by simp
 | a::l=>by
  have ih:=ZiW h h2 h3 l
  grind
theorem ZgV {lw:List Nat}(h:lw.length<64)(hm:∀x,x∈lw↔x<n/\p x=true)(hf:f ρ s=some (.lst (lw.map nD),s)):Bw f ρ s=some (.lst ((Yx n p).map nD),s):=by
 unfold Bw Zm;rw[hf];show(match ZH (lw.map nD)with | some ns=>if ns.length<64 then Zy (D.lst ((Xo (Y7 ns)).map .int))else Zq | none=>Zq) s=_;rw[Zcg];show(if (YL lw).length<64 then Zy (D.lst ((Xo (Y7 (YL lw))).map .int))else Zq) s=_;have rs:(Yx n p).Pairwise (· < ·):=(range_rise n).sublist zk;have e:YL (Yx n p)=Xo (Y7 (YL lw)):=by
  refine ZaW ((qac ?_ (Zau (YL lw)).1).mpr λx=>?_) (yz.mpr (rs.imp λh=>by omega))
  ·exact yz.mpr (rs.imp λh=>by omega)
  ·rw[(Zau (YL lw)).2 x]
   unfold YL;rw[ql,ql];constructor
   ·rintro⟨a,ha,rfl⟩;exact⟨a,(hm a).mpr (XI.mp ha),rfl⟩
   ·rintro⟨a,ha,rfl⟩;exact⟨a,XI.mpr ((hm a).mp ha),rfl⟩
 rw[if_pos (by unfold YL;simp_all),<-e];unfold YL;rw[qC];rfl
abbrev YT (n:Nat)(r:Nat->Nat->Bool)(k:Nat):List D:=(qj k).map λp=>.lst ((Yx n λo=>r o p).map nD)
theorem Znz {n:Nat}{L:Qa}(hn:n<=10)(hl:L.length<=60)(hL:∀p∈L,p.1<n/\p.2<n){r:Nat->Nat->Bool}(hr:∀a b,r a b=true↔Pth L n a b)(s:Pn):FTlo [nD n,.lst (L.map Zt)] s=some (.lst (YT n r n),s):=by
 have h1:∀p∈L,r p.1 p.2=true:=λp hp=>(hr _ _).mpr (.one hp);have tr:∀a b c,r a b=true->r b c=true->r a c=true:=λa b c x y=>(hr _ _).mpr (Pth.trans hL ((hr _ _).mp x) ((hr _ _).mp y));apply jy;refine Ok.runB rfl ?_;refine Ok.seq (.sown (.eq (a:=.lst []) rfl ⟨rfl,?_⟩));refine Ok.seq (.sfor (λk ρ s'=>s=s'/\∃(o3 o4 o5:Option D),ρ=[some (nD n),some (.lst (L.map Zt)),some (.lst (YT n r k)),o3,o4,o5]) (.eq (XQ (n:=n) rfl (by omega)) ⟨⟨rfl,none,none,none,rfl⟩,λk d ρ s' hd hI=>?_,fun ρ' s' hI=>?_⟩))
 ·obtain⟨rfl,o3,o4,o5,rfl⟩:=hI
  obtain⟨hk,rfl⟩:=WQ hd;refine⟨_,rfl,?_⟩;refine Ok.seq (.sown (.eq (Znx (L:=L) (by omega) k s rfl rfl) ⟨rfl,?_⟩));refine Ok.seq (.sset (.eq (a:=nD 0) rfl ?_));refine Ok.seq (jH (λm ρ s'=>s=s'/\∃(lw:List Nat) (at':Nat),m=100-at'/\at'<=lw.length/\lw.length<=(L.filter λp=>decide (p.1∈lw)).length/\(∀x∈lw,r x k=true)/\(∀p∈L,p.2=k->p.1∈lw)/\(∀i<at',∀p∈L,p.2=lw.getD i 0->p.1∈lw)/\ρ=[some (nD n),some (.lst (L.map Zt)),some (.lst (YT n r k)),some (nD k),some (.lst (lw.map nD)),some (nD at')]) 100 (by omega) ⟨rfl,(L.filter λp=>decide (p.2=k)).map (·.1),0,rfl,by omega,?_,λx hx=>?_,λp hp e=>ql.mpr ⟨p,qD.mpr ⟨hp,decide_eq_true e⟩,rfl⟩,λi hi=>by omega,rfl⟩ λm ρ s' hI=>?_)
  ·rw[qh]
   have e:(L.filter λp=>decide (p.2=k))=((L.filter λp=>decide (p.1∈(L.filter λp=>decide (p.2=k)).map (·.1))).filter λp=>decide (p.2=k)):=by
    rw[List.filter_filter];refine qbn λp hp=>?_;by_cases z:p.2=k
    ·rw[decide_eq_true z,decide_eq_true (ql.mpr ⟨p,qD.mpr ⟨hp,decide_eq_true z⟩,rfl⟩)];rfl
    ·rw[decide_eq_false z];rfl
   have e2:=zh (λp:Nat×Nat=>decide (p.2=k)) (L.filter λp=>decide (p.1∈(L.filter λp=>decide (p.2=k)).map (·.1)));have e3:=congrArg yR e;omega
  ·obtain⟨p,hp,rfl⟩:=ql.mp hx
   obtain⟨p1,p2⟩:=qD.mp hp;have:=h1 p p1
   rwa[of_decide_eq_true p2]at this
  obtain⟨rfl,lw,at',hm,hat,hlw,hrr,hin,hcl,rfl⟩:=hI;have hlw2:lw.length<=60:=qY hlw (qY (zh _ _) hl);refine .eq (s':=s) (a:=decide (at'<lw.length)) (Z9 (ZA (d:=nD at') (e:=nD lw.length) rfl (Z4 (Zh rfl rfl) (show some (D.int _)=some (D.int _) by rw[qh])) (Zpa _ _))) ?_;by_cases hc:at'<lw.length
  ·rw[decide_eq_true hc,if_pos rfl]
   have hnw:((L.filter λp=>decide (p.2=lw.getD at' 0) && !decide (p.1∈lw)).map (·.1)).length<=60:=by
    rw[qh];exact qY (zh _ _) hl
   refine Ok.seq (.sext (ds:=lw.map nD) rfl (.eq (Zhh (Zny (L:=L) (by omega) hc s rfl rfl) (by
    show(XY (.lst _)||(true&&Ud _))=true;rw[ZgU];rfl)) ⟨_,rfl,by rw[qh,qh,Yi];omega,?_⟩))
   refine Ok.seq (.sset (.eq (a:=nD (at'+1)) (ZA (d:=nD at') (e:=.int 1) rfl rfl rfl) (.next ⟨100-(at'+1),by omega,rfl,lw++(L.filter λp=>decide (p.2=lw.getD at' 0) && !decide (p.1∈lw)).map (·.1),at'+1,rfl,?_,?_,?_,λp hp e=>qM _ (hin p hp e),?_,?_⟩)))
   ·rw[qP];omega
   ·have:=ZiW (p:=λp:Nat×Nat=>decide (p.1∈lw)) (q:=λp:Nat×Nat=>(decide (p.2=lw.getD at' 0) && !decide (p.1∈lw))&&decide (p∈L)) (r:=λp:Nat×Nat=>decide (p.1∈lw++(L.filter λp=>decide (p.2=lw.getD at' 0) && !decide (p.1∈lw)).map (·.1))) (λx hx=>by
     have:=of_decide_eq_true hx;exact decide_eq_true (qM _ this)) (λx hx=>by
     rw[zK,decide_eq_true_eq]at hx;exact decide_eq_true (qk _ (ql.mpr ⟨x,qD.mpr ⟨hx.2,hx.1⟩,rfl⟩))) (λx a1 a2=>by
     rw[zK,zK]at a2;rw[a1]at a2;exact absurd a2.1.2 (by decide)) L
    have e:(L.filter λp:Nat×Nat=>(decide (p.2=lw.getD at' 0) && !decide (p.1∈lw))&&decide (p∈L))=L.filter λp=>decide (p.2=lw.getD at' 0) && !decide (p.1∈lw):=qbn λp hp=>by rw[decide_eq_true hp,Bool.and_true]
    rw[e]at this;rw[qP,qh];omega
   ·intro x hx
    rcases qS.mp hx with w | w
    ·exact hrr x w
    ·obtain⟨p,hp,rfl⟩:=ql.mp w
     obtain⟨p1,p2⟩:=qD.mp hp;rw[zK,decide_eq_true_eq]at p2;have e1:=h1 p p1;have e2:=hrr (lw.getD at' 0) (by rw[qJ,qB hc];exact yr hc);rw[<-p2.1]at e2;exact tr _ _ _ e1 e2
   ·intro i hi p hp e
    have eg:(lw++(L.filter λp=>decide (p.2=lw.getD at' 0) && !decide (p.1∈lw)).map (·.1)).getD i 0=lw.getD i 0:=by
     rw[qJ,zb (by omega),<-qJ]
    rw[eg]at e;by_cases hi2:i<at'
    ·exact qM _ (hcl i hi2 p hp e)
    ·have:i=at':=by omega
     subst this;by_cases z:p.1∈lw
     ·exact qM _ z
     ·exact qk _ (ql.mpr ⟨p,qD.mpr ⟨hp,by rw[decide_eq_true e,decide_eq_false z];rfl⟩,rfl⟩)
   ·rw[zI];rfl
  ·rw[decide_eq_false hc,if_neg (by decide)]
   have cl:∀p∈L,p.2∈lw->p.1∈lw:=λp hp z=>by
    obtain⟨i,hi,e⟩:=qa5 z;refine hcl i (by omega) p hp ?_;rw[qJ,qB hi];exact e.symm
   have full:∀a b,Pth L n a b->b=k∨b∈lw->a∈lw:=λa b h=>by
    induction h with
    | one z=>exact λe=>e.elim (hin _ z) (cl _ z)
    | two _ _ _ i1 i2=>exact λe=>i1 (.inr (i2 e))
   have hK1:=ZgV (n:=n) (p:=λo=>r o k) (lw:=lw) (by omega) (λx=>⟨λhx=>⟨?_,hrr x hx⟩,λhx=>full x k ((hr _ _).mp hx.2) (.inl rfl)⟩) (f:=Za 4) (ρ:=[some (nD n),some (.lst (L.map Zt)),none,some (nD k),some (.lst (lw.map nD)),some (nD at')]) (s:=s) rfl
   ·refine Ok.seq (.sapp (ds:=YT n r k) rfl (by rw[qh,qI,Yi];omega) (.eq hK1 (.next ⟨_,rfl,rfl,some (nD k),some (.lst (lw.map nD)),some (nD at'),?_⟩)))
    show [_,_,some (D.lst (YT n r k ++ [_])),_,_,_]=_;unfold YT;rw[qai,zI];rfl
   ·have:=(hr x k).mp (hrr x hx)
    clear hrr hx;generalize k=b at this
    induction this with
    | one z=>exact(hL _ z).1
    | two _ _ _ i1 _=>exact i1
 ·obtain⟨rfl,o3,o4,o5,rfl⟩:=hI
  rw[Y2];exact Ok.seq (.sret (.eq (a:=.lst (YT n r n)) rfl ⟨rfl,rfl⟩))
noncomputable def rL (L:Qa)(n a b:Nat):Bool:=@decide (Pth L n a b) (qbG _)
theorem U6:rL L n a b=true↔Pth L n a b:=@decide_eq_true_iff _ (qbG _)
theorem ZpR (pm:ps.Perm (qj n))(h:Fr ps n p):p.1<n/\p.2<n:=by
 obtain⟨i,j,hij,hj,rfl⟩:=h;have hl:ps.length=n:=by rw[pm.length_eq,qI]
 have g:∀i,i<n->ps.getD i 0<n:=λi hi=>by
  rw[qJ,qB (by omega)];exact qE.mp (pm.mem_iff.mp (yr _))
 grind
end TQ
namespace L2
section
variable {P:xB}{w:World}
structure Fly (P:xB)(w:World)(outer:List Env)(H:Hp)(s:Shared)(x:Addr)(cls:Value)(B:Heap)(a0:Value)(H':Hp)(s':Shared):Prop where
 os:s'.os=s.os
 bare:AllBare s'.gens
 un:Un (YE outer) [] H H' s.heap s'.heap
 hok:Yp P w H' s'.heap
 fl:qcm B outer x cls a0 s'.heap
 tr:∀b u o,H' b=some u->s'.heap.get? b=some o->B.get? b=some o
 old:∀b o,s.heap.get? b=some o->b∉YE outer->∃o',B.get? b=some o'
 new:s.heap.get? x=none
 nx:H' x=none
theorem Yq.obj {H:Hp}{h:Heap}{a:Addr}{o:HO}(x:Yq P w H h a o):∃u,h.get? a=some u:=by
 cases o with
 | lst xs=>obtain⟨_,_,_,_,e⟩:=x;exact⟨_,e⟩
 | tup xs=>obtain⟨_,_,_,o,e,_⟩:=x;exact⟨_,e⟩
 | dK kvs=>obtain⟨_,_,_,_,o,_,_,e,_⟩:=x;exact⟨_,e⟩
 | dT kvs=>obtain⟨_,_,_,_,o,_,_,e,_⟩:=x;exact⟨_,e⟩
 | set S n=>obtain⟨o,_,_,_,e,_⟩:=x;exact⟨_,e⟩
 | ins C dx fs=>obtain⟨_,_,_,e,_⟩:=x;exact⟨_,e⟩
 | own y=>exact x
 | xd fs=>obtain⟨_,⟨_,_,_,e,_⟩,_⟩:=x;exact⟨_,e⟩
 | rng lo hi=>obtain⟨_,_,_,e⟩:=x;exact⟨_,e⟩
 | frz ob u=>obtain⟨e,_⟩:=x;exact⟨_,e⟩
 | tbl ps=>exact⟨_,x⟩
 | met f y=>exact⟨_,x⟩
 | ext φ=>exact x.2.1
theorem Fly.at {outer:List Env}{H H':Hp}{s s':Shared}{x:Addr}{cls a0:Value}{B h:Heap}(F:Fly P w outer H s x cls B a0 H' s')(st:B.StaysIn h)(sl:s'.heap.UpToSlots h) :
  Un (YE outer) [] H H' s.heap h/\Yp P w H' h:=by
 have inB:∀b o,s'.heap.get? b=some o->(∃o',B.get? b=some o')->h.get? b=some o:=λb o e ⟨o',e'⟩=>by
  have:=F.fl.1 b o' e';rw[e]at this;cases this;exact st b o e'
 have fr:∀b,b∈YE outer->∀o,s'.heap.get? b=some o->∃sl,h.get? b=some { o with slots:=sl }:=λb hb o e=>by
  obtain⟨_,o',e',nf⟩:=F.fl.2.2.1.mem hb;rw[e]at e';cases e';exact sl b o e nf
 refine⟨⟨λb o e n hb _=>inB b o (F.un.keep b o e n hb (by simp)) (F.old b o e hb),λb o e n hb _=>?_,F.un.free,λb o e _=>?_,F.un.tups,F.un.frzs,F.un.tbls⟩,λa o e=>?_⟩
 ·obtain⟨s1,e1⟩:=F.un.slot b o e n hb (by simp)
  obtain⟨s2,e2⟩:=fr b hb _ e1;exact⟨s2,e2⟩
 ·obtain⟨o1,e1⟩:=F.un.there b o e (by simp)
  by_cases hb:b∈YE outer
  ·obtain⟨s2,e2⟩:=fr b hb _ e1
   exact⟨_,e2⟩
  ·exact⟨o1,inB b o1 e1 (F.old b o e hb)⟩
 ·refine(F.hok a o e).stay (λb u hb q=>?_) (λ_ q=>q) λ_ _ q=>q
  rcases hb with rfl | hb
  ·exact st _ _ (F.tr b o u e q)
  ·exact st _ _ (F.tr b _ u hb q)
def Vi (P:xB)(w:World):V3:=λouter H s E e s'=>∃x cls B a0 H',e=.ref x/\Fly P w outer H s x cls B a0 H' s'/\E cls none H'
theorem Un.shrink {fs fs':List Addr}{H H':Hp}{h h':Heap}(u:Un fs [] H H' h h')(k:∀b o,h.get? b=some o->b∈fs->b∈fs'):Un fs' [] H H' h h':=
 ⟨λb o e n hb hx=>u.keep b o e n (λz=>hb (k b o e z)) hx,λb o e n _ hx=>u.any e n hx,u.free,u.there,u.tups,u.frzs,u.tbls⟩
section
variable {K:qd}{mg:Str->Option Value}{base:Heap}{N:List Str}{qual:Str}{scope:Scope}{f:Addr}{cd:Value}{A:xC}{outer:List Env}{s₀:Shared}{H₀:Hp}{E:XK}
abbrev VD (P:xB)(w:World)(K:qd)(mg:Str->Option Value)(base:Heap)(N:List Str)(qual:Str)(scope:Scope)(f:Addr)(cd:Value)(A:xC)(outer:List Env)(s₀:Shared)(H₀:Hp)(E:XK):Cx:=Wn (Vi P w) P w K mg base N qual scope f cd A outer s₀ H₀ E
variable {jM:Qb}{σ:St}{H H':Hp}{s s':Shared}{x:Addr}{cls a0:Value}{B h:Heap}
theorem Zmp (I:Inv (VD P w K mg base N qual scope f cd A outer s₀ H₀ E) jM σ H s)(u:Un (YE (envOfC qual scope s₀.heap.objs.size f cd::outer)) [] H H' s.heap h)(ho:s'.os=s.os)(hb:AllBare s'.gens)(hok:Yp P w H' h)
  (fl:qcm B outer x cls a0 h) (tr:∀b u o,H' b=some u->h.get? b=some o->B.get? b=some o) (old:∀b o,s.heap.get? b=some o->b∉YE (envOfC qual scope s₀.heap.objs.size f cd::outer)->∃o',B.get? b=some o') (new:s.heap.get? x=none) (nx:H' x=none) :
  Fly P w outer H₀ s₀ x cls B a0 H' { s' with heap:=h }:=by
 have I2:Inv (Wn (Vi P w) P w K mg base N qual scope f cd A outer s₀ H₀ E) jM σ H s:=I;have hL:∀b o,s₀.heap.get? b=some o->b∈YE (envOfC qual scope s₀.heap.objs.size f cd::outer)->b∈YE outer:=λb o e hb=>by
  unfold YE at hb;rw[yH]at hb;have hf:(envOfC qual scope s₀.heap.objs.size f cd).frame=some s₀.heap.objs.size:=rfl;rw[hf]at hb;rcases qu.mp hb with z | z
  ·exact absurd (qy e) (by rw[z];exact ye _)
  ·exact z
 have u0:Un (YE (envOfC qual scope s₀.heap.objs.size f cd::outer)) [] H₀ H s₀.heap s.heap:=(show Un (YE outer) [] H₀ H s₀.heap s.heap from I2.base).mono (λb hb=>by
  unfold YE;rw[yH];exact qZ _ hb) λ_ z=>z
 refine⟨ho.trans I2.os,hb,(u0.trans u).shrink hL,hok,fl,tr,λb o e hb'=>?_,?_,nx⟩
 ·obtain⟨o1,e1⟩:=u0.there b o e (by simp)
  exact old b o1 e1 λz=>hb' (hL b o e z)
 ·cases e:s₀.heap.get? x with
  | none=>rfl
  | some o=>
   obtain⟨o1,e1⟩:=u0.there x o e (by simp);rw[new]at e1;cases e1
theorem ZpS:JK (Vi P w) (VD P w K mg base N qual scope f cd A outer s₀ H₀ E) E:=by
 rintro jM σ H s e s' I ⟨x,cls,B,a0,H',rfl,F,hE⟩;have F:Fly P w (envOfC qual scope s₀.heap.objs.size f cd::outer) H s x cls B a0 H' s':=F;refine wpAny_leaves_onW (L:=s₀.heap.objs.size) I.ok.frames rfl F.fl λh fl sl=>?_;obtain⟨u,hok⟩:=F.at fl.1 sl;exact⟨x,cls,B,a0,H',rfl,Zmp I u F.os F.bare hok fl (λb v o e q=>by
  obtain⟨o1,e1⟩:=(F.hok b v e).obj;have:=fl.1 b o1 (F.tr b v o1 e e1);rw[q]at this;cases this;exact F.tr b v _ e e1) F.old F.new F.nx,hE⟩
end
end
abbrev J5:List Value:=[.type "ValueError",.type "Exception",.type "BaseException",.type "object"]
structure ExcK (K:qd)(C:Addr)(bm:List Value):Prop where
 ex:∃(nm q:Str) (N:Addr) (bs:List Value) (hd:Bool) (sn:List Str) (sub:List Value) (ab:Bool) (col:Option Bool) (dd:Option Addr) (k0 k1 k2 k3 k5:Option Value),K.lookup C=some (excClassObj nm q C N bs bm hd sn sub ab col dd k0 k1 k2 k3 k5 "ValueError.__new__")/\
  ∃mN:Str->Option Value,mN "__init__" = none/\∀h:Heap,K.In h->h.Ns N mN/\OwnTail h J5 bm
 kp:zt K (.ref C)=true
theorem Zko {h:Heap}{bm:List Value}(T:OwnTail h J5 bm):bm.contains (.type "BaseException")=true:=T.hasType (by decide +kernel)
section
variable {P:xB}{w:World}{K:qd}{mg:Str->Option Value}{base:Heap}{N:List Str}{qual:Str}{scope:Scope}{f:Addr}{cd:Value}{A:xC}{outer:List Env}{s₀:Shared}{H₀:Hp}{E:XK}
theorem Zmq {C:Addr}{bm:List Value}{x:Str}{np cpos pos:Pos}{e0:Expr}{t:TA}(c:ExcK K C bm)(hg:Gl (VD P w K mg base N qual scope f cd A outer s₀ H₀ E) x)(hm:mg x=some (.ref C))(ha:PA (VD P w K mg base N qual scope f cd A outer s₀ H₀ E) [e0] t)
  (he:xh [e0] (VD P w K mg base N qual scope f cd A outer s₀ H₀ E).env=(false,eval e0 (VD P w K mg base N qual scope f cd A outer s₀ H₀ E).env)::xh [] (VD P w K mg base N qual scope f cd A outer s₀ H₀ E).env:=by rfl) (hdb:(x==("__debug__" : Str))=false:=by decide) :
  PS (VD P w K mg base N qual scope f cd A outer s₀ H₀ E) (.Raise (some (.Call (.Name x np) [e0] [] cpos)) none pos) (λ_ σ H=>t σ H λvs H1=>vs.length<=xg/\E (.ref C) none H1):=by
 intro jM s σ H D I h;obtain⟨nm,q,NN,bs,hd,sn,sub,ab,col,dd,k0,k1,k2,k3,k5,lk,mN,hi,ns⟩:=c.ex;have hT:=(ns s.heap I.kIn).2;refine wpAny_Raise_call_subT (C:=C) (nm:=nm) (q:=q) (N:=NN) (bs:=bs) (bm:=bm) (hdct:=hd) (sn:=sn) (sub:=sub) (ab:=ab) (col:=col) (dd:=dd) (k0:=k0) (k1:=k1) (k2:=k2) (k3:=k3) (k5:=k5) (mN:=mN) PySem.F.excBase_ValueError (Zko hT) (I.ok.hd rfl) ?_ hi (Bz I hg hm ⟨rfl,?_⟩ hdb)
 ·rw[he];rfl
 ·have h2:=ha cpos jM s σ H _ I h
  rw[he]at h2⊢;refine qaZ (xc h2 (λus s₂ ⟨vs,H1,I1,r,hl,q1⟩=>⟨rfl,by rw[<-r.length];exact hl,I1.kIn _ _ lk,(ns _ I1.kIn).1,(ns _ I1.kIn).2,λh' e hx=>?_⟩) λ_ _ y=>y);have stk:=I1.stack;have hfr:∀b,b∈YE (envOfC qual scope s₀.heap.objs.size f cd::outer)->H1 b=none:=I1.stkFree;have stB:(qaX s₂.heap (YE (envOfC qual scope s₀.heap.objs.size f cd::outer))).StaysIn s₂.heap:=λb o q=>qba _ q;have inB:∀b o,s₂.heap.get? b=some o->b∉YE (envOfC qual scope s₀.heap.objs.size f cd::outer)->(qaX s₂.heap (YE (envOfC qual scope s₀.heap.objs.size f cd::outer))).get? b=some o:=λb o e hb=>qa3 _ e hb;refine wpAny_leaves_madeW (L:=s₀.heap.objs.size) I1.ok.frames rfl stB (PySem.W.funFrames_hide stk λenv he a ha=>yO.mpr ⟨env,he,ha⟩) hx λh3 t fl tu tn sl=>?_;refine⟨e,.ref C,_,.ref t,H1,rfl,Zmp I1 (s':={ s₂ with heap:=h' }) (h:=h3) ⟨λb o e1 n hb _=>fl.1 _ _ (inB b o e1 hb),λb o e1 n hb _=>?_,λ_ _ _ n _=>n,λb o e1 _=>?_,λ_ _ q=>q,λ_ _ _ q=>q,λ_ ps q=>⟨#[],by rw[q];simp⟩⟩ rfl I1.bare (λa o e1=>?_) fl (λb u o e1 q=>?_) (λb o e1 hb=>⟨o,inB b o e1 hb⟩) hx.new ?_,q1⟩
  ·obtain⟨_,o',e',nf⟩:=stk.mem hb
   rw[e1]at e';cases e';exact sl b o (hx.keeps _ _ e1) nf
  ·by_cases hb:b∈YE (envOfC qual scope s₀.heap.objs.size f cd::outer)
   ·obtain⟨_,o',e',nf⟩:=stk.mem hb
    rw[e1]at e';cases e';obtain⟨s1,e2⟩:=sl b o (hx.keeps _ _ e1) nf;exact⟨_,e2⟩
   ·exact⟨o,fl.1 _ _ (inB b o e1 hb)⟩
  ·have tk:∀b u o,H1 b=some u->s₂.heap.get? b=some o->h3.get? b=some o:=λb u o e2 q=>fl.1 _ _ (inB b o q λz=>by rw[hfr b z]at e2;cases e2)
   refine(I1.hok a o e1).stay (λb u hb q=>?_) (λ_ q=>q) λ_ _ q=>q;rcases hb with rfl | hb
   ·exact tk b o u e1 q
   ·exact tk b _ u hb q
  ·obtain⟨o1,q1⟩:=(I1.hok b u e1).obj
   have hb:b∉YE (envOfC qual scope s₀.heap.objs.size f cd::outer):=λz=>by rw[hfr b z]at e1;cases e1
   have:=fl.1 b o1 (inB b o1 q1 hb);rw[q]at this;cases this;exact inB b _ q1 hb
  ·cases q:H1 e with
   | none=>rfl
   | some u=>
    obtain⟨o1,q1⟩:=(I1.hok e u q).obj;rw[hx.new]at q1;cases q1
end
open PySem.Builtin PySem.Builtin.Getset_descriptor PySem.Builtin.ObjectAttr PySem.Calls PySem.W
def Xj (x C:Addr)(h:Heap):Prop:=∃o,h.get? x=some o/\o.cls=.ref C
section
variable {prog:xB}{w:World}{A:xC}{E:xD}{s:Shared}{K:Frag}{x D:Addr}
theorem Xj.ty {M:Model}{h:Heap}(p:Xj x D h):Looks M h (typeOf (.ref x)) (.ref D):=by
 obtain⟨o,h1,h2⟩:=p;exact h2▸(Looks.ld h1).andThen .now
structure ClsK (K:Frag)(D:Addr):Prop where
 g1:findIn K (.ref D) "__getattribute__" = some (some (.builtin "BaseException.__getattribute__"))
 g2:findIn K (.ref D) "__getattr__" = some none
 mb:mroIn K D (.type "BaseException")=some true
 cl:(clsIn K D).isSome=true
 fi:findIn K (.ref D) "__class__" = some (some (.builtin "object.__class__"))
 sp:specialIn K (.builtin "object.__class__") "__get__" = some (some (.builtin "getset_descriptor.__get__"))
 tk:takesIn K (.builtin "object.__class__")=some true
 mr:mroIn K D (.type "object")=some true
theorem Zmr {M:Model}{h:Heap}(X:K.In h)(c:ClsK K D):Looks M h (find (.ref x) (.ref D) "__class__") (.bind (.builtin "getset_descriptor.__get__") (.builtin "object.__class__")):=
 (looks_findIn X c.fi).andThen ((show Looks M h (getOf (some (.builtin "object.__class__"))) _ from looks_specialIn X c.sp).andThen
  ((show Looks M h (dataDescriptor? (some (.builtin "object.__class__")) (some (.builtin "getset_descriptor.__get__"))) (some (.builtin "getset_descriptor.__get__",.builtin "object.__class__"))from(looks_takesIn X c.tk).andThen .now).andThen (Looks.tag .now)))
theorem ZnA {tp:Value}{R:Result->Shared->Prop}(X:K.In s.heap)(p:Xj x D s.heap)(c:ClsK K D)(h:R (.ok (.ret (.ref D))) s) :
  xo (xz prog w) A (.call (.builtin "getset_descriptor.__get__") ⟨[.builtin "object.__class__",.ref x,tp],[]⟩) R s:=by
 obtain⟨hh,g,dr,t,os⟩:=s;have L0:=Xj.ty (M:=xz prog w) p;have L1:=looks_mroIn (M:=xz prog w) X c.mr;refine codeAny_call_builtin KF.slot_gs.plain KF.entry_gs (KF.slot_gs.check _ _ _ _ _ _ _ _ KF.type_class (KF.args_gs _ _ _) ?_);unfold Builtin.«getset_descriptor.__get__» descrGet;rw[dga_obj];refine xa (xb ?_);unfold descrGetter descrCheckInstance descrNameAndClass isInstance;simp only[KF.owner_class]
 repeat lk
 refine⟨yQ _ (by decide +kernel),xm KF.entry_class ?_⟩;unfold Builtin.«object.__class__» shownTypeOf
 repeat lk
 exact h
theorem Zkp {M:Model}{nameV:Value}{Q:Unit->Shared->Prop}(X:K.In s.heap)(p:Xj x D s.heap)(c:ClsK K D)(hq:Q () s):xf M A (checkBuiltinCall "BaseException.__getattribute__" ⟨[.ref x,nameV],[]⟩) Q E s:=by
 obtain⟨hh,g,d,t,os⟩:=s;have L0:=Xj.ty (M:=M) p;have L1:=looks_mroIn (M:=M) X c.mb;have hk:builtinKind "BaseException.__getattribute__" = some .slot:=by decide +kernel
 have hsplit:splitId "BaseException.__getattribute__" = some ("BaseException","__getattribute__"):=by decide +kernel
 have ha:=F.args_bexc_ga (.ref x) nameV;simp only[checkBuiltinCall,hk,hsplit];refine xa ?_;unfold isInstance
 repeat lk
 repeat (first | wp_step | exact hq)
theorem Zkq {Q:Option Value->Shared->Prop}(X:K.In s.heap)(p:Xj x D s.heap)(c:ClsK K D)(h:Q (some (.ref D)) { s with toks:=s.toks+1 }):xf (xz prog w) A (getAttr? (.ref x) "__class__") Q E s:=by
 obtain⟨hh,g,d,t,os⟩:=s;have L0:=Xj.ty (M:=xz prog w) p;have L1:=looks_findIn (M:=xz prog w) X c.g1;have L2':=looks_findIn (M:=xz prog w) X c.g2;have L3:=Zmr (M:=xz prog w) (x:=x) X c;have f3:=F.attr_ValueError.ga.bind (.ref x);have hx1:(onTheHeap (qH D)&&yM "BaseException.__getattribute__" == yM "object.__getattribute__")=false:=by
  rw[show(yM "BaseException.__getattribute__" == yM "object.__getattribute__")=false by decide +kernel];rfl
 unfold getAttr? getAttrBy? getAttrBy;refine xa (wpAny_mkText (xa (wpAny_attempt (xu (xa (L0.at (xa (L1.at ?_))))))));show xf _ _ (if (onTheHeap (qH D)&&yM "BaseException.__getattribute__" == yM "object.__getattribute__")=true then _ else getAttrByItsOwn _ _ _ _ _ _) _ _ _;rw[hx1,if_neg yt];unfold getAttrByItsOwn;refine xa ((show xf _ _ (typeLookup (.ref D) "__getattr__") _ _ _ from L2'.at ?_));refine xa (wpAny_attempt (xu ?_));show xf _ _ (boundAndCalled _ _ _) _ _ _;unfold boundAndCalled;rw[f3];refine xa (xb ?_);refine xy (codeAny_call_builtin F.attr_ValueError.ga.plain F.entry_bexc_ga (Zkp X p c ?_));unfold Builtin.«object.__getattribute__»
 repeat (first | (with_reducible refine xa (L0.at ?_)) | (with_reducible refine xa (L3.at ?_)) | wp_step)
 refine ZnA (s:=⟨hh,g,d,t+1,os⟩) X p c ?_;exact xb (handed_on rfl (xb h))
theorem Zdy (c:ClsK K D):KitX K (.ref x) (.ref D) (Xj x D) where
 ty:=λ_ _ _ p=>p.ty
 it:=λ_ _ X _=>by
  obtain⟨cd,hc⟩:=zy.mp c.cl;unfold clsIn at hc;split at hc
  ·rename_i ho
   intro A' Q' E' s' k q;unfold isType loadHead;exact xa (wpAny_loadPart (k _ _ (X _ _ ho)) (xb q))
  ·cases hc
 ne:=λh tp dd jO n sl X htp=>by
  obtain⟨cd,hc⟩:=zy.mp c.cl;refine Bool.eq_false_iff.mpr λq=>?_;have e:D=tp:=qH.inj (beq_iff_eq.mp q);subst e;unfold clsIn at hc;split at hc
  ·rename_i ho
   cases (X _ _ ho).symm.trans htp
  ·cases hc
 ca:=λX p k=>Zkq X p c k
end
end L2
namespace L2
open PySem.Calls
abbrev Cx.inEx (X:Cx)(v:Value):Cx:={ X with A:=X.A.mark (some v),calm:=false,xe:=λ_ _=>False }
section
variable {X:Cx}{jM:Qb}{σ:St}{H H':Hp}{s s':Shared}{v:Value}
theorem Cx.Ok.inEx (ok:X.Ok)(v:Value):(X.inEx v).Ok:=
 ⟨ok.mod,ok.kind,ok.glob,ok.blt,ok.above,ok.inj,ok.has,ok.cab,λz=>y9 z,ok.frames,ok.stk,ok.exf,ok.bs,ok.bsz,ok.noex,ok.exfs,ok.funs,ok.frf⟩
theorem Inv.inEx (I:Inv X jM σ H s)(v:Value):Inv (X.inEx v) jM σ H s:=⟨I.ok.inEx v,I.os,I.bare,I.base,I.loc,I.cell,I.free,I.freeC,I.pin,I.hok,I.len⟩
theorem Inv.outEx (ok:X.Ok)(I:Inv (X.inEx v) jM σ H s):Inv X jM σ H s:=⟨ok,I.os,I.bare,I.base,I.loc,I.cell,I.free,I.freeC,I.pin,I.hok,I.len⟩
theorem Zkr {M:Model}{A:xC}{E:xD}{i:Nat}{n:Str}{pos:Pos}{Q:Unit->Shared->Prop}(I:Inv X jM σ H s)(hN:X.N.Nodup)(hi:X.N[i]?=some n)(hk:X.env.scope.names.lookup n=some .local)
  (h:∀s',Inv X jM (σ.set i none) H s'->Q () s'):xf M A (do bindName X.env n .none;unbindBehindTheSuite X.env n pos) Q E s:=by
 have hcls:(X.env.scope.kind == .class||(X.env.scope.kind == .module&&X.env.locals != X.env.globals))=false:=by rw[I.ok.kind];rfl
 refine xa (wpAny_bindName (ZbJ (v:=.non) I hN hi (.inl hk) rfl (λs1 I1=>?_) (.inr hk)));unfold unbindBehindTheSuite;refine wpAny_onRaise ?_;unfold unbindName;refine xa (wpAny_point (xa ?_));unfold deleteName;have hko:X.env.kindOf n=some .local:=hk;obtain⟨m,hn,hl⟩:=id I1.loc;have hmn:(m n).isSome=true:=by
  have hiσ:i < σ.length:=by rw[I.len];exact(qz.mp hi).1
  obtain⟨u,r,q⟩:=hl i n .non hi (qV hiσ) (.inl hk);rcases q with⟨_,e⟩ | ⟨k,_⟩
  ·rw[e];rfl
  ·rcases k with k | k <;> (rw[hko]at k;cases k)
 simp only[hko,hcls];rw[if_neg (by decide)];refine xa (wpAny_nsDel_keeps hn λh2 v hn2 hs2=>?_);rw[hmn];simp only[if_true,Bool.not_true,qar,if_false];refine xb (wpAny_point (h _ ?_));have cne:=I1.cne;obtain⟨oL,_,_,hoL,_⟩:=id hn;have kp:∀b o,s1.heap.get? b=some o->b≠X.env.locals->h2.get? b=some o:=λb o e ne=>(hs2.2 b ne).trans e;have neS:∀b o,X.s₀.heap.get? b=some o->b≠X.env.locals:=λb o e=>qA (qR (qy e) I.ok.above);refine⟨I.ok,I1.os,I1.bare,⟨λb o e k hb hx=>kp b o (I1.base.keep b o e k hb hx) (neS b o e),λb o e k hb hx=>?_,I1.base.free,λb o e hx=>?_,I1.base.tups,I1.base.frzs,I1.base.tbls⟩,⟨_,hn2,λj y v' e1 e2 e3=>?_⟩,λy c e=>?_,I1.free,I1.freeC,λp hp=>?_,λb o e=>?_,by rw[ym];exact I.len⟩
 ·obtain⟨sl,e1⟩:=I1.base.slot b o e k hb hx
  exact⟨sl,kp b _ e1 (neS b o e)⟩
 ·obtain⟨o',e1⟩:=I1.base.there b o e hx
  exact⟨o',kp b _ e1 (neS b o e)⟩
 ·by_cases hj:j=i
  ·subst hj
   have hiσ:j < σ.length:=by rw[I.len];exact(qz.mp hi).1
   rw[qV hiσ]at e2
   cases e2
  ·rw[qO (ze hj)]at e2
   obtain⟨u',r',q⟩:=hl j y v' e1 (by rw[qO (ze hj)];exact e2) e3;refine⟨u',r',?_⟩;rcases q with⟨k,e⟩ | ⟨k,c,e,z⟩
   ·refine .inl ⟨k,?_⟩
    have:y≠n:=λe=>hj (ZcQ hN e1 (e▸hi));simp[this,e]
   ·exact .inr ⟨k,c,e,z.sameBut hs2 (cne y c e)⟩
 ·obtain⟨w',z⟩:=I1.cell y c e
  exact⟨w',z.sameBut hs2 (cne y c e)⟩
 ·obtain⟨e,k,ne,nf,d⟩:=I1.pin p hp
  exact⟨kp _ _ e ne,k,ne,nf,d⟩
 ·refine(I1.hok b o e).stay (λc w' hc q=>kp c w' q ?_) (λ_ q=>q) λ_ _ q=>q
  rintro rfl;rcases hc with rfl | hc
  ·rw[I1.free]at e;cases e
  ·rw[I1.free]at hc;cases hc
theorem Zks (x C:Addr):∀h1 h2:Heap,Xj x C h1->(∀o,h1.get? x=some o->h2.get? x=some o)->Xj x C h2:=λ_ _ ⟨o,e,c⟩ k=>⟨o,k o e,c⟩
theorem Fly.inv {x C:Addr}{B h:Heap}{a0:Value}{tk:Nat}(I:Inv X jM σ H s)(F:Fly X.prog X.w X.stack H s x (.ref C) B a0 H' s')(fl:qcm B X.stack x (.ref C) a0 h)(sl:s'.heap.UpToSlots h) :
  Inv X jM σ (Zi H' x (.ext (Xj x C))) { s' with heap:=h,toks:=tk }:=by
 obtain⟨u,hok⟩:=F.at fl.1 sl;have hb:∀b o,H' b=some o->b≠x:=λb o e z=>by rw[z,F.nx]at e;cases e
 refine I.call' (ch:=[]) F.os ⟨u.keep,u.slot,λb o e n hx=>?_,u.there,λb xs q=>?_,λb o xs q=>?_,λb ps q=>?_⟩ (λb o e=>?_) F.bare λ_ z=>nomatch z
 ·rw[Zl λz=>by rw[z,F.new]at e;cases e]
  exact u.free b o e n hx
 ·have:=u.tups b xs q
  rw[Zl (hb b _ this)];exact this
 ·have:=u.frzs b o xs q
  rw[Zl (hb b _ this)];exact this
 ·obtain⟨more,this⟩:=u.tbls b ps q
  exact⟨more,by rw[Zl (hb b _ this)];exact this⟩
 ·by_cases e1:b=x
  ·subst e1
   rw[ZE]at e
   cases e
   obtain⟨o,q1,q2⟩:=fl.there;exact⟨⟨o,q1,q2⟩,⟨o,q1⟩,Zks b C⟩
  ·rw[Zl e1]at e
   exact(hok b o e).stay (λ_ _ _ q=>q) (λc q=>by rw[Zl (hb c _ q)];exact q) λc xs q=>by rw[Zl (hb c _ q)];exact q
theorem Zms {x C CT:Addr}{B:Heap}{a0:Value}{i:Nat}{n xT:Str}{np pos:Pos}{b₀:Stmt}{suite:List Stmt}{D:Ends}{t:TS}(I:Inv X jM σ H s)(hst:X.stack=X.env::X.outer)(hfr:X.env.frame=some X.env.locals)
  (F:Fly X.prog X.w X.stack H s x (.ref C) B a0 H' s') (hN:X.N.Nodup) (hi:X.N[i]?=some n) (hk:X.env.scope.names.lookup n=some .local) (hg:Gl X xT) (hm:X.mg xT=some (.ref CT)) (hx:qbZ X.K (.ref C) (.ref CT)=some true)
  (hs:XC (X.inEx (.ref x)) (b₀::suite) t) (h:t ⟨fun σ' H'=>D.nx (σ'.set i none) H',λ_ _=>False,λ_ _=>False,λ_ _=>False⟩ (σ.set i (some (.ref x))) (Zi H' x (.ext (Xj x C)))) (hdb:(xT==("__debug__" : Str))=false:=by decide) :
  xf (xz X.prog X.w) X.A (noteFrame (.ref x) X.env) (λ_ s₂=>xf (xz X.prog X.w) X.A (setFlight (.ref x) none) (λ_ s₃=>
   xf (xz X.prog X.w) X.A (handleBy (.ref x) X.env [.ExceptHandler (some (.Name xT np)) (some n) (b₀::suite) pos]) (SP X jM D) X.xe s₃) X.xe s₂) X.xe s':=by
 have fl0:=F.fl;rw[hst]at fl0;refine wpAny_looks_onW (L:=X.env.locals) (by rw[<-hst];exact I.ok.frames) hfr fl0 λh4 held sl4=>?_;refine wpAny_landsW held λh5 fl5 sl5=>?_;rw[<-hst]at fl5;have I5:=F.inv (tk:=s'.toks) I fl5 (sl4.trans sl5);have lk5:qbj (xz X.prog X.w) h5 (typeOf (.ref x)) (.ref C):=by
  obtain⟨o,q1,q2⟩:=fl5.there;exact q2▸(qbj.ld q1).andThen .now
 refine wpAny_handleBy_cons (codeAny_handlers_test (Bz (X:=X.inEx (.ref x)) (I5.inEx _) hg hm ?_ hdb)) (by intro q;cases q);refine qbj.here (PySem.W.exm_one (K:=X.K) I5.kIn lk5 hx) ?_;refine codeAny_handlers_suite_as (lands_againW fl5 λh6 fl6 sl6=>?_);have I6:=F.inv (tk:=s'.toks) I fl6 ((sl4.trans sl5).trans sl6);refine ZbJ (X:=X.inEx (.ref x)) (v:=.ref x) (I6.inEx _) hN hi (.inl hk) rfl (λs7 I7=>?_) (.inr hk);refine xc (hs jM s7 _ _ _ I7 h) (λf s8 q=>?_) λ_ _ z=>z.elim
 cases f with
 | next=>
  obtain⟨σ',H2,I8,q⟩:=q;exact Zkr (I8.outEx I.ok) hN hi hk λs9 I9=>⟨_,_,I9,q⟩
 | brk=>obtain⟨_,_,_,q⟩:=q;exact q.elim
 | cont=>obtain⟨_,_,_,q⟩:=q;exact q.elim
 | ret u=>obtain⟨_,_,_,_,_,q⟩:=q;exact q.elim
end
section
variable {X:Cx}
theorem Zpg {body:List Stmt}{h₀:ExceptHandler}{hs:List ExceptHandler}{pos:Pos}{t:TS}(hb:XC X.nox body t):PS X (.Try body (h₀::hs) [] [] pos) t:=by
 intro jM s σ H D I h;refine wpAny_Try_except (xc (hb jM s σ H D (I.wish _) h) (λf s1 q=>?_) λ_ _ z=>zj z)
 cases f with
 | next=>exact wpAny_execs_nil q.unwish
 | _=>exact q.unwish
theorem Zh3 {sts:List Stmt}:XC X sts λ_ _ _=>False:=λ_ _ _ _ _ _ h=>h.elim
inductive IsiC (K:qd)(H:Hp)(C:Addr)(b:Bool):V->Prop
 | ty {T:String} (h:yV K (.ref C) (.type T)=some b):IsiC K H C b (.ty T)
 | cl {D:Addr} (h:yV K (.ref C) (.ref D)=some b):IsiC K H C b (.ref D)
 | tp {p:Addr} {ds:List Addr} (hp:H p=some (.tup (ds.map V.ref))) (h:PySem.W.kitAny K (.ref C) (ds.map qH)=some b):IsiC K H C b (.ref p)
theorem ZiX:∀{ds:List Addr} {us:List Value},ZB (ds.map V.ref) us->us=ds.map qH
 | [],_,.nil=>rfl
 | _::_,_,.cons r t=>by
  cases r
  rw[ZiX t];rfl
theorem Zkt:Xi X (.builtin "isinstance") (λvs H Q=>∃x C c b,vs=[.ref x,c]/\H x=some (.ext (Xj x C))/\ClsK X.K C/\IsiC X.K H C b c/\Q (.bl b) H):=by
 intro jM s σ H vs us Q I r h;obtain⟨x,C,c,b,rfl,hx,ck,hc,q⟩:=h;obtain⟨u,v,rfl,ru,rv⟩:=BZ r
 cases ru
 have p:Xj x C s.heap:=(I.hok x _ hx).1;have nb:(qH x:Value)≠.builtin "__main__.__loader__#opaque":=by intro z;cases z
 have fin:∀tk,EP X jM σ Q (.bool b) { s with toks:=tk }:=λtk=>⟨.bl b,H,I.tok tk,rfl,q⟩
 cases hc with
 | ty h=>cases rv;exact zv (Zdy ck) I.kIn p h nb fin
 | cl h=>cases rv;exact zv (Zdy ck) I.kIn p h nb fin
 | tp hp h=>
  cases rv
  obtain⟨_,jO,rr,o,ho,hcl,n,hd⟩:=I.hok _ _ hp;rw[ZiX rr]at hd;obtain⟨oc,od,oda,osl⟩:=o
  cases hcl
  cases hd
  exact PySem.W.kia_tup (Zdy ck) I.kIn p ho h nb fin
end
end L2
namespace TF
open PySem.Calls L2
section
variable {X:Cx}
theorem Zfu {jM:Qb}{s:Shared}{σ:St}{H:Hp}{f:Addr}{fd:xA}{ps:List Str}{sp:Sp}{k i:Nat}{x:Str}{p pos:Pos}{e:Expr}{es:List Expr}{t:TA}{E:XK}{Q:xD}{E':xD}(I:Inv X.nox jM σ H s)
  (hf:PE X.nox (.Name x p) (ZY i)) (hr:Room k X.A) (ha:PA X.nox (e::es) t) (hσ:σ[i]?=some (some (.ref f))) (hb:XJ X.K fd ps []) (F:FnOk X.prog X.w X.K X.mg X.base (Vi X.prog X.w) k f fd ps sp) (hφ:∀h:Heap,X.K.In h->fnφ f fd h)
  (h:t σ H λvs H1=>sp vs H1 (λ_ _=>False) E) (hE:∀s1 H1 e s',Inv X jM σ H1 s1->Vi X.prog X.w X.stack H1 s1 E e s'->E' e s')
  (he:xh (e::es) X.env=(false,eval e X.env)::xh es X.env:=by rfl) (hpl:(backTo pos (xh es X.env)).any (·.1)=false:=by rfl) :
  xf (xz X.prog X.w) X.A (eval (.Call (.Name x p) (e::es) [] pos) X.env) Q E' s:=by
 refine wpAny_Call_Name_kw (xc (hf jM s σ H (λv H'=>v=.ref f/\H'=H) I ⟨_,hσ,rfl,rfl⟩) (λu s1 z=>?_) λ_ _ z=>zj z);obtain⟨v,H1,I1,rv,ev,eH⟩:=z;subst ev eH
 cases (show u=qH f from rv)
 have at1:∀{jM σ H s},Inv X.nox jM σ H s->PySem.W.FnAt f s.heap:=λI=>by
  obtain⟨oc,od,sl,q⟩:=hφ _ I.kIn;exact⟨oc,od,fd,sl,q⟩
 refine PySem.W.callWith_F (at1 I1) (xc (ha pos jM s1 σ _ _ I1 h) (λus s2 z=>?_) λ_ _ z=>zj z) he hpl;obtain⟨vs,H2,I2,r,q⟩:=z;refine⟨at1 I2,?_⟩;have hl:us.length=ps.length:=by rw[<-r.length];exact F.len _ _ _ _ q
 have I3:Inv X jM σ H2 s2:=I2.unwish;refine xy (codeAny_mono (F.run X.A X.stack s2 H2 ⟨us,[]⟩ us vs _ E hr I3.env0 (by have:=hb s2 us I3.kIn (by rw[zw];exact hl);rw[zw]at this;exact this) r q) λr s' hq=>?_)
 cases r with
 | error e=>exact hE s2 H2 e s' I3 hq
 | ok fl=>
  cases fl with
  | ret u=>obtain⟨_,_,_,_,_,_,_,z⟩:=hq;exact z.elim
  | next=>exact zj hq
  | brk=>exact zj hq
  | cont=>exact zj hq
theorem ZnB {CT:Addr}{k i ie:Nat}{x y n xT:Str}{p p' cpos apos np hpos pos:Pos}{e:Expr}{es:List Expr}{b₀:Stmt}{suite:List Stmt}{t:TA}{ts:TS}(hN:X.N.Nodup)(hst:X.stack=X.env::X.outer)(hfr:X.env.frame=some X.env.locals)(hi:X.N[ie]?=some n)(hk:X.env.scope.names.lookup n=some .local)
  (hg:Gl X xT) (hm:X.mg xT=some (.ref CT)) (hf:PE X.nox (.Name x p) (ZY i)) (hr:Room k X.A) (ha:PA X.nox (e::es) t) (hs:∀v,XC (X.inEx v) (b₀::suite) ts) (hdb:(xT==("__debug__" : Str))=false:=by decide) (hsw:xr (.Call (.Name x p) (e::es) [] cpos) (some (.Name y p')) apos.line X.env=pure false:=by rfl)
  (he:xh (e::es) X.env=(false,eval e X.env)::xh es X.env:=by rfl) (hpl:(backTo cpos (xh es X.env)).any (·.1)=false:=by rfl) :
  PS X (.Try [.Assign [.Name y p'] (.Call (.Name x p) (e::es) [] cpos) apos] [.ExceptHandler (some (.Name xT np)) (some n) (b₀::suite) hpos] [] [] pos) (λD σ H=>∃f fd ps sp C,σ[i]?=some (some (.ref f))/\XJ X.K fd ps []/\FnOk X.prog X.w X.K X.mg X.base (Vi X.prog X.w) k f fd ps sp/\
   (∀h:Heap,X.K.In h->fnφ f fd h)/\qbZ X.K (.ref C) (.ref CT)=some true/\t σ H λvs H1=>sp vs H1 (λ_ _=>False) λcls _ H'=>cls=.ref C/\∀x,H' x=none->ts ⟨fun σ' H2=>D.nx (σ'.set ie none) H2,λ_ _=>False,λ_ _=>False,λ_ _=>False⟩ (σ.set ie (some (.ref x))) (Zi H' x (.ext (Xj x C)))):=by
 rintro jM s σ H D I ⟨f,fd,ps,sp,C,hσ,hb,F,hφ,hx,h⟩;refine wpAny_Try_except (wpAny_execs_cons (wpAny_Assign_Name (Zfu (I.wish _) hf hr ha hσ hb F hφ h (λs1 H1 e s' I1 z=>?_) he hpl) hsw));obtain⟨x,cls,B,a0,H',rfl,FL,rfl,hE⟩:=z;exact Zms I1 hst hfr FL hN hi hk hg hm hx (hs _) (hE x FL.nx) hdb
end
def spR (n:Nat)(GG:Gh->Prop)(R:List D->M Unit)(C:Addr):Sp:=λvs H _ E=>∃(G:Gh) (Hf:Hp) (ds:List D) (s s':Pn),GG G/\vs.length=n/\Zz G Hf H/\Zk G Hf ds vs/\G.st s H/\R ds s=some ((),s')/\∀Hf' H',Gr G Hf H Hf' H'->G.st s' H'->E (.ref C) none H'
def V2 (X:Cx)(G:Gh)(own:List Nat)(sts:List Stmt)(R:Zc->M Unit)(Ex:Hp->Prop):Prop:=
 ∃t,XC X sts t/\∀(kn jS H0:Hp) (σ:St) (H:Hp) (ρ:Zc) (s s':Pn) (D:Ends),J G own kn jS H0 σ H ρ->G.st s H->R ρ s=some ((),s')->(∀Hf' H',Gr G jS H0 Hf' H'->G.st s' H'->Ex H')->t D σ H
section
variable {X:Cx}{G:Gh}{own own2:List Nat}{Ex:Hp->Prop}
def rSeq (g:Zc->M Out)(R:Zc->M Unit):Zc->M Unit:=fun ρ=>Zm (g ρ) λo=>match o with | .nx ρ'=>R ρ' | _=>Zq
theorem PS.nox {st:Stmt}{t:TS}(h:PS X.nox st t):PS X st t:=λjM s σ H D I hw=>
 xc (h jM s σ H D (I.wish _) hw) (λ_ _ q=>q.unwish) λ_ _ z=>zj z
theorem ZgW {st:Stmt}{rest:List Stmt}{fr:Bool}{g:Zc->M Out}{R:Zc->M Unit}(h:YI X.nox G [] own own2 fr st g)(hr:V2 X G own2 rest R Ex):V2 X G own (st::rest) (rSeq g R) Ex:=by
 obtain⟨t,p,q⟩:=h;obtain⟨u,p2,q2⟩:=hr;refine⟨_,Xg (PS.nox p) p2,λkn jS H0 σ H ρ s s' D j st e k=>?_⟩;obtain⟨o,s1,a1,a2⟩:=Zs e
 cases o with
 | nx ρ'=>exact q kn jS H0 σ H ρ s (.nx ρ') s1 _ j st a1 fun σ' H' j' st'=>q2 kn jS H0 σ' H' ρ' s1 s' D j' st' a2 k
 | rt d=>cases a2
 | bk ρ'=>cases a2
 | ct ρ'=>cases a2
theorem V2.frz {sts:List Stmt}{R:Zc->M Unit}(h:V2 X G own2 sts R Ex)(hs:∀k,k∈own2->k∈own:=by decide):V2 X G own sts R Ex:=by
 obtain⟨t,p,q⟩:=h;exact⟨t,p,λkn jS H0 σ H ρ s s' D ⟨Hf,j⟩ st e k=>q kn jS H0 σ H ρ s s' D (j.freeze hs) st e k⟩
def rIf (fc:Zc->M Bool):Zc->M Unit:=fun ρ=>Zm (fc ρ) λb=>if b=true then Zy ()else Zq
theorem Zph {c:Expr}{st:Stmt}{rest:List Stmt}{pos:Pos}{fc:Zc->M Bool}(hc:X1 X.nox G c fc)(hr:PS X st λ_ _ H=>Ex H):V2 X G own (.If c [st] [] pos::rest) (rIf fc) Ex:=by
 obtain⟨tc,pc,qc⟩:=hc;refine⟨_,Xg (BX pc.nox (W9 hr) BB) Zh3,λkn jS H0 σ H ρ s s' D ⟨Hf,j⟩ st e k=>?_⟩;obtain⟨b,s1,a1,a2⟩:=Zs e;refine qc σ _ H ρ s b s1 _ WS j.envB st a1 λHf' H' g st'=>?_;obtain⟨F,j',fF,q1,q2⟩:=j.growB g
 cases b with
 | true=>
  obtain⟨_,rfl⟩:=ZC a2;exact WY (k _ _ j'.gr st')
 | false=>cases a2
def runR (n k:Nat)(R:Zc->M Unit):List D->M Unit:=λds=>if ds.length=k then R (ds.map some++qm (n-k) none)else Zq
end
theorem fnX {P:xB}{w:World}{K:qd}{mg:Str->Option Value}{base:Heap}{x qual:Str}{st:Stmt}{f:Addr}{fd:xA}{N ps:List Str}{k:Nat}{GG:Gh->Prop}{R:Zc->M Unit}{C:Addr}
  (F:Fun K x qual st f fd) (S:FnScope N ps (Zw st))
  (hb:∀(cdv:Value) (A:xC) (outer:List Env) (s:Shared) (H:Hp) (E:XK),Room k (A.deeper (envOfC qual (Zw st) s.heap.objs.size f cdv))->∀G,GG G->V2 (VD P w K mg base N qual (Zw st) f cdv A outer s H E) G [] (Wt st) R λH'=>E (.ref C) none H') :
  FnOk P w K mg base (Vi P w) (k+1) f fd ps (spR ps.length GG (runR N.length ps.length R) C):=by
 obtain⟨oc,od,kV,doc,pm,an,cdv,ct,osl,rfl,lk,hcd⟩:=F.ex;refine Zic lk hcd S (λvs H Q E h=>?_) λA outer s H vs Q E hr h=>?_
 ·obtain⟨G,Hf,ds,pn,pn',_,e,_⟩:=h
  exact e
 ·obtain⟨G,Hf,ds,pn,pn',hG,el,e1,r,st',eF,k'⟩:=h
  obtain⟨t,p,q⟩:=hb cdv A outer s H E hr G hG;refine⟨t,p,?_⟩;obtain⟨hl,a0⟩:=YQ eF;have hpl:ps.length<=N.length:=by have:=congrArg yR S.pre;rw[yg]at this;omega
  refine q Hf Hf H (L2.start N vs) H (ds.map some++qm (N.length-ps.length) none) pn pn' _ ⟨Hf,?_,.refl _ _,.refl e1,λi d n e=>?_,λi d m e=>by simp at m,λi j a di dj mi=>by simp at mi⟩ st' a0 k'
  ·unfold L2.start;simp;omega
  ·have hi:i<ds.length:=by
    by_cases hi:i<ds.length
    ·exact hi
    ·rw[zS (by simpa using hi),z9]at e
     split at e <;> cases e
   have e':ds[i]?=some d:=by
    rw[zb (by simpa using hi),qG]at e
    cases q:ds[i]? with
    | none=>rw[q]at e;cases e
    | some c=>rw[q]at e;simp at e;rw[e]
   obtain⟨v,h1,h2⟩:=r.get e';refine⟨v,?_,h2⟩;unfold L2.start;rw[zb (by rw[qh,<-r.length];exact hi),qG,h1];rfl
end TF
namespace TF
open L2
section
variable {X:Cx}{G:Gh}
theorem va (i:Nat){pos:Pos}(hN:X.N[i]?=some x:=by rfl)(hv:Vis X.env.scope x:=by first | exact qK rfl | exact zL (qK rfl) | exact zL (zL rfl))(hd:(x==("__debug__" : Str))=false:=by decide)(hcd:(x==("__classdict__" : Str))=false:=by decide):PD X G false (.Name x pos) (Za i):=ZoH i (pv i hN hv hd hcd)
theorem bk (XN:List Str)(NS:List (Str×NameKind))(N':List Str)(src:List (Option Nat)){scope:Scope}(a:X.N=XN:=by rfl)(b:X.env.scope.names=NS:=by rfl)(c:∀y∈scope.names,y.2≠.cell:=by decide +kernel)(d:scope.kind=.function:=by rfl)(e:∀y∈scope.names,y.2=.local->scope.names.lookup y.1=some .local:=by decide +kernel)(f:src.length=N'.length:=by rfl)(g:∀y∈scope.names,y.2=.free->NS.lookup y.1=some .cell∨NS.lookup y.1=some .free:=by decide +kernel)
  (h:(src.zip N').all (λp=>match p.1 with | some j=>decide (XN[j]?=some p.2)&&(decide (NS.lookup p.2=some .cell)||decide (NS.lookup p.2=some .free))&&decide (scope.names.lookup p.2=some .free) | none=>true)=true:=by decide +kernel):BlkS X XN NS N' src scope:=⟨a,b,c,d,e,f,g,h⟩
theorem Xb {N P:List Str}{sc:Scope}(a:sc.kind=.function:=by rfl)(b:sc.isCoroutine=false:=by rfl)(c:sc.isGenerator=false:=by rfl)(d:N.Nodup:=by decide +kernel)(e:N.take P.length=P:=by rfl)(f:∀x∈P,sc.names.lookup x=some .local∨sc.names.lookup x=some .cell:=by decide +kernel)(g:∀y∈sc.names,y.2≠.free:=by decide +kernel):FnScope N P sc:=⟨a,b,c,d,e,f,g⟩
end
section
variable {X:Cx}{G:Gh}{elt tg iter:Expr}{ifs:List Expr}{scope:Scope}{pos pos' spos:Pos}{XN:List Str}{NS:List (Str×NameKind)}{N':List Str}{src:List (Option Nat)}{fi:Zc->M (List D)}{τ:D->Zc->Option Zc}{ft:Zc->M Bool}{fe:Zc->M D}{r1:Bool}{i:Nat}{x:Str}
theorem Xf {cl:_}{jM:_}{C:_}{s:_}{H:_}{fp:_}{ok:Nat->Prop}(nd:N'.Nodup:=by decide +kernel)(hi:N'[i]?=some x:=by rfl)(hx:W3 (blk X jM N' scope cl C s H fp).env.scope x:=by exact qK rfl)(oi:ok i:=by rfl)(hf:(blk X jM N' scope cl C s H fp).fn x=true∨(blk X jM N' scope cl C s H fp).env.scope.names.lookup x=some .local:=by first | exact .inl rfl | exact .inr rfl | assumption):Vf (blk X jM N' scope cl C s H fp) G (.Name x pos) ok (Zv i):=XF nd hi hx oi hf
theorem Xq (B:BlkS X XN NS N' src scope)(hi:WP X G tg iter fi)
  (hg:∀{cl jM C s H fp},Vf (blk X jM N' scope cl C s H fp) G tg (λi=>src[i]?=some none) τ) (ht:∀{cl jM C s H fp},Vw (blk X jM N' scope cl C s H fp) ifs (Ji G ft)) (he:∀{cl jM C s H fp},PD (blk X jM N' scope cl C s H fp) G r1 elt fe)
  (hc:X.calm=true:=by rfl) (hs:∀x,foldedSetIterable iter X.env x=pure x:=by intro _;rfl):PD X G true (.ListComp elt [⟨tg,iter,ifs,0⟩] scope pos) (ZQ src fi τ ft fe):=Zlb hc B hi (λ_ _ _ _ _ _=>hg) (λ_ _ _ _ _ _=>ht) (λ_ _ _ _ _ _=>he) hs
end
theorem Ya {p pos:Pos}(c:ZT X.prog X.w X.K X.mg X.base k x n fr GG F)(hG:GG G)(hr:Room k X.A)
  (ha:WO X G (e::es) fs) (hg:Gl X x:=by rfl) (hal:∀ρ s ds s',fs ρ s=some (ds,s')->ds.length=(e::es).length:=by first | exact Y5 Ua | exact Y5 (Y5 Ua) | exact Y5 (Y5 (Y5 Ua)) | exact Y5 (Y5 (Y5 (Y5 Ua))) | exact Y5 (Y5 (Y5 (Y5 (Y5 Ua)))) | exact Y5 (Y5 (Y5 (Y5 (Y5 (Y5 Ua)))))) (jW:(e::es).length=n:=by rfl)
  (hdb:(x==("__debug__" : Str))=false:=by decide) (he:xh (e::es) X.env=(false,eval e X.env)::xh es X.env:=by rfl) (hpl:(backTo pos (xh es X.env)).any (·.1)=false:=by rfl) :
  PD X G fr (.Call (.Name x p) (e::es) [] pos) (Zu F fs):=ZoP c hG hr hg ha hal jW hdb he hpl
section
variable {X:Cx}{G:Gh}{ob own own':List Nat}{fr:Bool}
theorem ZK {st:Stmt}(h:YI X G ob own [] fr st g1)(h2:Wc X G ob [] own' fr sts g2):Wc X G ob own own' fr (st::sts) (Zg g1 g2):=Z6 h h2
theorem YJ (hs:∀k,k∈own'->k∈([]:List Nat):=by decide):Wc X G ob [] own' fr [] Zp:=Ye hs
theorem Vj (hc:X1 X G c fc)(ha:Wc X G ob own [] fr a g1)(hb:Wc X G ob own [] fr b g2):YI X G ob own [] fr (.If c a b pos) (Yw fc g1 g2):=BS hc ha hb
theorem Wg {p pos:Pos}(hm:X.mg "len" = none)(ha:WO X G [e] f)(hg:Gl X "len":=by rfl)(h1:xh [e] X.env=(false,eval e X.env)::xh [] X.env:=by rfl)(h2:(backTo pos (xh [] X.env)).any (·.1)=false:=by rfl):PD X G true (.Call (.Name "len" p) [e] [] pos) (Zx Yo f):=Xc Zhl hg hm boot_len ha (he:=h1)
end
theorem ux1 {α:Type}(us:List α)(e:us.length=1):∃a,us=[a]:=by
 cases us with | nil=>cases e | cons a r=>simp_all
theorem ux2 {α:Type}(us:List α)(e:us.length=2):∃a b,us=[a,b]:=by
 cases us with | nil=>cases e | cons a r=>obtain⟨b,rfl⟩:=ux1 r (qbA e);exact⟨a,b,rfl⟩
theorem ux3 {α:Type}(us:List α)(e:us.length=3):∃a b c,us=[a,b,c]:=by
 cases us with | nil=>cases e | cons a r=>obtain⟨b,c,rfl⟩:=ux2 r (qbA e);exact⟨a,b,c,rfl⟩
theorem ux4 {α:Type}(us:List α)(e:us.length=4):∃a b c d,us=[a,b,c,d]:=by
 cases us with | nil=>cases e | cons a r=>obtain⟨b,c,d,rfl⟩:=ux3 r (qbA e);exact⟨a,b,c,d,rfl⟩
def IsC (K:qd)(x:Str)(st:Stmt)(c:Addr):Prop:=∃(f:Addr) (fd:xA),qbB K mainGlobals x=some (some (.ref f))/\Fun K x x st f fd/\fd.code=.ref c
def fnO (x:Str)(st:Stmt)(pm:Value)(c:Addr):Obj:=⟨.type "function",none,.func (yk x x (Va st) (Wt st) (Zw st) .none .none .none pm none (.ref c) .none),#[]⟩
def cdO (x:Str)(t:Nat)(ln ac:Int)(a:Addr)(tx k:Nat)(v:Bool):Obj:=
 ⟨.type "code",none,.fields #[.str x t,.str x (t+1),.str "/claim/cut.py" (t+2),.int ln 0,.int ac 0,.int 0 0,.int 0 0,.int 3 0,.ref a,.bool true,.int tx 0,.ref (a+1),.none,
  (match v with | true=>.ref (a+2) | false=>.none),(match v with | true=>.ref (a+3) | false=>.none),.ref (match v with | true=>a+4 | false=>a+2),.int k 0,.int ln 0,.str "/claim/cut.py" (k+1)],#[]⟩
structure DRow where
 x:Str
 i:Nat
 t:Nat
 ln:Int
 ac:Int
 a:Addr
 k:Nat
 v:Bool
 pm:Str
 pt:Nat
def DRow.c (r:DRow):Addr:=match r.v with | true=>r.a+5 | false=>r.a+3
def dE (P:Params)(x:Str)(t:Nat)(v:Value):DictEntry:=⟨PyData.keyHash P x,.str x t,v⟩
abbrev nE (x:Str)(t:Nat)(a:Addr):Str×Nat×Addr:=(x,t,a)
abbrev dR (x:Str)(i t:Nat)(ln ac:Int)(a:Addr)(k:Nat)(v:Bool)(pm:Str)(pt:Nat):DRow:=⟨x,i,t,ln,ac,a,k,v,pm,pt⟩
def dRs (P:Params)(l:List (Str×Nat×Addr)):List DictEntry:=l.map λe=>dE P e.1 e.2.1 (.ref e.2.2)
def ZpT (Yb:Nat->Stmt)(tx:Nat)(m:List DictEntry)(n:Nat)(rs:List DRow):qd:=
 (mainNs,⟨.type "dict",none,.dict m.toArray n,#[]⟩)::rs.flatMap λr=>[(r.c,cdO r.x r.t r.ln r.ac r.a tx r.k r.v),(r.c+1,fnO r.x (Yb r.i) (.str r.pm r.pt) r.c)]
theorem ZpU {K:qd}{x:Str}{st:Stmt}{pm:Value}{c f:Addr}(a:qbB K mainGlobals x=some (some (.ref f)))(l:K.lookup f=some (fnO x st pm c))(cd:qas K (.ref c) x=true):IsC K x st c:=
 ⟨f,_,a,ZoG l cd (by unfold zt;dsimp only;rw[l];rfl),rfl⟩
theorem _root_.L2.Fun.lk {K:qd}{x q:Str}{st:Stmt}{f:Addr}{fd:xA}(F:Fun K x q st f fd):∃oc od osl,K.lookup f=some ⟨oc,od,.func fd,osl⟩:=by
 obtain⟨oc,od,kV,doc,pm,an,cdv,ct,osl,rfl,lk,hcd⟩:=F.ex;exact⟨_,_,_,lk⟩
def Zpi:Stmt->Pos
 | .FunctionDef _ _ _ _ _ _ _ _ _ p=>p
 | _=>⟨0,0,0,0⟩
abbrev Zh4 (st:Stmt):DefRec:=⟨"law",Va st,Wt st,Zw st,Zpi st⟩
theorem head_of {l:PySem.W.OpenLaw}{q:xB}{K:Params->qd}{as:List Addr}{e:∀P,as=(K P).map (·.1)}{N:Nat}{st:Stmt}(said:l.wellSaid=true)
  (left:PySem.W.LeftO l.prog q [] (λs=>PySem.W.xlAt q [] s&&PySem.W.recOk l.row.records s) (yN K as e).obs (yN K as e).val N)
  (hdef:PySem.W.defOf q l.row.name=some (Zh4 st,[])) (hp:l.row.prog.theDef l.row.name=some (Va st,Wt st,Zw st))
  (hk:PySem.W.kwWritten? (Va st).kwonlyargs (Va st).kw_defaults=some [])
  (ok:(PySem.W.chainsOk q&&PySem.W.opensWell l.row.prog&&(PySem.W.frees l.row.toRowW&&l.row.within.isEmpty))=true) (hb:l.row.prog.bare) (hw:l.row.toRowW.promised) (hwr:(!l.row.writes||l.row.records.isEmpty)=true)
  (call:qca q [] (PySem.W.XL q []) (yN K as e).says l.row.toRowW (Zh4 st) [] λf vs=>qb6 f vs):l.Holds:=
 PySem.W.holds_law said λsd=>PySem.W.holds_open left (yN K as e).of (yN K as e).keeps (λs z=>PySem.W.xl_of s (yB.mp z).1) PySem.W.XL.keeps hdef hp hk (λs z=>PySem.W.recFacts_of (yB.mp z).2) hwr sd ok hb hw call
def AtR (K:qd)(mg:Str->Option Value)(Yb:Nat->Stmt)(r:DRow):Prop:=∃(f:Addr) (fd:xA),Fun K r.x r.x (Yb r.i) f fd/\mg r.x=some (.ref f)/\fd.code=.ref r.c
def Zof (K:qd)(Yb:Nat->Stmt)(r:DRow):Prop:=qbB K mainGlobals r.x=some (some (.ref (r.c+1)))/\K.lookup (r.c+1)=some (fnO r.x (Yb r.i) (.str r.pm r.pt) r.c)/\qas K (.ref r.c) r.x=true
def Zfv (K:qd)(Yb:Nat->Stmt):List DRow->Prop
 | []=>True
 | r::l=>Zof K Yb r/\Zfv K Yb l
theorem ZgX {K:qd}{Yb:Nat->Stmt}:∀{l:List DRow} {j:Nat} {r:DRow},Zfv K Yb l->l[j]?=some r->Zof K Yb r
 | _::_,0,_,h,e=>by cases e;exact h.1
 | _::l,j+1,_,h,e=>ZgX h.2 e
theorem Zpj {K:qd}{h:Heap}{mg:Str->Option Value}{Yb:Nat->Stmt}{l:List DRow}(ok:Zfv K Yb l)(X:K.In h)(G:h.Ns mainGlobals mg)(j:Nat){r:DRow}(e:l[j]?=some r:=by rfl):AtR K mg Yb r:=by
 obtain⟨a,b,c⟩:=ZgX ok e;obtain⟨f,fd,a,F,d⟩:=ZpU a b c;exact⟨f,fd,F,qad X G a,d⟩
theorem Bi {K:qd}{x:Str}{st:Stmt}{f:Addr}{fd:xA}(ps:List Str)(F:Fun K x x st f fd)
  (h:∀(kV doc pm:Value) (an:Option Addr) (cdv ct:Value) (us:List Value),us.length=ps.length->bindArgs (yk x x (Va st) (Wt st) (Zw st) .none kV doc pm an cdv ct) ⟨us,[]⟩=pure (ps.zip us):=by
   intro _ _ _ _ _ _ us hl
   first
    | (obtain⟨_,rfl⟩:=TF.ux1 us hl;rfl)
    | (obtain⟨_,_,rfl⟩:=TF.ux2 us hl;rfl)
    | (obtain⟨_,_,_,rfl⟩:=TF.ux3 us hl;rfl)
    | (obtain⟨_,_,_,_,rfl⟩:=TF.ux4 us hl;rfl)
    | (obtain⟨_,_,_,_,_,rfl⟩:=TF.ux5 us hl;rfl)
    | (obtain⟨_,_,_,_,_,_,rfl⟩:=TF.ux6 us hl;rfl)
    | (obtain⟨_,_,_,_,_,_,_,rfl⟩:=TF.ux7 us hl;rfl)
    | (obtain rfl:=TF.ux0 us hl;rfl)):XJ K fd ps []:=F.binds h
theorem mkc {P:xB}{w:World}{K:qd}{mg:Str->Option Value}(base:Heap){x:Str}{st:Stmt}{f:Addr}{fd:xA}{k n:Nat}{ps:List Str}{fr:Bool}{GG:Gh->Prop}{F9:List D->M D}(F:Fun K x x st f fd)(m:mg x=some (.ref f))(ok:FnOk P w K mg base ZN k f fd ps (Ys n fr GG F9))
  (h:∀(kV doc pm:Value) (an:Option Addr) (cdv ct:Value) (us:List Value),us.length=ps.length->bindArgs (yk x x (Va st) (Wt st) (Zw st) .none kV doc pm an cdv ct) ⟨us,[]⟩=pure (ps.zip us):=by
   intro _ _ _ _ _ _ us hl
   first
    | (obtain⟨_,rfl⟩:=TF.ux1 us hl;rfl)
    | (obtain⟨_,_,rfl⟩:=TF.ux2 us hl;rfl)
    | (obtain⟨_,_,_,rfl⟩:=TF.ux3 us hl;rfl)
    | (obtain⟨_,_,_,_,rfl⟩:=TF.ux4 us hl;rfl)
    | (obtain⟨_,_,_,_,_,rfl⟩:=TF.ux5 us hl;rfl)
    | (obtain⟨_,_,_,_,_,_,rfl⟩:=TF.ux6 us hl;rfl)
    | (obtain⟨_,_,_,_,_,_,_,rfl⟩:=TF.ux7 us hl;rfl)
    | (obtain rfl:=TF.ux0 us hl;rfl)):ZT P w K mg base k x n fr GG F9:=⟨f,fd,ps,ok,m,F.kp,F.binds h⟩
open PySem.Calls
def CalR (P:xB)(w:World)(K:qd)(mg:Str->Option Value)(base:Heap)(k:Nat)(x:Str)(n:Nat)(GG:Gh->Prop)(R:List D->M Unit)(C:Addr):Prop:=
 ∃f fd ps,FnOk P w K mg base (Vi P w) k f fd ps (spR n GG R C)/\mg x=some (.ref f)/\zt K (.ref f)=true/\XJ K fd ps []
section
variable {X:Cx}{G:Gh}{own:List Nat}{Ex:Hp->Prop}{R:Zc->M Unit}{e:Expr}{es:List Expr}
def PEX (X:Cx)(G:Gh)(e:Expr)(R:Zc->M Unit)(Ex:Hp->Prop):Prop:=
 ∃t,PE X e t/\∀(σ:St) (Hf H:Hp) (ρ:Zc) (s s':Pn) (Q:VK),Zz G Hf H->YM G Hf σ ρ->G.st s H->R ρ s=some ((),s')->(∀Hf' H',Gr G Hf H Hf' H'->G.st s' H'->Ex H')->t σ H Q
theorem Zmt {j k n:Nat}{x:Str}{GG:Gh->Prop}{R:List D->M Unit}{C:Addr}{E:XK}{fs:Zc->M (List D)}{p pos:Pos}(c:CalR X.prog X.w X.K X.mg X.base j x n GG R C)(hx:JK (Vi X.prog X.w) X E)(hG:GG G)(hr:Room k X.A)(ha:WO X G (e::es) fs)(hE2:∀H,Ex H->E (.ref C) none H)
  (hal:∀ρ s ds s',fs ρ s=some (ds,s')->ds.length=n) (hjk:j<=k:=by decide) (hg:Gl X x:=by rfl)
  (hdb:(x==("__debug__" : Str))=false:=by decide) (he:xh (e::es) X.env=(false,eval e X.env)::xh es X.env:=by rfl) (hpl:(backTo pos (xh es X.env)).any (·.1)=false:=by rfl):PEX X G (.Call (.Name x p) (e::es) [] pos) (fun ρ=>Zm (fs ρ) R) Ex:=by
 obtain⟨f,fd,ps,FN,hm,hk,hb⟩:=c;obtain⟨t,pa,q⟩:=ha;refine⟨_,BE (FN.mono hjk) hr hg hm hk hb .nil hx pa hdb he hpl,fun σ Hf H ρ s s' Q a b c d k=>?_⟩;obtain⟨ds,s1,a1,a2⟩:=Zs d;refine q σ Hf H ρ s ds s1 _ a b c a1 λvs jV H1 g1 jX r1=>?_;exact⟨G,jV,ds,s1,s',hG,by rw[zw,<-r1.length];exact hal _ _ _ _ a1,g1.fh,by rw[zw];exact r1,jX,a2,λHf' H' g st=>hE2 _ (k _ _ (g1.trans g) st)⟩
theorem PEX.dox {st:Stmt}{rest:List Stmt}(h:PEX X G e R Ex)(hs:∀t,PE X e t->∃u,PS X st u/\∀D σ H,(∀Q,t σ H Q)->u D σ H):V2 X G own (st::rest) R Ex:=by
 obtain⟨t,p,q⟩:=h;obtain⟨u,p2,q2⟩:=hs t p;refine⟨_,Xg p2 Zh3,λkn jS H0 σ H ρ s s' D ⟨Hf,j⟩ st e k=>q2 _ _ _ λQ=>q σ _ H ρ s s' Q WS j.envB st e λHf' H' g st'=>?_⟩;obtain⟨F,j',fF,q1,q2⟩:=j.growB g;exact k _ _ j'.gr st'
theorem ZnC {i:Nat}{x:Str}{pos pos':Pos}{rest:List Stmt}(hN:X.N.Nodup)(hi:X.N[i]?=some x)(hx:W3 X.env.scope x)(h:PEX X G e R Ex)(hs:xr e (some (.Name x pos')) pos.line X.env=pure false:=by rfl)(hf:X.fn x=true∨X.env.scope.names.lookup x=some .local:=by first | exact .inl rfl | exact .inr rfl | assumption) :
  V2 X G own (.Assign [.Name x pos'] e pos::rest) R Ex:=h.dox λt p=>⟨_,WE hN hi hx p hs hf,λ_ _ _ q=>q _⟩
end
def BN (R:List D->M Unit)(F:List D->M D):List D->M D:=λds s=>match R ds s with | some (_,s')=>some (.str (qw "round"),s') | none=>F ds s
structure ExcT (K:qd)(mg:Str->Option Value)(cT cN cI cL cR:Addr):Prop where
 t:mg "TieError" = some (.ref cT)
 n:mg "NoPlace" = some (.ref cN)
 i:mg "Tied" = some (.ref cI)
 l:mg "Loose" = some (.ref cL)
 r:mg "Round" = some (.ref cR)
 ve:mg "ValueError" = none
 isi:mg "isinstance" = none
 int:mg "int" = none
 ck:ClsK K cR
 ex:qbZ K (.ref cR) (.ref cT)=some true
 k1:PySem.W.kitAny K (.ref cR) [.ref cL,.ref cN,.ref cI]=some false
 k2:yV K (.ref cR) (.type "ValueError")=some true
 k3:yV K (.ref cR) (.ref cR)=some true
theorem Zpk:1<=xg:=by decide
theorem ZnD:2<=xg:=by decide
theorem ZgY:3<=xg:=by decide
section
variable {P:xB}{w:World}{K:qd}{mg:Str->Option Value}{base:Heap}{N:List Str}{qual:Str}{scope:Scope}{f:Addr}{cd:Value}{A:xC}{outer:List Env}{s₀:Shared}{H₀:Hp}{E:XK}
theorem Zku {C:Addr}{bm:List Value}{x z:Str}{j}{np p cpos pos:Pos}(c:ExcK K C bm)(hm:mg x=some (.ref C))(hg:Gl (VD P w K mg base N qual scope f cd A outer s₀ H₀ E) x:=by rfl)(hdb:(x==("__debug__" : Str))=false:=by decide):PS (VD P w K mg base N qual scope f cd A outer s₀ H₀ E) (.Raise (some (.Call (.Name x np) [.Constant (.str z) j p] [] cpos)) none pos) λ_ _ H=>E (.ref C) none H:=
 λjM s σ H D I h=>Zmq c hg hm (ZU XS Yn) rfl hdb jM s σ H D I ⟨Zpk,h⟩
end
def rIsi (K:qd):List V->Hp->VK->Prop:=λvs H Q=>∃x C c b,vs=[.ref x,c]/\H x=some (.ext (Xj x C))/\ClsK K C/\IsiC K H C b c/\Q (.bl b) H
theorem isiK {X:Cx}(K:qd)(h:X.K=K:=by rfl):Xi X (.builtin "isinstance") (rIsi K):=by
 subst h;exact Zkt
theorem ixK {X:Cx}(K:qd)(h:X.K=K:=by rfl):Ut X (rIxL K):=by
 subst h;exact BF
def UO (P:Params)(l:List (Str×Nat×Value))(n:Nat):Obj:=⟨.type "dict",none,.dict (l.map λe=>dE P e.1 e.2.1 e.2.2).toArray n,#[]⟩
def Jr (nm:Str)(C N:Addr)(bs bm sub:List Value)(a t1 t2:Nat):Obj:=excClassObj nm nm C N bs bm true [] sub false none none (some (.ref a)) none (some (.str nm t1)) (some (.str nm t2)) (some (.bool true)) "ValueError.__new__"
theorem ns_k {K:qd}{h:Heap}{P:Params}{l:List (Str×Nat×Value)}{n:Nat}{N:Addr}(X:K.In h)(lk:K.lookup N=some (UO P l n)):h.Ns N (nsFind (l.map λe=>dE P e.1 e.2.1 e.2.2).toArray):=⟨_,_,_,X _ _ lk,rfl,λe he=>by
 obtain⟨x,_,rfl⟩:=ql.mp (Array.mem_toArray.mp he);exact⟨_,_,rfl⟩,λ_=>rfl⟩
theorem ZnE {K:qd}{P:Params}{C N T NT:Addr}{nm nt:Str}{bs sub bs' sub':List Value}{a t1 t2 a' t1' t2' n n':Nat}{l l':List (Str×Nat×Value)}(h1:K.lookup C=some (Jr nm C N bs (.ref T::J5) sub a t1 t2))(h2:K.lookup N=some (UO P l n))(h3:nsFind (l.map λe=>dE P e.1 e.2.1 e.2.2).toArray "__init__" = none)
  (h4:K.lookup T=some (Jr nt T NT bs' J5 sub' a' t1' t2')) (h5:K.lookup NT=some (UO P l' n')) (h6:nsFind (l'.map λe=>dE P e.1 e.2.1 e.2.2).toArray "__init__" = none) (kp:zt K (.ref C)=true):ExcK K C (.ref T::J5):=
 ⟨⟨_,_,_,_,_,_,_,_,_,_,_,_,_,_,_,h1,_,h3,λh X=>⟨ns_k X h2,.own (X _ _ h4) (ns_k X h5) h6 .base⟩⟩,kp⟩
end TF
namespace TQ
open L2 TF TS
open TP
open TP2
open TP3
def RAb:List D->M Unit:=runR 6 2 (rSeq gA1 (rSeq gA2 (rIf cA)))
theorem ZiY {g:Zc->M Out}{R:Zc->M Unit}{ρ ρ':Zc}{s s':Pn}(h:g ρ s=some (.nx ρ',s')):rSeq g R ρ s=R ρ' s':=by
 unfold rSeq Zm;rw[h]
theorem Zpl {f:Zc->M Bool}{ρ:Zc}{s s':Pn}{b:Bool}(h:f ρ s=some (b,s')):rIf f ρ s=if b=true then some ((),s')else none:=by
 unfold rIf Zm;rw[h]
 cases b <;> rfl
theorem ZiZ {n k:Nat}{R:Zc->M Unit}{ds:List D}{s:Pn}(h:ds.length=k):runR n k R ds s=R (ds.map some++qm (n-k) none) s:=by
 unfold runR;rw[if_pos h]
section
variable {n:Nat}{L:Qa}
theorem Zpm (hn:n<=24)(hl:L.length<=1000)(hL:∀p∈L,p.1<n/\p.2<n)(r:Nat->Nat->Bool)(hr:∀a b,r a b=true↔Pth L n a b)(s:Pn):∃b,RAb [nD n,.lst (L.map Zt)] s=(if b=true then some ((),s)else none)/\(b=true↔∃a,a<n/\r a a=true):=by
 obtain⟨o,s',e2,rfl,T,o3,o4,o5,hm,rfl⟩:=ZeS hn hl hL r hr s;obtain⟨b,eb,hb⟩:=ZeU (L:=L) (o3:=o3) (o4:=o4) (o5:=o5) hn hm s;have e1:gA1 [some (nD n),some (.lst (L.map Zt)),none,none,none,none] s=some (.nx [some (nD n),some (.lst (L.map Zt)),some (.du (Z5 [] L)),none,none,none],s):=by
  obtain⟨o,s',e,h⟩:Ok (gA1 [some (nD n),some (.lst (L.map Zt)),none,none,none,none]) s λo s'=>s=s'/\o=.nx [some (nD n),some (.lst (L.map Zt)),some (.du (Z5 [] L)),none,none,none]:=.sown (.eq (ZiS L (by omega) s) ⟨rfl,rfl,rfl⟩);obtain⟨rfl,rfl⟩:=h;exact e
 exact⟨b,(ZiZ rfl).trans ((ZiY e1).trans ((ZiY e2).trans (Zpl eb))),hb⟩
end
theorem ZgZ {T n:Nat}{s:Pn}(ok:Xw T s)(hT:T<800000000)(hn:n<=10):Ok (FTpr [.pen,nD n,.bl true]) s λd s'=>Xw (T+1000) s'/\∃L:Qa,d=.lst (L.map Zt)/\L.length<=49/\∀p∈L,p.1<n/\p.2<n:=by
 refine Ok.runB rfl (Zh2 ok hT hn λps L s4 q o6 o7 ok4 hpp hL hF=>?_);have hF:∀p∈L,p.1<n/\p.2<n:=λp hp=>ZpR hpp (hF p hp);clear ok;refine Ok.seq (.sfor (λk ρ s'=>Xw (T+600+k*10) s'/\∃(L:Qa) (o8:Option D),L.length<=46+k/\(∀p∈L,p.1<n/\p.2<n)/\ρ=[some .pen,some (nD n),some (.bl true),some (.lst (ps.map nD)),some (nD (1+q)),some (.lst (L.map Zt)),o6,o7,o8]) (.range1 (.op (jL (m:=7) (ds:=[nD 0,nD 0,nD 0,nD 1,nD 1,nD 2,nD 3]) rfl rfl ok4 (by omega) rfl (by omega) (by omega) λd s5 hd ok5=>?_))));obtain⟨c,hc,rfl⟩:∃c,c<=3/\d=nD c:=by
  simp only[qu,zi,or_false]at hd;rcases hd with rfl | rfl | rfl | rfl | rfl | rfl | rfl
  all_goals exact⟨_,by omega,rfl⟩
 by_cases h0:0<n
 ·refine .eq (a:=nD 1) (Z4 (Zh (d:=.bl true) ?_ rfl) rfl) ⟨nD (c*1),mulN c 1 (by omega),c*1,rfl,by omega,⟨ok5.mono (by omega),L,none,by omega,hF,rfl⟩,λk d ρ s' hd hI=>?_,fun ρ' s' hI=>?_⟩
  ·refine Ze8 (a:=true) rfl λ_=>?_
   refine ZA (d:=nD n) (e:=.int 0) rfl rfl ?_;show some (D.bl (decide ((0:Int)<(n:Int))))=_;rw[decide_eq_true (by omega)]
  ·obtain⟨ok6,L,o8,hL,hF,rfl⟩:=hI
   obtain⟨hk,rfl⟩:=WQ hd;refine⟨_,rfl,?_⟩;refine .seq (jE (ds:=L.map Zt) rfl (by rw[qh];omega) (jw (.drawD (m:=L.length+1) ok6 (by omega) (Zh rfl (Zh (ZA (d:=nD L.length) (e:=.int 1) (Z4 (Zh rfl rfl) (show some (D.int _)=some (D.int _) by rw[qh])) rfl rfl) rfl)) (by omega) (by omega) λr s6 hr ok7=>⟨rfl,jw (.tup (.cons (.drawD (m:=n) ok7 (by omega) (Zh rfl (Zh rfl rfl)) (by omega) (by omega) λa s7 ha ok8=>.cons (.drawD (m:=n) ok8 (by omega) (Zh rfl (Zh rfl rfl)) (by omega) (by omega) λb s8 hb ok9=>.eq (a:=[]) rfl ⟨two_le,rfl,r,rfl,by omega,.next ⟨_,rfl,ok9.mono (by omega),L.take r++(a,b)::L.drop r,some (nD k),?_,?_,?_⟩⟩))))⟩)))
   ·rw[qP,zB,yg,List.length_drop];omega
   ·intro p hp
    rcases ZiV hp with w | w
    ·exact hF p w
    ·rw[w];exact⟨ha,hb⟩
   ·rw[<-ZiU];rfl
  ·obtain⟨ok6,L,o8,hL,hF,rfl⟩:=hI
   rw[Y2]at ok6 hL;exact Ok.seq (.sret (.eq rfl ⟨ok6.mono (by omega),L,rfl,by omega,hF⟩))
 ·refine .eq (a:=nD 0) (Z4 (Zh (d:=.bl false) ?_ rfl) rfl) ⟨nD (c*0),mulN c 0 (by omega),c*0,rfl,by omega,⟨ok5.mono (by omega),L,none,by omega,hF,rfl⟩,λk d ρ s' hd hI=>?_,fun ρ' s' hI=>?_⟩
  ·refine Ze8 (a:=true) rfl λ_=>?_
   refine ZA (d:=nD n) (e:=.int 0) rfl rfl ?_;show some (D.bl (decide ((0:Int)<(n:Int))))=_;rw[decide_eq_false (by omega)]
  ·obtain⟨hk,rfl⟩:=WQ hd
   omega
  ·obtain⟨ok6,L,o8,hL,hF,rfl⟩:=hI
   rw[Y2]at ok6 hL;exact Ok.seq (.sret (.eq rfl ⟨ok6.mono (by omega),L,rfl,by omega,hF⟩))
end TQ
namespace TF
open PySem.Calls L2
def Z2 (G:Gh)(H Hf:Hp)(v:V):Prop:=∀q a p c,v=.ref q->Hf q=some (.tup [a,.ref p,c])->¬G.fp p/\H p=none
theorem Z2.old {G:Gh}{H0 H Hf:Hp}{v:V}(e:Zz G H0 H)(z:Z2 G H Hf v):Z2 G H0 Hf v:=λq a p c h1 h2=>by
 obtain⟨n,h⟩:=z q a p c h1 h2;refine⟨n,?_⟩
 cases e1:H0 p with
 | none=>rfl
 | some u=>rw[e p u n e1]at h;cases h
def spZ (n:Nat)(GG:Gh->Prop)(F:List D->M D):Sp:=λvs H Q _=>∃(G:Gh) (Hf:Hp) (ds:List D) (s:Pn) (d:D) (s':Pn),GG G/\vs.length=n/\Zz G Hf H/\Zk G Hf ds vs/\G.st s H/\F ds s=some (d,s')/\
 ∀v Hf' H',Gr G Hf H Hf' H'->G.st s' H'->Zo G Hf' d v->Z2 G H Hf' v->Q v H'
def PZ (X:Cx)(G:Gh)(e:Expr)(f:Zc->M D):Prop:=
 ∃t,PE X e t/\∀(σ:St) (Hf H:Hp) (ρ:Zc) (s:Pn) (d:D) (s':Pn) (Q:VK),Zz G Hf H->YM G Hf σ ρ->G.st s H->f ρ s=some (d,s')->
  (∀v Hf' H',Gr G Hf H Hf' H'->G.st s' H'->Zo G Hf' d v->Z2 G H Hf' v->Q v H')->t σ H Q
def PDZs (X:Cx)(G:Gh)(own:List Nat)(sts:List Stmt)(R:Zc->M D):Prop:=
 ∃t,XC X sts t/\∀(kn jS H0:Hp) (σ:St) (H:Hp) (ρ:Zc) (s:Pn) (d:D) (s':Pn) (E:Ends),J G own kn jS H0 σ H ρ->G.st s H->R ρ s=some (d,s')->(∀v Hf' H',Gr G jS H0 Hf' H'->G.st s' H'->Zo G Hf' d v->Z2 G H0 Hf' v->E.rt v H')->t E σ H
section
variable {X:Cx}{G:Gh}{own own2:List Nat}
def UM (g:Zc->M Out)(R:Zc->M D):Zc->M D:=fun ρ=>Zm (g ρ) λo=>match o with | .nx ρ'=>R ρ' | _=>Zq
theorem By {st:Stmt}{rest:List Stmt}{fr:Bool}{g:Zc->M Out}{R:Zc->M D}(h:YI X G [] own own2 fr st g)(hr:PDZs X G own2 rest R):PDZs X G own (st::rest) (UM g R):=by
 obtain⟨t,p,q⟩:=h;obtain⟨u,p2,q2⟩:=hr;refine⟨_,Xg p p2,λkn jS H0 σ H ρ s d s' E j st e k=>?_⟩;obtain⟨o,s1,a1,a2⟩:=Zs e
 cases o with
 | nx ρ'=>exact q kn jS H0 σ H ρ s (.nx ρ') s1 _ j st a1 fun σ' H' j' st'=>q2 kn jS H0 σ' H' ρ' s1 d s' E j' st' a2 k
 | rt d=>cases a2
 | bk ρ'=>cases a2
 | ct ρ'=>cases a2
theorem ZnF {e:Expr}{f:Zc->M D}{pos:Pos}{rest:List Stmt}(h:PZ X G e f):PDZs X G own (.Return (some e) pos::rest) f:=by
 obtain⟨t,p,q⟩:=h;refine⟨_,Xg (Uc p) Zh3,λkn jS H0 σ H ρ s d s' E ⟨Hf,j⟩ st e k=>?_⟩;exact q σ _ H ρ s d s' _ WS j.envB st e λv Hf' H' g st' r z=>k v Hf' H' (j.grW g) st' r (z.old j.gr.hh)
theorem ZnG {e0 e1 e2:Expr}{f0 f1 f2:Zc->M D}{r0 r2:Bool}{x1}{pos:Pos}(h0:PD X G r0 e0 f0)(h1:PDa X G e1 f1)(h2:PD X G r2 e2 f2)
  (hs0:xh [e0,e1,e2] X.env=(false,eval e0 X.env)::xh [e1,e2] X.env:=by rfl) (hs1:xh [e1,e2] X.env=(false,eval e1 X.env)::xh [e2] X.env:=by rfl) (hs2:xh [e2] X.env=(false,eval e2 X.env)::xh [] X.env:=by rfl) :
  PZ X G (.Tuple [e0,e1,e2] x1 pos) (ZZ (Zb f0 (Zb f1 (Zb f2 Ze)))):=by
 obtain⟨t0,p0,q0⟩:=h0.drop;obtain⟨t1,p1,q1⟩:=h1;obtain⟨t2,p2,q2⟩:=h2.drop;refine⟨_,Zha (ZU p0 (ZU p1 (ZU p2 Yn hs2) hs1) hs0),fun σ Hf H ρ s d s' Q a b c e k=>?_⟩;obtain⟨ds,s1,a1,a2⟩:=Zs e;obtain⟨c2,a3⟩:=YQ a2;obtain⟨rfl,rfl⟩:=ZC a3;obtain⟨d0,s2,b1,b2⟩:=Zs a1;obtain⟨ds1,s3,b3,b4⟩:=Zs b2;obtain⟨rfl,rfl⟩:=ZC b4;obtain⟨d1,s4,b5,b6⟩:=Zs b3;obtain⟨ds2,s5,b7,b8⟩:=Zs b6;obtain⟨rfl,rfl⟩:=ZC b8;obtain⟨d2,s6,b9,b10⟩:=Zs b7;obtain⟨ds3,s7,b11,b12⟩:=Zs b10;obtain⟨rfl,rfl⟩:=ZC b12;obtain⟨rfl,rfl⟩:=ZC b11;refine q0 σ Hf H ρ s d0 s2 _ a b c b1 λv0 jV H1 g1 jX r1=>?_;refine q1 σ jV H1 ρ s2 d1 s4 _ g1.fh (b.ext g1.ff) jX b5 λv1 j6 H2 g2 jY r2 fz=>?_;refine q2 σ j6 H2 ρ s4 d2 _ _ g2.fh ((b.ext g1.ff).ext g2.ff) jY b9 λv2 Hf3 H3 g3 st3 r3=>?_;refine⟨ZgY,λp hp=>?_⟩;have nf:=Gh.nofp st3 hp;have g4:=Gr.new (o:=.tup [v0,v1,v2]) g3.fh hp nf;refine k (.ref p) _ _ (((g1.trans g2).trans g3).trans g4) (Gh.grow st3 hp) ?_ λq a' p' c' e1 e2=>?_
 ·refine jc.mpr ⟨p,[v0,v1,v2],rfl,nf,ZE,?_⟩
  exact jd.mpr ⟨_,_,rfl,(r1.ext ((g2.ff.trans g3.ff).trans g4.ff)),jd.mpr ⟨_,_,rfl,r2.ext (g3.ff.trans g4.ff),jd.mpr ⟨_,_,rfl,r3.ext g4.ff,Zk.nil_iff.mpr rfl⟩⟩⟩
 ·cases e1
  rw[ZE]at e2;have e3:v1=.ref p':=by cases e2;rfl
  have z:=fz p' e3;have n1:=Gh.nofp jX z;refine⟨n1,?_⟩
  cases e4:H p' with
  | none=>rfl
  | some u=>rw[g1.hh p' u n1 e4]at z;cases z
end
def runZ (n k:Nat)(R:Zc->M D):List D->M D:=λds=>if ds.length=k then R (ds.map some++qm (n-k) none)else Zq
theorem fnZ {P:xB}{w:World}{K:qd}{mg:Str->Option Value}{base:Heap}{x qual:Str}{st:Stmt}{f:Addr}{fd:xA}{N ps:List Str}{k:Nat}{GG:Gh->Prop}{R:Zc->M D}
  (F:Fun K x qual st f fd) (S:FnScope N ps (Zw st))
  (hb:∀(A:xC) (outer:List Env) (s:Shared) (H:Hp) (E:XK),Room k (A.deeper (envOfC qual (Zw st) s.heap.objs.size f fd.code))->∀G,GG G->PDZs (Wn ZN P w K mg base N qual (Zw st) f fd.code A outer s H E).nox G [] (Wt st) R) :
  FnOk P w K mg base ZN (k+1) f fd ps (spZ ps.length GG (runZ N.length ps.length R)):=by
 obtain⟨oc,od,kV,doc,pm,an,cdv,ct,osl,rfl,lk,hcd⟩:=F.ex;refine Zic lk hcd S (λvs H Q E ⟨_,_,_,_,_,_,_,e,_⟩=>e) λA outer s H vs Q E hr h=>?_;obtain⟨G,Hf,ds,pn,d,pn',hG,el,e1,r,st',eF,k'⟩:=h;obtain⟨t,p,q⟩:=hb A outer s H E hr G hG;refine⟨t,p.nox,?_⟩;obtain⟨hl,a0⟩:=YQ eF;have hpl:ps.length<=N.length:=by have:=congrArg yR S.pre;rw[yg]at this;omega
 refine q Hf Hf H (L2.start N vs) H (ds.map some++qm (N.length-ps.length) none) pn d pn' _ ⟨Hf,?_,.refl _ _,.refl e1,λi d n e=>?_,λi d m e=>by simp at m,λi j a di dj mi=>by simp at mi⟩ st' a0 k'
 ·have:=r.length
  unfold L2.start;simp;omega
 ·have hi:i<ds.length:=by
   by_cases hi:i<ds.length
   ·exact hi
   ·rw[zS (by simpa using hi),z9]at e
    split at e <;> cases e
  have e':ds[i]?=some d:=by
   rw[zb (by simpa using hi),qG]at e
   cases q:ds[i]? with
   | none=>rw[q]at e;cases e
   | some c=>rw[q]at e;simp at e;rw[e]
  obtain⟨v,h1,h2⟩:=r.get e';refine⟨v,?_,h2⟩;unfold L2.start;rw[zb (by rw[qh,<-r.length];exact hi),qG,h1];rfl
def Zog (fy:Addr)(GG:Gh->Prop)(F:List D->M D):Sp:=λvs H Q _=>∃(G:Gh) (Hf:Hp) (ds:List D) (u v:V) (s:Pn) (d:D) (s':Pn),vs=[.ref fy,u,v]/\GG G/\Zz G Hf H/\Zk G Hf ds [u,v]/\G.st s H/\F ds s=some (d,s')/\
 ∀v Hf' H',Gr G Hf H Hf' H'->G.st s' H'->Zo G Hf' d v->Z2 G H Hf' v->Q v H'
def Zfw (P:xB)(w:World)(K:qd)(mg:Str->Option Value)(base:Heap)(k:Nat)(x y:Str)(GG:Gh->Prop)(F:List D->M D):Prop:=
 ∃f fd ps fy,FnOk P w K mg base ZN k f fd ps (Zog fy GG F)/\mg x=some (.ref f)/\zt K (.ref f)=true/\XJ K fd ps []/\mg y=some (.ref fy)
def ZpV (P:xB)(w:World)(K:qd)(mg:Str->Option Value)(base:Heap)(k:Nat)(fy:Addr)(GG:Gh->Prop)(F:List D->M D)(R:List D->M Unit)(C:Addr):Prop:=
 ∃fd ps,FnOk P w K mg base ZN k fy fd ps (spZ 2 GG F)/\FnOk P w K mg base (Vi P w) k fy fd ps (spR 2 GG R C)/\(∃oc od sl,K.lookup fy=some ⟨oc,od,.func fd,sl⟩)/\XJ K fd ps []
theorem ptrZ {X:Cx}{G:Gh}{j k:Nat}{x y:Str}{GG:Gh->Prop}{F:List D->M D}{p yp pos:Pos}{e1 e2:Expr}{fs:Zc->M (List D)}(c:Zfw X.prog X.w X.K X.mg X.base j x y GG F)(hG:GG G)(hr:Room k X.A)
  (ha:WO X G [e1,e2] fs) (hg:Gl X x:=by rfl) (hgy:Gl X y:=by rfl) (hal:∀ρ s ds s',fs ρ s=some (ds,s')->ds.length=2:=by exact Y5 (Y5 Ua)) (hjk:j<=k:=by decide)
  (hdb:(x==("__debug__" : Str))=false:=by decide) (hdy:(y==("__debug__" : Str))=false:=by decide) (he:xh [Expr.Name y yp,e1,e2] X.env=(false,eval (.Name y yp) X.env)::xh [e1,e2] X.env:=by rfl) (hpl:(backTo pos (xh [e1,e2] X.env)).any (·.1)=false:=by rfl) :
  PZ X G (.Call (.Name x p) [.Name y yp,e1,e2] [] pos) (Zu F fs):=by
 obtain⟨f,fd,ps,fy,FN,hm,hk,hb,hmy⟩:=c;obtain⟨t,pa,qa⟩:=ha;refine⟨_,BE (FN.mono hjk) hr hg hm hk hb .nil B0 (ZU (BA (v:=.ref fy) hgy hmy rfl hdy) pa he) hdb he hpl,fun σ Hf H ρ s d s' Q a b c d' k=>?_⟩;obtain⟨ds,s1,a1,a2⟩:=Zs d';refine qa σ Hf H ρ s ds s1 _ a b c a1 λvs jV H1 g1 jX r1=>?_;obtain⟨u,v,rfl⟩:=ux2 vs (by rw[<-r1.length];exact hal _ _ _ _ a1);exact⟨G,jV,ds,u,v,s1,d,s',rfl,hG,g1.fh,r1,jX,a2,λv j6 H2 g2 jY r2 z=>k v j6 H2 (g1.trans g2) jY r2 (z.old g1.hh)⟩
structure ZI (G:Gh)(i:Nat)(kn jS H0:Hp)(σ:St)(H:Hp)(ρ:Zc):Prop where
 k:Zz G kn jS
 e:Zz G jS H0
 env:YM G jS σ (ρ.set i none)
 at_:∀ds q,ρ[i]?=some (some (.tup ds))->σ[i]?=some (some (.ref q))->∃vs,H q=some (.tup vs)/\¬G.fp q/\∀a p c,vs=[a,.ref p,c]->¬G.rd p/\H0 p=none
def Zoh (G:Gh)(i:Nat)(kn jS H0:Hp)(fr:Bool)(out:Out)(s':Pn)(E:Ends):Prop:=match out with
 | .nx ρ=>∀σ H,J G [] kn jS H0 σ H ρ->ZI G i kn jS H0 σ H ρ->G.st s' H->E.nx σ H
 | .rt d=>∀v Hf' H',Gr G jS H0 Hf' H'->G.st s' H'->Zo G Hf' d v->(fr=true->Z7 G H0 Hf' d v)->E.rt v H'
 | _=>True
def DosZ (G:Gh)(i:Nat)(fr:Bool)(t:TS)(g:Zc->M Out):Prop:=
 ∀(kn jS H0:Hp) (σ:St) (H:Hp) (ρ:Zc) (s:Pn) (out:Out) (s':Pn) (E:Ends),J G [] kn jS H0 σ H ρ->ZI G i kn jS H0 σ H ρ->G.st s H->g ρ s=some (out,s')->Zoh G i kn jS H0 fr out s' E->t E σ H
def Us (X:Cx)(G:Gh)(i:Nat)(fr:Bool)(sts:List Stmt)(g:Zc->M Out):Prop:=∃t,XC X sts t/\DosZ G i fr t g
section
variable {X:Cx}{G:Gh}{i:Nat}{fr:Bool}{g g1 g2:Zc->M Out}
theorem U7:Us X G i fr [] Zp:=⟨_,BB,λkn jS H0 σ H ρ s out s' E j z st e p=>by
 obtain⟨rfl,rfl⟩:=ZC e;exact p σ H j z st⟩
theorem Zfx {e:Expr}{f:Zc->M D}{pos:Pos}(h:PD X G fr e f):Us X G i fr [.Return (some e) pos] (ZL f):=by
 obtain⟨t,p,q⟩:=YG (ob:=[]) (own:=[]) (own':=[]) (pos:=pos) h;refine⟨t,W9 p,λkn jS H0 σ H ρ s out s' E j z st e po=>?_⟩;obtain⟨d,s1,a1,a2⟩:=Zs e;have a2':=a2;obtain⟨rfl,rfl⟩:=ZC a2';exact q kn jS H0 σ H ρ s _ _ E j st e po
theorem B9 {c:Expr}{a b rest:List Stmt}{pos:Pos}{fc:Zc->M Bool}{g3:Zc->M Out}(hc:X1 X G c fc)(ha:Us X G i fr a g1)(hb:Us X G i fr b g2)(hr:Us X G i fr rest g3):Us X G i fr (.If c a b pos::rest) (Zg (Yw fc g1 g2) g3):=by
 obtain⟨tc,pc,qc⟩:=hc;obtain⟨ta,pa,qa⟩:=ha;obtain⟨tb,pb,qb⟩:=hb;obtain⟨tr,pr,qr⟩:=hr;refine⟨_,Xg (BX pc pa pb) pr,λkn jS H0 σ H ρ s out s' E ⟨Hf,j⟩ z st e po=>?_⟩;obtain⟨o,s2,a1,a2⟩:=Zs e;obtain⟨b,s1,b1,b2⟩:=Zs a1;refine qc σ _ H ρ s b s1 _ WS j.envB st b1 λHf' H' g st'=>?_;obtain⟨F,j',fF,q1,q2⟩:=j.growB g;have z':ZI G i kn jS H0 σ H' ρ:=⟨z.k,z.e,z.env,λds q h1 h2=>by
  obtain⟨vs,h3,h4,h5⟩:=z.at_ ds q h1 h2;exact⟨vs,g.hh q _ h4 h3,h4,h5⟩⟩
 have po':Zoh G i kn jS H0 fr o s2 { E with nx:=tr E }:=by
  cases o with
  | nx ρ1=>exact fun σ1 H1 j1 z1 jX=>qr kn jS H0 σ1 H1 ρ1 s2 out s' E j1 z1 jX a2 po
  | rt d=>obtain⟨rfl,rfl⟩:=ZC a2;exact po
  | bk ρ1=>trivial
  | ct ρ1=>trivial
 cases b with
 | true=>exact WY (qa kn jS H0 σ H' ρ s1 o s2 _ ⟨F,j'⟩ z' st' b2 po')
 | false=>exact VZ (qb kn jS H0 σ H' ρ s1 o s2 _ ⟨F,j'⟩ z' st' b2 po')
theorem Zmu {c:Expr}{f:Zc->M D}{x:Str}{rest:List Stmt}{pos pos':Pos}(hN:X.N.Nodup)(hi:X.N[i]?=some x)(hx:W3 X.env.scope x)(h:PZ X G c f)(hr:Us X G i fr rest g)
  (hs:xr c (some (.Name x pos')) pos.line X.env=pure false:=by rfl) (hf:X.fn x=true∨X.env.scope.names.lookup x=some .local:=by first | exact .inl rfl | exact .inr rfl | assumption) :
  Wc X G [] [] [] fr (.Assign [.Name x pos'] c pos::rest) (Zg (ZS i f) g):=by
 obtain⟨t,p,q⟩:=h;obtain⟨tr,pr,qr⟩:=hr;refine⟨_,Xg (WE hN hi hx p hs hf) pr,λkn jS H0 σ H ρ s out s' E ⟨Hf,j⟩ st e po=>?_⟩;obtain⟨o,s2,a1,a2⟩:=Zs e;obtain⟨d,s1,b1,b2⟩:=Zs a1;obtain⟨rfl,rfl⟩:=ZC b2;refine q σ _ H ρ s d s2 _ WS j.envB st b1 λv Hf' H' g st' r z=>?_;have jl:=j.len;have hne:∀k dk,k≠i->ρ[k]?=some (some dk)->∃v',(σ.set i (some v))[k]?=some (some v')/\Zo G (wide jS H0 H) dk v':=λk dk hk e1=>by
  obtain⟨v',h1,h2⟩:=j.envB k dk e1;exact⟨v',by rw[qO (ze hk)];exact h1,h2⟩
 have j1:Jf G [] (wide jS H0 H) (wide jS H0 H) H (σ.set i (some v)) Hf' H' (ρ.set i (some d)):=⟨by rw[ym,ym];exact jl,g.ff,g,λk dk _ e1=>by
  by_cases hk:k=i
  ·subst hk
   by_cases hkl:k < ρ.length
   ·rw[qV hkl]at e1
    cases e1
    exact⟨v,qV (by omega),r⟩
   ·rw[yX (by rw[ym];omega)]at e1;cases e1
  ·rw[qO (ze hk)]at e1
   obtain⟨v',h1,h2⟩:=hne k dk hk e1;exact⟨v',h1,h2.ext g.ff⟩,λk dk m=>by simp at m,λa b c d e m=>by simp at m⟩
 have z1:ZI G i (wide jS H0 H) (wide jS H0 H) H (σ.set i (some v)) H' (ρ.set i (some d)):=⟨.refl _ _,WS,λk dk e1=>by
  rw[List.set_set]at e1;by_cases hk:k=i
  ·subst hk
   by_cases hkl:k < ρ.length
   ·rw[qV hkl]at e1;cases e1
   ·rw[yX (by rw[ym];omega)]at e1;cases e1
  ·rw[qO (ze hk)]at e1
   exact hne k dk hk e1,λds q' h1 h2=>by
  obtain⟨v',h3,h4⟩:=j1.fz i _ (by simp) h1;rw[h2]at h3
  cases h3
  obtain⟨q2,vs,h5,h6,h7,h8⟩:=jc.mp h4
  cases h5
  have hil:i < σ.length:=by
   by_cases hkl:i < σ.length
   ·exact hkl
   ·rw[yX (by rw[ym];omega)]at h2;cases h2
  have ev:v=.ref q':=by
   rw[qV hil]at h2
   cases h2;rfl
  refine⟨vs,g.fh _ _ h6 h7,h6,λa p c ec=>?_⟩;subst ec;obtain⟨_,h9⟩:=z q' a p c ev h7;exact⟨jB st h9,h9⟩⟩
 refine qr _ _ _ _ _ _ s2 out s' E ⟨Hf',j1⟩ z1 st' a2 ?_;have W:=j.gr
 cases out with
 | nx ρ1=>exact fun σ1 H1 ⟨F1,j2⟩ z2 jX=>po σ1 H1 ⟨F1,j2.len,j.kn.trans (j.wideF.trans j2.kn),j.grW j2.gr,j2.fz,λa d m=>by simp at m,j2.ne⟩ jX
 | rt d=>exact λv1 F1 H1 g1 jX r1 fz=>po v1 F1 H1 (j.grW g1) jX r1 λzz=>Z7.old j.gr.hh r1.nofp (fz zz)
 | bk ρ1=>trivial
 | ct ρ1=>trivial
def Ba (i:Nat):Zc->M Out:=fun ρ=>match (ρ[i]?).bind id with
 | some (.tup [_,.lst ds,_])=>if ds.length<xg then Zy (.nx (ρ.set i none))else Zq
 | _=>Zq
theorem Zkv {i:Nat}{ρ:Zc}{s s':Pn}{o:Out}(h:Ba i ρ s=some (o,s')):∃d0 ds d2,(ρ[i]?).bind id=some (.tup [d0,.lst ds,d2])/\ds.length<xg/\o=.nx (ρ.set i none)/\s'=s:=by
 unfold Ba at h
 cases hb:(ρ[i]?).bind id with
 | none=>rw[hb]at h;cases h
 | some c=>
  rw[hb]at h
  cases c with
  | tup l=>
   rcases l with _ | ⟨d0,_ | ⟨d1,_ | ⟨d2,_ | ⟨d3,r⟩⟩⟩⟩
   ·cases h
   ·cases h
   ·cases d1 <;> cases h
   ·cases d1 with
    | lst ds=>
     obtain⟨c2,a3⟩:=YQ h;obtain⟨rfl,rfl⟩:=ZC a3;exact⟨d0,ds,d2,rfl,c2,rfl,rfl⟩
    | _=>cases h
   ·cases d1 <;> cases h
  | _=>cases h
theorem Zpn {x:Str}{p0 p1 p2 p3 p4 p5 pos:Pos}{j1 j0}{rest:List Stmt}(hv:PE X (.Name x p0) (ZY i))(hr:Us X G i fr rest g)
  (hbase:xq (.Subscript (.Name x p0) (.Constant (.int 1) j1 p1) p2) "append" X.env (eval (.Subscript (.Name x p0) (.Constant (.int 1) j1 p1) p2) X.env)=eval (.Subscript (.Name x p0) (.Constant (.int 1) j1 p1) p2) X.env:=by rfl)
  (hfew:((backTo p4 (xh [.Constant (.int 0) j0 p5] X.env)).all (λx=>!x.1)&&(xp p4 (xi [] X.env)).all (λx=>x.1.isSome)
   && decide ([Expr.Constant (.int 0) j0 p5].length+([]:List Keyword).length+(if ([]:List Keyword).isEmpty then 0 else 1)<30))=true:=by rfl)
  (hline:(p3.endLine==p4.line)=true:=by rfl) (hs:xh [.Constant (.int 0) j0 p5] X.env=(false,eval (.Constant (.int 0) j0 p5) X.env)::xh [] X.env:=by rfl)
  (hsw:xr (.Call (.Attribute (.Subscript (.Name x p0) (.Constant (.int 1) j1 p1) p2) "append" p3) [.Constant (.int 0) j0 p5] [] p4) none pos.line X.env=pure false:=by rfl) :
  Us X G i fr (.Expr (.Call (.Attribute (.Subscript (.Name x p0) (.Constant (.int 1) j1 p1) p2) "append" p3) [.Constant (.int 0) j0 p5] [] p4) pos::rest) (Zg (Ba i) g):=by
 obtain⟨tr,pr,qr⟩:=hr;refine⟨_,Xg (BC (U8 zN qbr qbs Zb7 (JW ZkP hv Xd λ_ _=>rfl) (ZU Xd Yn hs) hbase hfew hline hs rfl) hsw) pr,λkn jS H0 σ H ρ s out s' E ⟨Hf,j⟩ z st e po=>?_⟩;obtain⟨o,s2,a1,a2⟩:=Zs e;obtain⟨d0,ds,d2,hb,c2,rfl,rfl⟩:=Zkv a1
 ·have ei:=JH hb
  obtain⟨v,h1,h2⟩:=j.fz i _ (by simp) ei;obtain⟨q,vs,rfl,nq,hq,r⟩:=jc.mp h2;obtain⟨v0,r0,rfl,_,r⟩:=jd.mp r;obtain⟨v1,r1,rfl,rl,r⟩:=jd.mp r;obtain⟨v2,r2,rfl,_,r⟩:=jd.mp r;obtain rfl:=Zk.nil_iff.mp r;obtain⟨p,us,rfl,np,hp,ru⟩:=jb.mp rl;obtain⟨vs',k1,k2,k3⟩:=z.at_ _ q ei h1;have hH:=j.gr.fh q _ nq hq;rw[hH]at k1
  cases k1
  obtain⟨nr,hn⟩:=k3 _ _ _ rfl;have hpH:=j.gr.fh p _ np hp;refine⟨.ref q,h1,q,_,1,.ref p,rfl,rfl,ZO.of hH,rfl,.inl ⟨rfl,us,ZD.of hpH⟩,?_⟩;refine⟨p,us,.int 0,rfl,rfl,hpH,by rw[<-ru.length];exact c2,?_⟩;have e1:Zz G H0 (Zi H p (.lst (us ++ [.int 0]))):=λb u n q=>by
   have:b≠p:=λz=>by rw[z,hn]at q;cases q
   rw[Zl this];exact j.gr.hh b u n q
  refine qr kn jS H0 σ _ _ _ out s' E ⟨jS,by rw[ym];exact j.len,z.k,⟨e1,.refl _ _,z.e.trans e1,λ_ _ h _=>h⟩,λk d _ h=>z.env k d h,λa d m=>by simp at m,λa b c d e m=>by simp at m⟩ ⟨z.k,z.e,by rw[List.set_set];exact z.env,λds q h=>?_⟩ (jq st nr) a2 po;have:i < ρ.length:=(qz.mp ei).1;rw[qV this]at h
  cases h
end
end TF
namespace TQ
open L2 TF TS
open TP
open TP2
open TP3
def RCt:List D->M Unit:=runR 7 2 fun ρ=>Zm (Zb (Za 0) (Zb (Za 1) Ze) ρ) RAb
end TQ
namespace K54
open L2 TF TQ
open TP
open TP2
open TP3
def Yb (i:Nat):Stmt:=PySem.Challenge.pw_tiefold_k54_chains_told.main.body.getD i (.Pass ⟨0,0,0,0⟩)
abbrev Zdz:Stmt:=Yb 7
abbrev Zh5:Stmt:=Yb 9
abbrev ZbH:Stmt:=Yb 10
abbrev ZdA:Stmt:=Yb 11
abbrev ZaI:Stmt:=Yb 12
abbrev ZbZ:Stmt:=Yb 13
abbrev Za8:Stmt:=Yb 14
abbrev Zmv:Stmt:=Yb 16
abbrev Zal:Stmt:=Yb 17
abbrev Bl:Stmt:=Yb 18
abbrev ZaJ:Stmt:=Yb 19
abbrev Zam:Stmt:=Yb 20
abbrev Zci:Stmt:=Yb 21
abbrev Zaw:Stmt:=Yb 23
abbrev ZaZ:Stmt:=Yb 24
abbrev W5:Stmt:=Yb 26
abbrev ZaK:Stmt:=Yb 27
abbrev Zae:Stmt:=Yb 28
abbrev US:Stmt:=Yb 29
abbrev Za9:Stmt:=Yb 31
abbrev Zb0:Stmt:=Yb 32
abbrev Zb1:Stmt:=Yb 33
abbrev Zaf:Stmt:=Yb 34
abbrev ZaL:Stmt:=Yb 35
abbrev Zbs:Stmt:=Yb 36
abbrev Zah:Stmt:=Yb 37
abbrev ZaM:Stmt:=Yb 38
abbrev Zan:Stmt:=Yb 39
abbrev ZaN:Stmt:=Yb 40
abbrev s_law:Stmt:=Yb 41
structure Txt (mg:Str->Option Value):Prop where
 b_any:mg "any" = none
 b_bool:mg "bool" = none
 b_dict:mg "dict" = none
 b_enumerate:mg "enumerate" = none
 b_int:mg "int" = none
 b_isinstance:mg "isinstance" = none
 b_len:mg "len" = none
 b_list:mg "list" = none
 b_max:mg "max" = none
 b_min:mg "min" = none
 b_range:mg "range" = none
 b_set:mg "set" = none
 b_sorted:mg "sorted" = none
 b_sum:mg "sum" = none
 b_tuple:mg "tuple" = none
set_option maxHeartbeats 4000000
variable {P:xB}{w:World}{K:qd}{mg:Str->Option Value}{base:Heap}{j8:Addr}{jR:xA}
def Zd2:Zc->M Out:=(Zg (ZS 3 (Zu VM (Zb (Za 0) (Zb (Za 1) Ze))))
 (Zg (ZS 4 (Zd Y0 (dC (.int 1)) (Zu Yy (Zb (Za 0) (Zb (dC (.int 5)) Ze)))))
 (Zg (Wo 5 (Y4 Ze))
 (Zg (YS (ZW (Za 1)) (Zv 6)
 (Zg (YS (ZW (Za 6)) (Zv 7)
 (Zg (Yw (asB (Zd WC (Zu Yy (Zb (Za 0) (Zb (dC (.int 8)) Ze))) (Za 4)))
 (Zg (Jq 5 (Xa true (Zu Yy (Zb (Za 0) (Zb (Zd Y0 (Zx Yo (Zb (Za 5) Ze)) (dC (.int 1))) Ze)))) (Xa true (ZZ (Zb (Zd Zj (Za 3) (Za 7)) (Zb (Zd Zj (Za 3) (Za 6)) Ze)))))
 Zp)
 Zp)
 Zp))
 Zp))
 (Zg (Yw (XZ (asB (Zd Y9 (Za 5) (Y4 Ze))) (asB (Zd Xk (Zu Yy (Zb (Za 0) (Zb (dC (.int 3)) Ze))) (dC (.int 0)))))
 (Zg (V0 5 (Xa false (Zd Zj (Za 5) (Zu Yy (Zb (Za 0) (Zb (Zx Yo (Zb (Za 5) Ze)) Ze))))))
 Zp)
 Zp)
 (Zg (YS (ZW (Zd dMul (Zd Zj (Y4 (Zb (dC (.int 0)) (Zb (dC (.int 0)) (Zb (dC (.int 0)) (Zb (dC (.int 1)) (Zb (dC (.int 1)) (Zb (dC (.int 2)) (Zb (dC (.int 3)) Ze)))))))) (Zu Yy (Zb (Za 0) (Zb (dC (.int 7)) Ze)))) (Zx Zk2 (Zb (WK (Za 2) (Zd dGt (Za 1) (dC (.int 0)))) Ze)))) (Zv 8)
 (Zg (Jq 5 (Xa true (Zu Yy (Zb (Za 0) (Zb (Zd Y0 (Zx Yo (Zb (Za 5) Ze)) (dC (.int 1))) Ze)))) (Xa true (ZZ (Zb (Zu Yy (Zb (Za 0) (Zb (Za 1) Ze))) (Zb (Zu Yy (Zb (Za 0) (Zb (Za 1) Ze))) Ze)))))
 Zp))
 (Zg (ZL (Za 5))
 Zp)))))))
def Zai:List D->M D:=runB 9 3 Zd2
theorem Zba:FnScope ["pen","n","rings","order","often","pairs","j","i","k"] ["pen","n","rings"] (Zw Zbs):=Xb
theorem ZdB (F:Fun K "_law_tpairs" "_law_tpairs" Zbs j8 jR)(T:Txt mg){L:List (Addr×Str)}(lo:W4 L)(jP:ZT P w K mg base 1 "_law_tdraw" 2 true (WL We L) Yy)(kA:ZT P w K mg base 2 "_law_torder" 2 true (WL We L) VM) :
  FnOk P w K mg base ZN 3 j8 jR ["pen","n","rings"] (Ys 3 true (WL We L) Zai):=
 have jQ:=Zba.nd
 XE (own:=[]) F Zba λcdv A outer s H E hr G hG=>
 have hT:Y8 L G:=jC lo hG
 (ZK (Y3 (YC jQ rfl (qK rfl) (Ya (kA.mono) hG hr (Zf (va 0) (Zf (va 1) Zn)))))
 (ZK (Y3 (YC jQ rfl (qK rfl) (WV VL ZV (Ya (jP.mono) hG hr (Zf (va 0) (Zf ZV Zn))))))
 (Z6 (own2:=[5]) (Uz (YC jQ rfl (qK rfl) (Vb Zn)))
 (Z6 (own2:=[5]) (XG (own:=[5]) qT rfl (Wh rfl T.b_range (va 1)) (XF jQ rfl (qK rfl) (by decide))
 (Z6 (own2:=[5]) (XG (own:=[5]) qT rfl (Wh rfl T.b_range (va 6)) (XF jQ rfl (qK rfl) (by decide))
 (Z6 (own2:=[5]) (BS (own':=[5]) (YV (Ze4 hr.units0) (Ya (jP.mono) hG hr (Zf (va 0) (Zf ZV Zn))) (va 4))
 (Z6 (own2:=[5]) (ZgF (own:=[5]) (i:=5) (by decide) (pv 5) (Ya (jP.mono) hG hr (Zf (va 0) (Zf (WV VL (Wg T.b_len (Zf (va 5) Zn)) ZV) Zn))) (Xe (Zf (Z1 Z3 (va 3) (va 7)) (Zf (Z1 Z3 (va 3) (va 6)) Zn))))
 (Ye (own:=[5])))
 Ye)
 (Ye (own:=[5]))))
 (Ye (own:=[5]))))
 (Z6 (own2:=[5]) (BS (own':=[5]) (X3.pt (JF (YV (Ug hr.units) (va 5) (Vb Zn)) (JD (YV (Uf hr.units) (Ya (jP.mono) hG hr (Zf (va 0) (Zf ZV Zn))) ZV))))
 (Z6 (own2:=[5]) (Zk0 (own:=[5]) (i:=5) (by decide) (Z1 Z3 (va 5) (Ya (jP.mono) hG hr (Zf (va 0) (Zf (Wg T.b_len (Zf (va 5) Zn)) Zn)))) (λ_ h=>Zb8 (pv 5) h))
 (Ye (own:=[5])))
 Ye)
 (Z6 (own2:=[5]) (XG (own:=[5]) qT rfl (Wh rfl T.b_range (WV Zik (Z1 Z3 (Vb (Zf ZV (Zf ZV (Zf ZV (Zf ZV (Zf ZV (Zf ZV (Zf ZV Zn)))))))) (Ya (jP.mono) hG hr (Zf (va 0) (Zf ZV Zn)))) (VH (Zhm) rfl T.b_int TF.boot_int (Zf (BR (va 2) (BQ (Vc (Zk1) (va 1) ZV))) Zn)))) (XF jQ rfl (qK rfl) (by decide))
 (Z6 (own2:=[5]) (ZgF (own:=[5]) (i:=5) (by decide) (pv 5) (Ya (jP.mono) hG hr (Zf (va 0) (Zf (WV VL (Wg T.b_len (Zf (va 5) Zn)) ZV) Zn))) (Xe (Zf (Ya (jP.mono) hG hr (Zf (va 0) (Zf (va 1) Zn))) (Zf (Ya (jP.mono) hG hr (Zf (va 0) (Zf (va 1) Zn))) Zn))))
 (Ye (own:=[5]))))
 (Z6 (own2:=[5]) (Zby (i:=5) (by decide) (pv 5))
 (Ye (own:=[5])))))))))
def Zd3:Zc->M Out:=(Zg (Wo 2 (Y4 Ze))
 (Zg (YS (ZW (Za 0)) (Zv 3)
 (Zg (Wo 4 (fun ρ=>(ZQ [none,none,some 3] (ZX (Za 1)) (VR 0 1) (asB (Zd Xk (Za 1) (Za 2))) (Za 0)) (Yk [2] ρ)))
 (Zg (ZS 5 (fun ρ=>(dC (.int 0)) (Yk [4,2] ρ)))
 (Zg (Zfe 1000000 (asB (Zd WC (Za 5) (Zx Yo (Zb (Za 4) Ze))))
 (Zg (UK 4 (Xa true (ZQ [none,none,some 4,some 5] (ZX (Za 1)) (VR 0 1) (XZ (asB (Zd Xk (Za 1) (Zd Zj (Za 2) (Za 3)))) (asB (Zd WG (Za 0) (Za 2)))) (Za 0))))
 (Zg (ZS 5 (fun ρ=>(Zd Y0 (Za 5) (dC (.int 1))) (Yk [4,2] ρ)))
 Zp)))
 (Zg (V0 2 (fun ρ=>(Bw (Za 4)) (Yk [2] ρ)))
 Zp)))))
 (Zg (ZL (Za 2))
 Zp)))
def Zaj:List D->M D:=runB 6 2 Zd3
theorem Zbb:FnScope ["n","pairs","found","place","lower","at"] ["n","pairs"] (Zw Zah):=Xb
theorem ZdC (F:Fun K "_law_tlower" "_law_tlower" Zah j8 jR)(T:Txt mg) :
  FnOk P w K mg base ZN 1 j8 jR ["n","pairs"] (Ys 2 true Z0 Zaj):=
 have jQ:=Zbb.nd
 XE (own:=[]) F Zbb λcdv A outer s H E hr G hG=>
 (Z6 (own2:=[2]) (Uz (YC jQ rfl (qK rfl) (Vb Zn)))
 (Z6 (own2:=[2]) (XG (own:=[2]) qT rfl (Wh rfl T.b_range (va 0)) (XF jQ rfl (zL rfl) (by decide))
 (Z6 (own2:=[4,2]) (ZkZ (own:=[2]) (own':=[4,2]) (YC jQ rfl (zL rfl) (Xq (bk ["n","pairs","found","place","lower","at"] (Zw Zah).names ["a","b","place"] [none,none,some 3]) (Wi (va 1)) (ZcX rfl (show(["a","b","place"]:List Str).Nodup by decide +kernel) rfl rfl (qK rfl) (qK rfl) rfl rfl (hp:=V8 (WM (show(["a","b","place"]:List Str).Nodup by decide +kernel) rfl (qK rfl)) (V8 (WM (show(["a","b","place"]:List Str).Nodup by decide +kernel) rfl (qK rfl)) ZcE))) (Vr (YV (Uf hr.units) (va 1) (va 2))) (va 0))))
 (Z6 (own2:=[4,2]) (ZfT (own:=[4,2]) (YC jQ rfl (zL rfl) ZV))
 (Z6 (own2:=[4,2]) (ZjO (own:=[4,2]) qT (YV (Ze4 hr.units0) (va 5) (Wg T.b_len (Zf (va 4) Zn)))
 (Z6 (own2:=[4,2]) (Zj9 (own:=[4,2]) (i:=4) (by decide) (pv 4) (Xq (bk ["n","pairs","found","place","lower","at"] (Zw Zah).names ["a","b","lower","at"] [none,none,some 4,some 5]) (Wi (va 1)) (ZcX rfl (show(["a","b","lower","at"]:List Str).Nodup by decide +kernel) rfl rfl (qK rfl) (qK rfl) rfl rfl (hp:=V8 (WM (show(["a","b","lower","at"]:List Str).Nodup by decide +kernel) rfl (qK rfl)) (V8 (WM (show(["a","b","lower","at"]:List Str).Nodup by decide +kernel) rfl (qK rfl)) ZcE))) (Vr (X3.pt (JF (YV (Uf hr.units) (va 1) (Z1 Z3 (va 2) (va 3))) (JD (YV (Zbk hr.units) (va 0) (va 2)))))) (va 0)))
 (Z6 (own2:=[4,2]) (ZfT (own:=[4,2]) (YC jQ rfl (zL rfl) (WV VL (va 5) ZV)))
 (Ye (own:=[4,2])))))
 (Z6 (own2:=[2]) (YI.frz (own:=[4,2]) (own2:=[2]) (Zlx (own:=[2]) (i:=2) (by decide) (pv 2) (ZhM rfl rfl T.b_sorted TF.boot_sorted rfl T.b_set TF.boot_set (va 4))))
 (Ye (own:=[2])))))))
 (Z6 (own2:=[2]) (Zby (i:=2) (by decide) (pv 2))
 (Ye (own:=[2])))))
def Zg0:Zc->M Out:=(Zg (Wo 2 (Zx Zfm (Zb (ZQ [none] (ZX (Za 1)) (Zv 0) Yc (ZZ (Zb (Za 0) (Zb (dC (.bl true)) Ze)))) Ze)))
 (Zg (YS (ZW (Za 0)) (Zv 3)
 (Zg (YS (ZW (Za 0)) (Zv 4)
 (Zg (YS (ZW (Za 0)) (Zv 5)
 (Zg (Yw (XZ (asB (Zd YF (ZZ (Zb (Za 4) (Zb (Za 3) Ze))) (Za 2))) (asB (Zd YF (ZZ (Zb (Za 3) (Zb (Za 5) Ze))) (Za 2))))
 (Zg (J3 2 (fun ρ=>(ZZ (Zb (Za 4) (Zb (Za 5) Ze))) (Yk [2] ρ)) (fun ρ=>(dC (.bl true)) (Yk [2] ρ)))
 Zp)
 Zp)
 Zp))
 Zp))
 Zp))
 (Zg (Yw (asB (Zx UJ (Zb (ZQ [none,some 2] (ZW (Za 0)) (Zv 0) Yc (Zd YF (ZZ (Zb (Za 0) (Zb (Za 0) Ze))) (Za 1))) Ze)))
 (λ_=>Zq)
 Zp)
 (Zg (ZL (Za 2))
 Zp))))
def Bq:List D->M D:=runB 6 2 Zg0
theorem Zax:FnScope ["n","pairs","below","between","a","b"] ["n","pairs"] (Zw US):=Xb
theorem Zfy (F:Fun K "all_below" "all_below" US j8 jR)(T:Txt mg) :
  FnOk P w K mg base ZN 1 j8 jR ["n","pairs"] (Ys 2 false Z0 Bq):=
 have jQ:=Zax.nd
 XE (own:=[]) F Zax λcdv A outer s H E hr G hG=>
 (Z6 (own2:=[2]) (Uz (YC jQ rfl (zL rfl) (VH (Zdl rfl hr.units) rfl T.b_dict TF.boot_dict (Zf (Xq (bk ["n","pairs","below","between","a","b"] (Zw US).names ["pair"] [none]) (Wi (va 1)) Xf Wl (Xe (Zf (va 0) (Zf X8 Zn)))) Zn))))
 (Z6 (own2:=[2]) (XG (own:=[2]) qT rfl (Wh rfl T.b_range (va 0)) (XF jQ rfl (qK rfl) (by decide))
 (Z6 (own2:=[2]) (XG (own:=[2]) qT rfl (Wh rfl T.b_range (va 0)) (XF jQ rfl (qK rfl) (by decide))
 (Z6 (own2:=[2]) (XG (own:=[2]) qT rfl (Wh rfl T.b_range (va 0)) (XF jQ rfl (qK rfl) (by decide))
 (Z6 (own2:=[2]) (BS (own':=[2]) (X3.pt (JF (YV (WU hr.units) (Xe (Zf (va 4) (Zf (va 3) Zn))) (va 2)) (JD (YV (WU hr.units) (Xe (Zf (va 3) (Zf (va 5) Zn))) (va 2)))))
 (Z6 (own2:=[2]) (Zde (own:=[2]) (i:=2) (L2.hu_of hr) (by decide) (pv 2) (Xe (Zf (va 4) (Zf (va 5) Zn))) X8)
 (Ye (own:=[2])))
 Ye)
 (Ye (own:=[2]))))
 (Ye (own:=[2]))))
 (Ye (own:=[2]))))
 (ZK (YI.frz (own:=[2]) (own2:=[]) (Vj (Wu (Xc (Zb9 rfl) rfl T.b_any TF.boot_any (Zf (Xq (bk ["n","pairs","below","between","a","b"] (Zw US).names ["place","below"] [none,some 2]) (VE rfl T.b_range (va 0)) Xf Wl (Vc (WU hr.units) (Xe (Zf (va 0) (Zf (va 0) Zn))) (va 1))) Zn)))
 Zev
 Ye))
 (ZK (YG (va 2))
 YJ))))
theorem Zcv:FnScope ["row","pairs","i","j"] ["row"] (Zw Zdz):=Xb
theorem Zg1 (F:Fun K "pairs_of" "pairs_of" Zdz j8 jR)(T:Txt mg) :
  FnOk P w K mg base ZN 1 j8 jR ["row"] (Ys 1 true Z0 Br):=
 have jQ:=Zcv.nd
 XE (own:=[]) F Zcv λcdv A outer s H E hr G hG=>
 (Z6 (own2:=[1]) (Uz (YC jQ rfl (qK rfl) (Vb Zn)))
 (Z6 (own2:=[1]) (XG (own:=[1]) qT rfl (Wh rfl T.b_range (Wg T.b_len (Zf (va 0) Zn))) (XF jQ rfl (qK rfl) (by decide))
 (Z6 (own2:=[1]) (XG (own:=[1]) qT rfl (ZfV rfl T.b_range (WV VL (va 2) ZV) (Wg T.b_len (Zf (va 0) Zn))) (XF jQ rfl (qK rfl) (by decide))
 (Z6 (own2:=[1]) (ZfX (own:=[1]) (i:=1) (by decide) (Xe (Zf (Z1 Z3 (va 0) (va 2)) (Zf (Z1 Z3 (va 0) (va 3)) Zn))) (λ_ h=>Zb8 (pv 1) h))
 (Ye (own:=[1]))))
 (Ye (own:=[1]))))
 (Z6 (own2:=[1]) (Zby (i:=1) (by decide) (pv 1))
 (Ye (own:=[1])))))
theorem Zb2:FnScope ["row","tied","pairs"] ["row","tied"] (Zw Za8):=Xb
theorem Zfz (F:Fun K "web_where" "web_where" Za8 j8 jR)(T:Txt mg)(kK:ZT P w K mg base 1 "pairs_of" 1 true Z0 Br) :
  FnOk P w K mg base ZN 5 j8 jR ["row","tied"] (Ys 2 false (Jl P w K mg 4 2 Tl base) Ux):=
 have jQ:=Zb2.nd
 XE (own:=[]) F Zb2 λcdv A outer s H E hr G hG=>
 (ZK (Y3 (YC jQ rfl (qK rfl) (Ya (kK.mono) trivial hr (Zf (Zar rfl rfl T.b_range rfl T.b_list TF.boot_list (Wg T.b_len (Zf (va 0) Zn))) Zn))))
 (ZK (YG (PD.weak (Xe (Zf (Wg T.b_len (Zf (va 0) Zn)) (Zf (VH (Zaq) rfl T.b_tuple TF.boot_tuple (Zf (Xq (bk ["row","tied","pairs"] (Zw Za8).names ["pair","tied","row"] [none,some 1,some 0]) (Wi (va 2)) Xf (Vr (Wu (Zle hG (hr.mono (by decide)) (pv 1) (Zf (Z1 Z3 (va 2) (Z1 Z3 (va 0) ZV)) (Zf (Z1 Z3 (va 2) (Z1 Z3 (va 0) ZV)) Zn)) (Y5 (Y5 Ua))))) (va 0)) Zn)) Zn)))))
 YJ))
def ZdD:Zc->M Out:=(Zg (ZL (J8 Ux 5 [1] (VF (Za 0))))
 Zp)
def Bm:List D->M D:=runB 2 2 ZdD
theorem Za1:FnScope ["n","below"] ["n","below"] (Zw Zae):=Xb
theorem ZcB (F:Fun K "web_of_below" "web_of_below" Zae j8 jR)(T:Txt mg){L:List (Addr×Str)}(lo:W4 L)(ki:Jm P w K mg 5 "web_where" 2 false (Jl P w K mg 4 2 Tl) Ux){tc tP:Addr}(hcode:jR.code=.ref tc)(hCd:zE base tc tP)(hBm:Uv mg base)(hL:(tP,(qw "web_of_below.<locals>.<lambda>"))∈L) :
  FnOk P w K mg base ZN 6 j8 jR ["n","below"] (Ys 2 false (Y8 L) Bm):=
 have jQ:=Za1.nd
 fnDC (own:=[]) F Za1 λA outer s H E hr G hG=>
 have hT:Y8 L G:=hG;have TG9:=hT _ _ hL;have M9:Mk0 (Wn ZN P w K mg base ["n","below"] "web_of_below" (Zw Zae) j8 jR.code A outer s H E).nox tc tP:=⟨hcode,hCd,hBm⟩
 (ZK (YG (Zc7 (kl:=3) (frb:=false) (N:=["a","b","below"]) (ps:=["a","b"]) (cix:=[1]) (T:=Tl) (t:=5) (q:="web_of_below.<locals>.<lambda>") M9 TG9 (ki.mono) (λ_=>rfl) hr rfl (Zar rfl rfl T.b_range rfl T.b_list TF.boot_list (va 0)) rfl (⟨rfl,rfl,rfl,by decide +kernel,rfl,by decide +kernel,by decide +kernel⟩:CloScope ["a","b","below"] ["a","b"] _) (⟨rfl,rfl,rfl,by decide +kernel,by decide +kernel⟩:CapS _ ["n","below"] (Zw Zae).names ["a","b","below"] ["a","b"] [1] _) rfl (λ_ _ _ _ us hl=>match us,hl with | [_,_],_=>rfl) (λbase f c cl G A outer s H E hr=>(ZpC (Vc (WU hr.units) (Xe (Zf (va 0) (Zf (va 1) Zn))) (va 2)) (BQ (Vc (WU hr.units) (Xe (Zf (va 1) (Zf (va 0) Zn))) (va 2)))))))
 YJ)
def Zd4:Zc->M Out:=(Zg (ZL (Zx Yo (Zb (ZQ [none,some 2,some 1] (ZW (Za 0)) (Zv 0) (asB (Zd YF (ZZ (Zb (Za 0) (Zb (Za 1) Ze))) (Za 2))) (Za 0)) Ze)))
 Zp)
def Bn:List D->M D:=runB 3 3 Zd4
theorem Zbc:FnScope ["n","below","place"] ["n","below","place"] (Zw ZaK):=Xb
theorem ZdE (F:Fun K "count_below" "count_below" ZaK j8 jR)(T:Txt mg) :
  FnOk P w K mg base ZN 1 j8 jR ["n","below","place"] (Ys 3 true Z0 Bn):=
 have jQ:=Zbc.nd
 XE (own:=[]) F Zbc λcdv A outer s H E hr G hG=>
 (ZK (YG (Wg T.b_len (Zf (Xq (bk ["n","below","place"] (Zw ZaK).names ["other","place","below"] [none,some 2,some 1]) (VE rfl T.b_range (va 0)) Xf (Vr (YV (WU hr.units) (Xe (Zf (va 0) (Zf (va 1) Zn))) (va 2))) (va 0)) Zn)))
 YJ)
theorem Zbd:FnScope ["web"] ["web"] (Zw ZaI):=Xb
theorem ZdF (F:Fun K "marked_ties" "marked_ties" ZaI j8 jR)(T:Txt mg) :
  FnOk P w K mg base ZN 1 j8 jR ["web"] (Ys 1 true Z0 UP):=
 have jQ:=Zbd.nd
 XE (own:=[]) F Zbd λcdv A outer s H E hr G hG=>
 (ZK (YG (VH (Zhs rfl hr.units) rfl T.b_dict TF.boot_dict (Zf (Xq (bk ["web"] (Zw ZaI).names ["tie"] [none]) (Ze2 (Z1 Z3 (va 0) ZV)) Xf Wl (Xe (Zf (va 0) (Zf X8 Zn)))) Zn)))
 YJ)
theorem Zcw:FnScope ["ties","a","b"] ["ties","a","b"] (Zw ZdA):=Xb
theorem Zg2 (F:Fun K "are_tied" "are_tied" ZdA j8 jR)(T:Txt mg) :
  FnOk P w K mg base ZN 1 j8 jR ["ties","a","b"] (Ys 3 false Z0 Vl):=
 have jQ:=Zcw.nd
 XE (own:=[]) F Zcw λcdv A outer s H E hr G hG=>
 (ZK (YG (PD.weak (Vc (WU hr.units) (Xe (Zf (Xc (ZcZ rfl) rfl T.b_min TF.boot_min (Zf (va 1) (Zf (va 2) Zn))) (Zf (Xc (ZcY rfl) rfl T.b_max TF.boot_max (Zf (va 1) (Zf (va 2) Zn))) Zn))) (va 0))))
 YJ)
theorem Zi0:FnScope ["web","place"] ["web","place"] (Zw Zh5):=Xb
theorem ZnH (F:Fun K "near" "near" Zh5 j8 jR)(T:Txt mg)(kH:ZT P w K mg base 1 "are_tied" 3 false Z0 Vl) :
  FnOk P w K mg base ZN 2 j8 jR ["web","place"] (Ys 2 true Z0 JN):=
 have jQ:=Zi0.nd
 XE (own:=[]) F Zi0 λcdv A outer s H E hr G hG=>
 (ZK (YG (Xq (bk ["web","place"] (Zw Zh5).names ["other","web","place"] [none,some 0,some 1]) (VE rfl T.b_range (Z1 Z3 (va 0) ZV)) Xf (Vr (Wu (Ya (kH.mono) trivial hr (Zf (Z1 Z3 (va 1) ZV) (Zf (va 2) (Zf (va 0) Zn)))))) (va 0)))
 YJ)
theorem Zcx:FnScope ["web","marked"] ["web"] (Zw ZbH):=Xb
theorem Zg3 (F:Fun K "all_near" "all_near" ZbH j8 jR)(T:Txt mg)(j9:ZT P w K mg base 1 "marked_ties" 1 true Z0 UP)(kO:ZT P w K mg base 2 "near" 2 true Z0 JN) :
  FnOk P w K mg base ZN 3 j8 jR ["web"] (Ys 1 true Z0 JA):=
 have jQ:=Zcx.nd
 XE (own:=[]) F Zcx λcdv A outer s H E hr G hG=>
 (ZK (Y3 (YC jQ rfl (zL rfl) (Xe (Zf (Z1 Z3 (va 0) ZV) (Zf (Ya (j9.mono) trivial hr (Zf (va 0) Zn)) Zn)))))
 (ZK (YG (Xq (bk ["web","marked"] (Zw ZbH).names ["place","marked"] [none,some 1]) (VE rfl T.b_range (Z1 Z3 (va 0) ZV)) Xf Wl (Ya (kO.mono) trivial hr (Zf (va 1) (Zf (va 0) Zn)))))
 YJ))
theorem Zbt:FnScope ["taken"] ["taken"] (Zw ZaZ):=Xb
theorem Zd5 (F:Fun K "least_free" "least_free" ZaZ j8 jR)(T:Txt mg) :
  FnOk P w K mg base ZN 1 j8 jR ["taken"] (Ys 1 true Z0 Jy):=
 have jQ:=Zbt.nd
 XE (own:=[]) F Zbt λcdv A outer s H E hr G hG=>
 (ZK (YG (Xc (ZhF rfl) rfl T.b_min TF.boot_min (Zf (Xq (bk ["taken"] (Zw ZaZ).names ["hue","taken"] [none,some 0]) (VE rfl T.b_range (WV VL (Wg T.b_len (Zf (va 0) Zn)) ZV)) Xf (Vr (YV (Zbk hr.units) (va 0) (va 1))) (va 0)) Zn)))
 YJ)
theorem Zbu:FnScope ["web","order","nears","hues","place"] ["web","order"] (Zw Zaw):=Xb
theorem Zd6 (F:Fun K "hued_along" "hued_along" Zaw j8 jR)(T:Txt mg)(ko:ZT P w K mg base 3 "all_near" 1 true Z0 JA)(kE:ZT P w K mg base 1 "least_free" 1 true Z0 Jy) :
  FnOk P w K mg base ZN 4 j8 jR ["web","order"] (Ys 2 true Z0 UR):=
 have jQ:=Zbu.nd
 XE (own:=[]) F Zbu λcdv A outer s H E hr G hG=>
 (ZK (Y3 (YC jQ rfl (qK rfl) (Ya (ko.mono) trivial hr (Zf (va 0) Zn))))
 (Z6 (own2:=[3]) (Uz (YC jQ rfl (zL rfl) Zgj))
 (Z6 (own2:=[3]) (XG (own:=[3]) qT rfl (WP.a (own:=[3]) (Wi (va 1))) (XF jQ rfl (qK rfl) (by decide))
 (Z6 (own2:=[3]) (ZeA (own:=[3]) (i:=3) (L2.hu_of hr) (by decide) (pv 3) (va 4) (Ya (kE.mono) trivial hr (Zf (Xq (bk ["web","order","nears","hues","place"] (Zw Zaw).names ["other","hues"] [none,some 3]) (Wi (Z1 Z3 (va 2) (va 4))) Xf (Vr (YV (WU hr.units) (va 0) (va 1))) (ZiB (L2.hu_of hr) (va 1) (va 0))) Zn)))
 (Ye (own:=[3]))))
 (Z6 (own2:=[3]) (YG (VH (Zaq) rfl T.b_tuple TF.boot_tuple (Zf (Xq (bk ["web","order","nears","hues","place"] (Zw Zaw).names ["place","hues"] [none,some 3]) (VE rfl T.b_range (Z1 Z3 (va 0) ZV)) Xf Wl (ZiB (L2.hu_of hr) (va 1) (va 0))) Zn)))
 (Ye (own:=[3]))))))
theorem ZeV:FnScope ["web","ties"] ["web"] (Zw ZbZ):=Xb
theorem Zkw (F:Fun K "turned" "turned" ZbZ j8 jR)(T:Txt mg){L:List (Addr×Str)}(lo:W4 L)(j9:ZT P w K mg base 1 "marked_ties" 1 true Z0 UP)(ki:Jm P w K mg 5 "web_where" 2 false (Jl P w K mg 4 2 Tl) Ux)(kx:∀base,ZT P w K mg base 1 "are_tied" 3 false Z0 Vl){tc tP:Addr}(hcode:jR.code=.ref tc)(hCd:zE base tc tP)(hBm:Uv mg base)(hL:(tP,(qw "turned.<locals>.<lambda>"))∈L) :
  FnOk P w K mg base ZN 6 j8 jR ["web"] (Ys 1 false (Y8 L) JE):=
 have jQ:=ZeV.nd
 fnDC (own:=[]) F ZeV λA outer s H E hr G hG=>
 have hT:Y8 L G:=hG;have TG9:=hT _ _ hL;have M9:Mk0 (Wn ZN P w K mg base ["web","ties"] "turned" (Zw ZbZ) j8 jR.code A outer s H E).nox tc tP:=⟨hcode,hCd,hBm⟩
 (ZK (Y3 (YC jQ rfl (zL rfl) (Ya (j9.mono) trivial hr (Zf (va 0) Zn))))
 (ZK (YG (Zc7 (kl:=3) (frb:=true) (N:=["a","b","ties"]) (ps:=["a","b"]) (cix:=[1]) (T:=Tl) (t:=0) (q:="turned.<locals>.<lambda>") M9 TG9 (ki.mono) (λ_=>rfl) hr rfl (Zar rfl rfl T.b_range rfl T.b_list TF.boot_list (Z1 Z3 (va 0) ZV)) rfl (⟨rfl,rfl,rfl,by decide +kernel,rfl,by decide +kernel,by decide +kernel⟩:CloScope ["a","b","ties"] ["a","b"] _) (⟨rfl,rfl,rfl,by decide +kernel,by decide +kernel⟩:CapS _ ["web","ties"] (Zw ZbZ).names ["a","b","ties"] ["a","b"] [1] _) rfl (λ_ _ _ _ us hl=>match us,hl with | [_,_],_=>rfl) (λbase f c cl G A outer s H E hr=>(ZkX (Ya ((kx base).mono) trivial hr (Zf (va 2) (Zf (va 0) (Zf (va 1) Zn))))))))
 YJ))
theorem ZaP:FnScope ["aparts","weights","place","places","others"] ["aparts","weights","place","places"] (Zw Zam):=Xb
theorem Zcj (F:Fun K "heaviest_with" "heaviest_with" Zam j8 jR)(T:Txt mg){Fs:List D->M D}{lv:Nat}(hlv:0<=lv)(jU:ZT P w K mg base lv "heaviest_among" 3 false Z0 Fs) :
  FnOk P w K mg base ZN (lv+1) j8 jR ["aparts","weights","place","places"] (Ys 4 false Z0 (Zac Fs)):=
 have jQ:=ZaP.nd
 XE (own:=[]) F ZaP λcdv A outer s H E hr G hG=>
 (ZK (Y3 (ZaT jQ rfl (qK rfl) rfl (bk ["aparts","weights","place","places","others"] (Zw Zam).names ["other","place","aparts"] [none,some 2,some 0]) (Wi (va 3)) (λ_ _ _ _ _ _=>Xf) (λ_ _ _ _ _ _=>(Vr (X3.pt (JF (YV (Ug hr.units) (va 0) (va 1)) (JD (YV (Zbk hr.units) (va 0) (Z1 Z3 (va 2) (va 1)))))))) (λ_ _ _ _ _ _=>(va 0))))
 (ZK (YG (PD.weak (WV VL (Vb (Zf (va 2) Zn)) (Ya (jU) trivial hr (Zf (va 0) (Zf (va 1) (Zf (va 4) Zn)))))))
 YJ))
theorem Zbe:FnScope ["aparts","place","places"] ["aparts","place","places"] (Zw ZaJ):=Xb
theorem ZdG (F:Fun K "apart_among" "apart_among" ZaJ j8 jR)(T:Txt mg) :
  FnOk P w K mg base ZN 1 j8 jR ["aparts","place","places"] (Ys 3 true Z0 ZaH):=
 have jQ:=Zbe.nd
 XE (own:=[]) F Zbe λcdv A outer s H E hr G hG=>
 (ZK (YG (Xq (bk ["aparts","place","places"] (Zw ZaJ).names ["other","aparts","place"] [none,some 0,some 1]) (Wi (va 2)) Xf (Vr (YV (WU hr.units) (va 0) (Z1 Z3 (va 1) (va 2)))) (va 0)))
 YJ)
theorem ZdH:FnScope ["weights","places"] ["weights","places"] (Zw Zci):=Xb
theorem Zh6 (F:Fun K "weighed" "weighed" Zci j8 jR)(T:Txt mg) :
  FnOk P w K mg base ZN 1 j8 jR ["weights","places"] (Ys 2 false Z0 Bt):=
 have jQ:=ZdH.nd
 XE (own:=[]) F ZdH λcdv A outer s H E hr G hG=>
 (ZK (YG (PD.weak (Xc (Zj4 rfl) rfl T.b_sum TF.boot_sum (Zf (Xq (bk ["weights","places"] (Zw Zci).names ["place","weights"] [none,some 0]) (Wi (va 1)) Xf Wl (Z1 Z3 (va 1) (va 0))) Zn))))
 YJ)
theorem ZaF:FnScope ["aparts","weights","places","rows","i","counts","branching","with_it","without_it"] ["aparts","weights","places"] (Zw Bl):=Xb
theorem Zb3 (F:Fun K "heaviest_among" "heaviest_among" Bl j8 jR)(T:Txt mg){Fs:List D->M D}{lv:Nat}(hlv:1<=lv)(kB:ZT P w K mg base 1 "apart_among" 3 true Z0 ZaH)(jU:ZT P w K mg base lv "heaviest_among" 3 false Z0 Fs)(kh:ZT P w K mg base (lv+1) "heaviest_with" 4 false Z0 (Zac Fs))(kD:ZT P w K mg base 1 "weighed" 2 false Z0 Bt) :
  FnOk P w K mg base ZN (lv+2) j8 jR ["aparts","weights","places"] (Ys 3 false Z0 (runB 9 3 (ZaO Fs))):=
 have jQ:=ZaF.nd
 XE (own:=[]) F ZaF λcdv A outer s H E hr G hG=>
 (ZK (Vj (YV (Uf hr.units) (va 2) (Vb Zn))
 (ZK (YG (PD.weak (Vb Zn)))
 YJ)
 Ye)
 (ZK (Y3 (ZaT jQ rfl (qK rfl) rfl (bk ["aparts","weights","places","rows","i","counts","branching","with_it","without_it"] (Zw Bl).names ["place","aparts","places"] [none,some 0,some 2]) (Wi (va 2)) (λ_ _ _ _ _ _=>Xf) (λ_ _ _ _ _ _=>Wl) (λ_ _ _ _ _ _=>(Ya (kB.mono (h:=qY (by decide) (qaE hlv))) trivial hr (Zf (va 1) (Zf (va 0) (Zf (va 2) Zn)))))))
 (ZK (XG (own:=[]) qT rfl (Wh rfl T.b_range (Wg T.b_len (Zf (va 2) Zn))) (XF jQ rfl (qK rfl) (by decide))
 (ZK (Vj (YV (Zhk) (Ya (kD.mono (h:=qY (by decide) (qaE hlv))) trivial hr (Zf (va 1) (Zf (Z1 Z3 (va 3) (va 4)) Zn))) (Z1 Z3 (va 1) (Z1 Z3 (va 2) (va 4))))
 (ZK (YG (Ya (kh) trivial hr (Zf (va 0) (Zf (va 1) (Zf (Z1 Z3 (va 2) (va 4)) (Zf (va 2) Zn))))))
 YJ)
 Ye)
 YJ))
 (ZK (Y3 (ZaT jQ rfl (qK rfl) rfl (bk ["aparts","weights","places","rows","i","counts","branching","with_it","without_it"] (Zw Bl).names ["row"] [none]) (Wi (va 3)) (λ_ _ _ _ _ _=>Xf) (λ_ _ _ _ _ _=>Wl) (λ_ _ _ _ _ _=>(Wg T.b_len (Zf (va 0) Zn)))))
 (ZK (Y3 (YC jQ rfl (zL rfl) (Z1 Z3 (va 2) (ZlH (va 5) (Xc (ZbE rfl) rfl T.b_max TF.boot_max (Zf (va 5) Zn))))))
 (ZK (Y3 (YC jQ rfl (qK rfl) (Ya (kh) trivial hr (Zf (va 0) (Zf (va 1) (Zf (va 6) (Zf (va 2) Zn)))))))
 (ZK (Y3 (YC jQ rfl (qK rfl) (Ya (jU.mono (h:=qa8 _)) trivial hr (Zf (va 0) (Zf (va 1) (Zf (Xq (bk ["aparts","weights","places","rows","i","counts","branching","with_it","without_it"] (Zw Bl).names ["other","branching"] [none,some 6]) (Wi (va 2)) Xf (Vr (YV (Ug hr.units) (va 0) (va 1))) (va 0)) Zn))))))
 (ZK (YG (ZpD (YV (ZoK) (Ya (kD.mono (h:=qY (by decide) (qaE hlv))) trivial hr (Zf (va 1) (Zf (va 7) Zn))) (Ya (kD.mono (h:=qY (by decide) (qaE hlv))) trivial hr (Zf (va 1) (Zf (va 8) Zn)))) (va 7) (va 8)))
 YJ))))))))
theorem ZaQ:FnScope ["web","weights","aparts"] ["web","weights"] (Zw Zal):=Xb
theorem Zck (F:Fun K "heaviest_knot" "heaviest_knot" Zal j8 jR)(T:Txt mg){L:List (Addr×Str)}(lo:W4 L)(ko:ZT P w K mg base 3 "all_near" 1 true Z0 JA)(jU:ZT P w K mg base 53 "heaviest_among" 3 false Z0 (Bk 26))(kL:ZT P w K mg base 6 "turned" 1 false (Y8 L) JE) :
  FnOk P w K mg base ZN 54 j8 jR ["web","weights"] (Ys 2 true (Y8 L) Zak):=
 have jQ:=ZaQ.nd
 XE (own:=[]) F ZaQ λcdv A outer s H E hr G hG=>
 have hT:Y8 L G:=hG
 (ZK (Y3 (ZaT jQ rfl (qK rfl) rfl (bk ["web","weights","aparts"] (Zw Zal).names ["row"] [none]) (Wi (Ya (ko.mono) trivial hr (Zf (Ya (kL.mono) hT hr (Zf (va 0) Zn)) Zn))) (λ_ _ _ _ _ _=>Xf) (λ_ _ _ _ _ _=>Wl) (λ_ _ _ _ _ _=>(VH (Zht rfl hr.units) rfl T.b_dict TF.boot_dict (Zf (Xq (bk ["row"] [((qbd ".0"),PySem.NameKind.local),((qbd "row"),PySem.NameKind.local),((qbd "dict"),PySem.NameKind.globalImplicit)] ["other"] [none]) (Wi (va 0)) Xf Wl (Xe (Zf (va 0) (Zf X8 Zn)))) Zn)))))
 (ZK (YG (VH (Zaq) rfl T.b_tuple TF.boot_tuple (Zf (Xc (Zfb) rfl T.b_sorted TF.boot_sorted (Zf (Ya (jU.mono) trivial hr (Zf (va 2) (Zf (va 1) (Zf (Zar rfl rfl T.b_range rfl T.b_list TF.boot_list (Z1 Z3 (va 0) ZV)) Zn)))) Zn)) Zn)))
 YJ))
theorem Zi1:FnScope ["web","knot"] ["web"] (Zw Zmv):=Xb
theorem ZnI (F:Fun K "most" "most" Zmv j8 jR)(T:Txt mg){L:List (Addr×Str)}(lo:W4 L)(kq:ZT P w K mg base 54 "heaviest_knot" 2 true (Y8 L) Zak) :
  FnOk P w K mg base ZN 55 j8 jR ["web"] (Ys 1 true (Y8 L) UE):=
 have jQ:=Zi1.nd
 XE (own:=[]) F Zi1 λcdv A outer s H E hr G hG=>
 have hT:Y8 L G:=hG
 (ZK (Y3 (YC jQ rfl (qK rfl) (Ya (kq.mono) hT hr (Zf (va 0) (Zf (WV ZlT (Xe (Zf ZV Zn)) (Z1 Z3 (va 0) ZV)) Zn)))))
 (ZK (YG (Xe (Zf (Wg T.b_len (Zf (va 1) Zn)) (Zf (va 1) Zn))))
 YJ))
def Zd7:Zc->M Out:=(Zg (ZS 2 (Zu Bq (Zb (Za 0) (Zb (Za 1) Ze))))
 (Zg (ZS 3 (Zu Bm (Zb (Za 0) (Zb (Za 2) Ze))))
 (Zg (ZS 4 (ZQ [none,some 0,some 2] (ZW (Za 0)) (Zv 0) Yc (Zu Bn (Zb (Za 1) (Zb (Za 2) (Zb (Za 0) Ze))))))
 (Zg (ZS 5 (Zu UR (Zb (Za 3) (Zb (JC (Y1 2 (Zd Zj (Za 1) (Za 0))) [4] (Za 0)) Ze))))
 (Zg (ZS 6 (Zu UE (Zb (Za 3) Ze)))
 (Zg (ZL (ZZ (Zb (Zd Zj (Za 6) (dC (.int 0))) (Zb (UZ (Y1 2 (Zd Zj (Za 1) (Za 0))) [4] (Zd Zj (Za 6) (dC (.int 1)))) (Zb (Za 5) Ze)))))
 Zp))))))
def Zbv:List D->M D:=runB 7 2 Zd7
theorem Jv:FnScope ["n","pairs","below","web","ranks","hueing","told"] ["n","pairs"] (Zw W5):=Xb
theorem ZdI (F:Fun K "chains_told" "chains_told" W5 j8 jR)(T:Txt mg){L:List (Addr×Str)}(lo:W4 L)(kj:ZT P w K mg base 1 "all_below" 2 false Z0 Bq)(ka:ZT P w K mg base 1 "count_below" 3 true Z0 Bn)(kc:ZT P w K mg base 4 "hued_along" 2 true Z0 UR)(kI:ZT P w K mg base 55 "most" 1 true (Y8 L) UE)(jZ:ZT P w K mg base 6 "web_of_below" 2 false (Y8 L) Bm){tc tP:Addr}(hcode:jR.code=.ref tc)(hCd:zE base tc tP)(hBm:Uv mg base)(hL:(tP,(qw "chains_told.<locals>.<lambda>"))∈L) :
  FnOk P w K mg base ZN 56 j8 jR ["n","pairs"] (Ys 2 false (Y8 L) Zbv):=
 have jQ:=Jv.nd
 fnDC (own:=[]) F Jv λA outer s H E hr G hG=>
 have hT:Y8 L G:=hG;have TG9:=hT _ _ hL;have M9:Mk0 (Wn ZN P w K mg base ["n","pairs","below","web","ranks","hueing","told"] "chains_told" (Zw W5) j8 jR.code A outer s H E).nox tc tP:=⟨hcode,hCd,hBm⟩
 (ZK (Y3 (YC jQ rfl (zL rfl) (Ya (kj.mono) trivial hr (Zf (va 0) (Zf (va 1) Zn)))))
 (ZK (Y3 (YC jQ rfl (qK rfl) (Ya (jZ.mono) hT hr (Zf (va 0) (Zf (va 2) Zn)))))
 (ZK (Y3 (YC jQ rfl (zL rfl) (Xq (bk ["n","pairs","below","web","ranks","hueing","told"] (Zw W5).names ["place","n","below"] [none,some 0,some 2]) (VE rfl T.b_range (va 0)) Xf Wl (Ya (ka.mono) trivial hr (Zf (va 1) (Zf (va 2) (Zf (va 0) Zn)))))))
 (ZK (Y3 (YC jQ rfl (qK rfl) (Ya (kc.mono) trivial hr (Zf (va 3) (Zf (Zcr (kl:=3) (frb:=false) (N:=["place","ranks"]) (ps:=["place"]) (cix:=[4]) (q:="chains_told.<locals>.<lambda>") rfl rfl T.b_sorted TF.boot_sorted rfl T.b_range M9 TG9 (λ_=>rfl) (hr.mono (by decide)) (va 0) rfl (⟨rfl,rfl,rfl,by decide +kernel,rfl,by decide +kernel,by decide +kernel⟩:CloScope ["place","ranks"] ["place"] _) (⟨rfl,rfl,rfl,by decide +kernel,by decide +kernel⟩:CapS _ ["n","pairs","below","web","ranks","hueing","told"] (Zw W5).names ["place","ranks"] ["place"] [4] _) rfl (λ_ _ _ _ us hl=>match us,hl with | [_],_=>rfl) (λbase f c cl G A outer s H E hr=>(Z1 Z3 (va 1) (va 0)))) Zn)))))
 (ZK (Y3 (YC jQ rfl (qK rfl) (Ya (kI.mono) hT hr (Zf (va 3) Zn))))
 (ZK (YG (PD.weak (Xe (Zf (Z1 Z3 (va 6) ZV) (Zf (ZhR (kl:=3) (frb:=false) (N:=["place","ranks"]) (ps:=["place"]) (cix:=[4]) (q:="chains_told.<locals>.<lambda>") rfl rfl T.b_sorted TF.boot_sorted M9 TG9 (λ_=>rfl) (hr.mono (by decide)) (Z1 Z3 (va 6) ZV) rfl (⟨rfl,rfl,rfl,by decide +kernel,rfl,by decide +kernel,by decide +kernel⟩:CloScope ["place","ranks"] ["place"] _) (⟨rfl,rfl,rfl,by decide +kernel,by decide +kernel⟩:CapS _ ["n","pairs","below","web","ranks","hueing","told"] (Zw W5).names ["place","ranks"] ["place"] [4] _) rfl (λ_ _ _ _ us hl=>match us,hl with | [_],_=>rfl) (λbase f c cl G A outer s H E hr=>(Z1 Z3 (va 1) (va 0)))) (Zf (va 5) Zn))))))
 YJ))))))
def ZcC:Zc->M Out:=(Zg (Wo 1 (dC (.dk [])))
 (Zg (YS (ZW (Zx Yo (Zb (Za 0) Ze))) (Zv 2)
 (Zg (YS (ZW (Zx Yo (Zb (Za 0) Ze))) (Zv 3)
 (Zg (Ul 1 (fun ρ=>(Za 3) (Yk [1] ρ)) (Xa true (Zd Y0 (dC (.int 1)) (Zx VW (Zb (Zd Y0 (ZQ [none,some 1] (ZX (Zd Zj (Za 0) (Za 3))) (Zv 0) Yc (B8 (Za 1) (Za 0) (dC (.int 0)))) (Y4 (Zb (dC (.int 0)) Ze))) Ze)))))
 Zp))
 Zp))
 (Zg (ZL (Zx VW (Zb (Zd Y0 (Bu (Za 1)) (Y4 (Zb (dC (.int 0)) Ze))) Ze)))
 Zp)))
def Zad:List D->M D:=runB 4 1 ZcC
theorem ZaR:FnScope ["lower","found","turn","place"] ["lower"] (Zw Zan):=Xb
theorem Zcl (F:Fun K "_law_tlongest" "_law_tlongest" Zan j8 jR)(T:Txt mg) :
  FnOk P w K mg base ZN 1 j8 jR ["lower"] (Ys 1 true Z0 Zad):=
 have jQ:=ZaR.nd
 XE (own:=[]) F ZaR λcdv A outer s H E hr G hG=>
 (Z6 (own2:=[1]) (Uz (YC jQ rfl (zL rfl) Zgj))
 (Z6 (own2:=[1]) (XG (own:=[1]) qT rfl (Wh rfl T.b_range (Wg T.b_len (Zf (va 0) Zn))) (XF jQ rfl (qK rfl) (by decide))
 (Z6 (own2:=[1]) (XG (own:=[1]) qT rfl (Wh rfl T.b_range (Wg T.b_len (Zf (va 0) Zn))) (XF jQ rfl (qK rfl) (by decide))
 (Z6 (own2:=[1]) (ZeA (own:=[1]) (i:=1) (L2.hu_of hr) (by decide) (pv 1) (va 3) (WV VL ZV (Xc (ZbE rfl) rfl T.b_max TF.boot_max (Zf (WV VL (Xq (bk ["lower","found","turn","place"] (Zw Zan).names ["other","found"] [none,some 1]) (Wi (Z1 Z3 (va 0) (va 3))) Xf Wl (Znk (L2.hu_of hr) (va 1) (va 0) ZV)) (Vb (Zf ZV Zn))) Zn))))
 (Ye (own:=[1]))))
 (Ye (own:=[1]))))
 (Z6 (own2:=[1]) (YG (Xc (ZbE rfl) rfl T.b_max TF.boot_max (Zf (WV VL (ZgI rfl rfl T.b_list TF.boot_list (va 1)) (Vb (Zf ZV Zn))) Zn)))
 (Ye (own:=[1])))))
def ZfA:Zc->M Out:=(Zg (Yw (asB (Zd dIsN (Za 1) (dC .non)))
 (Zg (ZL (Zd dIsN (Za 0) (dC .non)))
 Zp)
 Zp)
 (Zg (Yw (asB (Zx XU (Zb (Za 1) (Zb (dC (.ty "bool")) Ze))))
 (Zg (ZL (WK (Zx XU (Zb (Za 0) (Zb (dC (.ty "bool")) Ze))) (Zd Xk (Za 0) (Za 1))))
 Zp)
 Zp)
 (Zg (Yw (asB (Zx XU (Zb (Za 1) (Zb (dC (.ty "int")) Ze))))
 (Zg (ZL (WK (Zx XU (Zb (Za 0) (Zb (dC (.ty "int")) Ze))) (WK (J6 (Zx XU (Zb (Za 0) (Zb (dC (.ty "bool")) Ze)))) (Zd Xk (Za 0) (Za 1)))))
 Zp)
 Zp)
 (λ_=>Zq))))
def Zay:List D->M D:=runB 2 2 ZfA
theorem Zbw:FnScope ["found","due"] ["found","due"] (Zw Zb1):=Xb
theorem Zd8 (F:Fun K "_law_tsame" "_law_tsame" Zb1 j8 jR)(T:Txt mg) :
  FnOk P w K mg base ZN 1 j8 jR ["found","due"] (Ys 2 false Z0 Zay):=
 have jQ:=Zbw.nd
 XE (own:=[]) F Zbw λcdv A outer s H E hr G hG=>
 (ZK (Vj (YV (Ziy) (va 1) ZkW)
 (ZK (YG (PD.weak (Vc (Ziy) (va 0) ZkW)))
 YJ)
 Ye)
 (ZK (Vj (Wu (Xc (W7) rfl T.b_isinstance TF.boot_isinstance (Zf (va 1) (Zf (Ve rfl T.b_bool TF.boot_bool) Zn))))
 (ZK (YG (BR (Xc (W7) rfl T.b_isinstance TF.boot_isinstance (Zf (va 0) (Zf (Ve rfl T.b_bool TF.boot_bool) Zn))) (BQ (Vc (Uf hr.units) (va 0) (va 1)))))
 YJ)
 Ye)
 (ZK (Vj (Wu (Xc (W7) rfl T.b_isinstance TF.boot_isinstance (Zf (va 1) (Zf (Ve rfl T.b_int TF.boot_int) Zn))))
 (ZK (YG (BR (Xc (W7) rfl T.b_isinstance TF.boot_isinstance (Zf (va 0) (Zf (Ve rfl T.b_int TF.boot_int) Zn))) (BR (ZkX (Xc (W7) rfl T.b_isinstance TF.boot_isinstance (Zf (va 0) (Zf (Ve rfl T.b_bool TF.boot_bool) Zn)))) (BQ (Vc (Uf hr.units) (va 0) (va 1))))))
 YJ)
 Ye)
 Zev)))
theorem ZaB:FnScope ["web","thing","hue"] ["web","thing"] (Zw Zaf):=Xb
theorem ZbI (F:Fun K "_law_tis_hueing" "_law_tis_hueing" Zaf j8 jR)(T:Txt mg) :
  FnOk P w K mg base ZN 1 j8 jR ["web","thing"] (Ys 2 false Z0 Bj):=
 have jQ:=ZaB.nd
 XE (own:=[]) F ZaB λcdv A outer s H E hr G hG=>
 (ZK (Vj (X3.pt (UD (Ub (Wu (Xc (W7) rfl T.b_isinstance TF.boot_isinstance (Zf (va 1) (Zf (Ve rfl T.b_tuple TF.boot_tuple) Zn))))) (BI (YV (Ug hr.units) (Wg T.b_len (Zf (va 1) Zn)) (Z1 Z3 (va 0) ZV)))))
 (ZK (YG (PD.weak X8))
 YJ)
 Ye)
 (ZK (XG (own:=[]) qT rfl (WP.n (Ze2 (va 1))) (XF jQ rfl (qK rfl) (by decide))
 (ZK (Vj (X3.pt (UD (Ub (Wu (Xc (W7) rfl T.b_isinstance TF.boot_isinstance (Zf (va 2) (Zf (Ve rfl T.b_int TF.boot_int) Zn))))) (UD (Wu (Xc (W7) rfl T.b_isinstance TF.boot_isinstance (Zf (va 2) (Zf (Ve rfl T.b_bool TF.boot_bool) Zn)))) (BI (Ub (Zet ZV (Zes (Zhk) (va 2) (Zga (Ze4 hr.units0) (Z1 Z3 (va 0) ZV)))))))))
 (ZK (YG (PD.weak X8))
 YJ)
 Ye)
 YJ))
 (ZK (YG (PD.weak (Vc (Uf hr.units) (Xq (bk ["web","thing","hue"] (Zw Zaf).names ["tie","thing"] [none,some 1]) (Ze2 (Z1 Z3 (va 0) ZV)) Xf (Vr (YV (Uf hr.units) (Z1 Z3 (va 1) (Z1 Z3 (va 0) ZV)) (Z1 Z3 (va 1) (Z1 Z3 (va 0) ZV)))) (va 0)) (Vb Zn))))
 YJ)))
def Zd9:Zc->M Out:=(Zg (Yw (X2 (Wa (asB (Zx XU (Zb (Za 2) (Zb (dC (.ty "tuple")) Ze))))) (X2 (asB (Zd Y9 (Zx Yo (Zb (Za 2) Ze)) (dC (.int 3)))) (Wa (asB (Zu Zay (Zb (Zd Zj (Za 2) (dC (.int 0))) (Zb (Zu Zad (Zb (Za 1) Ze)) Ze)))))))
 (Zg (ZL (dC (.bl false)))
 Zp)
 Zp)
 (Zg (sUnp (Zn8 3 4 5) (Za 2))
 (Zg (Yw (X2 (Wa (asB (Zx XU (Zb (Za 4) (Zb (dC (.ty "list")) Ze))))) (asB (Zd Y9 (Zx Yo (Zb (Za 4) Ze)) (Za 3))))
 (Zg (ZL (dC (.bl false)))
 Zp)
 Zp)
 (Zg (YS (ZiA (Za 4)) (VR 6 7)
 (Zg (Yw (X2 (Wa (asB (Zx XU (Zb (Za 7) (Zb (dC (.ty "int")) Ze))))) (X2 (asB (Zx XU (Zb (Za 7) (Zb (dC (.ty "bool")) Ze)))) (Wa (Uh (dC (.int 0)) (VT Vg (Za 7) (VS WC (Za 0)))))))
 (Zg (ZL (dC (.bl false)))
 Zp)
 Zp)
 (Zg (Yw (XZ (asB (Zd dGt (Za 6) (dC (.int 0)))) (asB (Zd WG (Zd Zj (Za 4) (Zd dSub (Za 6) (dC (.int 1)))) (Zd Zj (Za 1) (Za 7)))))
 (Zg (ZL (dC (.bl false)))
 Zp)
 Zp)
 Zp)))
 (Zg (Wo 8 (Y4 Ze))
 (Zg (YS (ZW (Za 0)) (Zv 7)
 (Zg (UK 8 (fun ρ=>(ZQ [none,some 7] (ZX (Zd Zj (Za 1) (Za 7))) (Zv 0) Yc (ZZ (Zb (Zx Jc (Zb (Za 1) (Zb (Za 0) Ze))) (Zb (Zx JY (Zb (Za 1) (Zb (Za 0) Ze))) Ze)))) (Yk [8] ρ)))
 Zp))
 (Zg (ZL (WK (Zu Bj (Zb (ZZ (Zb (Za 0) (Zb (Zx JL (Zb (Za 8) Ze)) Ze))) (Zb (Za 5) Ze))) (Zd Xk (BL (Za 5)) (Za 3))))
 Zp)))))))
def UQ:List D->M D:=runB 9 3 Zd9
theorem Zbf:FnScope ["n","lower","found","many","chain","hues","k","place","ties"] ["n","lower","found"] (Zw ZaN):=Xb
theorem ZdJ (F:Fun K "_law_tright" "_law_tright" ZaN j8 jR)(T:Txt mg)(km:ZT P w K mg base 1 "_law_tis_hueing" 2 false Z0 Bj)(kr:ZT P w K mg base 1 "_law_tlongest" 1 true Z0 Zad)(kF:ZT P w K mg base 1 "_law_tsame" 2 false Z0 Zay) :
  FnOk P w K mg base ZN 2 j8 jR ["n","lower","found"] (Ys 3 false Z0 UQ):=
 have jQ:=Zbf.nd
 XE (own:=[]) F Zbf λcdv A outer s H E hr G hG=>
 (ZK (Vj (X3.pt (UD (Ub (Wu (Xc (W7) rfl T.b_isinstance TF.boot_isinstance (Zf (va 2) (Zf (Ve rfl T.b_tuple TF.boot_tuple) Zn))))) (UD (YV (Ug hr.units) (Wg T.b_len (Zf (va 2) Zn)) ZV) (BI (Ub (Wu (Ya (kF.mono) trivial hr (Zf (Z1 Z3 (va 2) ZV) (Zf (Ya (kr.mono) trivial hr (Zf (va 1) Zn)) Zn)))))))))
 (ZK (YG (PD.weak X8))
 YJ)
 Ye)
 (ZK (Zli (va 2) (ZlJ rfl (by decide) (by decide) (by decide) (hp:=V8 (WM jQ rfl (qK rfl)) (V8 (WM jQ rfl (qK rfl)) (V8 (WM jQ rfl (qK rfl)) ZcE)))))
 (ZK (Vj (X3.pt (UD (Ub (Wu (Xc (W7) rfl T.b_isinstance TF.boot_isinstance (Zf (va 4) (Zf (Ve rfl T.b_list TF.boot_list) Zn))))) (BI (YV (Ug hr.units) (Wg T.b_len (Zf (va 4) Zn)) (va 3)))))
 (ZK (YG (PD.weak X8))
 YJ)
 Ye)
 (ZK (XG (own:=[]) qT rfl (WP.n (ZjN rfl T.b_enumerate (va 4))) (ZcX rfl jQ rfl rfl (qK rfl) (zL rfl) (by decide) (by decide) (hp:=V8 (WM jQ rfl (qK rfl)) (V8 (WM jQ rfl (zL rfl)) ZcE)))
 (ZK (Vj (X3.pt (UD (Ub (Wu (Xc (W7) rfl T.b_isinstance TF.boot_isinstance (Zf (va 7) (Zf (Ve rfl T.b_int TF.boot_int) Zn))))) (UD (Wu (Xc (W7) rfl T.b_isinstance TF.boot_isinstance (Zf (va 7) (Zf (Ve rfl T.b_bool TF.boot_bool) Zn)))) (BI (Ub (Zet ZV (Zes (Zhk) (va 7) (Zga (Ze4 hr.units0) (va 0)))))))))
 (ZK (YG (PD.weak X8))
 YJ)
 Ye)
 (ZK (Vj (X3.pt (JF (YV (Zk1) (va 6) ZV) (JD (YV (Zbk hr.units) (Z1 Z3 (va 4) (WV ZmS (va 6) ZV)) (Z1 Z3 (va 1) (va 7))))))
 (ZK (YG (PD.weak X8))
 YJ)
 Ye)
 YJ)))
 (Z6 (own2:=[8]) (Uz (YC jQ rfl (qK rfl) (Vb Zn)))
 (Z6 (own2:=[8]) (XG (own:=[8]) qT rfl (Wh rfl T.b_range (va 0)) (XF jQ rfl (zL rfl) (by decide))
 (Z6 (own2:=[8]) (ZlK (own:=[8]) (i:=8) (by decide) (pv 8) (Xq (bk ["n","lower","found","many","chain","hues","k","place","ties"] (Zw ZaN).names ["other","place"] [none,some 7]) (Wi (Z1 Z3 (va 1) (va 7))) Xf Wl (Xe (Zf (Xc (ZcZ rfl) rfl T.b_min TF.boot_min (Zf (va 1) (Zf (va 0) Zn))) (Zf (Xc (ZcY rfl) rfl T.b_max TF.boot_max (Zf (va 1) (Zf (va 0) Zn))) Zn)))))
 (Ye (own:=[8]))))
 (Z6 (own2:=[8]) (YG (BR (Ya (km.mono) trivial hr (Zf (Xe (Zf (va 0) (Zf (VH (Zaq) rfl T.b_tuple TF.boot_tuple (Zf (va 8) Zn)) Zn))) (Zf (va 5) Zn))) (BQ (Vc (Uf hr.units) (ZjT rfl rfl T.b_len TF.boot_len rfl T.b_set TF.boot_set (va 5)) (va 3)))))
 (Ye (own:=[8])))))))))
theorem ZfB (F:Fun K "all_below" "all_below" US j8 jR)(T:Txt mg){C:Addr}{bm:List Value}(x:ExcK K C bm)(hm:mg "Round" = some (.ref C)) :
  FnOk P w K mg base (Vi P w) 1 j8 jR ["n","pairs"] (spR 2 Z0 RAb C):=
 have jQ:=Zax.nd
 fnX F Zax λcdv A outer s H E hr G hG=>
 ZgW (fr:=false) (own2:=[2]) (Uz (YC jQ rfl (zL rfl) (VH (Zdl rfl hr.units) rfl T.b_dict TF.boot_dict (Zf (Xq (bk ["n","pairs","below","between","a","b"] (Zw US).names ["pair"] [none]) (Wi (va 1)) Xf Wl (Xe (Zf (va 0) (Zf X8 Zn)))) Zn)))) (ZgW (fr:=false) (own2:=[2]) (XG (own:=[2]) qT rfl (Wh rfl T.b_range (va 0)) (XF jQ rfl (qK rfl) (by decide))
 (Z6 (own2:=[2]) (XG (own:=[2]) qT rfl (Wh rfl T.b_range (va 0)) (XF jQ rfl (qK rfl) (by decide))
 (Z6 (own2:=[2]) (XG (own:=[2]) qT rfl (Wh rfl T.b_range (va 0)) (XF jQ rfl (qK rfl) (by decide))
 (Z6 (own2:=[2]) (BS (own':=[2]) (X3.pt (JF (YV (WU hr.units) (Xe (Zf (va 4) (Zf (va 3) Zn))) (va 2)) (JD (YV (WU hr.units) (Xe (Zf (va 3) (Zf (va 5) Zn))) (va 2)))))
 (Z6 (own2:=[2]) (Zde (own:=[2]) (i:=2) (L2.hu_of hr) (by decide) (pv 2) (Xe (Zf (va 4) (Zf (va 5) Zn))) X8)
 (Ye (own:=[2])))
 Ye)
 (Ye (own:=[2]))))
 (Ye (own:=[2]))))
 (Ye (own:=[2])))) (V2.frz (own:=[2]) (own2:=[]) (Zph (Wu (Xc (Zb9 rfl) rfl T.b_any TF.boot_any (Zf (Xq (bk ["n","pairs","below","between","a","b"] (Zw US).names ["place","below"] [none,some 2]) (VE rfl T.b_range (va 0)) Xf Wl (Vc (WU hr.units) (Xe (Zf (va 0) (Zf (va 0) Zn))) (va 1))) Zn))) (Zku x hm))))
def ZdK:Zc->M D:=UM (ZS 2 (Zu Bq (Zb (Za 0) (Zb (Za 1) Ze)))) (UM (ZS 3 (Zu Bm (Zb (Za 0) (Zb (Za 2) Ze)))) (UM (ZS 4 (ZQ [none,some 0,some 2] (ZW (Za 0)) (Zv 0) Yc (Zu Bn (Zb (Za 1) (Zb (Za 2) (Zb (Za 0) Ze)))))) (UM (ZS 5 (Zu UR (Zb (Za 3) (Zb (JC (Y1 2 (Zd Zj (Za 1) (Za 0))) [4] (Za 0)) Ze)))) (UM (ZS 6 (Zu UE (Zb (Za 3) Ze))) ((ZZ (Zb (Zd Zj (Za 6) (dC (.int 0))) (Zb (UZ (Y1 2 (Zd Zj (Za 1) (Za 0))) [4] (Zd Zj (Za 6) (dC (.int 1)))) (Zb (Za 5) Ze)))))))))
def Jw:List D->M D:=runZ 7 2 ZdK
theorem ZcD (F:Fun K "chains_told" "chains_told" W5 j8 jR)(T:Txt mg){L:List (Addr×Str)}(lo:W4 L)(kj:ZT P w K mg base 1 "all_below" 2 false Z0 Bq)(ka:ZT P w K mg base 1 "count_below" 3 true Z0 Bn)(kc:ZT P w K mg base 4 "hued_along" 2 true Z0 UR)(kI:ZT P w K mg base 55 "most" 1 true (Y8 L) UE)(jZ:ZT P w K mg base 6 "web_of_below" 2 false (Y8 L) Bm){tc tP:Addr}(hcode:jR.code=.ref tc)(hCd:zE base tc tP)(hBm:Uv mg base)(hL:(tP,(qw "chains_told.<locals>.<lambda>"))∈L) :
  FnOk P w K mg base ZN 56 j8 jR ["n","pairs"] (spZ 2 (Y8 L) Jw):=
 have jQ:=Jv.nd
 fnZ F Jv λA outer s H E hr G hG=>
 have hT:Y8 L G:=hG;have TG9:=hT _ _ hL;have M9:Mk0 (Wn ZN P w K mg base ["n","pairs","below","web","ranks","hueing","told"] "chains_told" (Zw W5) j8 jR.code A outer s H E).nox tc tP:=⟨hcode,hCd,hBm⟩
 (By (fr:=false) (Y3 (YC jQ rfl (zL rfl) (Ya (kj.mono) trivial hr (Zf (va 0) (Zf (va 1) Zn)))))
 (By (fr:=false) (Y3 (YC jQ rfl (qK rfl) (Ya (jZ.mono) hT hr (Zf (va 0) (Zf (va 2) Zn)))))
 (By (fr:=false) (Y3 (YC jQ rfl (zL rfl) (Xq (bk ["n","pairs","below","web","ranks","hueing","told"] (Zw W5).names ["place","n","below"] [none,some 0,some 2]) (VE rfl T.b_range (va 0)) Xf Wl (Ya (ka.mono) trivial hr (Zf (va 1) (Zf (va 2) (Zf (va 0) Zn)))))))
 (By (fr:=false) (Y3 (YC jQ rfl (qK rfl) (Ya (kc.mono) trivial hr (Zf (va 3) (Zf (Zcr (kl:=3) (frb:=false) (N:=["place","ranks"]) (ps:=["place"]) (cix:=[4]) (q:="chains_told.<locals>.<lambda>") rfl rfl T.b_sorted TF.boot_sorted rfl T.b_range M9 TG9 (λ_=>rfl) (hr.mono (by decide)) (va 0) rfl (⟨rfl,rfl,rfl,by decide +kernel,rfl,by decide +kernel,by decide +kernel⟩:CloScope ["place","ranks"] ["place"] _) (⟨rfl,rfl,rfl,by decide +kernel,by decide +kernel⟩:CapS _ ["n","pairs","below","web","ranks","hueing","told"] (Zw W5).names ["place","ranks"] ["place"] [4] _) rfl (λ_ _ _ _ us hl=>match us,hl with | [_],_=>rfl) (λbase f c cl G A outer s H E hr=>(Z1 Z3 (va 1) (va 0)))) Zn)))))
 (By (fr:=false) (Y3 (YC jQ rfl (qK rfl) (Ya (kI.mono) hT hr (Zf (va 3) Zn))))
 (ZnF (ZnG (Z1 Z3 (va 6) ZV) (Zcq (kl:=3) (frb:=false) (N:=["place","ranks"]) (ps:=["place"]) (cix:=[4]) (q:="chains_told.<locals>.<lambda>") rfl rfl T.b_sorted TF.boot_sorted M9 TG9 (λ_=>rfl) (hr.mono (by decide)) (Z1 Z3 (va 6) ZV) rfl (⟨rfl,rfl,rfl,by decide +kernel,rfl,by decide +kernel,by decide +kernel⟩:CloScope ["place","ranks"] ["place"] _) (⟨rfl,rfl,rfl,by decide +kernel,by decide +kernel⟩:CapS _ ["n","pairs","below","web","ranks","hueing","told"] (Zw W5).names ["place","ranks"] ["place"] [4] _) rfl (λ_ _ _ _ us hl=>match us,hl with | [_],_=>rfl) (λbase f c cl G A outer s H E hr=>(Z1 Z3 (va 1) (va 0)))) (va 5))))))))
def Jx:List D->M Unit:=RCt
theorem ZdL (F:Fun K "chains_told" "chains_told" W5 j8 jR){L:List (Addr×Str)}{C:Addr}(c:CalR P w K mg base 1 "all_below" 2 Z0 RAb C) :
  FnOk P w K mg base (Vi P w) 56 j8 jR ["n","pairs"] (spR 2 (Y8 L) Jx C):=
 fnX F Jv λcdv A outer s H E hr G hG=>ZnC (i:=2) Jv.nd rfl (zL rfl) (Zmt c ZpS trivial hr (Zf (va 0) (Zf (va 1) Zn)) (λ_ h=>h) (Y5 (Y5 Ua)))
def W6:List D->M D:=BN Jx Jw
theorem Zbg:FnScope ["act","n","pairs","told","e","others"] ["act","n","pairs"] (Zw ZaM):=Xb
theorem ZdM (F:Fun K "_law_tround" "_law_tround" ZaM j8 jR){L:List (Addr×Str)}{fy cT cN cI cL cR:Addr}(x:ExcT K mg cT cN cI cL cR)(c:ZpV P w K mg base 56 fy (Y8 L) Jw Jx cR) :
  FnOk P w K mg base ZN 57 j8 jR ["act","n","pairs"] (Zog fy (Y8 L) W6):=by
 have nd:=Zbg.nd;obtain⟨fd,ps,FN,FR,⟨oc,od,sl,lk⟩,hb⟩:=c;have hφ:∀h:Heap,K.In h->fnφ fy fd h:=λh X=>⟨oc,od,sl,X _ _ lk⟩;refine F.ok Zbg (λvs H Q E h=>?_) λcdv A outer s0 H vs Q E hr h=>?_
 ·obtain⟨G,Hf,ds,u,v,s,d,s',rfl,_⟩:=h
  rfl
 ·obtain⟨G,Hf,ds,u,v,s,d,s',rfl,hG,e1,r,st,eF,k⟩:=h
  cases hR:Jx ds s with
  | some p=>
   have e2:W6 ds s=some (.str (qw "round"),p.2):=by
    unfold W6 BN;rw[hR]
   obtain⟨rfl,rfl⟩:D.str (qw "round")=d/\p.2=s':=by
    have:=zG (e2.symm.trans eF);exact⟨congrArg Prod.fst this,congrArg Prod.snd this⟩
   refine⟨_,Xg (WE (i:=3) nd rfl (qK rfl) Zg5) (Xg (ZnB (X:=((Wn ZN P w K mg base ["act","n","pairs","told","e","others"] "_law_tround" (Zw ZaM) j8 cdv A outer s0 H E).nox)) (k:=56) (i:=0) (ie:=4) nd rfl rfl rfl rfl rfl x.t (pv 0) hr (ZU (pv 1) (ZU (pv 2) Yn)) λv=>
    Xg (WE (i:=5) nd rfl (qK rfl) (ZnO (V9 (isiK K) rfl x.isi TF.boot_isinstance (ZU (pv 4) (ZU (Zha (ZU (BA (v:=.ref cL) rfl x.l rfl) (ZU (BA (v:=.ref cN) rfl x.n rfl) (ZU (BA (v:=.ref cI) rfl x.i rfl) Yn)))) Yn))) (Zg6 (Zg7 (V9 (isiK K) rfl x.isi TF.boot_isinstance (ZU (pv 4) (ZU (Zh9 (v:=.ty "ValueError") rfl x.ve rfl rfl) Yn)))))))
    (W9 (WE (i:=3) nd rfl (qK rfl) (JW (ixK K) (ZkL (ZU XS (ZU XS Yn))) (UU Zec rfl x.int TF.boot_int (ZU (ZkB (V9 (isiK K) rfl x.isi TF.boot_isinstance (ZU (pv 4) (ZU (BA (v:=.ref cR) rfl x.r rfl) Yn))) (Zg6 (Zg7 (pv 5)))) Yn)) λ_ _=>rfl)))) (W9 (Uc (pv 3)))),?_⟩
   refine⟨fy,fd,ps,_,cR,rfl,hb,FR,hφ,x.ex,u,rfl,v,rfl,?_⟩;refine⟨G,Hf,ds,s,p.2,hG,rfl,e1,r,st,hR,λHf' H' g st'=>⟨rfl,λy hy=>?_⟩⟩;have n1:¬G.fp y:=Gh.nofp st' hy;have g1:=Gr.new (o:=.ext (Xj y cR)) g.fh hy n1;have s1:=Gh.grow (o:=.ext (Xj y cR)) st' hy;have a1:Zi H' y (.ext (Xj y cR)) y=some (.ext (Xj y cR)):=ZE;refine⟨.ref y,rfl,ZgY,λq hq=>?_⟩;have a2:Zi (Zi H' y (.ext (Xj y cR))) q (.tup [.ref cL,.ref cN,.ref cI]) y=some (.ext (Xj y cR)):=by rw[Zl (ZP a1 hq)];exact a1
   have g2:=Gr.new (o:=.tup [.ref cL,.ref cN,.ref cI]) g1.fh hq (Gh.nofp s1 hq);have s2:=Gh.grow (o:=.tup [.ref cL,.ref cN,.ref cI]) s1 hq;refine⟨y,cR,.ref q,false,rfl,a2,x.ck,.tp (ds:=[cL,cN,cI]) ZE x.k1,false,rfl,VZ ?_⟩;refine⟨.ref y,rfl,y,cR,.ty "ValueError",true,rfl,a2,x.ck,.ty x.k2,true,rfl,?_⟩;refine⟨ZnD,λt ht=>?_⟩;have a3:Zi (Zi (Zi H' y (.ext (Xj y cR))) q (.tup [.ref cL,.ref cN,.ref cI])) t (.lst [.str (qw "odd"),.str (qw "round")]) y=some (.ext (Xj y cR)):=by rw[Zl (ZP a2 ht)];exact a2
   have g3:=Gr.new (o:=.lst [.str (qw "odd"),.str (qw "round")]) g2.fh ht (Gh.nofp s2 ht);have s3:=Gh.grow (o:=.lst [.str (qw "odd"),.str (qw "round")]) s2 ht;refine⟨.ref y,rfl,y,cR,.ref cR,true,rfl,a3,x.ck,.cl x.k3,true,rfl,WY ?_⟩;refine⟨.bl false,rfl,false,rfl,.inr ⟨true,rfl,?_⟩⟩;refine⟨t,_,1,.str (qw "round"),rfl,rfl,ZD.of ZE,rfl,?_⟩;exact⟨_,rfl,k _ _ _ (((g.trans g1).trans g2).trans g3) s3 (jh.mpr rfl) λ_ _ _ _ e=>nomatch e⟩
  | none=>
   have e2:Jw ds s=some (d,s'):=by
    rw[<-eF];unfold W6 BN;rw[hR]
   refine⟨_,Xg (WE (i:=3) nd rfl (qK rfl) Zg5) (Xg (Zpg (W9 (WE (i:=3) nd rfl (qK rfl) (Zf5 (k:=56) (i:=0) (pv 0) hr (ZU (pv 1) (ZU (pv 2) Yn)))))) (W9 (Uc (pv 3)))),?_⟩;refine⟨fy,fd,ps,_,rfl,hb,FN,λh _ X=>hφ h X,u,rfl,v,rfl,λh _ X=>hφ h X,?_⟩;exact⟨G,Hf,ds,s,d,s',hG,rfl,e1,r,st,e2,λz Hf' H' g st' r' zz=>⟨z,rfl,k z Hf' H' g st' r' zz⟩⟩
def Zmw:Zc->M Out:=(Zg (YS (ZW (dC (.int 6))) (Zv 2)
 (Zg (ZS 3 (Zu Yy (Zb (Za 1) (Zb (dC (.int 11)) Ze))))
 (Zg (ZS 4 (Zu Zai (Zb (Za 1) (Zb (Za 3) (Zb (dC (.bl true)) Ze)))))
 (Zg (ZS 5 (Zu Zaj (Zb (Za 3) (Zb (Za 4) Ze))))
 (Zg (YS (ZW (dC (.int 2))) (Zv 6)
 (Zg (ZS 7 (Zx ZnY (Zb (Za 4) Ze)))
 (Zg (ZS 8 (Zu W6 (Zb (Za 3) (Zb (Za 7) Ze))))
 (Zg (Yw (asB (Zd Y9 (Za 7) (Za 4)))
 (ZL (dC (.bl false)))
 Zp)
 (Zg (Yw (asB (Zx UJ (Zb (ZQ [none,some 5] (ZW (Za 3)) (Zv 0) Yc (Zd YF (Za 0) (Zd Zj (Za 1) (Za 0)))) Ze)))
 (Zg (Yw (asB (Zd Y9 (Za 8) (dC (.str (qw "round")))))
 (ZL (dC (.bl false)))
 Zp)
 Zp)
 (Zg (Yw (Wa (asB (Zu UQ (Zb (Za 3) (Zb (Za 5) (Zb (Za 8) Ze))))))
 (ZL (dC (.bl false)))
 (Zg (Ba 8)
 (Zg (Yw (asB (Zd Y9 (Za 7) (Za 4)))
 (ZL (dC (.bl false)))
 Zp)
 Zp)))
 Zp))
 Zp)))))
 Zp)))))
 (Zg (ZL (dC (.bl true)))
 Zp))
theorem Zh7:FnScope ["script","pen","turn","n","pairs","lower","again","handed","found"] ["script"] (Zw s_law):=Xb
theorem ZnJ {cdv:Value}{A:xC}{outer:List Env}{s:Shared}{H:Hp}{E:XK}{L:List (Addr×Str)}(lo:W4 L)(T:Txt mg)(hr:Room 57 (A.deeper (envOfC "law" (Zw s_law) s.heap.objs.size j8 cdv)))(jP:ZT P w K mg base 1 "_law_tdraw" 2 true (WL We L) Yy)(kd:ZT P w K mg base 1 "_law_tlower" 2 true Z0 Zaj)(ke:ZT P w K mg base 3 "_law_tpairs" 3 true (WL We L) Zai)(kf:ZT P w K mg base 2 "_law_tright" 3 false Z0 UQ)(kg:Zfw P w K mg base 57 "_law_tround" "chains_told" (Y8 L) W6)(G:Gh)(hG:(WL We L) G) :
  Wc (Wn ZN P w K mg base ["script","pen","turn","n","pairs","lower","again","handed","found"] "law" (Zw s_law) j8 cdv A outer s H E).nox G [] [] [] false ((Wt s_law).drop 1) Zmw:=
 have jQ:=Zh7.nd;have hT:Y8 L G:=jC lo hG
 (ZK (XG (own:=[]) qT rfl (Wh rfl T.b_range ZV) (XF jQ rfl (qK rfl) (by decide))
 (ZK (Y3 (YC jQ rfl (qK rfl) (Ya (jP.mono) hG hr (Zf (va 1) (Zf ZV Zn)))))
 (ZK (Y3 (YC jQ rfl (qK rfl) (Ya (ke.mono) hG hr (Zf (va 1) (Zf (va 3) (Zf X8 Zn))))))
 (ZK (Y3 (YC jQ rfl (zL rfl) (Ya (kd.mono) trivial hr (Zf (va 3) (Zf (va 4) Zn)))))
 (ZK (XG (own:=[]) qT rfl (Wh rfl T.b_range ZV) (XF jQ rfl (qK rfl) (by decide))
 (ZK (Y3 (YC jQ rfl (qK rfl) (VH (ZfY) rfl T.b_list TF.boot_list (Zf (va 4) Zn))))
 (Zmu jQ rfl (qK rfl) (ptrZ kg hT hr (Zf (va 3) (Zf (va 7) Zn)))
 (B9 (YV (Ug hr.units) (va 7) (va 4))
 (Zfx (PD.weak X8))
 U7
 (B9 (Wu (Xc (Zb9 rfl) rfl T.b_any TF.boot_any (Zf (Xq (bk ["script","pen","turn","n","pairs","lower","again","handed","found"] (Zw s_law).names ["place","lower"] [none,some 5]) (VE rfl T.b_range (va 3)) Xf Wl (Vc (WU hr.units) (va 0) (Z1 Z3 (va 1) (va 0)))) Zn)))
 (B9 (YV (Ug hr.units) (va 8) ZoI)
 (Zfx (PD.weak X8))
 U7
 U7)
 (B9 (Ub (Wu (Ya (kf.mono) trivial hr (Zf (va 3) (Zf (va 5) (Zf (va 8) Zn))))))
 (Zfx (PD.weak X8))
 (Zpn (pv 8)
 (B9 (YV (Ug hr.units) (va 7) (va 4))
 (Zfx (PD.weak X8))
 U7
 U7))
 U7)
 U7)))))
 YJ)))))
 (ZK (YG (PD.weak X8))
 YJ))
theorem Zbx:FnScope ["pen","many","found","one","two"] ["pen","many"] (Zw Zb0):=⟨rfl,rfl,rfl,by decide +kernel,rfl,by decide +kernel,by decide +kernel⟩
theorem Zea {P:xB}{w:World}{K:qd}{mg:Str->Option Value}{base:Heap}{j8:Addr}{jR:xA}(F:Fun K "_law_tdraw" "_law_tdraw" Zb0 j8 jR)(T:Txt mg) :
  FnOk P w K mg base ZN 1 j8 jR ["pen","many"] (Ys 2 true We Yy):=by
 have nd:=Zbx.nd;refine F.ok Zbx (λvs H Q E h=>?_) λcdv A outer s0 H vs Q E hr h=>?_
 ·obtain⟨G,Hf,ds,pn,d,pn',_,e,_⟩:=h
  exact e
 ·obtain⟨p,m,rfl,hs⟩:=ZjH (K:=K) (N:=λ_ H'=>Q .non H') h
  have hu:=L2.hu_of hr;refine⟨_,Xg (BX (PW.pt (ZkA (BD ZkK (V9 Zap rfl T.b_len TF.boot_len (ZU (WT hu (pv 0) XS (λ_ _=>rfl)) Yn)) Xd (JJ _)) (Zia (BD ZnQ (JW BF (WT hu (pv 0) XS (λ_ _=>rfl)) Xd (λ_ _=>rfl)) (pv 1) (JJ _)))))
    (W9 (BC (U8 zN qb0 qb1 ZfJ (WT hu (pv 0) XS (λ_ _=>rfl)) (ZU Xd Yn)))) BB)
   (Xg (BX (BD ZkK (V9 Zap rfl T.b_len TF.boot_len (ZU (WT hu (pv 0) XS (λ_ _=>rfl)) Yn)) Xd (JJ _))
    (Xg (WE (i:=2) nd rfl (qK rfl) (Xm U2 (JW BF (WT hu (pv 0) XS (λ_ _=>rfl)) Xd (λ_ _=>rfl)) (pv 1)))
    (Xg (ZkF (Xm Zib (JW BF (WT hu (pv 0) XS (λ_ _=>rfl)) Xd (λ_ _=>rfl)) (pv 1)) (Zor (WT hu (pv 0) XS (λ_ _=>rfl)) Xd ZkQ))
    (W9 (Uc (pv 2))))) BB)
   (Xg (Ze0 hu (pv 0) XS (Xm UC (WT hu (pv 0) XS (λ_ _=>rfl)) Xd) rfl)
   (Xg (WE (i:=3) nd rfl (qK rfl) (Xm U2 (Xm UC (WT hu (pv 0) XS (λ_ _=>rfl)) (Xm U1 (Xm U1 Xd (WT hu (pv 0) XS (λ_ _=>rfl))) (WT hu (pv 0) XS (λ_ _=>rfl)))) Xd))
   (Xg (WE (i:=4) nd rfl (qK rfl) (Xm U2 (Xm UC (Xm UC (Xm U1 (pv 3) (pv 3)) (Xm U1 Xd (WT hu (pv 0) XS (λ_ _=>rfl)))) Xd) Xd))
   (W9 (Uc (Xm U2 (Xm Zib (Xm U2 (Xm UC (Xm U1 (pv 4) (pv 4)) (pv 3)) Xd) Xd) (pv 1)))))))),hs⟩
theorem Zb4:FnScope ["script","mixed","cell"] ["script"] (Zw Za9):=⟨rfl,rfl,rfl,by decide +kernel,rfl,by decide +kernel,by decide +kernel⟩
theorem ZfC {P:xB}{w:World}{K:qd}{mg:Str->Option Value}{base:Heap}{j8:Addr}{jR:xA}(F:Fun K "_law_tpen" "_law_tpen" Za9 j8 jR)(T:Txt mg) :
  FnOk P w K mg base ZN 1 j8 jR ["script"] (Zn2 K):=by
 have nd:=Zb4.nd;refine F.ok Zb4 (λvs H Q E h=>?_) λcdv A outer s0 H vs Q E hr h=>?_
 ·obtain⟨a,ns,rfl,_⟩:=h
  rfl
 ·obtain⟨a,ns,rfl,hsq⟩:=id h
  refine⟨_,Xg (WE (i:=1) nd rfl (qK rfl) Xd)
   (Xg (ZkJ qT rfl (ZeX (pv 0)) (WM (i:=2) nd rfl (qK rfl)) (W9 (WE (i:=1) nd rfl (qK rfl) (Xm U2 (Xm UC (Xm UC (Xm U1 (pv 1) Xd) (Xm U2 (pv 2) Xd)) Xd) Xd))))
   (W9 (Uc (ZmN (ZcU XS (pv 1) (ZcU XS Xd (ZcU XS
    (Zge (N':=["cell"]) (src:=[none]) rfl (⟨rfl,rfl,by decide +kernel,rfl,by decide +kernel,rfl,by decide +kernel,by decide +kernel⟩:BlkS _ ["script","mixed","cell"] (Zw Za9).names ["cell"] [none] _) (ZeX (pv 0)) (λ_ _ _ _ _ _=>WM (i:=0) (show(["cell"]:List Str).Nodup by decide +kernel) rfl (qK rfl)) (λ_ _ _ _ _ _=>ZfQ (BD ZnR (pv 0) (Xm Zov Xd Xd) (JJ _))) (λ_ _ _ _ _ _=>pv 0)) ZmM))) rfl rfl (by simp) (by decide))))),Zm8 hsq.1 hsq.2.1 hsq.2.2⟩
theorem Zbh:FnScope ["pen","many","left"] ["pen","many"] (Zw ZaL):=⟨rfl,rfl,rfl,by decide +kernel,rfl,by decide +kernel,by decide +kernel⟩
theorem ZdN {P:xB}{w:World}{K:qd}{mg:Str->Option Value}{base:Heap}{j8:Addr}{jR:xA}(F:Fun K "_law_torder" "_law_torder" ZaL j8 jR)(T:Txt mg)(jP:ZT P w K mg base 1 "_law_tdraw" 2 true We Yy) :
  FnOk P w K mg base ZN 2 j8 jR ["pen","many"] (Ys 2 true We VM):=by
 have nd:=Zbh.nd;refine F.ok Zbh (λvs H Q E h=>?_) λcdv A outer s0 H vs Q E hr h=>?_
 ·obtain⟨G,Hf,ds,pn,d,pn',_,e,_⟩:=h
  exact e
 ·obtain⟨fT,fdT,psT,FT,hmT,hkT,hbT⟩:=jP
  obtain⟨p,m,rfl,hs⟩:=ZhD (K:=K) (E':=E0) (N:=λ_ H'=>Q .non H') h;refine⟨_,Xg (WE (i:=2) nd rfl (zL rfl) (UU (ZbK rfl) rfl T.b_list TF.boot_list (ZU (Zcb rfl T.b_range (ZU (pv 1) Yn)) Yn)))
   (W9 (Uc (Zge (te:=tPop K E0) (tt:=Zih) (N':=["k","left","pen"]) (src:=[none,some 2,some 0]) rfl (⟨rfl,rfl,by decide +kernel,rfl,by decide +kernel,rfl,by decide +kernel,by decide +kernel⟩:BlkS _ ["pen","many","left"] (Zw ZaL).names ["k","left","pen"] [none,some 2,some 0] _) (Zb5 rfl T.b_range (ZU (pv 1) Yn)) (λ_ _ _ _ _ _=>WM (i:=0) (show(["k","left","pen"]:List Str).Nodup by decide +kernel) rfl (qK rfl)) (λ_ _ _ _ _ _=>ZfP)
    (λ_ _ _ _ _ _=>by unfold tPop;exact U8 zN qb0 qb1 ZfJ (pv 1) (ZU (BE FT hr rfl hmT hkT hbT .nil B0 (ZU (pv 2) (ZU (V9 Zap rfl T.b_len TF.boot_len (ZU (pv 1) Yn)) Yn))) Yn))))),hs⟩
end K54
namespace TQ
open L2 TF TS
open TP
open TP2
open TP3
def YW (n:Nat)(r:Nat->Nat->Bool):Nat->Nat->Nat
 | 0,_=>0
 | t+1,p=>1+YA ((Yx n λo=>r o p).map (YW n r t))
section
variable {n:Nat}{r:Nat->Nat->Bool}
theorem BV {l:List Nat}(h:0<YA l):YA l∈l:=Zfo λe=>by subst e;exact absurd h (by decide)
theorem Zcm (o:OrdN n r):∀t p,p<n->∃C:List Nat,C.Pairwise (λa b=>r a b=true)/\(∀x∈C,x<n/\r x p=true)/\YW n r (t+1) p=C.length+1
 | t,p,hp=>by
  by_cases h:0<YA ((Yx n λo=>r o p).map (YW n r t))
  ·obtain⟨q,hq,e⟩:=ql.mp (BV h)
   obtain⟨h1,h2⟩:=XI.mp hq
   cases t with
   | zero=>rw[<-e]at h;exact absurd h (by unfold YW;decide)
   | succ t=>
    obtain⟨C,c1,c2,c3⟩:=Zcm o t q h1;refine⟨C ++ [q],zJ.mpr ⟨c1,yL _ _,λa ha b hb=>?_⟩,λx hx=>?_,?_⟩
    ·rw[qL.mp hb];exact(c2 a ha).2
    ·rcases qS.mp hx with z | z
     ·exact⟨(c2 x z).1,o.tr _ _ _ (c2 x z).2 h2⟩
     ·rw[qL.mp z];exact⟨h1,h2⟩
    ·rw[qP,zo,<-c3]
     show 1+YA _=_;rw[<-e];omega
  ·exact⟨[],.nil,by simp,by show 1+YA _=_;rw[yw];omega⟩
theorem Zcn:∀(m:Nat) (C:List Nat) (p t:Nat),C.length=m->(C ++ [p]).Pairwise (λa b=>r a b=true)->(∀x∈C,x<n)->C.length<t->C.length+1<=YW n r t p
 | m,C,p,0,_,_,_,h=>absurd h (by omega)
 | 0,C,p,t+1,e,_,_,_=>by rw[e];show 0+1<=1+_;omega
 | m+1,C,p,t+1,e,pw,lt,h=>by
  obtain⟨C',q,rfl⟩:∃C' q,C=C' ++ [q]:=⟨C.dropLast,C.getLast (λz=>by rw[z]at e;cases e),(qa7 _).symm⟩;rw[qP,zo]at e h⊢;obtain⟨p1,p2,p3⟩:=zJ.mp pw;have ih:=Zcn m C' q t (by omega) p1 (λx hx=>lt x (qM _ hx)) (by omega);have hq:q∈Yx n λo=>r o p:=XI.mpr ⟨lt q (by simp),p3 q (by simp) p (by simp)⟩;have:=JS (ql.mpr ⟨q,hq,rfl⟩:YW n r t q∈(Yx n λo=>r o p).map (YW n r t));show _<=1+YA _;omega
theorem ZdO:∀t p,YW n r t p<=YW n r (t+1) p
 | 0,p=>za _
 | t+1,p=>by
  show 1+YA _<=1+YA _;by_cases h:0<YA ((Yx n λo=>r o p).map (YW n r t))
  ·obtain⟨q,hq,e⟩:=ql.mp (BV h)
   have:=JS (ql.mpr ⟨q,hq,rfl⟩:YW n r (t+1) q∈(Yx n λo=>r o p).map (YW n r (t+1)));have:=ZdO t q;omega
  ·omega
theorem Zmx (o:OrdN n r){C:List Nat}(h:C.Pairwise λa b=>r a b=true):C.Nodup:=h.imp λ{a b} h e=>by
 subst e;rw[o.irr]at h;cases h
theorem Zi2 (o:OrdN n r){p:Nat}(hp:p<n):YW n r (n+1) p=YW n r n p:=by
 refine qa2 ?_ (ZdO n p);obtain⟨C,c1,c2,c3⟩:=Zcm o n p hp;have pw:(C ++ [p]).Pairwise λa b=>r a b=true:=zJ.mpr ⟨c1,yL _ _,λa ha b hb=>by
  rw[qL.mp hb];exact(c2 a ha).2⟩
 have hl:=VI (b:=qj n) (Zmx o pw) λx hx=>qE.mpr (by
  rcases qS.mp hx with z | z
  ·exact(c2 x z).1
  ·rw[qL.mp z];exact hp)
 rw[qP,zo,qI]at hl;rw[c3];exact Zcn _ C p n rfl pw (λx hx=>(c2 x hx).1) (by omega)
theorem Zpo (o:OrdN n r)(hn:n<=24){C K:List Nat}(pm:C.Perm K)(hK:K∈kn (Z8 n r) n)(hs:C.Pairwise λa b=>YO n r a<=YO n r b)(hl:K.length=om n (Z8 n r)):YA ((qj n).map (YW n r n) ++ [0])=om n (Z8 n r):=by
 refine qa2 ?_ ?_
 ·by_cases h:0<YA ((qj n).map (YW n r n) ++ [0])
  ·rcases qS.mp (BV h)with z | z
   ·obtain⟨p,hp,e⟩:=ql.mp z
    have hp:=qE.mp hp;rw[<-e,<-Zi2 o hp];obtain⟨C,c1,c2,c3⟩:=Zcm o n p hp;rw[c3];have:=ZgS o hn (c:=C ++ [p]) (zJ.mpr ⟨c1,yL _ _,λa ha b hb=>by
     rw[qL.mp hb];exact(c2 a ha).2⟩) λx hx=>by
     rcases qS.mp hx with z | z
     ·exact(c2 x z).1
     ·rw[qL.mp z];exact hp
    rw[qP,zo]at this;exact this
   ·have:=qL.mp z;omega
  ·omega
 ·rw[<-hl,<-pm.length_eq]
  have up:=ZgR o pm hK hs;have lt:∀x∈C,x<n:=λx hx=>(U5 hK).1 x (pm.mem_iff.mp hx);have hn':C.length<=n:=by rw[pm.length_eq];exact(U5 hK).2
  by_cases e:C=[]
  ·rw[e];exact za _
  ·obtain⟨C',q,rfl⟩:∃C' q,C=C' ++ [q]:=⟨C.dropLast,C.getLast e,(qa7 _).symm⟩
   rw[qP,zo]at hn'⊢;have:=Zcn _ C' q n rfl up (λx hx=>lt x (qM _ hx)) (by omega);have:=JS (qM [0] (ql.mpr ⟨q,qE.mpr (lt q (by simp)),rfl⟩):YW n r n q∈(qj n).map (YW n r n) ++ [0]);omega
theorem ZnK {qs:List Nat}{f:Nat->Nat}{p h:Nat}(hp:p∈qs):Yf (Yh qs f) (zr (p:Int)) (.int (h:Int))=Yh qs λx=>if x=p then h else f x:=by
 unfold Yf Yh;rw[if_pos (by rw[y8];exact⟨_,ql.mpr ⟨p,hp,rfl⟩,decide_eq_true rfl⟩),qC];refine zp λq _=>?_;by_cases e:q=p
 ·subst e;simp
 ·have:¬((q:Int)=(p:Int)):=λz=>e (by omega)
  simp[e,this]
theorem Zi3 (f:Nat->Nat):∀qs:List Nat,UI (Yh qs f)=some (qs.map λq=>((f q:Nat):Int))
 | []=>rfl
 | q::qs=>by
  show(UI (Yh qs f)).map _=_;rw[Zi3 f qs];rfl
theorem ZpW {l:List Nat}{f g:Nat->Nat}(h:∀o∈l,g o<=f o):YA (l.map g)<=YA (l.map f ++ [0]):=by
 by_cases z:0<YA (l.map g)
 ·obtain⟨q,hq,e⟩:=ql.mp (BV z)
  have:=JS (qM [0] (ql.mpr ⟨q,hq,rfl⟩):f q∈l.map f ++ [0]);have:=h q hq;omega
 ·omega
theorem Zpp {l:List Nat}{f g:Nat->Nat}(h:∀o∈l,f o<=g o):YA (l.map f ++ [0])<=YA (l.map g):=by
 by_cases z:0<YA (l.map f ++ [0])
 ·rcases qS.mp (BV z)with w | w
  ·obtain⟨q,hq,e⟩:=ql.mp w
   have:=JS (ql.mpr ⟨q,hq,rfl⟩:g q∈l.map g);have:=h q hq;omega
  ·have:=qL.mp w;omega
 ·omega
end
def gTlg:Zc->M Out:=(Zg (Wo 1 (dC (.dk [])))
 (Zg (YS (ZW (Zx Yo (Zb (Za 0) Ze))) (Zv 2)
 (Zg (YS (ZW (Zx Yo (Zb (Za 0) Ze))) (Zv 3)
 (Zg (Ul 1 (fun ρ=>(Za 3) (Yk [1] ρ)) (Xa true (Zd Y0 (dC (.int 1)) (Zx VW (Zb (Zd Y0 (ZQ [none,some 1] (ZX (Zd Zj (Za 0) (Za 3))) (Zv 0) Yc (B8 (Za 1) (Za 0) (dC (.int 0)))) (Y4 (Zb (dC (.int 0)) Ze))) Ze)))))
 Zp))
 Zp))
 (Zg (ZL (Zx VW (Zb (Zd Y0 (Bu (Za 1)) (Y4 (Zb (dC (.int 0)) Ze))) Ze)))
 Zp)))
def FTlg:List D->M D:=runB 4 1 gTlg
theorem addL (a b:List D)(h:(a++b).length<=xg):Y0 (.lst a) (.lst b)=some (.lst (a++b)):=by
 rw[qP]at h;show(if _ then some (D.lst _)else none)=_;rw[if_pos h]
theorem add1 (m:Nat):Y0 (.int 1) (nD m)=some (nD (1+m)):=by
 show some (D.int (1+(m:Int)))=some (D.int ((1+m:Nat):Int));rw[Int.natCast_add];rfl
theorem ZpX {n k p:Nat}{r:Nat->Nat->Bool}(hp:p<k)(hk:k<=1000):Zj (.lst (YT n r k)) (nD p)=some (.lst ((Yx n λo=>r o p).map nD)):=by
 refine X7 ?_;simp_all
theorem jD {i:Nat}{fx fv:Zc->M D}{ρ:Zc}{s:Pn}{qs:List Nat}{f:Nat->Nat}{p h:Nat}{Q:Out->Pn->Prop}(h3:(ρ[i]?).bind id=some (.dk (Yh qs f)))(hv:fv ρ s=some (nD h,s))(hx:fx ρ s=some (nD p,s))(hl:qs.length<=100000)(hq:Q (.nx (ρ.set i (some (.dk (Yf (Yh qs f) (zr (p:Int)) (.int (h:Int))))))) s):Ok (Ul i fx fv ρ) s Q:=by
 refine .bind (.eq hv (.bind (.eq hx ?_)));simp only[h3];show Ok (if (Yh qs f).length<xg then Zy _ else Zq) s Q;exact .ite (by unfold Yh;rw[qh,Yi];omega) (.ret hq)
theorem Zmy {n:Nat}{r:Nat->Nat->Bool}(o:OrdN n r)(hn:n<=10){C K:List Nat}(pm:C.Perm K)(hK:K∈kn (Z8 n r) n)(hs:C.Pairwise λa b=>YO n r a<=YO n r b)(hl:K.length=om n (Z8 n r))(s:Pn):FTlg [.lst (YT n r n)] s=some (nD (om n (Z8 n r)),s):=by
 have hlow:(YT n r n).length=n:=by rw[qh,qI]
 have main:Ok (FTlg [.lst (YT n r n)]) s λd s'=>s=s'/\d=nD (om n (Z8 n r)):=by
  refine Ok.runB rfl ?_;refine Ok.seq (.sown (.eq (a:=.dk []) rfl ⟨rfl,?_⟩));have jW:∀{o1 o2 o3:Option D},ZW (Zx Yo (Zb (Za 0) Ze)) [some (.lst (YT n r n)),o1,o2,o3] s=some (Yt 0 n,s):=λ{o1 o2 o3}=>XQ (n:=n) (Z4 (Zh rfl rfl) (show some (D.int _)=some (D.int _) by rw[hlow])) (by omega);refine Ok.seq (.sfor (λt ρ s'=>s=s'/\∃(qs:List Nat) (f:Nat->Nat) (o2 o3:Option D),(t=0/\qs=[]∨0<t/\qs=qj n)/\(∀p,p∉qs->f p=0)/\(∀p,p<n->YW n r t p<=f p/\f p<=YW n r n p)/\ρ=[some (.lst (YT n r n)),some (.dk (Yh qs f)),o2,o3]) (.eq jW ⟨⟨rfl,[],λ_=>0,none,none,.inl ⟨rfl,rfl⟩,λ_ _=>rfl,λ_ _=>⟨qp _,za _⟩,rfl⟩,λt d ρ s' hd hI=>?_,fun ρ' s' hI=>?_⟩))
  ·obtain⟨rfl,qs,f,o2,o3,hq,hz,hf,rfl⟩:=hI
   obtain⟨ht,rfl⟩:=WQ hd;refine⟨_,rfl,?_⟩;refine Ok.seq (.sfor (λx ρ s'=>s=s'/\∃(qs:List Nat) (f:Nat->Nat) (o3:Option D),(t=0/\qs=qj x∨0<t/\qs=qj n)/\(∀p,p∉qs->f p=0)/\(∀p,p<n->(if p<x then YW n r (t+1) p else YW n r t p)<=f p/\f p<=YW n r n p)/\ρ=[some (.lst (YT n r n)),some (.dk (Yh qs f)),some (nD t),o3]) (.eq jW ⟨⟨rfl,qs,f,o3,by rcases hq with⟨h1,h2⟩ | h;exact .inl ⟨h1,h2⟩;exact .inr h,hz,λp hp=>by rw[if_neg (by omega)];exact hf p hp,rfl⟩,λx d ρ s' hd hJ=>?_,fun ρ' s' hJ=>?_⟩))
   ·obtain⟨rfl,qs,f,o3,hq,hz,hf,rfl⟩:=hJ
    obtain⟨hx,rfl⟩:=WQ hd;refine⟨_,rfl,?_⟩;have hql:qs.length<=10:=by
     rcases hq with⟨_,rfl⟩ | ⟨_,rfl⟩ <;> rw[qI] <;> omega
    have hsl:(Yx n λo=>r o x).length<=10:=by
     have:=zh (λo=>r o x) (qj n);rw[qI]at this;exact qY this hn
    have hc:=Xh (src:=[none,some 1]) (fi:=ZX (Zd Zj (Za 0) (Za 3))) (τ:=Zv 0) (ft:=Yc) (fe:=B8 (Za 1) (Za 0) (dC (.int 0))) (ρ:=[some (.lst (YT n r n)),some (.dk (Yh qs f)),some (nD t),some (nD x)]) (s:=s) (ds:=(Yx n λo=>r o x).map nD) (λd=>[some d,some (.dk (Yh qs f))]) (λ_=>true) (λd=>nD (f (Yg d))) (Wv (ZA rfl rfl (ZpX hx (by omega)))) (by rw[qh,Yi];omega) (λd hd=>by
     obtain⟨q,hq,rfl⟩:=ql.mp hd;refine⟨rfl,rfl,λ_=>?_⟩;show(match ZR (Yh qs f) (zr (q:Int))with | some v=>YU (vD v) | none=>Zy (.int 0)) s=some (nD (f q),s);rw[BM];by_cases hm:q∈qs
     ·rw[if_pos hm];rfl
     ·rw[if_neg hm,hz q hm];rfl)
    rw[yd.mpr λ_ _=>rfl,qC]at hc;have hval:Xa true (Zd Y0 (dC (.int 1)) (Zx VW (Zb (Zd Y0 (ZQ [none,some 1] (ZX (Zd Zj (Za 0) (Za 3))) (Zv 0) Yc (B8 (Za 1) (Za 0) (dC (.int 0)))) (Y4 (Zb (dC (.int 0)) Ze))) Ze))) [some (.lst (YT n r n)),some (.dk (Yh qs f)),some (nD t),some (nD x)] s=some (nD (1+YA ((Yx n λo=>r o x).map f ++ [0])),s):=by
     refine Zhh (ZA (d:=.int 1) (e:=nD (YA ((Yx n λo=>r o x).map f ++ [0]))) rfl (Z4 (Zh (ZA (e:=.lst [.int 0]) hc rfl (addL _ _ ?_)) rfl) ?_) (add1 _)) rfl
     ·rw[qP,qh,Yi];show _+1<=_;omega
     ·have:=Zdp (l:=(Yx n λo=>r o x).map f ++ [0]) (by simp)
      rw[zI,qC]at this;exact this
    have key:∀f':Nat->Nat,f'=(λy=>if y=x then 1+YA ((Yx n λo=>r o x).map f ++ [0])else f y)->∀p,p<n->(if p<x+1 then YW n r (t+1) p else YW n r t p)<=f' p/\f' p<=YW n r n p:=λf' ef p hp=>by
     subst ef;by_cases e:p=x
     ·subst e
      have h1:YA ((Yx n λo=>r o p).map (YW n r t))<=YA ((Yx n λo=>r o p).map f ++ [0]):=ZpW λq hq=>by
       have h2:=(hf q (XI.mp hq).1).1;have h3:=ZdO (n:=n) (r:=r) t q;split at h2 <;> omega
      have h2:YA ((Yx n λo=>r o p).map f ++ [0])<=YA ((Yx n λo=>r o p).map (YW n r n)):=Zpp λq hq=>(hf q (XI.mp hq).1).2;have h3:1+YA ((Yx n λo=>r o p).map (YW n r n))=YW n r n p:=Zi2 o hp;rw[if_pos (by omega)];show 1+YA _<=(if p=p then _ else _)/\(if p=p then _ else _)<=_;rw[if_pos rfl];omega
     ·have h2:=hf p hp
      show _<=(if p=x then _ else _)/\(if p=x then _ else _)<=_;rw[if_neg e];refine⟨?_,h2.2⟩;have h3:=h2.1;by_cases z:p<x
      ·rw[if_pos (by omega)];rw[if_pos z]at h3;exact h3
      ·rw[if_neg (by omega)];rw[if_neg z]at h3;exact h3
    rcases hq with⟨rfl,rfl⟩ | ⟨h0,rfl⟩
    ·refine .seq (jD rfl hval rfl (by omega) (.next ⟨_,rfl,rfl,qj x ++ [x],_,some (nD x),.inl ⟨rfl,qai.symm⟩,λp hp=>?_,key _ rfl,?_⟩))
     ·have h1:p∉qj x:=λz=>hp (qM _ z)
      have h2:p≠x:=λz=>hp (by rw[z];simp);show(if p=x then _ else f p)=0;rw[if_neg h2];exact hz p h1
     ·rw[<-ZiN (by simp)];rfl
    ·refine .seq (jD rfl hval rfl (by omega) (.next ⟨_,rfl,rfl,qj n,_,some (nD x),.inr ⟨h0,rfl⟩,λp hp=>?_,key _ rfl,?_⟩))
     ·have h2:p≠x:=λz=>hp (by rw[z];exact qE.mpr hx)
      show(if p=x then _ else f p)=0;rw[if_neg h2];exact hz p hp
     ·rw[<-ZnK (qE.mpr hx)];rfl
   ·obtain⟨rfl,qs,f,o3,hq,hz,hf,rfl⟩:=hJ
    rw[Y2]at hq hf;refine .next ⟨_,rfl,rfl,qs,f,_,_,.inr ⟨by omega,?_⟩,hz,λp hp=>?_,rfl⟩
    ·rcases hq with⟨_,h⟩ | ⟨_,h⟩ <;> exact h
    ·have:=hf p hp
     rw[if_pos hp]at this;exact this
  ·obtain⟨rfl,qs,f,o2,o3,hq,hz,hf,rfl⟩:=hI
   rw[Y2]at hq hf;have hqs:qs=qj n:=by
    rcases hq with⟨h1,h2⟩ | ⟨_,h⟩
    ·rw[h2,h1];rfl
    ·exact h
   subst hqs;have hv:Bu (Za 1) [some (.lst (YT n r n)),some (.dk (Yh (qj n) f)),o2,o3] s=some (.lst ((qj n).map λp=>nD (f p)),s):=by
    show(match UI (Yh (qj n) f)with | some ns=>if ns.length<=xg then Zy (D.lst (ns.map D.int))else Zq | none=>Zq) s=_;rw[Zi3];show(if _ then Zy (D.lst _)else Zq) s=_;rw[if_pos (by rw[qh,qI,Yi];omega),qC];rfl
   have hm:=Zdp (l:=(qj n).map f ++ [0]) (by simp);rw[zI,qC,zp (f:=f) (g:=YW n r n) (λp hp=>qa2 (hf p (qE.mp hp)).2 (hf p (qE.mp hp)).1),Zpo o (by omega) pm hK hs hl]at hm;have hr:Zx VW (Zb (Zd Y0 (Bu (Za 1)) (Y4 (Zb (dC (.int 0)) Ze))) Ze) [some (.lst (YT n r n)),some (.dk (Yh (qj n) f)),o2,o3] s=some (nD (om n (Z8 n r)),s):=Z4 (Zh (ZA (e:=D.lst [D.int 0]) hv rfl (addL _ _ (by rw[qP,qh,qI,Yi];show _+1<=_;omega))) rfl) hm;exact Ok.seq (.sret (.eq hr ⟨rfl,rfl⟩))
 obtain⟨d,s',e,rfl,rfl⟩:=main;exact e
end TQ
namespace K54
open L2 TF TQ TS
open TP
open TP2
open TP3
theorem ZpY (a b:Nat):Jc [nD a,nD b]=some (nD (min a b)):=by
 show some (D.int (if (b:Int)<a then (b:Int)else a))=_;rw[TP.min_eq]
theorem ZpZ (a b:Nat):JY [nD a,nD b]=some (nD (max a b)):=by
 show some (D.int (if (b:Int) > a then (b:Int)else a))=some (D.int ((max a b:Nat):Int));rcases Nat.lt_or_ge a b with h | h
 ·rw[if_pos (by omega),qaT (by omega)]
 ·rw[if_neg (by omega),qbL (by omega)]
theorem Zh8 {n k p:Nat}{r:Nat->Nat->Bool}(hp:p<k)(hk:k<=1000):Zj (.lst (YT n r k)) (nD p)=some (.lst ((Yx n λo=>r o p).map nD)):=by
 refine X7 ?_;simp_all
def Vk (n:Nat)(r:Nat->Nat->Bool)(k:Nat):Qa:=(qj k).flatMap λp=>(Yx n λo=>r o p).map λo=>(min p o,max p o)
theorem ZdP (n:Nat)(r:Nat->Nat->Bool)(k:Nat):Vk n r (k+1)=Vk n r k++(Yx n λo=>r o k).map λo=>(min k o,max k o):=by
 unfold Vk;rw[qai,List.flatMap_append];simp
theorem Zi4 (n:Nat)(p:Nat->Bool):(Yx n p).length<=n:=by
 unfold Yx;exact qY (zh _ _) (by rw[qI];exact qp _)
theorem ZfD (n:Nat)(r:Nat->Nat->Bool):∀k,(Vk n r k).length<=k*n
 | 0=>qbu (by unfold Vk;simp)
 | k+1=>by
  rw[ZdP,qP,qh,Nat.succ_mul];have:=ZfD n r k;have:=Zi4 n λo=>r o k;omega
theorem ZnL {n:Nat}{r:Nat->Nat->Bool}{k:Nat}{q:Nat×Nat}(h:q∈Vk n r k):∃p x,p<k/\r x p=true/\q=(min p x,max p x):=by
 obtain⟨p,hp,h⟩:=qaS.mp h;obtain⟨x,hx,rfl⟩:=ql.mp h;exact⟨p,x,qE.mp hp,(XI.mp hx).2,rfl⟩
theorem Zmz {n:Nat}{r:Nat->Nat->Bool}(o:OrdN n r):∀k,(Vk n r k).Nodup
 | 0=>by unfold Vk;simp
 | k+1=>by
  rw[ZdP,qaC];refine⟨Zmz o k,yz.mpr ((Bs (Zdu n _)).imp λ{x y} h e=>h ?_),λa ha b hb e=>?_⟩
  rotate_left
  ·injection e with e1 e2
   omega
  ·obtain⟨p,x,hp,hx,rfl⟩:=ZnL ha
   obtain⟨y,hy,rfl⟩:=ql.mp hb;have hy:=(XI.mp hy).2;injection e with e1 e2;obtain⟨rfl,rfl⟩:x=k/\y=p:=by omega
   have:=o.tr _ _ _ hx hy;rw[o.irr]at this
   cases this
theorem ZmA {n:Nat}{r:Nat->Nat->Bool}(o:OrdN n r):(Vk n r n).Perm (Z8 n r):=by
 refine(qac ?_ ((Zhy n).sublist zk)).mpr λq=>?_
 ·exact Zmz o n
 ·unfold Vk
  rw[qaS,qD,UY,qag];constructor
  ·rintro⟨p,hp,h⟩
   obtain⟨x,hx,rfl⟩:=ql.mp h;obtain⟨h1,h2⟩:=XI.mp hx;have hp:=qE.mp hp;have hne:x≠p:=λe=>by subst e;rw[o.irr]at h2;cases h2
   refine⟨⟨by show min p x<max p x;omega,by show max p x<n;omega⟩,?_⟩;rcases Nat.lt_or_ge p x with z | z
   ·right;show r (max p x) (min p x)=true
    rw[qaT (by omega),qbK (by omega)];exact h2
   ·left;show r (min p x) (max p x)=true
    rw[qbL (by omega),Nat.min_eq_right (by omega)];exact h2
  ·rintro⟨⟨h1,h2⟩,h3⟩
   rcases h3 with z | z
   ·exact⟨q.2,qE.mpr h2,ql.mpr ⟨q.1,XI.mpr ⟨by omega,z⟩,by rw[Nat.min_eq_right (by omega),qbL (by omega)]⟩⟩
   ·exact⟨q.1,qE.mpr (by omega),ql.mpr ⟨q.2,XI.mpr ⟨h2,z⟩,by rw[qbK (by omega),qaT (by omega)]⟩⟩
theorem ZmB {n:Nat}{L:Qa}(hL:∀p∈L,p.1<n/\p.2<n)(h:∀a,a<n->rL L n a a=false):OrdN n (rL L n):=by
 have lt:∀a b,rL L n a b=true->a<n/\b<n:=λa b z=>by
  have:∀{a b:Nat},Pth L n a b->a<n/\b<n:=λz=>by
   induction z with
   | one z=>exact hL _ z
   | two _ _ _ i1 i2=>exact⟨i1.1,i2.2⟩
  exact this (U6.mp z)
 refine⟨λa=>?_,λa b c h1 h2=>U6.mpr (Pth.trans hL (U6.mp h1) (U6.mp h2)),lt⟩
 cases e:rL L n a a with
 | false=>rfl
 | true=>rw[h a (lt a a e).1]at e;cases e
theorem BW {i:Nat}{f:Zc->M D}{g:Zc->M Out}{R:Zc->M D}(h:∀ρ s d s',g ρ s=some (.rt d,s')->R ρ s=some (d,s')):∀ρ s d s',Zg (ZS i f) g ρ s=some (.rt d,s')->UM (ZS i f) R ρ s=some (d,s'):=fun ρ s d s' e=>by
 obtain⟨o,s1,a1,a2⟩:=Zs e;have a1':=a1;obtain⟨d1,s2,b1,b2⟩:=Zs a1';obtain⟨rfl,rfl⟩:=ZC b2;unfold UM Zm;rw[a1];exact h _ _ _ _ a2
theorem Zpq {f:Zc->M D}:∀ρ s d s',Zg (ZL f) Zp ρ s=some (.rt d,s')->f ρ s=some (d,s'):=fun ρ s d s' e=>by
 obtain⟨o,s1,a1,a2⟩:=Zs e;obtain⟨d1,s2,b1,b2⟩:=Zs a1;obtain⟨rfl,rfl⟩:=ZC b2;obtain⟨e1,rfl⟩:=ZC a2
 cases e1
 exact b1
theorem ZmC {ds l:List D}{s s':Pn}(e:Zbv ds s=some (.tup l,s')):Jw ds s=some (.tup l,s'):=by
 obtain⟨hl,a0⟩:=YQ e;obtain⟨o,s1,a1,a2⟩:=Zs a0;unfold Jw runZ;rw[if_pos hl]
 cases o with
 | rt d=>
  obtain⟨rfl,rfl⟩:=ZC a2;exact BW (BW (BW (BW (BW Zpq)))) _ _ _ _ a1
 | nx ρ=>obtain⟨h,_⟩:=ZC a2;cases h
 | bk ρ=>cases a2
 | ct ρ=>cases a2
theorem Zkx {n:Nat}{a b:Qa}(h:a.Perm b)(t:D):hueB n a t=hueB n b t:=by
 cases t with
 | tup ds=>show(_&&(_&&a.all _))=(_&&(_&&b.all _));rw[h.all_eq]
 | _=>rfl
theorem ZnM (m:Nat)(s:Pn):Zay [nD m,nD m] s=some (.bl true,s):=by
 refine Xy rfl (XR (Jd (Z9 (ZA rfl rfl rfl)) rfl) (XR (Jd (Z9 (Z4 (Zh rfl (Zh rfl rfl)) rfl)) rfl) (YY (J0 (Z9 (Z4 (Zh rfl (Zh rfl rfl)) rfl)) (YY (XH ?_))))));refine ZhA (Z4 (Zh rfl (Zh rfl rfl)) rfl) (ZhA (Ziu (a:=false) (Z4 (Zh rfl (Zh rfl rfl)) rfl)) (ZA rfl rfl ?_));rw[eqi];simp
theorem ZmD {C:List Nat}{j:Nat}{d:D}(h:(Jg (C.map nD))[j]?=some d):∃c,C[j]?=some c/\d=.tup [nD j,nD c]:=by
 unfold Jg at h;rw[qb9,qG]at h
 cases e:C[j]? with
 | none=>rw[e]at h;cases h
 | some c=>
  rw[e]at h;obtain rfl:=zG h;exact⟨c,rfl,rfl⟩
theorem Zg4 {n m:Nat}{r:Nat->Nat->Bool}(hn:n<=10){C w:List Nat}(up:C.Pairwise λa b=>r a b=true)(lt:∀x∈C,x<n)(hCl:C.length=m)(hC10:C.length<=10)(tl:Zad [.lst (YT n r n)] s=some (nD m,s))(hw:Bj [Yd n (Vk n r n),Yr w] s=some (.bl true,s))(hu:XX (YL w)=m)(hwl:w.length<=1000) :
  UQ [nD n,.lst (YT n r n),.tup [nD m,.lst (C.map nD),Yr w]] s=some (.bl true,s):=by
 have main:Ok (UQ [nD n,.lst (YT n r n),.tup [nD m,.lst (C.map nD),Yr w]]) s λd s'=>s=s'/\d=.bl true:=by
  refine Ok.runB rfl ?_;refine Ok.seq (.sif (.eq (a:=false) (UG (Vo (b:=true) (Z9 (Z4 (Zh rfl (Zh rfl rfl)) rfl))) (UG (Z9 (ZA (d:=nD 3) (e:=nD 3) (Z4 (Zh rfl rfl) rfl) rfl (by rw[BU];rfl))) (Vo (b:=true) (Z9 (YK (Zh (ZA (e:=.int 0) rfl rfl (B4 _ _)) (Zh (YK (Zh rfl rfl) tl) rfl)) (ZnM m s)))))) (.next ?_)));refine Ok.seq (.sunp (.eq rfl ⟨_,rfl,?_⟩));refine Ok.seq (.sif (.eq (a:=false) (UG (Vo (b:=true) (Z9 (Z4 (Zh rfl (Zh rfl rfl)) rfl))) (Z9 (ZA (d:=nD C.length) (e:=nD m) (Z4 (Zh rfl rfl) (show some (D.int _)=some (D.int _) by rw[qh])) rfl (by rw[BU,hCl];simp)))) (.next ?_)));refine Ok.seq (.sfor (λk ρ s'=>s=s'/\∃o6 o7,ρ=[some (nD n),some (.lst (YT n r n)),some (.tup [nD m,.lst (C.map nD),Yr w]),some (nD m),some (.lst (C.map nD)),some (Yr w),o6,o7,none]) (.eq (a:=Jg (C.map nD)) rfl ⟨⟨rfl,none,none,rfl⟩,λk d ρ s' hd hI=>?_,fun ρ' s' hI=>?_⟩))
  ·obtain⟨rfl,o6,o7,rfl⟩:=hI
   obtain⟨c,hc,rfl⟩:=ZmD hd;have hcn:=lt c (zR hc);have hkl:=(qz.mp hc).1;refine⟨_,rfl,?_⟩;have hch:Uh (dC (.int 0)) (VT Vg (Za 7) (VS WC (Za 0))) [some (nD n),some (.lst (YT n r n)),some (.tup [nD m,.lst (C.map nD),Yr w]),some (nD m),some (.lst (C.map nD)),some (Yr w),some (nD k),some (nD c),none] s=some (true,s):=by
    have:=Zeu (fa:=dC (.int 0)) (f:=VT Vg (Za 7) (VS WC (Za 0))) (ρ:=[some (nD n),some (.lst (YT n r n)),some (.tup [nD m,.lst (C.map nD),Yr w]),some (nD m),some (.lst (C.map nD)),some (Yr w),some (nD k),some (nD c),none]) (s:=s) rfl (Zgc (e:=nD c) (k:=true) (b:=true) rfl (show some (D.bl (decide ((0:Int)<=(c:Int))))=_ by rw[decide_eq_true (by omega)]) λ_=>Zgb (e:=nD n) rfl (show some (D.bl (decide ((c:Int)<(n:Int))))=_ by rw[decide_eq_true (by omega)]));exact this
   refine Ok.seq (.sif (.eq (a:=false) (UG (Vo (b:=true) (Z9 (Z4 (Zh rfl (Zh rfl rfl)) rfl))) (UG (Z9 (Z4 (Zh rfl (Zh rfl rfl)) rfl)) (Vo hch))) (.next ?_)));by_cases h0:0<k
   ·obtain⟨b,hb⟩:∃b,C[k-1]?=some b:=⟨C[k-1]'(by omega),qB (by omega)⟩
    have hbc:r b c=true:=by
     have h1:=(qz.mp hb).2;have h2:=(qz.mp hc).2;have:=zW.mp up (k-1) k (by omega) hkl (by omega)
     rwa[h1,h2]at this
    have hbn:=lt b (zR hb);refine Ok.seq (.sif (.eq (a:=false) ?_ (.next (.next ⟨_,rfl,rfl,_,_,rfl⟩))));refine(BK (a:=true) (b:=false) (Z9 (ZA (d:=nD k) (e:=.int 0) rfl rfl (show some (D.bl (decide ((0:Int)<(k:Int))))=_ by rw[decide_eq_true (by omega)]))) λ_=>Z9 (ZA (d:=nD b) (e:=.lst ((Yx n λq=>r q c).map nD)) (ZA (d:=.lst (C.map nD)) (e:=nD (k-1)) rfl (ZA (d:=nD k) (e:=.int 1) rfl rfl ?_) (X7 (by rw[qG,hb];rfl))) (ZA rfl rfl (Zh8 hcn (by omega))) (by rw[Za5,decide_eq_true (XI.mpr ⟨hbn,hbc⟩)];rfl)));show some (D.int ((k:Int)-1))=some (D.int ((k-1:Nat):Int));rw[Int.natCast_sub (by omega)];rfl
   ·refine Ok.seq (.sif (.eq (a:=false) ?_ (.next (.next ⟨_,rfl,rfl,_,_,rfl⟩))))
    exact BK (a:=false) (b:=false) (Z9 (ZA (d:=nD k) (e:=.int 0) rfl rfl (show some (D.bl (decide ((0:Int)<(k:Int))))=_ by rw[decide_eq_false (by omega)]))) λz=>y9 z
  ·obtain⟨rfl,o6,o7,rfl⟩:=hI
   refine Ok.seq (.sown (.eq (a:=.lst []) rfl ⟨rfl,?_⟩));refine Ok.seq (.sfor (λk ρ s'=>s=s'/\∃o7,ρ=[some (nD n),some (.lst (YT n r n)),some (.tup [nD m,.lst (C.map nD),Yr w]),some (nD m),some (.lst (C.map nD)),some (Yr w),o6,o7,some (.lst ((Vk n r k).map Zt))]) (.eq (XQ (n:=n) rfl (by omega)) ⟨⟨rfl,o7,rfl⟩,λk d ρ s' hd hJ=>?_,fun ρ' s' hJ=>?_⟩))
   ·obtain⟨rfl,o7,rfl⟩:=hJ
    obtain⟨hk,rfl⟩:=WQ hd;refine⟨_,rfl,?_⟩;have h1:=Zi4 n λo=>r o k;have h2:=ZfD n r k;have h3:k*n<=10*10:=qat (by omega) (by omega);have hc:=Xh (src:=[none,some 7]) (fi:=ZX (Zd Zj (Za 1) (Za 7))) (τ:=Zv 0) (ft:=Yc) (fe:=ZZ (Zb (Zx Jc (Zb (Za 1) (Zb (Za 0) Ze))) (Zb (Zx JY (Zb (Za 1) (Zb (Za 0) Ze))) Ze))) (ρ:=[some (nD n),some (.lst (YT n r n)),some (.tup [nD m,.lst (C.map nD),Yr w]),some (nD m),some (.lst (C.map nD)),some (Yr w),o6,some (nD k),none]) (s:=s) (ds:=(Yx n λo=>r o k).map nD) (λd=>[some d,some (nD k)]) (λ_=>true) (λd=>Zt (min k (Yg d),max k (Yg d))) (Wv (ZA rfl rfl (Zh8 hk (by omega)))) (by rw[qh,Yi];omega) (λd hd=>by
     obtain⟨x,hx,rfl⟩:=ql.mp hd;exact⟨rfl,rfl,λ_=>WN (Zh (Z4 (Zh rfl (Zh rfl rfl)) (ZpY k x)) (Zh (Z4 (Zh rfl (Zh rfl rfl)) (ZpZ k x)) rfl)) two_le⟩)
    rw[Uy,qC]at hc;refine .seq (.sext rfl (.eq hc ⟨_,rfl,by rw[qh,qh,Yi];omega,.next ⟨_,rfl,rfl,some (nD k),?_⟩⟩));rw[ZdP,zI,qC];rfl
   ·obtain⟨rfl,o7,rfl⟩:=hJ
    rw[Y2];refine Ok.seq (.sret (.eq (a:=.bl true) ?_ ⟨rfl,rfl⟩));exact Ze8 (a:=true) (b:=true) (YK (Zh (WN (Zh rfl (Zh (Z4 (Zh rfl rfl) rfl) rfl)) two_le) (Zh rfl rfl)) hw) λ_=>ZA (d:=nD m) (e:=nD m) (by rw[Zmd rfl hwl,hu]) rfl ((eqi _ _).trans (by simp))
 obtain⟨d,s',e,rfl,rfl⟩:=main;exact e
theorem Zky {n:Nat}{r:Nat->Nat->Bool}(o:OrdN n r)(hn:n<=10){C ps:List Nat}(pC:C.Perm (WH n (Z8 n r)))(sC:C.Pairwise λa b=>YO n r a<=YO n r b)(pO:ps.Perm (qj n))(hO:ps.Pairwise λa b=>YO n r a<=YO n r b)(s:Pn) :
  UQ [nD n,.lst (YT n r n),.tup [nD (om n (Z8 n r)),.lst (C.map nD),Yr (Ww n (Z8 n r) ps)]] s=some (.bl true,s):=by
 have hweb:=Zft n r;have hK:=(ZaE hweb (by omega:n<=24)).1;have hm:(WH n (Z8 n r)).length=om n (Z8 n r):=(ZeQ hweb (by omega)).symm;have R:=Zfr (jN:=Z8 n r) pO;have tp:=ZmA o;have h3:n*n<=10*10:=qat (by omega) (by omega);have htl:=ZfD n r n;refine Zg4 hn (ZgR o pC hK sC) (λx hx=>(U5 hK).1 x (pC.mem_iff.mp hx)) (by rw[pC.length_eq,hm]) (by rw[pC.length_eq];exact qY (U5 hK).2 hn) (Zmy o hn pC hK sC hm s) ?_ (Zh1 R (Znw o (by omega) pO hO) hK hm) (by rw[ZeR];omega);rw[Zds (by omega) (λp hp=>hweb.mem (tp.mem_iff.mp hp)) (by omega) rfl (λds e d hd=>?_) s,Zkx tp,R.hueB hweb]
 cases e
 obtain⟨x,_,rfl⟩:=ql.mp hd;rfl
theorem Zeb {n:Nat}{L:Qa}(hn:n<=24)(hl:L.length<=1000)(hL:∀p∈L,p.1<n/\p.2<n)(s:Pn) :
  ((∃a,a<n/\rL L n a a=true)/\W6 [nD n,.lst (L.map Zt)] s=some (.str (qw "round"),s))∨((∀a,a<n->rL L n a a=false)/\∃C ps:List Nat,W6 [nD n,.lst (L.map Zt)] s=some (.tup [nD (om n (Z8 n (rL L n))),.lst (C.map nD),Yr (Ww n (Z8 n (rL L n)) ps)],s)/\
   C.Perm (WH n (Z8 n (rL L n)))/\C.Pairwise (λa b=>YO n (rL L n) a<=YO n (rL L n) b)/\ps.Perm (qj n)/\ps.Pairwise λa b=>YO n (rL L n) a<=YO n (rL L n) b):=by
 obtain⟨b,e,hb⟩:=Zpm hn hl hL (rL L n) (λ_ _=>U6) s;have e2:Jx [nD n,.lst (L.map Zt)] s=if b=true then some ((),s)else none:=by
  refine Eq.trans ?_ e;unfold Jx RCt;rw[ZiZ (show([nD n,.lst (L.map Zt)]:List D).length=2 from rfl)];rfl
 cases b with
 | true=>
  refine .inl ⟨hb.mp rfl,?_⟩;unfold W6 BN;rw[e2];rfl
 | false=>
  have hno:∀a,a<n->rL L n a a=false:=λa ha=>by
   cases q:rL L n a a with
   | false=>rfl
   | true=>exact y9 (hb.mpr ⟨a,ha,q⟩)
  have o:=ZmB hL hno;obtain⟨C,ps,hC,c1,c2,c3,c4⟩:=Zkn hn hl hL (rL L n) (λ_ _=>U6) o.irr s;refine .inr ⟨hno,C,ps,?_,c1,c2,c3,c4⟩;unfold W6 BN;rw[e2];exact ZmC hC
theorem Zi5 {n:Nat}{r:Nat->Nat->Bool}(hn:n<=10){o2 o4 o6 o7 o8:Option D}(s:Pn):∃b,asB (Zx UJ (Zb (ZQ [none,some 5] (ZW (Za 3)) (Zv 0) Yc (Zd YF (Za 0) (Zd Zj (Za 1) (Za 0)))) Ze)) [none,some .pen,o2,some (nD n),o4,some (.lst (YT n r n)),o6,o7,o8] s=some (b,s)/\(b=true↔∃a,a<n/\r a a=true):=by
 have hc:=Xh (src:=[none,some 5]) (fi:=ZW (Za 3)) (τ:=Zv 0) (ft:=Yc) (fe:=Zd YF (Za 0) (Zd Zj (Za 1) (Za 0))) (ρ:=[none,some .pen,o2,some (nD n),o4,some (.lst (YT n r n)),o6,o7,o8]) (s:=s) (ds:=Yt 0 n) (λd=>[some d,some (.lst (YT n r n))]) (λ_=>true) (λd=>.bl (r (Yg d) (Yg d))) (XQ (n:=n) rfl (by omega)) (by rw[Y2,Yi];omega) λd hd=>by
  obtain⟨q,hq,rfl⟩:=VG hd;refine⟨rfl,rfl,λ_=>ZA (d:=nD q) rfl (ZA rfl rfl (Zh8 hq (by omega))) ?_⟩;rw[ZgJ];show some (D.bl (decide (q∈Yx n λo=>r o q)))=some (D.bl (r q q));congr 2;rw[yy,decide_eq_true_eq,XI];exact⟨λh=>h.2,λh=>⟨hq,h⟩⟩
 rw[yd.mpr λ_ _=>rfl]at hc;refine⟨_,Z9 (Z4 (Zh hc rfl) (ZeL (Yt 0 n) λd=>r (Yg d) (Yg d))),?_⟩;rw[y8];constructor
 ·rintro⟨d,hd,h⟩
  obtain⟨q,hq,rfl⟩:=VG hd;exact⟨q,hq,h⟩
 ·rintro⟨a,ha,h⟩
  exact⟨nD a,ZeT ha,h⟩
theorem Zpr {ρ:Zc}{s:Pn}{d0 d2:D}{ds:List D}{i:Nat}{Q:Out->Pn->Prop}(h:(ρ[i]?).bind id=some (.tup [d0,.lst ds,d2]))(hl:ds.length<=1000)(q:Q (.nx (ρ.set i none)) s):Ok (Ba i ρ) s Q:=by
 unfold Ba;rw[h];exact .ite (by rw[Yi];omega) (.ret q)
theorem ZmE (m:Int)(w:List Int):∃s',Zmw (none::some .pen::qm 7 none) ([m,0],w)=some (.rt (.bl true),s'):=by
 have ok0:Xw 0 ([m,0],w):=⟨m,0,rfl,by omega,by omega⟩;suffices hh:Ok (Zmw (none::some .pen::qm 7 none)) ([m,0],w) λo s'=>o=.rt (.bl true) by
  obtain⟨o,s',e,rfl⟩:=hh;exact⟨s',e⟩
 refine Ok.seq (.sfor (λi ρ s'=>Xw (i*3000) s'/\∃o2 o3 o4 o5 o6 o7 o8,ρ=[none,some .pen,o2,o3,o4,o5,o6,o7,o8]) (.eq (XQ (n:=6) rfl (by omega)) ⟨⟨ok0.mono (by omega),none,none,none,none,none,none,none,rfl⟩,λi d ρ s' hd hI=>?_,fun ρ' s' hI=>?_⟩))
 ·obtain⟨ok1,o2,o3,o4,o5,o6,o7,o8,rfl⟩:=hI
  obtain⟨hi,rfl⟩:=WQ hd;refine⟨_,rfl,?_⟩;refine Ok.seq (.sset (.drawD (m:=11) ok1 (by omega) (Zh rfl (Zh rfl rfl)) (by omega) (by omega) λn s1 hn ok2=>?_));refine Ok.seq (.sset (.fn (Zh rfl (Zh rfl (Zh rfl rfl))) ((ZgZ (n:=n) ok2 (by omega) (by omega)).mono λd s q=>?_)));obtain⟨ok3,L,rfl,hl,hL⟩:=q;refine Ok.seq (.sset (.eq (YK (Zh rfl (Zh rfl rfl)) (Znz (by omega) (by omega) hL (r:=rL L n) (λ_ _=>U6) s)) ?_));have hps:=TQ.plain_pairs L;have hne:Y9 (.lst (L.map Zt)) (.lst (L.map Zt))=some (.bl false):=ZiL hps.1 (show XM (L.map Zt)+1<=60 by omega);have hT:=Zeb (n:=n) (L:=L) (by omega) (by omega) hL s;refine Ok.seq (.sfor (λj ρ s'=>s=s'/\∃o6 o7 o8,ρ=[none,some .pen,some (nD i),some (nD n),some (.lst (L.map Zt)),some (.lst (YT n (rL L n) n)),o6,o7,o8]) (.eq (XQ (n:=2) rfl (by omega)) ⟨⟨rfl,o6,o7,o8,rfl⟩,λj d ρ s' hd hJ=>?_,fun ρ' s' hJ=>?_⟩))
  ·obtain⟨rfl,o6,o7,o8,rfl⟩:=hJ
   obtain⟨hj,rfl⟩:=WQ hd;refine⟨_,rfl,?_⟩;refine Ok.seq (.sset (.eq (Z4 (Zh rfl rfl) rfl) ?_));rcases hT with⟨hr,e⟩ | ⟨hr,C,ps,e,c1,c2,c3,c4⟩
   ·refine Ok.seq (.sset (.eq (YK (Zh rfl (Zh rfl rfl)) e) ?_))
    refine Ok.seq (.sif (.eq (a:=false) (Z9 (ZA rfl rfl hne)) (.next ?_)));obtain⟨b,eb,hb⟩:=Zi5 (n:=n) (r:=rL L n) (by omega) (o2:=some (nD i)) (o4:=some (.lst (L.map Zt))) (o6:=some (nD j)) (o7:=some (.lst (L.map Zt))) (o8:=some (.str (qw "round"))) s;obtain rfl:=hb.mpr hr;refine Ok.seq (.sif (.eq (a:=true) eb ?_));refine Ok.seq (.sif (.eq (a:=false) (Z9 (ZA rfl rfl (ZiL rfl (qaW rfl)))) (.next (.next (.next ?_)))));exact⟨_,rfl,rfl,_,_,_,rfl⟩
   ·have o:=ZmB hL hr
    have ht:=Zky o (by omega) c1 c2 c3 c4 s;have hCl:C.length<=1000:=by
     have:=(U5 (ZaE (Zft n (rL L n)) (by omega:n<=24)).1).2;rw[c1.length_eq];omega
    generalize om n (Z8 n (rL L n))=om' at *;generalize Yr (Ww n (Z8 n (rL L n)) ps)=hu at *;refine Ok.seq (.sset (.eq (YK (Zh rfl (Zh rfl rfl)) e) ?_));refine Ok.seq (.sif (.eq (a:=false) (Z9 (ZA rfl rfl hne)) (.next ?_)));obtain⟨b,eb,hb⟩:=Zi5 (n:=n) (r:=rL L n) (by omega) (o2:=some (nD i)) (o4:=some (.lst (L.map Zt))) (o6:=some (nD j)) (o7:=some (.lst (L.map Zt))) (o8:=some (.tup [nD om',.lst (C.map nD),hu])) s;have hb:b=false:=by
     cases b with
     | false=>rfl
     | true=>obtain⟨a,h1,h2⟩:=hb.mp rfl;rw[hr a h1]at h2;cases h2
    subst hb;refine Ok.seq (.sif (.eq (a:=false) eb ?_));refine Ok.seq (.sif (.eq (a:=false) (Vo (Z9 (YK (Zh rfl (Zh rfl (Zh rfl rfl))) ht))) ?_));refine Ok.seq (Zpr rfl (by rw[qh];exact hCl) ?_);refine Ok.seq (.sif (.eq (a:=false) (Z9 (ZA rfl rfl hne)) (.next (.next (.next (.next ?_))))));exact⟨_,rfl,rfl,_,_,_,rfl⟩
  ·obtain⟨rfl,o6,o7,o8,rfl⟩:=hJ
   exact .next ⟨_,rfl,ok3.mono (by omega),_,_,_,_,_,_,_,rfl⟩
 ·obtain⟨ok1,o2,o3,o4,o5,o6,o7,o8,rfl⟩:=hI
  exact Ok.seq (.sret (.eq (a:=.bl true) rfl rfl))
end K54
namespace K54
open L2 TF TQ
open TP
open TP2
open TP3
theorem Zps {P:xB}{w:World}{K:qd}{mg:Str->Option Value}{base:Heap}{j8 a_p:Addr}{jR fd_p:xA}{L:List (Addr×Str)}(lo:W4 L)(F:Fun K "law" "law" s_law j8 jR)(T:Txt mg)(FP:FnOk P w K mg base ZN 1 a_p fd_p ["script"] (Zn2 K))(hmp:mg "_law_tpen" = some (.ref a_p))(hkp:zt K (.ref a_p)=true)(hbp:XJ K fd_p ["script"] [])(jP:ZT P w K mg base 1 "_law_tdraw" 2 true (WL We L) Yy)(kd:ZT P w K mg base 1 "_law_tlower" 2 true Z0 Zaj)(ke:ZT P w K mg base 3 "_law_tpairs" 3 true (WL We L) Zai)(kf:ZT P w K mg base 2 "_law_tright" 3 false Z0 UQ)(kg:Zfw P w K mg base 57 "_law_tround" "chains_told" (Y8 L) W6) :
  FnOk P w K mg base ZN 58 j8 jR ["script"] (ZhG K L):=by
 have nd:=Zh7.nd;refine F.ok Zh7 (λvs H Q E h=>?_) λcdv A outer s0 H vs Q E hr h=>?_
 ·obtain⟨a,ns,rfl,_⟩:=h
  rfl
 ·obtain⟨a,ns,rfl,sq,hl,hTb,hQ⟩:=h
  refine⟨_,Xg (WE (i:=1) nd rfl (qK rfl) (BE (FP.mono (by decide)) hr rfl hmp hkp hbp .nil B0 (ZU (pv 0) Yn))) (Zlk (GG:=(WL We L)) λG hG=>ZnJ lo T hr jP kd ke kf kg G hG),?_⟩;refine⟨.ref a,rfl,a,ns,rfl,sq,hl,λp wa m H' st kp hp hw=>?_⟩;obtain⟨s',hs'⟩:=ZmE m (Vp ns);exact ZjW (n:=7) st hTb kp hp hw hQ hs'
def Zoi:List DRow:=[dR "pairs_of" 7 273 13 1 76 280 true "tiefold.things" 271,
 dR "near" 9 285 20 2 83 288 false "tiefold.webs" 283,
 dR "all_near" 10 291 22 1 88 294 false "tiefold.webs" 283,
 dR "are_tied" 11 297 25 3 93 303 true "tiefold.webs" 283,
 dR "marked_ties" 12 306 27 1 100 309 false "tiefold.webs" 283,
 dR "turned" 13 312 29 1 105 317 true "tiefold.webs" 283,
 dR "web_where" 14 320 32 2 112 323 false "tiefold.webs" 283,
 dR "most" 16 328 36 1 117 333 true "tiefold.most" 326,
 dR "heaviest_knot" 17 336 39 2 124 339 false "tiefold.most" 326,
 dR "heaviest_among" 18 342 42 3 129 345 false "tiefold.most" 326,
 dR "apart_among" 19 348 54 3 134 351 false "tiefold.most" 326,
 dR "heaviest_with" 20 354 56 4 139 357 false "tiefold.most" 326,
 dR "weighed" 21 360 59 2 144 363 false "tiefold.most" 326,
 dR "hued_along" 23 368 62 2 149 371 false "tiefold.hues" 366,
 dR "least_free" 24 374 68 1 154 377 false "tiefold.hues" 366,
 dR "chains_told" 26 382 71 2 159 385 false "tiefold.chains" 380,
 dR "count_below" 27 388 78 3 164 391 false "tiefold.chains" 380,
 dR "web_of_below" 28 394 80 2 169 400 true "tiefold.chains" 380,
 dR "all_below" 29 403 82 2 176 406 false "tiefold.chains" 380,
 dR "_law_tpen" 31 411 93 1 181 414 false "law_tiefold_k54_chains_told" 409,
 dR "_law_tdraw" 32 417 98 2 186 425 true "law_tiefold_k54_chains_told" 409,
 dR "_law_tsame" 33 428 109 2 193 431 false "law_tiefold_k54_chains_told" 409,
 dR "_law_tis_hueing" 34 434 121 2 198 437 false "law_tiefold_k54_chains_told" 409,
 dR "_law_torder" 35 440 128 2 203 443 false "law_tiefold_k54_chains_told" 409,
 dR "_law_tpairs" 36 446 131 3 208 458 true "law_tiefold_k54_chains_told" 409,
 dR "_law_tlower" 37 461 144 2 215 464 false "law_tiefold_k54_chains_told" 409,
 dR "_law_tround" 38 467 154 3 220 476 true "law_tiefold_k54_chains_told" 409,
 dR "_law_tlongest" 39 479 162 1 227 482 false "law_tiefold_k54_chains_told" 409,
 dR "_law_tright" 40 485 168 3 232 488 false "law_tiefold_k54_chains_told" 409,
 dR "law" 41 491 183 1 237 494 false "law_tiefold_k54_chains_told" 409]
def KN23:List (Str×Nat×Value):=[("__module__",196,.str "tiefold.errors" 187),("__firstlineno__",200,.int 2 199),("__static_attributes__",201,.ref 22),("__weakref__",203,.ref 25),("__doc__",204,.none)]
def KN36:List (Str×Nat×Value):=[("__module__",214,.str "tiefold.errors" 187),("__firstlineno__",218,.int 4 217),("__static_attributes__",219,.ref 35),("__doc__",220,.none)]
def KN48:List (Str×Nat×Value):=[("__module__",230,.str "tiefold.errors" 187),("__firstlineno__",234,.int 6 233),("__static_attributes__",235,.ref 47),("__doc__",236,.none)]
def KN60:List (Str×Nat×Value):=[("__module__",246,.str "tiefold.errors" 187),("__firstlineno__",250,.int 8 249),("__static_attributes__",251,.ref 59),("__doc__",252,.none)]
def KN72:List (Str×Nat×Value):=[("__module__",262,.str "tiefold.errors" 187),("__firstlineno__",266,.int 10 265),("__static_attributes__",267,.ref 71),("__doc__",268,.none)]
def KF (P:Params):qd:=ZpT Yb 181 ([dE P "__name__" 165 (.str "law_tiefold_k54_chains_told" 409)] ++ [dE P "__doc__" 166 (.none)] ++ [dE P "__package__" 167 (.none)] ++ [dE P "__loader__" 168 (.builtin "__main__.__loader__#opaque")] ++ [dE P "__spec__" 169 (.none)]++dRs P [nE "__annotations__" 170 6,nE "__builtins__" 171 4] ++ [dE P "__file__" 173 (.str "/claim/cut.py" 172)] ++ [dE P "__cached__" 174 (.none)]++dRs P [nE "TieError" 206 24,nE "NoPlace" 222 37,nE "Tied" 238 49,nE "Loose" 254 61,nE "Round" 270 73,nE "pairs_of" 282 82,nE "near" 290 87,nE "all_near" 296 92,nE "are_tied" 305 99,nE "marked_ties" 311 104,nE "turned" 319 111,nE "web_where" 325 116,nE "most" 335 123,nE "heaviest_knot" 341 128,nE "heaviest_among" 347 133,nE "apart_among" 353 138,nE "heaviest_with" 359 143,nE "weighed" 365 148,nE "hued_along" 373 153,nE "least_free" 379 158,nE "chains_told" 387 163,nE "count_below" 393 168,nE "web_of_below" 402 175,nE "all_below" 408 180,nE "_law_tpen" 416 185,nE "_law_tdraw" 427 192,nE "_law_tsame" 433 197,nE "_law_tis_hueing" 439 202,nE "_law_torder" 445 207,nE "_law_tpairs" 460 214,nE "_law_tlower" 466 219,nE "_law_tround" 478 226,nE "_law_tlongest" 484 231,nE "_law_tright" 490 236,nE "law" 496 241]) 44 Zoi ++ [(23,UO P KN23 3),(24,Jr "TieError" 24 23 [.type "ValueError"] [.type "ValueError",.type "Exception",.type "BaseException",.type "object"] [.ref 37,.ref 49,.ref 61,.ref 73] 15 189 197),(36,UO P KN36 2),(37,Jr "NoPlace" 37 36 [.ref 24] [.ref 24,.type "ValueError",.type "Exception",.type "BaseException",.type "object"] [] 28 207 215),(48,UO P KN48 2),(49,Jr "Tied" 49 48 [.ref 24] [.ref 24,.type "ValueError",.type "Exception",.type "BaseException",.type "object"] [] 40 223 231),(60,UO P KN60 2),(61,Jr "Loose" 61 60 [.ref 24] [.ref 24,.type "ValueError",.type "Exception",.type "BaseException",.type "object"] [] 52 239 247),(72,UO P KN72 2),(73,Jr "Round" 73 72 [.ref 24] [.ref 24,.type "ValueError",.type "Exception",.type "BaseException",.type "object"] [] 64 255 263)]
def asF:List Addr:=[3,81,82,86,87,91,92,98,99,103,104,110,111,115,116,122,123,127,128,132,133,137,138,142,143,147,148,152,153,157,158,162,163,167,168,174,175,179,180,184,185,191,192,196,197,201,202,206,207,213,214,218,219,225,226,230,231,235,236,240,241,23,24,36,37,48,49,60,61,72,73]
theorem eF:∀P,asF=(KF P).map (·.1):=λ_=>by kernel_rfl
theorem okF (P:Params):Zfv (KF P) Yb Zoi:=by
 repeat refine⟨⟨by kernel_rfl,by kernel_rfl,by kernel_rfl⟩,?_⟩
 exact trivial
abbrev LF:List (Addr×Str):=[(106,(qw "turned.<locals>.<lambda>")),(170,(qw "web_of_below.<locals>.<lambda>")),(160,(qw "chains_told.<locals>.<lambda>"))]
theorem Zpt {P:xB}{w:World}{h:Heap}{mg:Str->Option Value}{fa:Addr}(X:(KF w.params).In h)(G:h.Ns mainGlobals mg)(hfa:mg "law" = some (.ref fa)) :
  ∃fd:xA,(∀(s:Shared) (v:Value),BindsTo s fd ⟨[v],[]⟩ [("script",v)])/\∀base:Heap,(KF w.params).In base->base.Ns mainGlobals mg->zE base 110 106->zE base 174 170->zE base 162 160->Uv mg base->FnOk P w (KF w.params) mg base ZN 58 fa fd ["script"] (ZhG (KF w.params) LF):=by
 have lo:W4 LF:=TF.lok_nd (by decide);have zn:∀x,qbB (KF w.params) mainGlobals x=some none->mg x=none:=λ_ z=>PySem.W.mg_none_of X G z;have T:Txt mg:=⟨zn _ (by kernel_rfl),zn _ (by kernel_rfl),zn _ (by kernel_rfl),zn _ (by kernel_rfl),zn _ (by kernel_rfl),zn _ (by kernel_rfl),zn _ (by kernel_rfl),zn _ (by kernel_rfl),zn _ (by kernel_rfl),zn _ (by kernel_rfl),zn _ (by kernel_rfl),zn _ (by kernel_rfl),zn _ (by kernel_rfl),zn _ (by kernel_rfl),zn _ (by kernel_rfl)⟩;have mk:=@mkc P w (KF w.params) mg;have at_:=λj {r} e=>@Zpj _ h mg _ _ (okF w.params) X G j r e;obtain⟨f1,_,F1,m1,_⟩:=at_ 20 rfl;obtain⟨f2,_,F2,m2,_⟩:=at_ 25 rfl;obtain⟨f3,_,F3,m3,_⟩:=at_ 23 rfl;obtain⟨f4,_,F4,m4,_⟩:=at_ 24 rfl;obtain⟨f5,_,F5,m5,_⟩:=at_ 22 rfl;obtain⟨f6,_,F6,m6,_⟩:=at_ 27 rfl;obtain⟨f7,_,F7,m7,_⟩:=at_ 21 rfl;obtain⟨f8,_,F8,m8,_⟩:=at_ 28 rfl;obtain⟨f9,_,F9,m9,_⟩:=at_ 18 rfl;obtain⟨f10,_,F10,m10,_⟩:=at_ 16 rfl;obtain⟨f11,_,F11,m11,_⟩:=at_ 4 rfl;obtain⟨f12,_,F12,m12,_⟩:=at_ 3 rfl;obtain⟨f13,_,F13,m13,_⟩:=at_ 1 rfl;obtain⟨f14,_,F14,m14,_⟩:=at_ 2 rfl;obtain⟨f15,_,F15,m15,_⟩:=at_ 14 rfl;obtain⟨f16,_,F16,m16,_⟩:=at_ 13 rfl;obtain⟨f17,_,F17,m17,_⟩:=at_ 10 rfl;obtain⟨f18,_,F18,m18,_⟩:=at_ 12 rfl;obtain⟨f19,_,F19,m19,_⟩:=at_ 11 rfl;obtain⟨f20,_,F20,m20,_⟩:=at_ 9 rfl;obtain⟨f21,_,F21,m21,_⟩:=at_ 0 rfl;obtain⟨f22,_,F22,m22,_⟩:=at_ 6 rfl;obtain⟨f23,_,F23,m23,e23⟩:=at_ 5 rfl;obtain⟨f24,_,F24,m24,_⟩:=at_ 8 rfl;obtain⟨f25,_,F25,m25,_⟩:=at_ 7 rfl;obtain⟨f26,_,F26,m26,e26⟩:=at_ 17 rfl;obtain⟨f27,_,F27,m27,e27⟩:=at_ 15 rfl;obtain⟨f28,_,F28,m28,_⟩:=at_ 26 rfl;obtain⟨f29,_,F29,m29,_⟩:=at_ 19 rfl;obtain⟨f30,_,F30,m30,_⟩:=at_ 29 rfl
 cases hfa.symm.trans m30
 have kx:=λb=>mk b F12 m12 (Zg2 F12 T );have kJ:=λb=>mk b F21 m21 (Zg1 F21 T );have kN:Jm P w (KF w.params) mg 5 "web_where" 2 false (Jl P w (KF w.params) mg 4 2 Tl) Ux:=⟨f22,_,_,λb=>Zfz F22 T (kJ b),m22,F22.kp,Bi ["row","tied"] F22⟩;obtain⟨oc,od,kV,doc,pm,an,cdv,ct,osl,rfl,lk,hcd⟩:=F30.ex;refine⟨yk "law" "law" (Va s_law) (Wt s_law) (Zw s_law) .none kV doc pm an cdv ct,λs v=>.of_eq rfl,λbase _ _ hC23 hC26 hC27 hBm=>?_⟩;have kG:=mk base F1 m1 (Zea F1 T );have jP:ZT P w (KF w.params) mg base 1 "_law_tdraw" 2 true (WL We LF) Yy:=Zgg kG Zls;have kd:=mk base F2 m2 (ZdC F2 T );have kM:=mk base F3 m3 (ZdN F3 T kG);have kA:ZT P w (KF w.params) mg base 2 "_law_torder" 2 true (WL We LF) VM:=Zgg kM ZjX;have ke:=mk base F4 m4 (ZdB F4 T lo jP kA);have km:=mk base F5 m5 (ZbI F5 T );have kr:=mk base F6 m6 (Zcl F6 T );have kF:=mk base F7 m7 (Zd8 F7 T );have kf:=mk base F8 m8 (ZdJ F8 T km kr kF);have kj:=mk base F9 m9 (Zfy F9 T );have ka:=mk base F10 m10 (ZdE F10 T );have j9:=mk base F11 m11 (ZdF F11 T );have kH:=kx base;have kO:=mk base F13 m13 (ZnH F13 T kH);have ko:=mk base F14 m14 (Zg3 F14 T j9 kO);have kE:=mk base F15 m15 (Zd5 F15 T );have kc:=mk base F16 m16 (Zd6 F16 T ko kE);have kB:=mk base F17 m17 (ZdG F17 T );have kD:=mk base F18 m18 (Zh6 F18 T );have rr:∀j:Nat,ZT P w (KF w.params) mg base (1+2*j) "heaviest_among" 3 false Z0 (Bk j):=by
  intro j
  induction j with
  | zero=>exact ZT.none m20 F20.kp (Bi ["aparts","weights","places"] F20)
  | succ j ih=>
   have kh:=mk base F19 m19 (Zcj F19 T (by omega) ih);have z:ZT P w (KF w.params) mg base (1+2*j+2) "heaviest_among" 3 false Z0 (Bk (j+1)):=mk base F20 m20 (Zb3 F20 T (by omega) kB ih kh kD);exact z.mono (h:=by omega)
 have jU:=(rr 26).mono (k:=53);have kK:=kJ base;have ki:=kN;have kL:=mk base F23 m23 (Zkw F23 T lo j9 ki kx (tP:=106) e23 hC23 hBm (by simp));have kq:=mk base F24 m24 (Zck F24 T lo ko jU kL);have kI:=mk base F25 m25 (ZnI F25 T lo kq);have jZ:=mk base F26 m26 (ZcB F26 T lo ki (tP:=170) e26 hC26 hBm (by simp));have kP:=mk base F27 m27 (ZdI F27 T lo kj ka kc kI jZ (tP:=160) e27 hC27 hBm (by simp));have hx:ExcT (KF w.params) mg 24 37 49 61 73:=⟨qad X G (by kernel_rfl),qad X G (by kernel_rfl),qad X G (by kernel_rfl),qad X G (by kernel_rfl),qad X G (by kernel_rfl),zn _ (by kernel_rfl),zn _ (by kernel_rfl),zn _ (by kernel_rfl),⟨by kernel_rfl,by kernel_rfl,by kernel_rfl,by kernel_rfl,by kernel_rfl,by kernel_rfl,by kernel_rfl,by kernel_rfl⟩,by kernel_rfl,by kernel_rfl,by kernel_rfl,by kernel_rfl⟩;have hk:ExcK (KF w.params) 73 (.ref 24::J5):=ZnE (P:=w.params) (C:=73) (N:=72) (nm:="Round") (bs:=[.ref 24]) (sub:=[]) (a:=64) (t1:=255) (t2:=263) (n:=2) (l:=KN72) (T:=24) (NT:=23) (nt:="TieError") (bs':=[.type "ValueError"]) (sub':=[.ref 37,.ref 49,.ref 61,.ref 73]) (a':=15) (t1':=189) (t2':=197) (n':=3) (l':=KN23) (by kernel_rfl) (by kernel_rfl) (by kernel_rfl) (by kernel_rfl) (by kernel_rfl) (by kernel_rfl) (by kernel_rfl);have cr_all_below:CalR P w (KF w.params) mg base 1 "all_below" 2 Z0 RAb 73:=⟨_,_,_,ZfB F9 T hk hx.r,m9,F9.kp,Bi ["n","pairs"] F9⟩;have kg:Zfw P w (KF w.params) mg base 57 "_law_tround" "chains_told" (Y8 LF) W6:=⟨f28,_,_,f27,ZdM F28 hx ⟨_,_,ZcD F27 T lo kj ka kc kI jZ (tP:=160) e27 hC27 hBm (by simp),ZdL F27 cr_all_below,F27.lk,Bi ["n","pairs"] F27⟩,m28,F28.kp,Bi ["act","n","pairs"] F28,m27⟩;exact Zps lo F30 T (ZfC F29 T) m29 F29.kp (Bi ["script"] F29) jP kd ke kf kg
def tb:List (Str×Addr×Addr):=[("turned",110,106),("web_of_below",174,170),("chains_told",162,160)]
theorem Zpu:∀P q,(P,q)∈LF->∃x c,(x,c,P)∈tb:=by
 intro P q h;simp only[qu,Prod.mk.injEq,zi,or_false]at h;rcases h with⟨rfl,_⟩ | ⟨rfl,_⟩ | ⟨rfl,_⟩
 ·exact⟨"turned",110,by simp[tb]⟩
 ·exact⟨"web_of_below",174,by simp[tb]⟩
 ·exact⟨"chains_told",162,by simp[tb]⟩
def qF:xB:=PySem.W.view PySem.Challenge.pw_tiefold_k54_chains_told [1,2,3,4,5,7,9,10,11,12,13,14,16,17,18,19,20,21,23,24,26,27,28,29,31,32,33,34,35,36,37,38,39,40,41]
theorem walk {loose:List Str}{XP:(Str->Option Value)->Heap->Prop}{YP:World->Heap->Prop}(hY:∀(w:World) (h:Heap),YP w h->(KF w.params).In h) :
  qca qF loose XP YP PySem.Challenge.rw_tiefold_k54_chains_told.row.toRowW (Zh4 s_law) [] (λf vs=>qb6 f vs):=
 Zlu (K:=KF) (tb:=tb) (n:=63) (k:=58) (x:="script") (CX:=λ_=>ZN) (sp:=λw=>ZhG (KF w.params) LF) rfl (by decide) rfl ⟨rfl,by decide,by decide,rfl⟩ hY
  (yo.mpr ⟨zy.mp (by kernel_rfl),yo.mpr ⟨zy.mp (by kernel_rfl),yo.mpr ⟨zy.mp (by kernel_rfl),(λ_ h=>nomatch h)⟩⟩⟩)
  (λw=>yo.mpr ⟨by kernel_rfl,yo.mpr ⟨by kernel_rfl,yo.mpr ⟨by kernel_rfl,(λ_ h=>nomatch h)⟩⟩⟩) (λw=>by kernel_rfl)
  (λw mg fa h h1 h2 h3=>let ⟨fd,hb,hF⟩:=Zpt h1 h2 h3;⟨fd,hb,λbase g1 g2 g3 g4=>hF base g1 g2 (g3 ("turned",110,106) (by simp[tb])) (g3 ("web_of_below",174,170) (by simp[tb])) (g3 ("chains_told",162,160) (by simp[tb])) g4⟩)
  (λ_ _ a ns hl hS hTb=>⟨a,ns,rfl,hS,hl,ZhH (tb:=tb) Zpu hTb,λ_=>rfl⟩) λ_ _ _ _ _ z=>z
theorem left:PySem.W.LeftO PySem.Challenge.rw_tiefold_k54_chains_told.prog qF [] (λs=>PySem.W.xlAt qF [] s&&PySem.W.recOk PySem.Challenge.rw_tiefold_k54_chains_told.row.records s) (yN KF asF eF).obs (yN KF asF eF).val 3988:=λw=>by kernel_rfl
theorem said:PySem.Challenge.rw_tiefold_k54_chains_told.wellSaid=true:=by kernel_rfl
end K54
open PySem.W
set_option maxRecDepth 100000 in
set_option maxHeartbeats 0 in
theorem PySem.Challenge.cw_tiefold_k54_chains_told_holds : PySem.Challenge.rw_tiefold_k54_chains_told.Holds := by
 refine TF.head_of (q:=K54.qF) (K:=K54.KF) (st:=K54.s_law) K54.said K54.left (by kernel_rfl) (by kernel_rfl) (by kernel_rfl) (by decide +kernel) ⟨rfl,rfl,rfl,rfl,rfl,by decide +kernel⟩ ?hw rfl (K54.walk λw h Y=>kIn_of Y)
 case hw=>w_witness2
