import PyProof.Rows.All
import Wide.All
import OpenK.AllK
import Wide.FinOn
import Lean
import PyProof.EqAt
import PyProof.EqKinds
import PyProof.TupleCall
import KE.KLam
import PyProof.ZipIter
import PyProof.WalksEnum
import PyProof.WalkInts
import PyProof.SeqI3
import PyProof.Rows.SeqMore
import PyProof.Rows.SortWalk
import PyProof.Draws
import PyProof.EnumMake
import PyProof.DictIter
import KE.KSortTup
import PyProof.Rows.SeqMore2
import PyProof.Rows.RuleIs
import PyProof.Rows.SetFrom
import PyProof.WalksMore
import PyProof.MinMaxWalk
import OpenK.KMore
import PyProof.Rows.SortRuns
import PyProof.Rows.SortRunsK
import KE.KMinKey
import KE.KListMore
import KE.KDictSum
import PySem.Challenge.RW_tiefold_k55_whole_orders_turned
-- CHANGE: your row's module here,as the last of these rows
open List renaming length_map->qd,getD_eq_getElem?_getD->qf,getElem?_eq_getElem->qj,range->qk,mem_cons->qm,mem_append_right->qp,getElem?_map->qt,mem_map->qu,replicate->qw,size_toArray->qy,mem_filter->qA,mem_range->qB,map_map->qE,length_range->qG,length_append->qJ,mem_singleton->qK,getElem?_eq_some_iff->qM,length_cons->qN,mem_cons_of_mem->qO,mem_append->qP,getElem?_set_ne->qT,toArray->qW,mem_append_left->qY,length_filter_le->qZ,pairwise_iff_getElem->zf,map_cons->zh,lookup_cons->zi,all_eq_true->zj,not_mem_nil->zm,append_nil->zp,map_congr_left->zt,getElem?_set_self->zw,length_eq_zero_iff->zB,nodup_cons->zC,filter_sublist->zD,getElem_mem->zE,getElem?_append_left->zH,mem_cons_self->zI,map_append->zK,nodup_range->zM,getElem?_range->zT,length_singleton->zW,length_take->z0,mem_of_getElem?->z9,forall_mem_cons->ya,getElem?_append_right->yb,replicate_succ->ye,pairwise_cons->yj,filter_map->yp,filterMap_cons->yr,take_length->yw,getElem?_eq_none->yy,length_nil->yA,getElem?_mapIdx->yC,ext_getElem?->yD,getElem?_replicate->yE,filter_cons_of_neg->yF,filter_eq_self->yG,mem_reverse->yJ,find?_cons->yM,flatten_cons->yN,append_assoc->yO,filter_congr->yP,pairwise_append->yR,getElem?_take_of_lt->yU,take_succ_eq_append_getElem->yZ,mem_map_of_mem->y6,findSome?_cons->y9,filter_cons_of_pos->qab,range_succ_eq_map->qaf,pairwise_map->qaj,Perm->qal,any_cons->qao,getElem_of_mem->qar,drop_eq_getElem_cons->qas,getElem?_zip_eq_some->qau,mem_filterMap->qav,idxOf_lt_length_iff->qaA,take_sublist->qaJ,reverse_cons->qaM,length->qaQ,take_of_length_le->qaU,pairwise_lt_range->qaW,pairwise_reverse->qa1,of_mem_zip->qa3,map_nil->qa4,foldl->qa5,range_succ->qa7,mem_iff_getElem->qa9,toList_toArray->qba,length_reverse->qbb,nodup_nil->qbc,getD->qbh,length_mapIdx->qbj,getElem_idxOf->qbk,idxOf_lt_length_of_mem->qbn,all_cons->qbp,length_eraseIdx_of_lt->qbs,nodup_append->qbw,cons_append->qbA,all_map->qbC,map_id'->qbE,nil_append->qbR,forIn_cons->qbS,idxOf_cons->qbU,drop_of_length_le->qbZ,map_id->qb0,mem_iff_getElem?->qb6,drop_eq_nil_iff->qch,length_eraseIdx->qcj,mem_erase_of_ne->qck,lookup->qcw
open PySem.Heap renaming get?_push_of_some->qh,get?_push_size->qz,lt_size->qD,get?_update_other->zk,get?_update_self->zO,SameBut->zR,size_push->zX,get?_update_ne->yH,ExtBut->qaS
open PySem.W renaming Frag->ql,kla_fn->zr,CodeHd->zJ,kia_one->zY,envX->yi,keepIn->ym,fnOf->yz,kHook->qad,codeIn->qaC,tabObj->qaD,methodObj->qbt,nsIn->qbK,instObj->qbQ,cellsFrom_some->qbW,lookIn->qb1,hideAll_size->qcc,hideAll_none->qcd,WalkO->qcl,hideAll_get->qcm,callWith_of->qcp
open Nat renaming le_refl->qq,ne_of_lt->qH,lt_of_lt_of_le->qS,le_trans->ze,zero_le->zl,lt_succ_of_lt->zF,lt_succ_self->yg,lt_irrefl->yk,lt_trans->yX,lt_trichotomy->qai,zero_add->qak,le_succ_of_le->qaO,max_eq_right->qa0,ne_of_gt->qa2,le_succ->qbf,le_of_lt->qbz,le_add_right->qbG,min_eq_left->qbT,mul_le_mul->qb2,le_of_ble_eq_true->qcb,mul_comm->qcs,le_of_eq->qct,sub_self->qcu
open PySem.Str renaming ofString->qC,ofString->qbm
open Or renaming inl->qI,inr->yc
open Array renaming length_toList->qL,getElem?_eq_getElem->qU,getD_eq_getD_getElem?->zu,getElem?_toList->zP,getElem?_eq_none->qag,toList_append->qco
open PySem.Value renaming ref->qQ,none->qX,bool->zQ,type->yf,int->qbg,notImplemented->qcf,str->qcq,isInt->qcv
open PySem.SetTable renaming below->qR,grown->yT
open Bool renaming and_eq_true->qV,eq_iff_iff->zq,false_ne_true->zZ,false_eq_true->yh,and_eq_true_iff->yQ,true_and->qaq,or_eq_true->qat,not_eq_true'->qby,or_eq_true_iff->qcn
open PySem.F renaming called_set->za,plain_max_loop->yd,plainAttrs_list->yn,slot_int_rmul->yB,slot_tuple_mul->yK,args_tuple_add_2->qaw,slot_list_getattribute->qax,args_tuple_mul_2->qay,entry_tuple_add->qaE,entry_tuple_mul->qaH,args_int_rmul_2->qaK,plain_list_iadd->qaN,slot_tuple_add->qaR,entry_max_loop->qaV,slot_int_index->qaY,entry_int_rmul->qaZ,fills_int_mul->qa6,slot_list_insert->qbI,slot_tuple_rmul->qbM,slot_list_index->qbN,entry_type_call->qbO,typeCall_set_1->qbX,entry_set_init->qbY,entry_proto_collect->qb4,plain_proto_collect->qb5,plain_set_new->qb7,slot_set_iter->qb8,slot_list_pop->qb9,type_list_pop->qca
open Sum renaming inl->zb,inr->yI
open PySem.PassesOwn renaming never->zd
open Ne renaming symm->zg
open Option.some renaming inj->zo,injEq->qbv
open PySem.Around renaming under_plainId->zx,frames_deeper->qce
open PySem.Obj renaming mapSeq->zy,mapFields->yu
open Int renaming toNat_natCast->zG,emod_lt_of_pos->qaz,eq_ofNat_of_zero_le->qaI,emod_nonneg->qa8,toNat->qbV,le_refl->qcx
open Option renaming isSome_iff_exists->zL,map_some->zS,bind_eq_some_iff->qac,isSome_map->qbu,bind_some->qbB
open PySem renaming mem_of_lookup->zN,call->qcg
open False renaming elim->zU
open PySem.NameKind renaming free->zV,cell->qap
open PyProof.Rows renaming callWith_type1->yo
open PySem.Builtin.List renaming listExtendWith->yq,listTooLong->yW,listLengthHint->qam,listSameRef->qbH
open True renaming intro->yt
open PyProof.Rows.F renaming plain_set_update_loop->yL,entry_set_update_loop->qaB
open Iff renaming rfl->yS
open PySem.AutoSeq1 renaming sub_tuple_tuple->yV,sub_tuple_list->qaF,sub_list_tuple->qaG,sub_list_list->qaT,idx_int->qbF
open List.Pairwise renaming imp_of_mem->yY,nil->qaL
open PySem.Heap.SameBut renaming update->y8
open PySem.Builtin.Range renaming rangeSize->qaa
open ForInStep renaming yield->qae
open PySem.SetTable.below renaming go->qah
open PySem.SeqAt renaming EqAt->qan,RcNeAt->qbD,RcAt->qci
open Sum.inl renaming inj->qaP
open PySem.Paired renaming length->qaX
open PySem.Keeper renaming machine->qbd
open PySem.Builtin.Frozenset renaming updateFrom->qbe
open PySem.Code renaming quiet_builtin->qbi
open PySem.Builtin.Builtins renaming bindParams->qbl
open PySem.Calls renaming Name_function_global->qbo
open PySem.Builtin.Tuple renaming tupleTooMany->qbq
open PySem.Shared renaming TypeIs->qbr
open PySem.SetTable.probe renaming go->qbx
open Nat.succ renaming inj->qbJ
open PySem.Builtin.Dict renaming updateFrom->qbL
open Classical renaming propDecidable->qbP
open List.Perm renaming cons->qb3
open PyProof.Rows.IsTup renaming new->qcr
open PySem PySem.Spec PyProof.Rows
open PySem renaming wpAny_bind→xa,wpAny_pure→xb,wpAny_mono→xc,wpAny→xf,sizeLine→xg,starEach→xh,keywordEach→xi,bootBuiltins→xj,compareOp→xk,wpAny_newObj_type→xl,codeAny_builtin→xm,codeAny→xo,backToKw→xp,attributeBase→xq,swapsWith→xr,wpAny_seqItems→xt,wpAny_tryCatch→xu,wpAny_holding→xw,wpAny_letGo→xy,wpAny_updateSeq→xz,wpAny_newList→xA,wpAny_call→xB,model→xC,FuncData→xD,Program→xE,Around→xF
abbrev xG:=PySem.Value->PySem.Shared->Prop
set_option maxHeartbeats 8000000
abbrev Qa:=List (Nat×Nat)
abbrev Qb:=List (PySem.Addr×PySem.Obj)
set_option genSizeOfSpec false
set_option bootstrap.genMatcherCode false
set_option Elab.async false
set_option linter.all false
set_option maxRecDepth 100000
namespace L2
abbrev Zt:=Sum Int Str
def JM:Zt->Value->Bool
 | .inl k,v=>qcv k v
 | .inr x,v=>Value.isStrOf x v
def keyH (w:World):Zt->Int
 | .inl k=>hashInt k
 | .inr x=>hashStr w x
def V3:∀{k:Zt} {v:Value},JM k v=true->(∃i t,k=zb i/\v=qbg i t)∨(∃x t,k=yI x/\v=qcq x t)
 | .inl i,v,h=>by
  obtain⟨t,e⟩:=Value.isInt_shape (k:=i) (v:=v) h;exact .inl ⟨i,t,rfl,e⟩
 | .inr x,v,h=>by
  obtain⟨t,e⟩:=Value.isStrOf_shape (x:=x) (v:=v) h;exact .inr ⟨x,t,rfl,e⟩
def Zi9 (i:Int)(t:Tok):JM (.inl i) (.int i t)=true:=by simp[JM,qcv]
def Zja (x:Str)(t:Tok):JM (.inr x) (.str x t)=true:=by simp[JM,Value.isStrOf]
def Zox (a b:Int):decide ((zb a:Zt)=zb b)=(a==b):=by
 by_cases e:a=b
 ·subst e;simp
 ·have h:¬(zb a:Zt)=zb b:=λq=>e (qaP q)
  rw[decide_eq_false h];exact(beq_eq_false_iff_ne.mpr e).symm
def Zoy (a b:Str):decide ((yI a:Zt)=yI b)=decide (a=b):=by
 by_cases e:a=b
 ·subst e;simp
 ·have h:¬(yI a:Zt)=yI b:=λq=>e (yI.inj q)
  rw[decide_eq_false h,decide_eq_false e]
def Zoz (a:Int)(b:Str):decide ((zb a:Zt)=yI b)=false:=decide_eq_false (λq=>nomatch q)
def ZoA (a:Str)(b:Int):decide ((yI a:Zt)=zb b)=false:=decide_eq_false (λq=>nomatch q)
def Wo (prog:xE)(w:World):PySem.KeyKind prog w Zt where
 is:=JM
 hash:=keyH w
 inj:=λv a b ha hb=>by
  rcases V3 ha with⟨i,t,rfl,rfl⟩ | ⟨x,t,rfl,rfl⟩
  ·rcases V3 hb with⟨j,u,rfl,e⟩ | ⟨y,u,rfl,e⟩
   ·injection e with e1 _;rw[e1]
   ·exact nomatch e
  ·rcases V3 hb with⟨j,u,rfl,e⟩ | ⟨y,u,rfl,e⟩
   ·exact nomatch e
   ·injection e with e1 _;rw[e1]
 byValue:=λk v h=>by
  rcases V3 h with⟨i,t,rfl,rfl⟩ | ⟨x,t,rfl,rfl⟩ <;> rfl
 pyHash:=λhv h=>by
  rcases V3 hv with⟨i,t,rfl,rfl⟩ | ⟨x,t,rfl,rfl⟩
  ·exact wpAny_pyHash_int h
  ·exact wpAny_pyHash_str h
 eqBool:=λhu hv h=>by
  rcases V3 hu with⟨i,t,rfl,rfl⟩ | ⟨x,t,rfl,rfl⟩
  ·rcases V3 hv with⟨j,u,rfl,rfl⟩ | ⟨y,u,rfl,rfl⟩
   ·rw[Zox]at h;exact wpAny_eqBool_int h
   ·rw[Zoz]at h;exact qan.int_str i t y u _ _ _ _ h
  ·rcases V3 hv with⟨j,u,rfl,rfl⟩ | ⟨y,u,rfl,rfl⟩
   ·rw[ZoA]at h;exact qan.str_int x t j u _ _ _ _ h
   ·rw[Zoy]at h;exact wpAny_eqBool_str h
 «strs»:=λk x t v h=>by
  rcases V3 h with⟨i,u,rfl,e⟩ | ⟨y,u,rfl,e⟩
  ·exact nomatch e
  ·injection e with e1 _
   subst e1
   cases v <;> rfl
def ZfQ (prog:xE)(w:World)(i:Int)(t:Tok):(Wo prog w).is (.inl i) (.int i t)=true:=Zi9 i t
def ZfR (prog:xE)(w:World)(x:Str)(t:Tok):(Wo prog w).is (.inr x) (.str x t)=true:=Zja x t
inductive V where
 | non | bl (b:Bool) | int (i:Int) | str (x:Str) | byt (b:Array UInt8) | flt (b:UInt64) | ref (a:Addr) | ty (n:String)
 deriving DecidableEq
def ZJ:V->Value->Prop
 | .non,u=>u=qX
 | .bl b,u=>u=zQ b
 | .int i,u=>∃t,u=qbg i t
 | .str x,u=>∃t,u=qcq x t
 | .byt b,u=>∃t,u=Value.bytes b t
 | .flt b,u=>∃t,u=Value.float b t
 | .ref a,u=>u=qQ a
 | .ty n,u=>u=yf n
abbrev Zz:List V->List Value->Prop:=Paired ZJ
def Zz.length {xs:List V}{us:List Value}(r:Zz xs us):xs.length=us.length:=qaX r
def Zz.get:∀{xs:List V} {us:List Value} {i:Nat} {x:V},Zz xs us->xs[i]?=some x->∃u,us[i]?=some u/\ZJ x u
 | _,_,_,_,.nil,e=>by simp at e
 | _,_,0,_,.cons r _,e=>by simp at e;subst e;exact⟨_,rfl,r⟩
 | _,_,i+1,x,.cons _ t,e=>by
  obtain⟨u,h1,h2⟩:=Zz.get (i:=i) (x:=x) t (by simpa using e);exact⟨u,by simpa using h1,h2⟩
def Zz.set {x:V}{u:Value}(r:ZJ x u):∀{xs:List V} {us:List Value} (i:Nat),Zz xs us->Zz (xs.set i x) (us.set i u)
 | _,_,_,.nil=>.nil
 | _,_,0,.cons _ t=>.cons r t
 | _,_,i+1,.cons q t=>.cons q (Zz.set r i t)
def Zz.append:∀{xs ys:List V} {us ws:List Value},Zz xs us->Zz ys ws->Zz (xs++ys) (us++ws)
 | _,_,_,_,.nil,s=>s
 | _,_,_,_,.cons r t,s=>.cons r (Zz.append t s)
def UF:Option V->Option Value->Prop
 | some v,some u=>ZJ v u
 | none,none=>True
 | _,_=>False
def KV {κ:Type}:List (κ×V)->List (κ×Value)->Prop:=Paired λ(p:κ×V) (q:κ×Value)=>p.1=q.1/\ZJ p.2 q.2
def kV:Zt->V
 | .inl i=>.int i
 | .inr x=>.str x
inductive HO where
 | lst (xs:List V)
 | tup (xs:List V)
 | dK (kvs:List (Zt×V)) | dT (kvs:List (List Zt×V))
 | set (S:Int->Bool) (n:Nat)
 | ins (C dx:Addr) (fs:List (Str×V))
 | own (x:Addr)
 | xd (fs:List (Str×V))
 | met (f x:Addr)
 | rng (lo hi:Int)
 | frz (o:Obj) (u:HO)
 | tbl (ps:Array Value)
 | ext (φ:Heap->Prop)
abbrev Hp:=Addr->Option HO
def Zi (H:Hp)(a:Addr)(o:HO):Hp:=λb=>if b=a then some o else H b
def ZI {H:Hp}{a:Addr}{o:HO}:Zi H a o a=some o:=by unfold Zi;rw[if_pos rfl]
def Zr {H:Hp}{a b:Addr}{o:HO}(h:b≠a):Zi H a o b=H b:=by unfold Zi;rw[if_neg h]
def Ze9 {H:Hp}{a:Addr}{o u:HO}:Zi (Zi H a o) a u=Zi H a u:=by
 funext b;unfold Zi;split <;> rfl
def ZnX {H:Hp}{a b:Addr}{o u:HO}(h:H a=some o)(h':H b=some u)(d:o≠u):a≠b:=by
 intro e;subst e;rw[h]at h';exact d (zo h')
def Z1 {H:Hp}{a b:Addr}{o:HO}(h:H a=some o)(h':H b=none):a≠b:=by
 intro e;subst e;rw[h]at h';cases h'
section
variable (P:xE)(w:World)
def Yz (H:Hp)(h:Heap)(a:Addr):HO->Prop
 | .lst xs=>xs.length<=xg/\∃(jL:List Value) (n:Nat),Zz xs jL/\h.get? a=some { cls:=.type "list",data:=.seq jL.toArray n }
 | .tup xs=>xs.length<=xg/\∃jL:List Value,Zz xs jL/\IsTup h a jL.toArray
 | .dK kvs=>kvs.length<=xg/\(a==sysModules)=false/\∃vs,KV kvs vs/\h.DictOf (Wo P w) a vs
 | .dT kvs=>kvs.length<=xg/\(a==sysModules)=false/\∃xs:List (List Zt×Addr×Value),
   Paired (λ(p:List Zt×V) (q:List Zt×Addr×Value)=>p.1=q.1/\H q.2.1=some (.tup (p.1.map kV))/\ZJ p.2 q.2.2) kvs xs/\
   ∃o es ep,h.get? a=some o/\o.ExactDict/\o.data=.dict es ep/\es.toList=xs.map (entryOfKey (tupleKind (Wo P w)))/\(xs.map (·.1)).Nodup
 | .set S n=>h.SetOf (intKind P w) a S n
 | .ins C dx fs=>H dx=some (.own a)/\fs.length<=1000/\dx≠a/\h.get? a=some (qbQ C dx)/\
   ∃mA,h.Ns1 dx mA/\(∀f,UF (fs.lookup f) (mA f))/\PySem.Within mA (fs.map (·.1))
 | .own _=>∃o,h.get? a=some o
 | .xd fs=>∃mA,h.Ns1 a mA/\∀f,UF (fs.lookup f) (mA f)
 | .rng lo hi=>∃t u v,h.get? a=some { cls:=.type "range",data:=.fields #[.int lo t,.int hi u,.int 1 v] }
 | .frz o u=>h.get? a=some o/\Yz H h a u
 | .tbl ps=>h.get? a=some { cls:=.none,data:=.fields ps }
 | .met f x=>h.get? a=some (qbt (.ref f) (.ref x))
 | .ext φ=>φ h/\(∃o,h.get? a=some o)/\∀h1 h2:Heap,φ h1->(∀o,h1.get? a=some o->h2.get? a=some o)->φ h2
def YA (H:Hp)(h:Heap):Prop:=∀a o,H a=some o->Yz P w H h a o
end
section
variable {P:xE}{w:World}{H H':Hp}{h h':Heap}{a:Addr}{o:HO}
def Yz.lt (x:Yz P w H h a o):a<h.objs.size:=by
 cases o with
 | lst xs=>obtain⟨_,_,_,_,e⟩:=x;exact qD e
 | tup xs=>obtain⟨_,_,_,p⟩:=x;exact p.lt
 | dK kvs=>obtain⟨_,_,_,_,o,_,_,e,_⟩:=x;exact qD e
 | dT kvs=>obtain⟨_,_,_,_,o,_,_,e,_⟩:=x;exact qD e
 | set S n=>obtain⟨o,_,_,_,e,_⟩:=x;exact qD e
 | ins C dx fs=>obtain⟨_,_,_,e,_⟩:=x;exact qD e
 | own y=>obtain⟨_,e⟩:=x;exact qD e
 | xd fs=>obtain⟨_,⟨_,_,_,e,_⟩,_⟩:=x;exact qD e
 | rng lo hi=>obtain⟨_,_,_,e⟩:=x;exact qD e
 | frz ob u=>obtain⟨e,_⟩:=x;exact qD e
 | tbl ps=>exact qD (show h.get? a=some _ from x)
 | met f y=>exact qD (show h.get? a=some _ from x)
 | ext φ=>obtain⟨_,⟨_,e⟩,_⟩:=x;exact qD e
def ju {α β:Type}{F G:α->β->Prop}:∀{l₁:List α} {l₂:List β},Paired F l₁ l₂->(∀a b,F a b->G a b)->Paired G l₁ l₂
 | _,_,.nil,_=>.nil
 | _,_,.cons r t,f=>.cons (f _ _ r) (ju t f)
def Yz.stay (x:Yz P w H h a o)(k:∀b u,(b=a∨H b=some (.own a))->h.get? b=some u->h'.get? b=some u)
  (ho:∀b,H b=some (.own a)->H' b=some (.own a)) (ht:∀b xs,H b=some (.tup xs)->H' b=some (.tup xs)):Yz P w H' h' a o:=by
 induction o with
 | lst xs=>obtain⟨z,jL,n,r,e⟩:=x;exact⟨z,jL,n,r,k _ _ (.inl rfl) e⟩
 | tup xs=>obtain⟨z,jL,r,ob,e,c⟩:=x;exact⟨z,jL,r,ob,k _ _ (.inl rfl) e,c⟩
 | dK kvs=>obtain⟨z,y,vs,r,ob,es,ep,e,c⟩:=x;exact⟨z,y,vs,r,ob,es,ep,k _ _ (.inl rfl) e,c⟩
 | dT kvs=>
  obtain⟨z,y,xs,r,ob,es,ep,e,c⟩:=x;exact⟨z,y,xs,ju r λp q z=>⟨z.1,ht _ _ z.2.1,z.2.2⟩,ob,es,ep,k _ _ (.inl rfl) e,c⟩
 | set S n=>obtain⟨ob,es,ep,t,e,c⟩:=x;exact⟨ob,es,ep,t,k _ _ (.inl rfl) e,c⟩
 | ins C dx fs=>
  obtain⟨d,z,ne,e,mA,⟨od,es,ep,e2,c⟩,r⟩:=x;exact⟨ho _ d,z,ne,k _ _ (.inl rfl) e,mA,⟨od,es,ep,k _ _ (.inr d) e2,c⟩,r⟩
 | own y=>obtain⟨ob,e⟩:=x;exact⟨ob,k _ _ (.inl rfl) e⟩
 | xd fs=>obtain⟨mA,⟨od,es,ep,e,c⟩,r⟩:=x;exact⟨mA,⟨od,es,ep,k _ _ (.inl rfl) e,c⟩,r⟩
 | rng lo hi=>obtain⟨t,u,v,e⟩:=x;exact⟨t,u,v,k _ _ (.inl rfl) e⟩
 | frz ob u ih=>obtain⟨e,q⟩:=x;exact⟨k _ _ (.inl rfl) e,ih q⟩
 | tbl ps=>
  have e:h.get? a=some { cls:=.none,data:=.fields ps }:=x;show h'.get? a=some { cls:=.none,data:=.fields ps };exact k a _ (.inl rfl) e
 | met f y=>
  have e:h.get? a=some (qbt (.ref f) (.ref y)):=x;show h'.get? a=some (qbt (.ref f) (.ref y));exact k a _ (.inl rfl) e
 | ext φ=>obtain⟨p,⟨o,e⟩,st⟩:=x;exact⟨st _ _ p λo q=>k _ _ (.inl rfl) q,⟨o,k _ _ (.inl rfl) e⟩,st⟩
def YA.lt (x:YA P w H h)(e:H a=some o):a<h.objs.size:=(x a o e).lt
def YA.fresh (x:YA P w H h)(e:h.objs.size<=a):H a=none:=by
 cases q:H a with
 | none=>rfl
 | some u=>exact absurd (qS (x.lt q) e) (yk _)
def YA.kept (x:YA P w H h)(k:∀b u,h.get? b=some u->h'.get? b=some u):YA P w H h':=λa o e=>
 (x a o e).stay (λb u _ q=>k b u q) (λ_ q=>q) λ_ _ q=>q
def YA.laid (x:YA P w H h)(k:∀b u,h.get? b=some u->h'.get? b=some u)(hp:h.objs.size<=a)(new:Yz P w (Zi H a o) h' a o):YA P w (Zi H a o) h':=λb u e=>by
 have hn:=x.fresh hp;by_cases hb:b=a
 ·subst hb;rw[ZI]at e;cases e;exact new
 ·rw[Zr hb]at e
  exact(x b u e).stay (λc v _ q=>k c v q) (λc q=>by rw[Zr (Z1 q hn)];exact q) λc xs q=>by rw[Zr (Z1 q hn)];exact q
end
def Rd (H:Hp)(a:Addr)(u:HO):Prop:=H a=some u∨∃o,H a=some (.frz o u)
def Rd.ok {P:xE}{w:World}{H:Hp}{h:Heap}{a:Addr}{u:HO}(r:Rd H a u)(x:YA P w H h):Yz P w H h a u:=by
 rcases r with r | ⟨o,r⟩
 ·exact x a u r
 ·obtain⟨_,q⟩:=x a _ r
  exact q
def B2:Option HO->Prop
 | some (.lst _)=>True
 | some (.dK _)=>True
 | some (.dT _)=>True
 | some (.set _ _)=>True
 | some (.ins _ _ _)=>True
 | some (.ext _)=>True
 | _=>False
section
variable {P:xE}{w:World}{H:Hp}{h h':Heap}{x e:Addr}{o':HO}
def YA.write (ok:YA P w H h)(mu:B2 (H x))(he:e=x∨H e=some (.own x))(k:∀b u,b≠e->h.get? b=some u->h'.get? b=some u)(heo:∃u,h'.get? e=some u)
  (new:Yz P w (Zi H x o') h' x o'):YA P w (Zi H x o') h':=λb u q=>by
 have nown:∀c y,H c=some (.own y)->c≠x:=λc y r z=>by subst z;rw[r]at mu;exact mu
 have ntup:∀c xs,H c=some (.tup xs)->c≠x:=λc xs r z=>by subst z;rw[r]at mu;exact mu
 by_cases hb:b=x
 ·subst hb;rw[ZI]at q;cases q;exact new
 ·rw[Zr hb]at q
  by_cases hbe:b=e
  ·have q':H b=some (.own x):=by
    rcases he with z | z
    ·exact absurd (hbe.trans z) hb
    ·rw[hbe];exact z
   rw[q]at q';cases q';obtain⟨v,hv⟩:=heo;exact⟨v,by rw[hbe];exact hv⟩
  ·refine(ok b u q).stay (λc v hc r=>k c v ?_ r) (λc r=>by rw[Zr (nown c b r)];exact r) λc xs r=>by rw[Zr (ntup c xs r)];exact r
   rcases hc with rfl | hc
   ·exact hbe
   ·rintro rfl
    rcases he with z | z
    ·exact nown c b hc z
    ·rw[hc]at z;cases z;exact hb rfl
end
structure Un (fs ex:List Addr)(H H':Hp)(h h':Heap):Prop where
 keep:∀b o,h.get? b=some o->H b=none->b∉fs->b∉ex->h'.get? b=some o
 slot:∀b o,h.get? b=some o->H b=none->b∈fs->b∉ex->∃sl,h'.get? b=some { o with slots:=sl }
 free:∀b o,h.get? b=some o->H b=none->b∉ex->H' b=none
 there:∀b o,h.get? b=some o->b∉ex->∃o',h'.get? b=some o'
 tups:∀b xs,H b=some (.tup xs)->H' b=some (.tup xs)
 frzs:∀b o u,H b=some (.frz o u)->H' b=some (.frz o u)
 tbls:∀b ps,H b=some (.tbl ps)->∃more,H' b=some (.tbl (ps++more))
section
variable {fs fs' ex ex':List Addr}{H H1 H2:Hp}{h h1 h2 h':Heap}{a x e:Addr}{o:HO}
def Un.any (u:Un fs ex H H1 h h1){b:Addr}{ob:Obj}(q:h.get? b=some ob)(n:H b=none)(hx:b∉ex):∃sl,h1.get? b=some { ob with slots:=sl }:=by
 by_cases hb:b∈fs
 ·exact u.slot b ob q n hb hx
 ·exact⟨ob.slots,u.keep b ob q n hb hx⟩
def Un.kept (k:∀b u,h.get? b=some u->h'.get? b=some u):Un fs ex H H h h':=
 ⟨λb ob q _ _ _=>k b ob q,λb ob q _ _ _=>⟨ob.slots,k b ob q⟩,λ_ _ _ n _=>n,λb ob q _=>⟨ob,k b ob q⟩,λ_ _ q=>q,λ_ _ _ q=>q,λ_ ps q=>⟨#[],by rw[q];simp⟩⟩
def Un.refl:Un fs ex H H h h:=Un.kept λ_ _ q=>q
def Un.laid (k:∀b u,h.get? b=some u->h'.get? b=some u)(hp:h.objs.size<=a)(hn:H a=none):Un fs ex H (Zi H a o) h h' where
 keep:=λb u q _ _ _=>k b u q
 slot:=λb u q _ _ _=>⟨u.slots,k b u q⟩
 free:=λb u q n _=>by rw[Zr (qH (qS (qD q) hp))];exact n
 there:=λb u q _=>⟨u,k b u q⟩
 tups:=λb xs q=>by rw[Zr (Z1 q hn)];exact q
 frzs:=λb u xs q=>by rw[Zr (Z1 q hn)];exact q
 tbls:=λb ps q=>⟨#[],by rw[Zr (Z1 q hn),q];simp⟩
def Un.write (mu:B2 (H x))(he:e=x∨H e=some (.own x))(k:∀b u,b≠e->h.get? b=some u->h'.get? b=some u)(heo:∃u,h'.get? e=some u):Un fs ex H (Zi H x o) h h':=by
 have hx:∀b,H b=none->b≠x:=λb n z=>by subst z;rw[n]at mu;exact mu
 have hb:∀b,H b=none->b≠e:=λb n z=>by
  subst z;rcases he with r | r
  ·exact hx b n r
  ·rw[n]at r;cases r
 have hm:∀b u,H b=some u->¬B2 (some u)->b≠x:=λb u q nm z=>by subst z;rw[q]at mu;exact nm mu
 refine⟨λb u q n _ _=>k b u (hb b n) q,λb u q n _ _=>⟨u.slots,k b u (hb b n) q⟩,λb u q n _=>by rw[Zr (hx b n)];exact n,λb u q _=>?_,
  λb xs q=>by rw[Zr (hm b _ q λz=>z)];exact q,λb u xs q=>by rw[Zr (hm b _ q λz=>z)];exact q,λb ps q=>⟨#[],by rw[Zr (hm b _ q λz=>z),q];simp⟩⟩
 by_cases hbe:b=e
 ·subst hbe;exact heo
 ·exact⟨u,k b u hbe q⟩
end
def trk (h:Heap)(H:Hp):List Addr:=(qk h.objs.size).filter λa=>(H a).isSome
def Vv (h:Heap)(H:Hp):Heap:=PySem.W.hideAll h (trk h H)
def Zjb (h:Heap)(H:Hp):(Vv h H).objs.size=h.objs.size:=qcc _ _
def ZkA {h:Heap}{H:Hp}{b:Addr}{o:Obj}(e:h.get? b=some o)(n:H b=none):(Vv h H).get? b=some o:=
 qcm _ e λhm=>by
  have q:(H b).isSome=true:=(qA.mp hm).2;rw[n]at q;simp at q
def ZmM {h:Heap}{H:Hp}{b:Addr}{o:Obj}(e:(Vv h H).get? b=some o):h.get? b=some o/\H b=none:=by
 have e':h.get? b=some o:=PySem.W.of_hideAll (trk h H) e;refine⟨e',?_⟩
 cases q:H b with
 | none=>rfl
 | some x=>
  have hm:b∈trk h H:=qA.mpr ⟨qB.mpr (qD e'),by simp[q]⟩;have z:(Vv h H).get? b=none:=qcd (trk h H) hm;rw[z]at e;cases e
structure Mod (K:ql)(mg:Str->Option Value)(base:Heap):Prop where
 kin:K.In base
 glob:base.Ns mainGlobals mg
 blt:∃mb,base.Ns builtinsNs mb/\∀x:Str,x≠"__name__"->mb x=xj x
 nolimit:base.NoLimit
structure Cx where
 prog:xE
 w:World
 K:ql
 mg:Str->Option Value
 base:Heap
 A:xF
 N:List Str
 s₀:Shared
 H₀:Hp
 env:Env
 outer:List Env
 stack:List Env
 ex:List Addr
 fn:Str->Bool
 calm:Bool
 pn:Qb
 xe:xG
def Wl (l:List Env):List Addr:=l.filterMap (·.frame)
abbrev Cx.fs (X:Cx):List Addr:=Wl X.outer
def J3 (sc:Scope)(x:Str):Prop:=sc.names.lookup x=some .local∨sc.names.lookup x=some .cell∨sc.names.lookup x=some .free
def WR (sc:Scope)(x:Str):Prop:=sc.names.lookup x=some .local∨sc.names.lookup x=some .cell
def Look (env:Env)(h:Heap)(m:Str->Option Value)(x:Str)(u:Value):Prop:=
 (env.kindOf x=some .local/\m x=some u)∨((env.kindOf x=some .cell∨env.kindOf x=some .free)/\∃c,env.cells.lookup x=some c/\h.IsCell c (some u))
structure Cx.Ok (X:Cx):Prop where
 mod:Mod X.K X.mg X.base
 kind:X.env.scope.kind=.function
 glob:X.env.globals=mainGlobals
 blt:X.env.builtins=builtinsNs
 above:X.s₀.heap.objs.size<=X.env.locals
 inj:∀x y c,X.env.cells.lookup x=some c->X.env.cells.lookup y=some c->x=y
 has:∀x,(X.env.kindOf x=some .cell∨X.env.kindOf x=some .free)->∃c,X.env.cells.lookup x=some c
 cab:∀x c,X.fn x=true->X.env.cells.lookup x=some c->X.s₀.heap.objs.size<=c
 hd:X.calm=true->X.A.handled=none
 frames:X.A.frames=some X.stack
 stk:X.stack=X.outer∨(X.stack=X.env::X.outer/\X.env.frame=some X.env.locals)
 exf:∀b∈X.ex,b≠X.env.locals/\∀x c,X.env.cells.lookup x=some c->c≠b
 bs:∀b o,X.base.get? b=some o->X.s₀.heap.get? b=some o/\X.H₀ b=none
 bsz:X.base.objs.size<=X.s₀.heap.objs.size
 noex:∀b o,X.base.get? b=some o->b∉X.ex
 exfs:∀b∈X.ex,b∉X.fs
 funs:X.s₀.heap.FunFrames X.base X.outer
 frf:∀b∈X.fs,X.H₀ b=none
structure Inv (X:Cx)(jJ:Qb)(σ:List (Option V))(H:Hp)(s:Shared):Prop where
 ok:X.Ok
 os:s.os=X.s₀.os
 bare:AllBare s.gens
 base:Un X.fs X.ex X.H₀ H X.s₀.heap s.heap
 loc:∃m,s.heap.Ns X.env.locals m/\∀(i:Nat) (x:Str) (v:V),X.N[i]?=some x->σ[i]?=some (some v)->J3 X.env.scope x->∃u,ZJ v u/\Look X.env s.heap m x u
 cell:∀x c,X.env.cells.lookup x=some c->∃v,s.heap.IsCell c v
 free:H X.env.locals=none
 freeC:∀x c,X.env.cells.lookup x=some c->H c=none
 pin:∀p∈X.pn++jJ,s.heap.get? p.1=some p.2/\H p.1=none/\p.1≠X.env.locals/\p.1∉X.fs/\∀v,p.2.data≠.cell v
 hok:YA X.prog X.w H s.heap
 len:σ.length=X.N.length
section
variable {X:Cx}{jJ:Qb}{σ:List (Option V)}{H H':Hp}{s:Shared}{h':Heap}
def Cx.Ok.nofr (ok:X.Ok){b:Addr}{o:Obj}(e:X.base.get? b=some o):b∉X.fs:=λhb=>by
 have:=(ok.funs.mem hb).1;rw[e]at this;cases this
def Inv.bs (I:Inv X jJ σ H s):∀b o,X.base.get? b=some o->s.heap.get? b=some o/\H b=none:=λb o e=>
 ⟨I.base.keep b o (I.ok.bs b o e).1 (I.ok.bs b o e).2 (I.ok.nofr e) (I.ok.noex b o e),I.base.free b o (I.ok.bs b o e).1 (I.ok.bs b o e).2 (I.ok.noex b o e)⟩
def Inv.bk (I:Inv X jJ σ H s):∀b o,X.base.get? b=some o->s.heap.get? b=some o:=λb o e=>(I.bs b o e).1
def Inv.mod (I:Inv X jJ σ H s):Mod X.K X.mg X.base:=I.ok.mod
def Inv.kIn (I:Inv X jJ σ H s):X.K.In s.heap:=I.ok.mod.kin.keeps I.bk
def Inv.lt (I:Inv X jJ σ H s):X.env.locals<s.heap.objs.size:=let ⟨_,hn,_⟩:=I.loc;hn.lt
def Inv.sz (I:Inv X jJ σ H s):X.s₀.heap.objs.size<=s.heap.objs.size:=ze I.ok.above (qbz I.lt)
def Inv.nofs (I:Inv X jJ σ H s){a:Addr}(h:s.heap.objs.size<=a):a∉X.fs:=λhb=>by
 obtain⟨_,o,ho,_⟩:=I.ok.funs.mem hb;exact absurd (qS (qD ho) (ze I.sz h)) (yk _)
def Inv.cne (I:Inv X jJ σ H s):∀x c,X.env.cells.lookup x=some c->c≠X.env.locals:=λx c e z=>by
 obtain⟨v,o,ho,hd⟩:=I.cell x c e;obtain⟨m,⟨o',es,ep,ho',hd',_⟩,_⟩:=I.loc;rw[z,ho']at ho;cases ho;rw[hd']at hd;cases hd
def Inv.funs (I:Inv X jJ σ H s):s.heap.FunFrames X.base X.outer:=by
 have all:∀(l:List Env),(∀b∈Wl l,b∈X.fs)->X.s₀.heap.FunFrames X.base l->s.heap.FunFrames X.base l:=by
  intro l
  induction l with
  | nil=>intro _ _;trivial
  | cons env r ih=>
   intro hs hl;obtain⟨hk,⟨L,o,hf,hn,ho,hd⟩,hr⟩:=hl;have hL:L∈X.fs:=hs L (by unfold Wl;rw[yr,hf];exact zI);obtain⟨sl,e⟩:=I.base.slot L o ho (I.ok.frf L hL) hL λz=>I.ok.exfs L z hL;exact⟨hk,⟨L,_,hf,hn,e,hd⟩,ih (λb hb=>hs b (by unfold Wl;rw[yr,hf];exact qO _ hb)) hr⟩
 exact all X.outer (λ_ hb=>hb) I.ok.funs
def Inv.stack (I:Inv X jJ σ H s):s.heap.FunFrames X.base X.stack:=by
 rcases I.ok.stk with e | ⟨e,hf⟩
 ·rw[e];exact I.funs
 ·rw[e]
  obtain⟨m,hn,_⟩:=I.loc;refine .cons (by rw[I.ok.kind];decide) hf hn ?_ I.funs;exact Heap.get?_none_of_le (ze I.ok.bsz I.ok.above)
def Inv.stkSub (I:Inv X jJ σ H s):∀b∈Wl X.stack,b∈X.env.locals::X.fs:=λb hb=>by
 rcases I.ok.stk with e | ⟨e,hf⟩
 ·rw[e]at hb;exact qO _ hb
 ·rw[e]at hb
  unfold Wl at hb;rw[yr,hf]at hb;exact hb
def Inv.stkFree (I:Inv X jJ σ H s):∀b∈Wl X.stack,H b=none:=λb hb=>by
 rcases qm.mp (I.stkSub b hb)with e | hb
 ·rw[e];exact I.free
 ·obtain⟨_,o,ho,_⟩:=I.ok.funs.mem hb
  exact I.base.free b o ho (I.ok.frf b hb) λz=>I.ok.exfs b z hb
def Inv.step {g':Array GenState}{t':Nat}{d':Drawn}{ch:List Addr}(I:Inv X jJ σ H s)
  (hch:∀b∈ch,(b∈X.ex∨X.s₀.heap.objs.size<=b)/\b≠X.env.locals/\(∀x c,X.env.cells.lookup x=some c->c≠b)/\∀p∈X.pn++jJ,p.1≠b)
  (keep:∀b o,b≠X.env.locals->b∉X.fs->b∉ch->s.heap.get? b=some o->H b=none->h'.get? b=some o)
  (slot:∀b o,b≠X.env.locals->b∈X.fs->b∉ch->s.heap.get? b=some o->H b=none->∃sl,h'.get? b=some { o with slots:=sl }) (free:∀b o,b∉ch->s.heap.get? b=some o->H b=none->H' b=none)
  (there:∀b o,b∉ch->s.heap.get? b=some o->∃o',h'.get? b=some o')
  (tups:∀b xs,H b=some (.tup xs)->H' b=some (.tup xs)) (frzs:∀b o u,H b=some (.frz o u)->H' b=some (.frz o u)) (tbls:∀b ps,H b=some (.tbl ps)->∃more,H' b=some (.tbl (ps++more)))
  (ns:∀m,s.heap.Ns X.env.locals m->h'.Ns X.env.locals m) (hok:YA X.prog X.w H' h') (hg:AllBare g') :
  Inv X jJ σ H' { s with heap:=h',gens:=g',drawn:=d',toks:=t' }:=by
 have neL:∀b o,X.s₀.heap.get? b=some o->b≠X.env.locals:=λb o e=>qH (qS (qD e) I.ok.above);have neC:∀b o,X.s₀.heap.get? b=some o->b∉X.ex->b∉ch:=λb o e hx hb=>by
  rcases (hch b hb).1 with z | z
  ·exact hx z
  ·exact absurd (qS (qD e) z) (yk _)
 have cellK:∀x c,X.env.cells.lookup x=some c->∀v,s.heap.IsCell c v->h'.IsCell c v:=λx c e v ⟨o,ho,hd⟩=>by
  have nch:c∉ch:=λz=>(hch c z).2.2.1 x c e rfl;by_cases hc:c∈X.fs
  ·obtain⟨sl,q⟩:=slot c o (I.cne x c e) hc nch ho (I.freeC x c e)
   exact⟨_,q,hd⟩
  ·exact⟨o,keep c o (I.cne x c e) hc nch ho (I.freeC x c e),hd⟩
 refine⟨I.ok,I.os,hg,⟨λb o e n hb hx=>?_,λb o e n hb hx=>?_,λb o e n hx=>?_,λb o e hx=>?_,λb xs e=>tups b xs (I.base.tups b xs e),λb o xs e=>frzs b o xs (I.base.frzs b o xs e),λb ps e=>?_⟩,?_,λx c e=>?_,?_,λx c e=>?_,λp hp=>?_,hok,I.len⟩
 ·exact keep b o (neL b o e) hb (neC b o e hx) (I.base.keep b o e n hb hx) (I.base.free b o e n hx)
 ·obtain⟨sl,e1⟩:=I.base.slot b o e n hb hx
  obtain⟨sl',e2⟩:=slot b _ (neL b o e) hb (neC b o e hx) e1 (I.base.free b o e n hx);exact⟨sl',e2⟩
 ·obtain⟨o',e1⟩:=I.base.there b o e hx
  exact free b o' (neC b o e hx) e1 (I.base.free b o e n hx)
 ·obtain⟨o',e1⟩:=I.base.there b o e hx
  exact there b o' (neC b o e hx) e1
 ·obtain⟨m1,e1⟩:=I.base.tbls b ps e
  obtain⟨m2,e2⟩:=tbls b _ e1;exact⟨m1++m2,by rw[e2,Array.append_assoc]⟩
 ·obtain⟨m,hn,hl⟩:=I.loc
  refine⟨m,ns m hn,λi x v e1 e2 e3=>?_⟩;obtain⟨u,r,l⟩:=hl i x v e1 e2 e3;refine⟨u,r,?_⟩;rcases l with l | ⟨k,c,e,z⟩
  ·exact .inl l
  ·exact .inr ⟨k,c,e,cellK x c e _ z⟩
 ·obtain⟨v,z⟩:=I.cell x c e
  exact⟨v,cellK x c e v z⟩
 ·obtain⟨m,⟨o,_,_,ho,_⟩,_⟩:=I.loc
  exact free _ o (λz=>(hch _ z).2.1 rfl) ho I.free
 ·obtain⟨v,o,ho,hd⟩:=I.cell x c e
  exact free c o (λz=>(hch c z).2.2.1 x c e rfl) ho (I.freeC x c e)
 ·obtain⟨e,n,ne,nf,d⟩:=I.pin p hp
  have nch:p.1∉ch:=λz=>(hch p.1 z).2.2.2 p hp rfl;exact⟨keep p.1 p.2 ne nf nch e n,free p.1 p.2 nch e n,ne,nf,d⟩
def Inv.un {t':Nat}(I:Inv X jJ σ H s)(u:Un X.fs [] H H' s.heap h')(hok:YA X.prog X.w H' h'):Inv X jJ σ H' { s with heap:=h',toks:=t' }:=by
 obtain⟨m,⟨o,es,ep,ho,r⟩,_⟩:=id I.loc;obtain⟨sl,hL⟩:=u.any ho I.free (by simp);exact I.step (g':=s.gens) (d':=s.drawn) (ch:=[]) (λ_ z=>nomatch z) (λb o _ hb _ e n=>u.keep b o e n hb (by simp)) (λb o _ hb _ e n=>u.slot b o e n hb (by simp)) (λb o _ e n=>u.free b o e n (by simp)) (λb o _ e=>u.there b o e (by simp)) u.tups u.frzs u.tbls (λm' hm=>by
  obtain⟨o',es',ep',ho',r'⟩:=hm;rw[ho]at ho';cases ho';exact⟨_,es',ep',hL,r'⟩) hok I.bare
def Inv.call {g':Array GenState}{t':Nat}{d':Drawn}{ch:List Addr}(I:Inv X jJ σ H s)(u:Un (Wl X.stack) ch H H' s.heap h')(hok:YA X.prog X.w H' h')(hg:AllBare g')
  (hch:∀b∈ch,(b∈X.ex∨X.s₀.heap.objs.size<=b)/\b≠X.env.locals/\(∀x c,X.env.cells.lookup x=some c->c≠b)/\∀p∈X.pn++jJ,p.1≠b) :
  Inv X jJ σ H' { s with heap:=h',gens:=g',drawn:=d',toks:=t' }:=by
 obtain⟨m,⟨o,es,ep,ho,r⟩,_⟩:=id I.loc;obtain⟨sl,hL⟩:=u.any ho I.free λz=>(hch _ z).2.1 rfl;exact I.step (ch:=ch) hch (λb o hL hb hc e n=>u.keep b o e n (λz=>(qm.mp (I.stkSub b z)).elim hL hb) hc) (λb o _ _ hc e n=>u.any e n hc) (λb o hc e n=>u.free b o e n hc) (λb o hc e=>u.there b o e hc) u.tups u.frzs u.tbls (λm' hm=>by
  obtain⟨o',es',ep',ho',r'⟩:=hm;rw[ho]at ho';cases ho';exact⟨_,es',ep',hL,r'⟩) hok hg
def Inv.turned {t':Nat}{it:Addr}(I:Inv X jJ σ H s)(k:∀b o,b≠it->s.heap.get? b=some o->h'.get? b=some o)(hn:H it=none)(hL:it≠X.env.locals)
  (h1:it∈X.ex∨X.s₀.heap.objs.size<=it) (h2:∀x c,X.env.cells.lookup x=some c->c≠it) (h3:∀p∈X.pn++jJ,p.1≠it):Inv X jJ σ H { s with heap:=h',toks:=t' }:=by
 have nit:∀b u,H b=some u->b≠it:=λb u e z=>by rw[z,hn]at e;cases e
 refine I.step (g':=s.gens) (d':=s.drawn) (ch:=[it]) (λb hb=>?_) (λb o _ _ hc e _=>k b o (λz=>hc (by simp[z])) e) (λb o _ _ hc e _=>⟨o.slots,k b o (λz=>hc (by simp[z])) e⟩) (λ_ _ _ _ n=>n)
  (λb o hc e=>⟨o,k b o (λz=>hc (by simp[z])) e⟩) (λ_ _ e=>e) (λ_ _ _ e=>e) (λb ps e=>⟨#[],by rw[e];simp⟩) (λm hm=>?_) (λb u e=>?_) I.bare
 ·have e:b=it:=by simpa using hb
  subst e;exact⟨h1,hL,h2,h3⟩
 ·obtain⟨o,es,ep,ho,r⟩:=hm
  exact⟨o,es,ep,k _ o (zg hL) ho,r⟩
 ·refine(I.hok b u e).stay (λc v hc q=>k c v ?_ q) (λ_ q=>q) λ_ _ q=>q
  rcases hc with z | z
  ·rw[z];exact nit b u e
  ·exact nit c _ z
def Inv.tok (I:Inv X jJ σ H s)(t:Nat):Inv X jJ σ H { s with toks:=t }:=I.un (h':=s.heap) (t':=t) Un.refl I.hok
def Inv.kept {t':Nat}(I:Inv X jJ σ H s)(k:∀b u,s.heap.get? b=some u->h'.get? b=some u):Inv X jJ σ H { s with heap:=h',toks:=t' }:=I.un (Un.kept k) (I.hok.kept k)
def Inv.laid {a:Addr}{o:HO}{t':Nat}(I:Inv X jJ σ H s)(k:∀b u,s.heap.get? b=some u->h'.get? b=some u)(hp:s.heap.objs.size<=a)(new:Yz X.prog X.w (Zi H a o) h' a o) :
  Inv X jJ σ (Zi H a o) { s with heap:=h',toks:=t' }:=I.un (Un.laid k hp (I.hok.fresh hp)) (I.hok.laid k hp new)
def Inv.write {x e:Addr}{o:HO}{t':Nat}(I:Inv X jJ σ H s)(mu:B2 (H x))(he:e=x∨H e=some (.own x))(k:∀b u,b≠e->s.heap.get? b=some u->h'.get? b=some u)(heo:∃u,h'.get? e=some u)
  (new:Yz X.prog X.w (Zi H x o) h' x o):Inv X jJ σ (Zi H x o) { s with heap:=h',toks:=t' }:=I.un (Un.write mu he k heo) (I.hok.write mu he k heo new)
def Inv.pins_of {pins':Qb}(I:Inv X jJ σ H s)(h:∀p∈pins',s.heap.get? p.1=some p.2/\H p.1=none/\p.1≠X.env.locals/\p.1∉X.fs/\∀v,p.2.data≠.cell v):Inv X pins' σ H s:=
 ⟨I.ok,I.os,I.bare,I.base,I.loc,I.cell,I.free,I.freeC,λp hp=>(qP.mp hp).elim (λz=>I.pin p (qY _ z)) (h p),I.hok,I.len⟩
def ZfS {N:List Str}(hN:N.Nodup){i j:Nat}{x:Str}(a:N[i]?=some x)(b:N[j]?=some x):i=j:=by
 obtain⟨h1,e1⟩:=qM.mp a;obtain⟨h2,e2⟩:=qM.mp b;exact(List.getElem_inj hN).mp (e1.trans e2.symm)
def Zjc {M:Model}{A:xF}{E:xG}{i:Nat}{x:Str}{v:V}{u:Value}{Q:Unit->Shared->Prop}(I:Inv X jJ σ H s)(hN:X.N.Nodup)(hi:X.N[i]?=some x)(hx:WR X.env.scope x)(r:ZJ v u)
  (h:∀s',Inv X jJ (σ.set i (some v)) H s'->(∃a,zR a s.heap s'.heap/\(a=X.env.locals∨X.env.cells.lookup x=some a))->Q () s') (hf:X.fn x=true∨X.env.scope.names.lookup x=some .local:=by first | exact .inl rfl | exact .inr rfl | assumption):xf M A (storeName X.env x u) Q E s:=by
 obtain⟨m,hn,hl⟩:=id I.loc;have hcls:(X.env.scope.kind == .class||(X.env.scope.kind == .module&&X.env.locals != X.env.globals))=false:=by rw[I.ok.kind];rfl
 have hiσ:i < σ.length:=by rw[I.len];exact(qM.mp hi).1
 have cne:=I.cne;have tracked:∀{a:Addr} {h':Heap},(∃o,s.heap.get? a=some o/\H a=none)->zR a s.heap h'->YA X.prog X.w H h':=λ{a h'} ha hs b ob e=>by
  obtain⟨_,_,hfree⟩:=ha;refine(I.hok b ob e).stay (λc w' hc q=>(hs.2 c ?_).trans q) (λ_ q=>q) λ_ _ q=>q;rintro rfl;rcases hc with rfl | hc
  ·rw[hfree]at e;cases e
  ·rw[hfree]at hc;cases hc
 rcases hx with hk | hk
 ·refine wpAny_storeName_local hk hn (λh' hn' hs=>?_) hcls
  obtain⟨oL,_,_,hoL,_⟩:=id hn;refine h _ ⟨I.ok,I.os,I.bare,⟨λb o e n hb hx=>?_,λb o e n hb hx=>?_,I.base.free,λb o e hx=>?_,I.base.tups,I.base.frzs,I.base.tbls⟩,⟨_,hn',λj y v' e1 e2 e3=>?_⟩,λy c e=>?_,I.free,I.freeC,λp hp=>?_,tracked ⟨oL,hoL,I.free⟩ hs,by simpa using I.len⟩ ⟨_,hs,.inl rfl⟩
  ·exact(hs.2 b (qH (qS (qD e) I.ok.above))).trans (I.base.keep b o e n hb hx)
  ·obtain⟨sl,e1⟩:=I.base.slot b o e n hb hx
   exact⟨sl,(hs.2 b (qH (qS (qD e) I.ok.above))).trans e1⟩
  ·obtain⟨o',e1⟩:=I.base.there b o e hx
   exact⟨o',(hs.2 b (qH (qS (qD e) I.ok.above))).trans e1⟩
  ·by_cases hj:j=i
   ·subst hj
    rw[hi]at e1;cases e1;rw[zw hiσ]at e2
    cases e2
    exact⟨u,r,.inl ⟨hk,by simp⟩⟩
   ·rw[qT (zg hj)]at e2
    obtain⟨u',r',q⟩:=hl j y v' e1 e2 e3;refine⟨u',r',?_⟩;rcases q with⟨k,e⟩ | ⟨k,c,e,z⟩
    ·refine .inl ⟨k,?_⟩
     have:y≠x:=λe=>hj (ZfS hN e1 (e▸hi));simp[this,e]
    ·exact .inr ⟨k,c,e,z.sameBut hs (cne y c e)⟩
  ·obtain⟨w',z⟩:=I.cell y c e
   exact⟨w',z.sameBut hs (cne y c e)⟩
  ·obtain⟨e,n,ne,nf,d⟩:=I.pin p hp
   exact⟨(hs.2 p.1 ne).trans e,n,ne,nf,d⟩
 ·have hfn:X.fn x=true:=by
   rcases hf with z | z
   ·exact z
   ·rw[z]at hk;cases hk
  obtain⟨c,hc⟩:=I.ok.has x (.inl hk);obtain⟨w',z⟩:=I.cell x c hc;refine wpAny_storeName_cell I.ok.kind hk hc z (λh' hc' hs=>?_);obtain⟨oc,hoc,hocd⟩:=id z;refine h { s with heap:=h' } ⟨I.ok,I.os,I.bare,⟨λb o e n hb hx=>?_,λb o e n hb hx=>?_,I.base.free,λb o e hx=>?_,I.base.tups,I.base.frzs,I.base.tbls⟩,⟨m,hn.sameBut hs (zg (cne x c hc)),λj y v' e1 e2 e3=>?_⟩,λy c' e=>?_,I.free,I.freeC,λp hp=>?_,tracked ⟨oc,hoc,I.freeC x c hc⟩ hs,by simpa using I.len⟩ ⟨c,hs,.inr hc⟩
  ·exact(hs.2 b (qH (qS (qD e) (I.ok.cab x c hfn hc)))).trans (I.base.keep b o e n hb hx)
  ·obtain⟨sl,e1⟩:=I.base.slot b o e n hb hx
   exact⟨sl,(hs.2 b (qH (qS (qD e) (I.ok.cab x c hfn hc)))).trans e1⟩
  ·obtain⟨o',e1⟩:=I.base.there b o e hx
   exact⟨o',(hs.2 b (qH (qS (qD e) (I.ok.cab x c hfn hc)))).trans e1⟩
  ·by_cases hj:j=i
   ·subst hj
    rw[hi]at e1;cases e1;rw[zw hiσ]at e2
    cases e2
    exact⟨u,r,.inr ⟨.inl hk,c,hc,hc'⟩⟩
   ·rw[qT (zg hj)]at e2
    obtain⟨u',r',q⟩:=hl j y v' e1 e2 e3;refine⟨u',r',?_⟩;rcases q with q | ⟨k,c',e,z'⟩
    ·exact .inl q
    ·refine .inr ⟨k,c',e,z'.sameBut hs ?_⟩
     rintro rfl;exact hj (ZfS hN e1 (I.ok.inj _ _ _ e hc▸hi))
  ·by_cases hcc:c'=c
   ·subst hcc;exact⟨_,hc'⟩
   ·obtain⟨w2,z2⟩:=I.cell y c' e
    exact⟨w2,z2.sameBut hs hcc⟩
  ·obtain⟨e,n,ne,nf,d⟩:=I.pin p hp
   refine⟨(hs.2 p.1 ?_).trans e,n,ne,nf,d⟩;intro q;rw[q,hoc]at e;have q':oc=p.2:=zo e;exact d w' (by rw[<-q'];exact hocd)
def Zc5 {M:Model}{A:xF}{E:xG}{i:Nat}{x:Str}{v:V}{u:Value}{Q:Unit->Shared->Prop}(I:Inv X jJ σ H s)(hN:X.N.Nodup)(hi:X.N[i]?=some x)(hx:WR X.env.scope x)(r:ZJ v u)
  (h:∀s',Inv X jJ (σ.set i (some v)) H s'->Q () s') (hf:X.fn x=true∨X.env.scope.names.lookup x=some .local:=by first | exact .inl rfl | exact .inr rfl | assumption):xf M A (storeName X.env x u) Q E s:=
 Zjc I hN hi hx r (λs' I' _=>h s' I') hf
def Inv.call' {s':Shared}{ch:List Addr}(I:Inv X jJ σ H s)(ho:s'.os=s.os)(u:Un (Wl X.stack) ch H H' s.heap s'.heap)(hok:YA X.prog X.w H' s'.heap)(hg:AllBare s'.gens)
  (hch:∀b∈ch,(b∈X.ex∨X.s₀.heap.objs.size<=b)/\b≠X.env.locals/\(∀x c,X.env.cells.lookup x=some c->c≠b)/\∀p∈X.pn++jJ,p.1≠b):Inv X jJ σ H' s':=by
 obtain⟨h',g',d',t',o'⟩:=s';have e:o'=s.os:=ho;subst e;exact I.call (g':=g') (t':=t') (d':=d') u hok hg hch
end
abbrev XK:=Value->Option Addr->Hp->Prop
abbrev St:=List (Option V)
abbrev VK:=V->Hp->Prop
abbrev TE:=St->Hp->VK->Prop
abbrev TT:=St->Hp->(Bool->Hp->Prop)->Prop
abbrev TA:=St->Hp->(List V->Hp->Prop)->Prop
structure Ends where
 nx:St->Hp->Prop
 rt:VK
 bk:St->Hp->Prop:=λ_ _=>False
 ct:St->Hp->Prop:=λ_ _=>False
abbrev TS:=Ends->St->Hp->Prop
def EP (X:Cx)(jJ:Qb)(σ:St)(Q:VK)(u:Value)(s':Shared):Prop:=∃v H',Inv X jJ σ H' s'/\ZJ v u/\Q v H'
def TP (X:Cx)(jJ:Qb)(σ:St)(Q:Bool->Hp->Prop)(b:Bool)(s':Shared):Prop:=∃H',Inv X jJ σ H' s'/\Q b H'
def AP (X:Cx)(jJ:Qb)(σ:St)(Q:List V->Hp->Prop)(us:List Value)(s':Shared):Prop:=∃vs H',Inv X jJ σ H' s'/\Zz vs us/\Q vs H'
def SP (X:Cx)(jJ:Qb)(D:Ends)(f:Flow)(s':Shared):Prop:=
 match f with
 | .next=>∃σ' H',Inv X jJ σ' H' s'/\D.nx σ' H'
 | .brk=>∃σ' H',Inv X jJ σ' H' s'/\D.bk σ' H'
 | .cont=>∃σ' H',Inv X jJ σ' H' s'/\D.ct σ' H'
 | .ret u=>∃v σ' H',Inv X jJ σ' H' s'/\ZJ v u/\D.rt v H'
def PE (X:Cx)(e:Expr)(t:TE):Prop:=
 ∀(jJ:Qb) (s:Shared) (σ:St) (H:Hp) (Q:VK),Inv X jJ σ H s->t σ H Q->xf (xC X.prog X.w) X.A (eval e X.env) (EP X jJ σ Q) X.xe s
def PT (X:Cx)(e:Expr)(t:TT):Prop:=
 ∀(jJ:Qb) (s:Shared) (σ:St) (H:Hp) (Q:Bool->Hp->Prop),Inv X jJ σ H s->t σ H Q->xf (xC X.prog X.w) X.A (isTrue e X.env (eval e X.env)) (TP X jJ σ Q) X.xe s
def PW (X:Cx)(e:Expr)(t:TT):Prop:=
 ∀(whole:Sem Value) (jJ:Qb) (s:Shared) (σ:St) (H:Hp) (Q:Bool->Hp->Prop),Inv X jJ σ H s->t σ H Q->xf (xC X.prog X.w) X.A (isTrue e X.env whole) (TP X jJ σ Q) X.xe s
def PW.pt {X:Cx}{e:Expr}{t:TT}(h:PW X e t):PT X e t:=h _
def PA (X:Cx)(es:List Expr)(t:TA):Prop:=
 ∀(pos:Pos) (jJ:Qb) (s:Shared) (σ:St) (H:Hp) (Q:List V->Hp->Prop),Inv X jJ σ H s->t σ H Q->xf (xC X.prog X.w) X.A (spliced (backTo pos (xh es X.env))) (AP X jJ σ Q) X.xe s
def PS (X:Cx)(st:Stmt)(t:TS):Prop:=
 ∀(jJ:Qb) (s:Shared) (σ:St) (H:Hp) (D:Ends),Inv X jJ σ H s->t D σ H->xf (xC X.prog X.w) X.A (exec st X.env) (SP X jJ D) X.xe s
def WJ (X:Cx)(st:List Stmt)(t:TS):Prop:=
 ∀(jJ:Qb) (s:Shared) (σ:St) (H:Hp) (D:Ends),Inv X jJ σ H s->t D σ H->xf (xC X.prog X.w) X.A (execs st X.env) (SP X jJ D) X.xe s
def ZL {α:Type}{t:Sem α}{Q Q':α->Shared->Prop}{M:Model}{A:xF}{E:xG}{s:Shared}(h:xf M A t Q E s)(hQ:∀a s,Q a s->Q' a s):xf M A t Q' E s:=xc h hQ λ_ _ x=>x
section
variable {X:Cx}
def Z7 (i:Nat):TE:=fun σ H Q=>∃v,σ[i]?=some (some v)/\Q v H
def tC (v:V):TE:=λ_ H Q=>Q v H
def ZoB {i:Nat}{x:Str}{pos:Pos}(hN:X.N[i]?=some x)(hv:J3 X.env.scope x)(hd:(x==("__debug__" : Str))=false:=by decide)(hcd:(x==("__classdict__" : Str))=false:=by decide):PE X (.Name x pos) (Z7 i):=by
 intro jJ s σ H Q I h;obtain⟨v,e,h⟩:=h;obtain⟨m,hn,hl⟩:=I.loc;obtain⟨u,r,l⟩:=hl i x v hN e hv;have fin:EP X jJ σ Q u s:=⟨v,H,I,r,h⟩;rcases l with⟨hk,hm⟩ | ⟨hk,c,hc,hcell⟩
 ·exact wpAny_Name (wpAny_loadName_local I.ok.kind hk hn hm fin) hd
 ·rcases hk with hk | hk
  ·exact wpAny_Name (wpAny_loadName_cell I.ok.kind hk hc hcell fin) hd
  ·exact wpAny_Name (wpAny_loadName_free I.ok.kind hk hc hcell fin hcd) hd
def Y8 {i j pos}:PE X (.Constant (.int i) j pos) (tC (.int i)):=λ_ _ _ H _ I h=>wpAny_Constant_int ⟨.int i,H,I.tok _,⟨_,rfl⟩,h⟩
def ZpH {b j pos}:PE X (.Constant (.bool b) j pos) (tC (.bl b)):=λ_ _ _ H _ I h=>Constant_bool ⟨.bl b,H,I,rfl,h⟩
def ZoC {j pos}:PE X (.Constant .none j pos) (tC .non):=λ_ _ _ H _ I h=>Constant_none ⟨.non,H,I,rfl,h⟩
def Wq {x j pos}:PE X (.Constant (.str x) j pos) (tC (.str x)):=λ_ _ _ H _ I h=>Calls.Constant_str ⟨.str x,H,I.tok _,⟨_,rfl⟩,h⟩
def Gl (X:Cx)(x:Str):Prop:=X.env.kindOf x=some .globalImplicit
def Zii {E:xG}{jJ:Qb}{s:Shared}{σ:St}{H:Hp}{x:Str}{u:Value}{pos:Pos}{Q:xG}(I:Inv X jJ σ H s)(hg:Gl X x)(hm:X.mg x=some u)(h:Q u s)
  (hd:(x==("__debug__" : Str))=false:=by decide):xf (xC X.prog X.w) X.A (eval (.Name x pos) X.env) Q E s:=
 qbo I.ok.kind hg (Calls.loadGlobal_global (by rw[I.ok.glob];exact I.mod.glob.keeps I.bk) hm h) hd
def Ub {E:xG}{jJ:Qb}{s:Shared}{σ:St}{H:Hp}{x:Str}{u:Value}{pos:Pos}{Q:xG}(I:Inv X jJ σ H s)(hg:Gl X x)(hm:X.mg x=none)(hv:xj x=some u)(h:Q u s)
  (hn:x≠"__name__":=by decide) (hd:(x==("__debug__" : Str))=false:=by decide):xf (xC X.prog X.w) X.A (eval (.Name x pos) X.env) Q E s:=by
 obtain⟨mb,h1,h2⟩:=I.mod.blt;exact qbo I.ok.kind hg (Calls.loadGlobal_builtin (by rw[I.ok.glob];exact I.mod.glob.keeps I.bk) hm (by rw[I.ok.blt];exact h1.keeps I.bk) ((h2 x hn).trans hv) h) hd
def ZmN {x:Str}{v:V}{u:Value}{pos:Pos}(hg:Gl X x)(hm:X.mg x=none)(hv:xj x=some u)(r:ZJ v u)(hn:x≠"__name__":=by decide)(hd:(x==("__debug__" : Str))=false:=by decide):PE X (.Name x pos) (tC v):=
 λ_ _ _ H _ I h=>Ub I hg hm hv ⟨v,H,I,r,h⟩ hn hd
variable {a b:Expr}{ta tb:TE}{pos:Pos}
def tB (t:TE):TT:=fun σ H Q=>t σ H λx H1=>∃c,x=.bl c/\Q c H1
def ZoD {e:Expr}{t:TE}(h:PE X e t)(he:∀whole,isTrue e X.env whole=(do let v<-whole;standAt e.pos;holding [v] (truthy v)):=by intro _;rfl):PT X e (tB t):=by
 intro jJ s σ H Q I hw;refine isTrue_plain (ZL (h jJ s σ H _ I hw) λv s1 ⟨x,H1,I1,r1,q1⟩=>?_) (he _);obtain⟨d,rfl,q⟩:=q1
 cases r1
 exact wpAny_truthy_bool ⟨H1,I1,q⟩
variable {tA tB':TT}{rest:List Expr}
def tAnd (t u:TT):TT:=fun σ H Q=>t σ H λc H1=>if c=true then u σ H1 Q else Q false H1
def tOr (t u:TT):TT:=fun σ H Q=>t σ H λc H1=>if c=true then Q true H1 else u σ H1 Q
def tNot (t:TT):TT:=fun σ H Q=>t σ H λc H1=>Q (!c) H1
def Zij (ha:PT X a tA):PW X (.BoolOp .And [a] pos) tA:=by
 intro wh jJ s σ H Q I h;refine isTrue_and (ZL (ha jJ s σ H Q I h) λc s1 e=>?_)
 cases c with
 | true=>exact isTrue_and_nil e
 | false=>exact e
def ZoE (ha:PT X a tA):PW X (.BoolOp .Or [a] pos) tA:=by
 intro wh jJ s σ H Q I h;refine isTrue_or (ZL (ha jJ s σ H Q I h) λc s1 e=>?_)
 cases c with
 | false=>exact isTrue_or_nil e
 | true=>exact e
def ZkB (ha:PT X a tA)(hb:PW X (.BoolOp .And (b::rest) pos) tB'):PW X (.BoolOp .And (a::b::rest) pos) (tAnd tA tB'):=by
 intro wh jJ s σ H Q I h;refine isTrue_and (ZL (ha jJ s σ H _ I h) λc s1 ⟨H1,I1,q1⟩=>?_)
 cases c with
 | true=>exact hb wh jJ s1 σ H1 Q I1 q1
 | false=>exact⟨H1,I1,q1⟩
def ZpI (ha:PT X a tA)(hb:PW X (.BoolOp .Or (b::rest) pos) tB'):PW X (.BoolOp .Or (a::b::rest) pos) (tOr tA tB'):=by
 intro wh jJ s σ H Q I h;refine isTrue_or (ZL (ha jJ s σ H _ I h) λc s1 ⟨H1,I1,q1⟩=>?_)
 cases c with
 | true=>exact⟨H1,I1,q1⟩
 | false=>exact hb wh jJ s1 σ H1 Q I1 q1
def ZoF (ha:PT X a tA):PT X (.UnaryOp .Not a pos) (tNot tA):=by
 intro jJ s σ H Q I h;exact isTrue_not (ha jJ s σ H (λc H1=>Q (!c) H1) I h)
def ZpJ (ta tb:TE):TE:=fun σ H Q=>ta σ H λx H1=>∃c,x=.bl c/\if c=true then tb σ H1 Q else Q (.bl false) H1
def tOrV (ta tb:TE):TE:=fun σ H Q=>ta σ H λx H1=>∃c,x=.bl c/\if c=true then Q (.bl true) H1 else tb σ H1 Q
def ZpK (ta:TE):TE:=fun σ H Q=>ta σ H λx H1=>∃c,x=.bl c/\Q (.bl (!c)) H1
def ZoG {op}{t:TE}(h:PE X a t):PE X (.BoolOp op [a] pos) t:=λjJ s σ H Q I hw=>BoolOp_one (h jJ s σ H Q I hw)
def ZoH (ha:PE X a ta)(hb:PE X (.BoolOp .And (b::rest) pos) tb):PE X (.BoolOp .And (a::b::rest) pos) (ZpJ ta tb):=by
 intro jJ s σ H Q I h;refine BoolOp_and (ZL (ha jJ s σ H _ I h) λv s1 ⟨x,H1,I1,r1,q1⟩=>?_);obtain⟨c,rfl,q1⟩:=q1
 cases r1
 refine wpAny_truthy_bool ?_
 cases c with
 | true=>exact hb jJ s1 σ H1 Q I1 q1
 | false=>exact⟨.bl false,H1,I1,rfl,q1⟩
def ZpL (ha:PE X a ta)(hb:PE X (.BoolOp .Or (b::rest) pos) tb):PE X (.BoolOp .Or (a::b::rest) pos) (tOrV ta tb):=by
 intro jJ s σ H Q I h;refine BoolOp_or (ZL (ha jJ s σ H _ I h) λv s1 ⟨x,H1,I1,r1,q1⟩=>?_);obtain⟨c,rfl,q1⟩:=q1
 cases r1
 refine wpAny_truthy_bool ?_
 cases c with
 | false=>exact hb jJ s1 σ H1 Q I1 q1
 | true=>exact⟨.bl true,H1,I1,rfl,q1⟩
def ZoI (ha:PE X a ta):PE X (.UnaryOp .Not a pos) (ZpK ta):=by
 intro jJ s σ H Q I h;refine UnaryOp_ (ZL (ha jJ s σ H _ I h) λv s1 ⟨x,H1,I1,r1,q1⟩=>?_);obtain⟨c,rfl,q1⟩:=q1
 cases r1
 exact not_of (wpAny_truthy_bool ⟨.bl (!c),H1,I1,rfl,q1⟩)
def tIf (t:TT)(ta tb:TE):TE:=fun σ H Q=>t σ H λc H1=>if c=true then ta σ H1 Q else tb σ H1 Q
def ZkC {c:Expr}(hc:PT X c tA)(ha:PE X a ta)(hb:PE X b tb):PE X (.IfExp c a b pos) (tIf tA ta tb):=by
 intro jJ s σ H Q I h;refine wpAny_IfExp (ZL (hc jJ s σ H _ I h) λd s1 ⟨H1,I1,q1⟩=>?_)
 cases d with
 | true=>exact ha jJ s1 σ H1 Q I1 q1
 | false=>exact hb jJ s1 σ H1 Q I1 q1
end
def ZF (K:ql)(H:Hp)(a:Addr)(xs:List V):Prop:=
 Rd H a (.lst xs)∨
  ∃(o:Obj) (jL:Array Value) (n:Nat),K.lookup a=some o/\o.cls=.type "list"/\o.dict=none/\o.data=.seq jL n/\jL.size<=xg/\Zz xs jL.toList
def ZS (K:ql)(H:Hp)(a:Addr)(xs:List V):Prop:=
 Rd H a (.tup xs)∨
  ∃(o:Obj) (jL:Array Value) (n:Nat),K.lookup a=some o/\o.cls=.type "tuple"/\o.data=.seq jL n/\jL.size<=xg/\Zz xs jL.toList
def absV:Value->Option V
 | .none=>some .non
 | .bool b=>some (.bl b)
 | .int i _=>some (.int i)
 | .str x _=>some (.str x)
 | .bytes b _=>some (.byt b)
 | .float b _=>some (.flt b)
 | .ref a=>some (.ref a)
 | .type n=>some (.ty n)
 | _=>none
def ZJ.abs {x:V}{u:Value}(r:ZJ x u):absV u=some x:=by
 cases x with
 | non=>cases r;rfl
 | bl _=>cases r;rfl
 | int _=>obtain⟨t,rfl⟩:=r;rfl
 | str _=>obtain⟨t,rfl⟩:=r;rfl
 | byt _=>obtain⟨t,rfl⟩:=r;rfl
 | flt _=>obtain⟨t,rfl⟩:=r;rfl
 | ref _=>cases r;rfl
 | ty _=>cases r;rfl
def ZJ.inj {x y:V}{u:Value}(r:ZJ x u)(q:ZJ y u):x=y:=zo (r.abs.symm.trans q.abs)
def Zz.inj:∀{xs ys:List V} {us:List Value},Zz xs us->Zz ys us->xs=ys
 | _,_,_,.nil,.nil=>rfl
 | _,_,_,.cons r t,.cons r' t'=>by rw[r.inj r',Zz.inj t t']
section
variable {X:Cx}{jJ:Qb}{σ:St}{H:Hp}{s:Shared}{a:Addr}{xs ys:List V}
def ZF.of {K:ql}(h:H a=some (.lst xs)):ZF K H a xs:=.inl (.inl h)
def ZS.of {K:ql}(h:H a=some (.tup xs)):ZS K H a xs:=.inl (.inl h)
def Inv.list (I:Inv X jJ σ H s)(h:ZF X.K H a xs):∃jL:List Value,Zz xs jL/\PlainL s.heap a jL.toArray/\xs.length<=xg:=by
 rcases h with h | ⟨o,jL,n,hk,hc,hd,hs,hz,r⟩
 ·obtain⟨z,jL,n,r,e⟩:=h.ok I.hok
  exact⟨jL,r,⟨_,n,e,rfl,rfl,rfl⟩,z⟩
 ·refine⟨jL.toList,r,⟨o,n,I.kIn a o hk,hc,hd,by simpa using hs⟩,?_⟩
  have e:=r.length;simp only[qL]at e;omega
def Inv.tuple (I:Inv X jJ σ H s)(h:ZS X.K H a xs):∃jL:List Value,Zz xs jL/\IsTup s.heap a jL.toArray/\xs.length<=xg:=by
 rcases h with h | ⟨o,jL,n,hk,hc,hs,hz,r⟩
 ·obtain⟨z,jL,r,p⟩:=h.ok I.hok
  exact⟨jL,r,p,z⟩
 ·refine⟨jL.toList,r,⟨o,I.kIn a o hk,hc,n,by simpa using hs⟩,?_⟩
  have e:=r.length;simp only[qL]at e;omega
def Inv.list_inj (I:Inv X jJ σ H s)(h:ZF X.K H a xs)(h':ZF X.K H a ys):xs=ys:=by
 obtain⟨jL,r,⟨o,n,e,_,_,d⟩,_⟩:=I.list h;obtain⟨its',r',⟨o',n',e',_,_,d'⟩,_⟩:=I.list h';rw[e]at e';cases e';rw[d]at d';injection d' with d1 _;have:jL=its':=by simpa using congrArg Array.toList d1
 subst this;exact r.inj r'
def Inv.tuple_inj (I:Inv X jJ σ H s)(h:ZS X.K H a xs)(h':ZS X.K H a ys):xs=ys:=by
 obtain⟨jL,r,⟨o,e,_,n,d⟩,_⟩:=I.tuple h;obtain⟨its',r',⟨o',e',_,n',d'⟩,_⟩:=I.tuple h';rw[e]at e';cases e';rw[d]at d';injection d' with d1 _;have:jL=its':=by simpa using congrArg Array.toList d1
 subst this;exact r.inj r'
end
abbrev Cx.wish (X:Cx)(E:xG):Cx:={ X with xe:=E }
abbrev Cx.nox (X:Cx):Cx:=X.wish λ_ _=>False
def Cx.Ok.wish {X:Cx}(ok:X.Ok)(E:xG):(X.wish E).Ok:=
 ⟨ok.mod,ok.kind,ok.glob,ok.blt,ok.above,ok.inj,ok.has,ok.cab,ok.hd,ok.frames,ok.stk,ok.exf,ok.bs,ok.bsz,ok.noex,ok.exfs,ok.funs,ok.frf⟩
def Cx.Ok.unwish {X:Cx}{E:xG}(ok:(X.wish E).Ok):X.Ok:=
 ⟨ok.mod,ok.kind,ok.glob,ok.blt,ok.above,ok.inj,ok.has,ok.cab,ok.hd,ok.frames,ok.stk,ok.exf,ok.bs,ok.bsz,ok.noex,ok.exfs,ok.funs,ok.frf⟩
section
variable {X:Cx}{jJ:Qb}{σ:St}{H:Hp}{s:Shared}{E:xG}
def Inv.wish (I:Inv X jJ σ H s)(E:xG):Inv (X.wish E) jJ σ H s:=⟨I.ok.wish E,I.os,I.bare,I.base,I.loc,I.cell,I.free,I.freeC,I.pin,I.hok,I.len⟩
def Inv.unwish (I:Inv (X.wish E) jJ σ H s):Inv X jJ σ H s:=⟨I.ok.unwish,I.os,I.bare,I.base,I.loc,I.cell,I.free,I.freeC,I.pin,I.hok,I.len⟩
def SP.unwish {D:Ends}{f:Flow}{s':Shared}(h:SP (X.wish E) jJ D f s'):SP X jJ D f s':=by
 cases f with
 | next=>obtain⟨σ',H',I,q⟩:=h;exact⟨σ',H',I.unwish,q⟩
 | brk=>obtain⟨σ',H',I,q⟩:=h;exact⟨σ',H',I.unwish,q⟩
 | cont=>obtain⟨σ',H',I,q⟩:=h;exact⟨σ',H',I.unwish,q⟩
 | ret u=>obtain⟨v,σ',H',I,r,q⟩:=h;exact⟨v,σ',H',I.unwish,r,q⟩
def PE.nox {e:Expr}{t:TE}(h:PE X.nox e t):PE X e t:=λjJ s σ H Q I hw=>
 xc (h jJ s σ H Q (I.wish _) hw) (λ_ _ ⟨v,H',I',r,q⟩=>⟨v,H',I'.unwish,r,q⟩) λ_ _ z=>zU z
def WJ.nox {st:List Stmt}{t:TS}(h:WJ X.nox st t):WJ X st t:=λjJ s σ H D I hw=>
 xc (h jJ s σ H D (I.wish _) hw) (λ_ _ q=>q.unwish) λ_ _ z=>zU z
end
section
variable {X:Cx}{st:Stmt}{rest:List Stmt}{t u:TS}{e:Expr}{te:TE}{pos:Pos}
def ZkD:TS:=λD σ H=>D.nx σ H
def Vw (t u:TS):TS:=λD σ H=>t { D with nx:=u D } σ H
def Zfa:WJ X [] ZkD:=λ_ _ σ H _ I h=>wpAny_execs_nil ⟨σ,H,I,h⟩
def Va (h1:PS X st t)(h2:WJ X rest u):WJ X (st::rest) (Vw t u):=by
 intro jJ s σ H D I h;refine wpAny_execs_cons (ZL (h1 jJ s σ H { D with nx:=u D } I h) λf s1 q=>?_)
 cases f with
 | next=>
  obtain⟨σ',H',I',q⟩:=q;exact h2 jJ s1 σ' H' D I' q
 | ret v=>exact q
 | brk=>exact q
 | cont=>exact q
def Jr (h1:PS X st t):WJ X [st] t:=by
 intro jJ s σ H D I h;refine wpAny_execs_cons (ZL (h1 jJ s σ H D I h) λf s1 q=>?_)
 cases f with
 | next=>exact wpAny_execs_nil q
 | ret v=>exact q
 | brk=>exact q
 | cont=>exact q
def Inv.quiet {jJ:Qb}{σ:St}{H:Hp}{s:Shared}(I:Inv X jJ σ H s):interactive X.env=false:=by simp[interactive,I.ok.kind]
def VQ (te:TE):TS:=λD σ H=>te σ H λ_ H1=>D.nx σ H1
def ZcO (he:PE X e te)(hs:xr e none pos.line X.env=pure false:=by rfl):PS X (.Expr e pos) (VQ te):=by
 intro jJ s σ H D I h;exact wpAny_Expr_any (ZL (he jJ s σ H _ I h) λv s1 ⟨x,H1,I1,r1,q1⟩=>⟨σ,H1,I1,q1⟩) I.quiet hs
def BX (te:TE):TS:=λD σ H=>te σ H D.rt
def JA (he:PE X e te):PS X (.Return (some e) pos) (BX te):=by
 intro jJ s σ H D I h;exact wpAny_Return_some (ZL (he jJ s σ H _ I h) λv s1 ⟨x,H1,I1,r1,q1⟩=>⟨x,σ,H1,I1,r1,q1⟩)
def tIfS (c:TT)(t u:TS):TS:=λD σ H=>c σ H λb H1=>if b=true then t D σ H1 else u D σ H1
def ZkE {c:Expr}{a b:List Stmt}{tc:TT}(hc:PT X c tc)(ha:WJ X a t)(hb:WJ X b u):PS X (.If c a b pos) (tIfS tc t u):=by
 intro jJ s σ H D I h;refine wpAny_If (ZL (hc jJ s σ H _ I h) λd s1 ⟨H1,I1,q1⟩=>?_)
 cases d with
 | true=>exact ha jJ s1 σ H1 D I1 q1
 | false=>exact hb jJ s1 σ H1 D I1 q1
end
abbrev TG:=V->St->Hp->(St->Hp->Prop)->Prop
abbrev Ja:=List V->St->Hp->(St->Hp->Prop)->Prop
def PG (X:Cx)(target:Expr)(t:TG):Prop:=
 ∀(jJ:Qb) (s:Shared) (σ:St) (H:Hp) (v:V) (u:Value) (Q:St->Hp->Prop),Inv X jJ σ H s->ZJ v u->t v σ H Q->
  xf (xC X.prog X.w) X.A (assign target X.env u) (λ_ s'=>∃σ' H',Inv X jJ σ' H' s'/\Q σ' H') X.xe s
def J4 (X:Cx)(ts:List Expr)(t:Ja):Prop:=
 ∀(jJ:Qb) (s:Shared) (σ:St) (H:Hp) (vs:List V) (us:List Value) (Q:St->Hp->Prop),Inv X jJ σ H s->Zz vs us->t vs σ H Q->
  xf (xC X.prog X.w) X.A (assignInOrder ((assignEach ts X.env).map (·.2)) us) (λ_ s'=>∃σ' H',Inv X jJ σ' H' s'/\Q σ' H') X.xe s
abbrev TSet:=V->V->V->Hp->(Hp->Prop)->Prop
def PSet (X:Cx)(t:TSet):Prop:=
 ∀(jJ:Qb) (s:Shared) (σ:St) (H:Hp) (o i v:V) (ov iv u:Value) (Q:Hp->Prop),Inv X jJ σ H s->ZJ o ov->ZJ i iv->ZJ v u->t o i v H Q->
  xf (xC X.prog X.w) X.A (setItem ov iv u) (λ_ s'=>∃H',Inv X jJ σ H' s'/\Q H') X.xe s
abbrev TIp:=V->V->Hp->VK->Prop
def PIp (X:Cx)(op:Operator)(t:TIp):Prop:=
 ∀(jJ:Qb) (s:Shared) (σ:St) (H:Hp) (x y:V) (v u:Value) (Q:VK),Inv X jJ σ H s->ZJ x v->ZJ y u->t x y H Q->
  xf (xC X.prog X.w) X.A (inplaceOp op v u) (EP X jJ σ Q) X.xe s
section
variable {X:Cx}{pos:Pos}
def Wf (i:Nat):TG:=λv σ H Q=>Q (σ.set i (some v)) H
def X0 {i:Nat}{x:Str}(hN:X.N.Nodup)(hi:X.N[i]?=some x)(hx:WR X.env.scope x)(hf:X.fn x=true∨X.env.scope.names.lookup x=some .local:=by first | exact .inl rfl | exact .inr rfl | assumption):PG X (.Name x pos) (Wf i):=by
 intro jJ s σ H v u Q I r h;exact wpAny_assign_Name (Zc5 I hN hi hx r (λs' I'=>⟨_,H,I',h⟩) hf)
def gNil:Ja:=λvs σ H Q=>vs=[]/\Q σ H
def JN (t:TG)(u:Ja):Ja:=λvs σ H Q=>∃v r,vs=v::r/\t v σ H fun σ' H'=>u r σ' H' Q
def Js:J4 X [] gNil:=by
 intro jJ s σ H vs us Q I r h;obtain⟨e,h⟩:=h;subst e
 cases r
 exact assignInOrder_nil ⟨σ,H,I,h⟩
def WW {e:Expr}{es:List Expr}{t:TG}{u:Ja}(h1:PG X e t)(h2:J4 X es u)
  (hs:(assignEach (e::es) X.env).map (·.2)=assign e X.env::(assignEach es X.env).map (·.2):=by rfl):J4 X (e::es) (JN t u):=by
 intro jJ s σ H vs us Q I r h;obtain⟨v,vr,e1,h⟩:=h;subst e1
 cases r with
 | cons r rr=>
  rw[hs];refine assignInOrder_cons (ZL (h1 jJ s σ H _ _ _ I r h) λ_ s1 ⟨σ1,H1,I1,q1⟩=>?_);exact h2 jJ s1 σ1 H1 _ _ Q I1 rr q1
def gTup (K:ql)(n:Nat)(t:Ja):TG:=λv σ H Q=>∃a xs,v=.ref a/\ZS K H a xs/\xs.length=n/\t xs σ H Q
def ZkF {es:List Expr}{k:Nat}{t:Ja}{n:Nat}(hc:X.calm=true)(h:J4 X es t)
  (hn:(assignEach es X.env).length=n:=by rfl) (hst:(assignEach es X.env).findIdx? (·.1)=none:=by rfl):PG X (.Tuple es k pos) (gTup X.K n t):=by
 intro jJ s σ H v u Q I r hw;obtain⟨a,xs,e1,hq,hl,hw⟩:=hw;subst e1
 cases r
 obtain⟨jL,rv,ht,hz⟩:=I.tuple hq;refine assign_Tuple_tuple (I.ok.hd hc) ht (by simp[hn,<-hl,rv.length]) hst λh' hx=>?_;have I1:Inv X jJ σ H { s with heap:=h' }:=I.kept (t':=s.toks) λb o e=>hx b o (qH (qD e)) e;exact h jJ _ σ H xs _ Q I1 (by simpa using rv) hw
def gSub (to ti:TE)(t:TSet):TG:=λv σ H Q=>to σ H λo H1=>ti σ H1 λi H2=>t o i v H2 λH3=>Q σ H3
def ZoJ {o i:Expr}{to ti:TE}{t:TSet}(ho:PE X o to)(hi:PE X i ti)(hs:PSet X t)
  (ha:∀v,assign (.Subscript o i pos) X.env v=(do
   let ov<-holding [v] (eval o X.env)
   let iv<-holding [v,ov] (eval i X.env)
   standAt pos
   holding [v,ov,iv] (setItem ov iv v)
   release [v,ov,iv] []):=by intro _;rfl):PG X (.Subscript o i pos) (gSub to ti t):=by
 intro jJ s σ H v u Q I r h;rw[ha];refine xa (xw (ZL (ho jJ s σ H _ I h) λov s1 ⟨x,H1,I1,r1,q1⟩=>?_));refine xa (xw (ZL (hi jJ s1 σ H1 _ I1 q1) λiv s2 ⟨y,H2,I2,r2,q2⟩=>?_));refine xa (wpAny_standAt (xa (xw (ZL (hs jJ s2 σ H2 x y v ov iv u _ I2 r1 r2 r q2) λ_ s3 ⟨H3,I3,q3⟩=>?_))));exact wpAny_release ⟨σ,H3,I3,q3⟩
def Uh (te:TE)(g:TG):TS:=λD σ H=>te σ H λx H1=>g x σ H1 D.nx
def ZkG {tg e:Expr}{te:TE}{g:TG}(he:PE X e te)(hg:PG X tg g)(hs:swapsWithSole [tg] e pos.line X.env=pure false:=by rfl)(hw:swappedStores [tg] e X.env=pure none:=by rfl)
  (h1:(assignEach [tg] X.env).map (·.2)=[assign tg X.env]:=by rfl):PS X (.Assign [tg] e pos) (Uh te g):=by
 intro jJ s σ H D I h;refine wpAny_Assign_stores (ZL (he jJ s σ H _ I h) λv s1 ⟨x,H1,I1,r1,q1⟩=>?_) hs hw;rw[h1];exact ZL (hg jJ s1 σ H1 x v _ I1 r1 q1) λ_ s2 q=>q
def Ux {i:Nat}{x:Str}{e:Expr}{te:TE}{pos':Pos}(hN:X.N.Nodup)(hi:X.N[i]?=some x)(hx:WR X.env.scope x)(he:PE X e te)(hs:xr e (some (.Name x pos')) pos.line X.env=pure false:=by rfl)(hf:X.fn x=true∨X.env.scope.names.lookup x=some .local:=by first | exact .inl rfl | exact .inr rfl | assumption) :
  PS X (.Assign [.Name x pos'] e pos) (Uh te (Wf i)):=by
 intro jJ s σ H D I h;refine wpAny_Assign_Name (ZL (he jJ s σ H _ I h) λv s1 ⟨y,H1,I1,r1,q1⟩=>?_) hs;exact Zc5 I1 hN hi hx r1 (λs2 I2=>⟨_,H1,I2,q1⟩) hf
def tAug (i:Nat)(te:TE)(ti:TIp):TS:=λD σ H=>∃x,σ[i]?=some (some x)/\te σ H λy H1=>ti x y H1 λz H2=>D.nx (σ.set i (some z)) H2
def ZoK {i:Nat}{x:Str}{e:Expr}{te:TE}{op:Operator}{ti:TIp}{pos':Pos}(hN:X.N.Nodup)(hi:X.N[i]?=some x)(hx:WR X.env.scope x)(he:PE X e te)(ho:PIp X op ti)(hf:X.fn x=true∨X.env.scope.names.lookup x=some .local:=by first | exact .inl rfl | exact .inr rfl | assumption) :
  PS X (.AugAssign (.Name x pos') op e pos) (tAug i te ti):=by
 intro jJ s σ H D I h;obtain⟨v,e1,h⟩:=h;obtain⟨m,hn,hl⟩:=I.loc;have vis:J3 X.env.scope x:=by rcases hx with k | k;exact .inl k;exact .inr (.inl k)
 obtain⟨u,r,l⟩:=hl i x v hi e1 vis;refine wpAny_AugAssign_Name ?_;have go:xf (xC X.prog X.w) X.A (eval e X.env) (λw s₂=>xf (xC X.prog X.w) X.A (inplaceOp op u w) (λr s₃=>xf (xC X.prog X.w) X.A (storeName X.env x r) (λ_=>SP X jJ D .next) X.xe s₃) X.xe s₂) X.xe s:=by
  refine ZL (he jJ s σ H _ I h) λw s1 ⟨y,H1,I1,r1,q1⟩=>?_;refine ZL (ho jJ s1 σ H1 v y u w _ I1 r r1 q1) λz s2 ⟨zv,H2,I2,r2,q2⟩=>?_;exact Zc5 I2 hN hi hx r2 (λs3 I3=>⟨_,H2,I3,q2⟩) hf
 rcases l with⟨hk,hm⟩ | ⟨hk,c,hc,hcell⟩
 ·exact wpAny_loadName_local I.ok.kind hk hn hm go
 ·rcases hk with hk | hk
  ·exact wpAny_loadName_cell I.ok.kind hk hc hcell go
  ·rcases hx with k | k
   ·have:X.env.scope.names.lookup x=some .free:=hk
    rw[k]at this;cases this
   ·have:X.env.scope.names.lookup x=some .free:=hk
    rw[k]at this;cases this
def ipI (f:Int->Int->Int):TIp:=λx y H Q=>∃i j,x=.int i/\y=.int j/\Q (.int (f i j)) H
def ZoL:PIp X .Add (ipI λi j=>i+j):=by
 intro jJ s σ H x y v u Q I r1 r2 h;obtain⟨i,j,e1,e2,q⟩:=h;subst e1;subst e2;obtain⟨t,rfl⟩:=r1;obtain⟨t',rfl⟩:=r2;exact iadd_int ⟨.int _,H,I.tok _,⟨_,rfl⟩,q⟩
end
section
variable {X:Cx}{pos:Pos}
def ZoM (c:TT)(tb:TS):TS:=λD σ H=>∃W:Nat->St->Hp->Prop,(∃m,W m σ H)/\∀m σ H,W m σ H->
 c σ H λb H1=>if b=true then ∃N:St->Hp->Prop,(∀σ' H',N σ' H'->∃m',m'<m/\W m' σ' H')/\tb { D with nx:=N,ct:=N,bk:=D.nx } σ H1 else D.nx σ H1
def ZkH {c:Expr}{body:List Stmt}{tc:TT}{tb:TS}(hp:PassesOwn (xC X.prog X.w) X.A X.env X.xe)(hc:PT X c tc)(hb:WJ X body tb):PS X (.While c body [] pos) (ZoM tc tb):=by
 intro jJ s σ H D I h;obtain⟨W,⟨m0,w0⟩,turn⟩:=h;refine wpAny_While (codeAny_whileLoop (λn s'=>∃σ' H',Inv X jJ σ' H' s'/\W n σ' H') ?_ m0 ⟨σ,H,I,w0⟩);rintro n s1 ⟨σ1,H1,I1,w1⟩;refine wpAny_passesOwn hp (ZL (hc jJ s1 σ1 H1 _ I1 (turn n σ1 H1 w1)) λb s2 ⟨H2,I2,q2⟩=>?_)
 cases b with
 | true=>
  obtain⟨N,hN,q2⟩:=q2;rw[if_pos rfl];refine wpAny_passesOwn hp (ZL (hb jJ s2 σ1 H2 _ I2 q2) λf s3 q3=>?_)
  cases f with
  | next=>
   obtain⟨σ3,H3,I3,n3⟩:=q3;obtain⟨m',hm,w3⟩:=hN σ3 H3 n3;exact⟨m',hm,σ3,H3,I3,w3⟩
  | cont=>
   obtain⟨σ3,H3,I3,n3⟩:=q3;obtain⟨m',hm,w3⟩:=hN σ3 H3 n3;exact⟨m',hm,σ3,H3,I3,w3⟩
  | brk=>exact q3
  | ret v=>exact q3
 | false=>
  rw[if_neg zZ];exact wpAny_execs_nil ⟨σ1,H2,I2,q2⟩
end
structure It where
 go:Nat->Hp->Prop
 yld:Nat->Hp->V->Hp->Prop
 stop:Nat->Hp->Prop
def WF (X:Cx)(jJ:Qb)(H:Hp)(b:Addr):Prop:=
 H b=none/\b≠X.env.locals/\b∉X.fs/\(b∈X.ex∨X.s₀.heap.objs.size<=b)/\(∀x c,X.env.cells.lookup x=some c->c≠b)/\∀p∈X.pn++jJ,p.1≠b
def Inv.fpOk {X:Cx}{jJ:Qb}{σ:St}{H H':Hp}{s:Shared}{b:Addr}(I:Inv X jJ σ H s)(hb:s.heap.objs.size<=b)(hn:H' b=none):WF X jJ H' b:=by
 refine⟨hn,qa2 (qS I.lt hb),I.nofs hb,.inr (ze I.sz hb),λx c e z=>?_,λp hp z=>?_⟩
 ·obtain⟨v,q⟩:=I.cell x c e
  exact absurd (qS q.lt (by rw[z];exact hb)) (yk _)
 ·exact absurd (qS (qD (I.pin p hp).1) (by rw[z];exact hb)) (yk _)
structure Turn (P:xE)(w:World)(K:ql)(tg:Expr)(J:It)(fp:List Addr)(it:Addr)(tn:Nat->Heap->Prop):Prop where
 mem:it∈fp
 obj:∀i h,tn i h->∀b∈fp,∃o,h.get? b=some o/\∀v,o.data≠.cell v
 keep:∀i h h',tn i h->(∀b∈fp,∀o,h.get? b=some o->h'.get? b=some o)->tn i h'
 item:∀(X:Cx),X.prog=P->X.w=w->X.K=K->X.calm=true->∀(i:Nat) (jJ:Qb) (s:Shared) (σ:St) (H:Hp) (E:xG),Inv X jJ σ H s->(∀b∈fp,WF X jJ H b)->tn i s.heap->J.go i H->
  xf (xC P w) X.A (pyNext (.ref it)) (λr s1=>∃u,r=some u/\
   xf (xC P w) X.A (letOwnedTupleGo tg (.ref it) u) (λ_ s2=>∃x H',Inv X jJ σ H' s2/\ZJ x u/\J.yld i H x H'/\tn (i+1) s2.heap/\∀b∈fp,H' b=none) E s1) E s
 done:∀(X:Cx),X.prog=P->X.w=w->X.K=K->X.calm=true->∀(i:Nat) (jJ:Qb) (s:Shared) (σ:St) (H:Hp) (E:xG),Inv X jJ σ H s->(∀b∈fp,WF X jJ H b)->tn i s.heap->J.stop i H->
  xf (xC P w) X.A (pyNext (.ref it)) (λr s1=>r=none/\Inv X jJ σ H s1) E s
 self:∀(A:xF) (i:Nat) (s:Shared) (Q:xG) (E:xG),tn i s.heap->Q (.ref it) s->xf (xC P w) A (pyIter (.ref it)) Q E s
abbrev TI:=St->Hp->(It->Hp->Prop)->Prop
def PIE (X:Cx)(jJ:Qb)(σ:St)(tg:Expr)(R:It->Hp->Prop)(itv:Value)(s2:Shared):Prop:=
 ∃(it:Addr) (fp:List Addr) (tn:Nat->Heap->Prop) (J:It) (H':Hp),itv=.ref it/\Inv X jJ σ H' s2/\Turn X.prog X.w X.K tg J fp it tn/\tn 0 s2.heap/\(∀b∈fp,WF X jJ H' b)/\R J H'
def PI (X:Cx)(tg iter:Expr)(wi:TI):Prop:=
 ∀(jJ:Qb) (s:Shared) (σ:St) (H:Hp) (R:It->Hp->Prop),Inv X jJ σ H s->wi σ H R->
  xf (xC X.prog X.w) X.A (eval iter X.env) (λv s1=>xf (xC X.prog X.w) X.A (pyIter v) (PIE X jJ σ tg R) X.xe s1) X.xe s
def ZkI {M : Model}{A : xF}{E : Value -> Shared -> Prop}{s : Shared}{tg : Expr}{it : Addr}{u : Value}{o : Obj}{n : String}{vs : Array Value}{Q : Unit -> Shared -> Prop}(ho : s.heap.get? it = some o)(hc : o.cls = .type n)(hd : o.data = .fields vs)
    (hn : ["enumerate", "zip", "dict_itemiterator", "dict_reverseitemiterator", "odict_iterator", "itertools.zip_longest", "itertools.pairwise"].contains n = false) (hQ : Q () s) : xf M A (letOwnedTupleGo tg (.ref it) u) Q E s := by
  unfold letOwnedTupleGo
  cases tg <;> first
    | exact xb hQ
    | (cases u <;> first
        | exact xb hQ
        | (refine xa (wpAny_load ho ?_)
           rw[hc, hd];show xf M A (if (["enumerate", "zip", "dict_itemiterator", "dict_reverseitemiterator", "odict_iterator", "itertools.zip_longest", "itertools.pairwise"].contains n && vs[0]? == some (rawInt _)) = true then _ else _) Q E s;rw[if_neg (by intro h; rw[hn, Bool.false_and] at h; cases h)];exact xb hQ))
def Itl (K:ql)(a:Addr):It:=
 ⟨λi H=>∃xs x,ZF K H a xs/\xs[i]?=some x,λi H x H'=>H'=H/\∀xs,ZF K H a xs->xs[i]?=some x,λi H=>∃xs,ZF K H a xs/\xs.length<=i⟩
def Itt (K:ql)(a:Addr):It:=
 ⟨λi H=>∃xs x,ZS K H a xs/\xs[i]?=some x,λi H x H'=>H'=H/\∀xs,ZS K H a xs->xs[i]?=some x,λi H=>∃xs,ZS K H a xs/\xs.length<=i⟩
def B3 (lo:Int)(n:Nat):It:=⟨λi _=>i<n,λi H x H'=>H'=H/\x=.int (lo+i),λi _=>n<=i⟩
def Zjd {P:xE}{w:World}{K:ql}{tg:Expr}(a it:Addr):Turn P w K tg (Itl K a) [it] it (λi h=>h.IsListIter it a i) where
 mem:=by simp
 obj:=λi h st b hb=>by
  have e:b=it:=by simpa using hb
  subst e;obtain⟨o,e,c,d⟩:=st;exact⟨o,e,λv z=>by rw[d]at z;cases z⟩
 keep:=λi h h' st k=>st.at λo e=>k it (by simp) o e
 item:=by
  intro X hP hw hK hc i jJ s σ H E I hf st hg;subst hP hw hK;obtain⟨xs,x,hq,hx⟩:=hg;obtain⟨jL,rv,p,hz⟩:=I.list hq;obtain⟨u,hu,ru⟩:=rv.get hx;obtain⟨f0,f1,f2,f3,f4,f5⟩:=hf it (by simp);refine wpAny_pyNext_list_item st p.isList (x:=u) (by simpa using hu) λh' st' sb=>?_;have I1:Inv X jJ σ H { s with heap:=h' }:=I.turned (t':=s.toks) (λb o hb e=>(sb.2 b hb).trans e) f0 f1 f3 f4 f5;obtain⟨o,e,c,d⟩:=id st';exact⟨u,rfl,ZkI (s:={ s with heap:=h' }) e c d (by decide) ⟨x,H,I1,ru,⟨rfl,λys hy=>by rw[I.list_inj hy hq];exact hx⟩,st',λb hb=>(hf b hb).1⟩⟩
 done:=by
  intro X hP hw hK hc i jJ s σ H E I hf st hg;subst hP hw hK;obtain⟨xs,hq,hx⟩:=hg;obtain⟨jL,rv,p,hz⟩:=I.list hq;obtain⟨f0,f1,f2,f3,f4,f5⟩:=hf it (by simp);have hl:=rv.length;exact wpAny_pyNext_list_end (I.ok.hd hc) st p.isList (by simp;omega) λh' eb=>⟨rfl,I.turned (t':=s.toks) (λb o hb e=>eb b o hb e) f0 f1 f3 f4 f5⟩
 self:=λ_ _ _ _ _ st h=>wpAny_pyIter_listiter st h
def Zhd {P:xE}{w:World}{K:ql}{tg:Expr}(a it:Addr):Turn P w K tg (Itt K a) [it] it (λi h=>h.IsTupleIter it a i) where
 mem:=by simp
 obj:=λi h st b hb=>by
  have e:b=it:=by simpa using hb
  subst e;obtain⟨o,e,c,d⟩:=st;exact⟨o,e,λv z=>by rw[d]at z;cases z⟩
 keep:=λi h h' st k=>st.at λo e=>k it (by simp) o e
 item:=by
  intro X hP hw hK hc i jJ s σ H E I hf st hg;subst hP hw hK;obtain⟨xs,x,hq,hx⟩:=hg;obtain⟨jL,rv,p,hz⟩:=I.tuple hq;obtain⟨u,hu,ru⟩:=rv.get hx;obtain⟨f0,f1,f2,f3,f4,f5⟩:=hf it (by simp);refine wpAny_pyNext_tuple_item st (show s.heap.IsTuple a jL.toArray from p) (x:=u) (by simpa using hu) λh' st' sb=>?_;have I1:Inv X jJ σ H { s with heap:=h' }:=I.turned (t':=s.toks) (λb o hb e=>(sb.2 b hb).trans e) f0 f1 f3 f4 f5;obtain⟨o,e,c,d⟩:=id st';exact⟨u,rfl,ZkI (s:={ s with heap:=h' }) e c d (by decide) ⟨x,H,I1,ru,⟨rfl,λys hy=>by rw[I.tuple_inj hy hq];exact hx⟩,st',λb hb=>(hf b hb).1⟩⟩
 done:=by
  intro X hP hw hK hc i jJ s σ H E I hf st hg;subst hP hw hK;obtain⟨xs,hq,hx⟩:=hg;obtain⟨jL,rv,p,hz⟩:=I.tuple hq;obtain⟨f0,f1,f2,f3,f4,f5⟩:=hf it (by simp);have hl:=rv.length;exact wpAny_pyNext_tuple_end (I.ok.hd hc) st (show s.heap.IsTuple a jL.toArray from p) (by simp;omega) λh' eb=>⟨rfl,I.turned (t':=s.toks) (λb o hb e=>eb b o hb e) f0 f1 f3 f4 f5⟩
 self:=λ_ _ _ _ _ st h=>wpAny_pyIter_tupleiter st h
def Zhe {P:xE}{w:World}{K:ql}{tg:Expr}(it:Addr)(lo:Int)(n:Nat):Turn P w K tg (B3 lo n) [it] it (λi h=>IsRangeIter h it (lo+(i:Nat)*1) ((n:Int)-(i:Nat)) 1) where
 mem:=by simp
 obj:=λi h st b hb=>by
  have e:b=it:=by simpa using hb
  subst e;exact⟨_,st,λv z=>by
   have z':Data.fields _=Data.cell v:=z
   cases z'⟩
 keep:=λi h h' st k=>k it (by simp) _ st
 item:=by
  intro X hP hw hK hc i jJ s σ H E I hf st hg;subst hP hw hK;obtain⟨f0,f1,f2,f3,f4,f5⟩:=hf it (by simp);have W:=Walks.range (prog:=X.prog) (w:=X.w) (I.ok.hd hc) it lo 1 n;refine W.item i s _ _ hg st λv h' tk hv st' kk=>?_;obtain⟨t,rfl⟩:=hv;have I1:Inv X jJ σ H { s with heap:=h',toks:=tk }:=I.turned (λb o hb e=>kk b o (by simpa using hb) e) f0 f1 f3 f4 f5;refine⟨_,rfl,ZkI (s:={ s with heap:=h',toks:=tk }) (n:="range_iterator") st' rfl rfl (by decide) ⟨.int (lo+i),H,I1,⟨t,?_⟩,⟨rfl,rfl⟩,st',λb hb=>(hf b hb).1⟩⟩;rw[Int.mul_one]
 done:=by
  intro X hP hw hK hc i jJ s σ H E I hf st hg;subst hP hw hK;obtain⟨f0,f1,f2,f3,f4,f5⟩:=hf it (by simp);exact wpAny_pyNext_range_end (I.ok.hd hc) st (by have:n<=i:=hg;omega) λh' eb=>⟨rfl,I.turned (t':=s.toks) (λb o hb e=>eb b o hb e) f0 f1 f3 f4 f5⟩
 self:=λ_ _ _ _ _ st h=>wpAny_pyIter_rangeiter st h
section
variable {X:Cx}{tg:Expr}
def ZkJ (K:ql)(tl:TE):TI:=fun σ H R=>tl σ H λx H1=>∃a,x=.ref a/\(∃xs,ZF K H1 a xs)/\R (Itl K a) H1
def iTup (K:ql)(tl:TE):TI:=fun σ H R=>tl σ H λx H1=>∃a,x=.ref a/\(∃xs,ZS K H1 a xs)/\R (Itt K a) H1
def Zfb {l:Expr}{tl:TE}(hl:PE X l tl):PI X tg l (ZkJ X.K tl):=by
 intro jJ s σ H R I h;refine ZL (hl jJ s σ H _ I h) λv s1 ⟨x,H1,I1,r1,q1⟩=>?_;obtain⟨a,e,⟨xs,hq⟩,q⟩:=q1;subst e
 cases r1
 obtain⟨jL,rv,p,hz⟩:=I1.list hq;refine wpAny_pyIter_list p.isList ?_;refine⟨s1.heap.objs.size,[s1.heap.objs.size],_,_,H1,rfl,I1.kept (t':=s1.toks) λb o e=>qh _ e,Zjd a _,⟨_,qz _ rfl,rfl,rfl⟩,λb hb=>?_,q⟩;have e:b=s1.heap.objs.size:=by simpa using hb
 subst e;exact I1.fpOk (qq _) (I1.hok.fresh (qq _))
def ZoN {l:Expr}{tl:TE}(hl:PE X l tl):PI X tg l (iTup X.K tl):=by
 intro jJ s σ H R I h;refine ZL (hl jJ s σ H _ I h) λv s1 ⟨x,H1,I1,r1,q1⟩=>?_;obtain⟨a,e,⟨xs,hq⟩,q⟩:=q1;subst e
 cases r1
 obtain⟨jL,rv,p,hz⟩:=I1.tuple hq;refine wpAny_pyIter_tuple (show s1.heap.IsTuple a jL.toArray from p) ?_;refine⟨s1.heap.objs.size,[s1.heap.objs.size],_,_,H1,rfl,I1.kept (t':=s1.toks) λb o e=>qh _ e,Zhd a _,⟨_,qz _ rfl,rfl,rfl⟩,λb hb=>?_,q⟩;have e:b=s1.heap.objs.size:=by simpa using hb
 subst e;exact I1.fpOk (qq _) (I1.hok.fresh (qq _))
def ZfT {jJ:Qb}{σ:St}{H:Hp}{s:Shared}{R:It->Hp->Prop}{E:xG}{lo hi:Int}{t u v:Tok}{tk:Nat}(I:Inv X jJ σ H s)(h1:-(2 ^ 62)<=lo)(h2:lo<2 ^ 62)(h3:-(2 ^ 62)<=hi)(h4:hi<2 ^ 62)
  (q:R (B3 lo (hi-lo).toNat) H):xf (xC X.prog X.w) X.A (pyIter (.ref s.heap.objs.size)) (PIE X jJ σ tg R) E { s with heap:=s.heap.push { cls:=.type "range",data:=.fields #[.int lo t,.int hi u,.int 1 v] },toks:=tk }:=by
 refine wpAny_pyIter_range (IsRange.new ..) (small_one h1 h2 h3 h4) ?_;have I1:Inv X jJ σ H { s with heap:=s.heap.push { cls:=.type "range",data:=.fields #[.int lo t,.int hi u,.int 1 v] },toks:=tk }:=I.kept λb o e=>qh _ e;refine⟨(s.heap.push { cls:=.type "range",data:=.fields #[.int lo t,.int hi u,.int 1 v] }).objs.size,[(s.heap.push { cls:=.type "range",data:=.fields #[.int lo t,.int hi u,.int 1 v] }).objs.size],_,_,H,rfl,
  I1.kept (t':=tk) λb o e=>qh _ e,Zhe _ lo (hi-lo).toNat,?_,λb hb=>?_,q⟩
 ·have e1:lo+((0:Nat):Int)*1=lo:=by simp
  have e2:(((hi-lo).toNat:Nat):Int)-((0:Nat):Int)=qaa lo hi 1:=by rw[rangeSize_one];split <;> omega
  show IsRangeIter _ _ (lo+((0:Nat):Int)*1) ((((hi-lo).toNat:Nat):Int)-((0:Nat):Int)) 1;rw[e1,e2];exact qz _ rfl
 ·have e:b=(s.heap.push { cls:=.type "range",data:=.fields #[.int lo t,.int hi u,.int 1 v] }).objs.size:=by simpa using hb
  subst e;exact I1.fpOk (qq _) (I1.hok.fresh (qq _))
def ZnY (ta:TA):TI:=fun σ H R=>ta σ H λvs H1=>∃j:Int,vs=[.int j]/\-(2 ^ 62)<=j/\j<2 ^ 62/\R (B3 0 j.toNat) H1
def ZpM (ta:TA):TI:=fun σ H R=>ta σ H λvs H1=>∃i j:Int,vs=[.int i,.int j]/\(-(2 ^ 62)<=i/\i<2 ^ 62/\-(2 ^ 62)<=j/\j<2 ^ 62)/\R (B3 i (j-i).toNat) H1
def Zcc {a:Expr}{ta:TA}{p pos:Pos}(hg:Gl X "range")(hm:X.mg "range" = none)(ha:PA X [a] ta)(hs:xh [a] X.env=[(false,eval a X.env)]:=by rfl):PI X tg (.Call (.Name "range" p) [a] [] pos) (ZnY ta):=by
 intro jJ s σ H R I h;refine Call_ (Ub I hg hm boot_range (yo (ZL (ha pos jJ s σ H _ I h) λus s1 ⟨vs,H1,I1,r1,q1⟩=>?_) hs rfl));obtain⟨j,e,q1,q2,q⟩:=q1;subst e
 cases r1 with
 | cons r rr=>
  cases rr
  obtain⟨t,rfl⟩:=r;exact call_range_1 (ZfT I1 (by omega) (by omega) q1 q2 (by simpa using q))
def Zje {a b:Expr}{ta:TA}{p pos:Pos}(hg:Gl X "range")(hm:X.mg "range" = none)(ha:PA X [a,b] ta)(hs:xh [a,b] X.env=[(false,eval a X.env),(false,eval b X.env)]:=by rfl)(hs2:xh [b] X.env=[(false,eval b X.env)]:=by rfl) :
  PI X tg (.Call (.Name "range" p) [a,b] [] pos) (ZpM ta):=by
 intro jJ s σ H R I h;refine Call_ (Ub I hg hm boot_range (yo (ZL (ha pos jJ s σ H _ I h) λus s1 ⟨vs,H1,I1,r1,q1⟩=>?_) (by rw[hs,hs2]) (by rw[hs2];rfl)));obtain⟨i,j,e,⟨q1,q2,q3,q4⟩,q⟩:=q1;subst e
 cases r1 with
 | cons r rr=>
  cases rr with
  | cons r' rr=>
   cases rr
   obtain⟨t,rfl⟩:=r;obtain⟨t',rfl⟩:=r';exact call_range_2 (ZfT I1 q1 q2 q3 q4 q)
def tFor (wi:TI)(g:TG)(tb:TS):TS:=λD σ H=>wi σ H λJ H1=>∃W:Nat->Nat->St->Hp->Prop,(∃m,W 0 m σ H1)/\∀i m σ H,W i m σ H->
 (J.stop i H/\D.nx σ H)∨(J.go i H/\∃N:St->Hp->Prop,(∀σ' H',N σ' H'->∃m',m'<m/\W (i+1) m' σ' H')/\∀x H',J.yld i H x H'->g x σ H' fun σ2 H2=>tb { D with nx:=N,ct:=N,bk:=D.nx } σ2 H2)
def BH (fp:List Addr)(h:Heap):Qb:=fp.filterMap λb=>(h.get? b).map λo=>(b,o)
def Jk {fp:List Addr}{h:Heap}{b:Addr}{o:Obj}(hb:b∈fp)(e:h.get? b=some o):(b,o)∈BH fp h:=qav.mpr ⟨b,hb,by rw[e];rfl⟩
def Zjf {fp:List Addr}{h:Heap}{p:Addr×Obj}(hp:p∈BH fp h):p.1∈fp/\h.get? p.1=some p.2:=by
 obtain⟨b,hb,e⟩:=qav.mp hp
 cases q:h.get? b with
 | none=>rw[q]at e;cases e
 | some o=>
  rw[q]at e;have e':(b,o)=p:=zo e;subst e';exact⟨hb,q⟩
def Inv.pinned {jJ:Qb}{σ:St}{H:Hp}{s:Shared}{fp:List Addr}(I:Inv X jJ σ H s)(hf:∀b∈fp,WF X jJ H b)(ho:∀b∈fp,∃o,s.heap.get? b=some o/\∀v,o.data≠.cell v):Inv X (jJ++BH fp s.heap) σ H s:=
 I.pins_of λp hp=>(qP.mp hp).elim (λz=>I.pin p (qp _ z)) λz=>by
  obtain⟨hb,e⟩:=Zjf z;obtain⟨f0,f1,f2,_⟩:=hf p.1 hb;obtain⟨o,e',d⟩:=ho p.1 hb;rw[e]at e';cases e';exact⟨e,f0,f1,f2,d⟩
def Inv.unpinned {jJ pl:Qb}{σ:St}{H:Hp}{s:Shared}(I:Inv X (jJ++pl) σ H s):Inv X jJ σ H s:=I.pins_of λp hp=>I.pin p (qp _ (qY _ hp))
def ZkK {iter:Expr}{body:List Stmt}{wi:TI}{g:TG}{tb:TS}{pos:Pos}(hp:PassesOwn (xC X.prog X.w) X.A X.env X.xe)(hc:X.calm=true)(hi:PI X tg iter wi)(hg:PG X tg g)(hb:WJ X body tb)
  (hs:∀x,foldedSetIterable iter X.env x=pure x:=by intro _;rfl):PS X (.For tg iter body [] pos) (tFor wi g tb):=by
 intro jJ s σ H D I h;refine wpAny_For (ZL (hi jJ s σ H _ I h) λv s1 h1=>ZL h1 λitv s2 h2=>?_) hs;obtain⟨it,fp,tn,J,H2,e,I2,T,j6,f2,W,⟨m0,w0⟩,turn⟩:=h2;subst e
 -- what stays true of the iterator's objects through the loop
 have stat:∀{H':Hp},(∀b∈fp,H' b=none)->∀b∈fp,WF X jJ H' b:=λhn b hb=>⟨hn b hb,(f2 b hb).2⟩;refine codeAny_forLoop_any (λn s'=>∃i σ' H',Inv X jJ σ' H' s'/\tn i s'.heap/\(∀b∈fp,H' b=none)/\W i n σ' H') ?_ m0 ⟨0,σ,H2,I2,j6,λb hb=>(f2 b hb).1,w0⟩;rintro n s3 ⟨i,σ3,H3,I3,st3,fr3,w3⟩;rcases turn i n σ3 H3 w3 with⟨stop,qn⟩ | ⟨go,N,hN,step⟩
 ·refine wpAny_passesOwn hp (ZL (T.done X rfl rfl rfl hc i jJ s3 σ3 H3 X.xe I3 (stat fr3) st3 stop) λr s4 ⟨hr,I4⟩=>?_)
  subst hr;exact wpAny_execs_nil ⟨σ3,H3,I4,qn⟩
 ·refine wpAny_passesOwn hp (ZL (T.item X rfl rfl rfl hc i jJ s3 σ3 H3 X.xe I3 (stat fr3) st3 go) λr s4 ⟨u,hr,h4⟩=>?_)
  subst hr;refine wpAny_passesOwn hp (ZL h4 λ_ s5 ⟨x,H5,I5,r5,y5,st5,fr5⟩=>?_);have I5':=I5.pinned (stat fr5) (T.obj _ _ st5);refine wpAny_passesOwn hp (ZL (hg _ s5 σ3 H5 x u _ I5' r5 (step x H5 y5)) λ_ s6 ⟨σ6,H6,I6,q6⟩=>?_);refine wpAny_passesOwn hp (ZL (hb _ s6 σ6 H6 _ I6 q6) λf s7 q7=>?_);have again:∀{σ7:St} {H7:Hp},Inv X (jJ++BH fp s5.heap) σ7 H7 s7->N σ7 H7->∃m,m<n/\∃i σ' H',Inv X jJ σ' H' s7/\tn i s7.heap/\(∀b∈fp,H' b=none)/\W i m σ' H':=λ{σ7 H7} I7 n7=>by
   obtain⟨m',hm,w7⟩:=hN σ7 H7 n7;refine⟨m',hm,i+1,σ7,H7,I7.unpinned,T.keep _ _ _ st5 λb hb o e=>(I7.pin (b,o) (qp _ (qp _ (Jk hb e)))).1,λb hb=>?_,w7⟩;obtain⟨o,e,d⟩:=T.obj _ _ st5 b hb;exact(I7.pin (b,o) (qp _ (qp _ (Jk hb e)))).2.1
  cases f with
  | next=>obtain⟨σ7,H7,I7,n7⟩:=q7;exact again I7 n7
  | cont=>obtain⟨σ7,H7,I7,n7⟩:=q7;exact again I7 n7
  | brk=>obtain⟨σ7,H7,I7,q7⟩:=q7;exact⟨σ7,H7,I7.unpinned,q7⟩
  | ret v=>obtain⟨x7,σ7,H7,I7,r7,q7⟩:=q7;exact⟨x7,σ7,H7,I7.unpinned,r7,q7⟩
end
abbrev R2:=V->V->Hp->VK->Prop
def Yp (X:Cx)(f:Value->Value->Sem Value)(r:R2):Prop:=
 ∀(jJ:Qb) (s:Shared) (σ:St) (H:Hp) (x y:V) (v u:Value) (Q:VK),Inv X jJ σ H s->ZJ x v->ZJ y u->r x y H Q->
  xf (xC X.prog X.w) X.A (f v u) (EP X jJ σ Q) X.xe s
def UnR (X:Cx)(f:Value->Sem Value)(r:V->Hp->VK->Prop):Prop:=
 ∀(jJ:Qb) (s:Shared) (σ:St) (H:Hp) (x:V) (v:Value) (Q:VK),Inv X jJ σ H s->ZJ x v->r x H Q->
  xf (xC X.prog X.w) X.A (f v) (EP X jJ σ Q) X.xe s
def XB (X:Cx)(f:Value)(r:List V->Hp->VK->Prop):Prop:=
 ∀(jJ:Qb) (s:Shared) (σ:St) (H:Hp) (xs:List V) (us:List Value) (Q:VK),Inv X jJ σ H s->Zz xs us->r xs H Q->
  xf (xC X.prog X.w) X.A (call f us) (EP X jJ σ Q) X.xe s
def YK (r:R2)(ta tb:TE):TE:=fun σ H Q=>ta σ H λx H1=>tb σ H1 λy H2=>r x y H2 Q
def tUn (r:V->Hp->VK->Prop)(ta:TE):TE:=fun σ H Q=>ta σ H λx H1=>r x H1 Q
def rI (C:Int->Int->Prop)(g:Int->Int->V):R2:=λx y H Q=>∃i j,x=.int i/\y=.int j/\C i j/\Q (g i j) H
def XD (g:Int->Int->V):R2:=λx y H Q=>∃i j,x=.int i/\y=.int j/\Q (g i j) H
def rU (g:Int->V):V->Hp->VK->Prop:=λx H Q=>∃i,x=.int i/\Q (g i) H
section
variable {X:Cx}{a b c:Expr}{ta tb tc:TE}{pos:Pos}
def binT (ha:PE X a ta)(hb:PE X b tb){jJ:Qb}{s:Shared}{σ:St}{H:Hp}{R:V->V->Hp->Prop}(I:Inv X jJ σ H s)
  (h:ta σ H λx H1=>tb σ H1 λy H2=>R x y H2) {Q:xG} {f:Value->Value->Sem Value}
  (hf:∀v u s2 x y H2,Inv X jJ σ H2 s2->ZJ x v->ZJ y u->R x y H2->xf (xC X.prog X.w) X.A (f v u) Q X.xe s2) :
  xf (xC X.prog X.w) X.A (eval a X.env) (λv s₁=>xf (xC X.prog X.w) X.A (eval b X.env) (λu s₂=>xf (xC X.prog X.w) X.A (f v u) Q X.xe s₂) X.xe s₁) X.xe s:=by
 refine ZL (ha jJ s σ H _ I h) λv s1 ⟨x,H1,I1,r1,q1⟩=>?_;refine ZL (hb jJ s1 σ H1 _ I1 q1) λu s2 ⟨y,H2,I2,r2,q2⟩=>?_;exact hf v u s2 x y H2 I2 r1 r2 q2
def Xp {op:Operator}{r:R2}(ho:Yp X (binaryOp op) r)(ha:PE X a ta)(hb:PE X b tb):PE X (.BinOp a op b pos) (YK r ta tb):=by
 intro jJ s σ H Q I h;exact wpAny_BinOp (binT ha hb I h λv u s2 x y H2 I2 rx ry q=>ho jJ s2 σ H2 x y v u Q I2 rx ry q)
def ZnZ {op:UnaryOp}{r:V->Hp->VK->Prop}(ho:UnR X (unaryOp op) r)(ha:PE X a ta):PE X (.UnaryOp op a pos) (tUn r ta):=by
 intro jJ s σ H Q I h;exact UnaryOp_ (ZL (ha jJ s σ H _ I h) λv s1 ⟨x,H1,I1,r1,q1⟩=>ho jJ s1 σ H1 x v Q I1 r1 q1)
def opI {f:Value->Value->Sem Value}{C:Int->Int->Prop}{g:Int->Int->Int}
  (rule:∀(i j:Int) (t u:Tok) (s:Shared) (Q:xG) (E:xG),C i j->Q (.int (g i j) s.toks) { s with toks:=s.toks+1 }->xf (xC X.prog X.w) X.A (f (.int i t) (.int j u)) Q E s) :
  Yp X f (rI C λi j=>.int (g i j)):=by
 intro jJ s σ H x y v u Q I rx ry h;obtain⟨i,j,rfl,rfl,hc,q⟩:=h;obtain⟨t,rfl⟩:=rx;obtain⟨t',rfl⟩:=ry;exact rule i j t t' s _ _ hc ⟨.int (g i j),H,I.tok _,⟨_,rfl⟩,q⟩
def opI0 {f:Value->Value->Sem Value}{g:Int->Int->Int}
  (rule:∀(i j:Int) (t u:Tok) (s:Shared) (Q:xG) (E:xG),Q (.int (g i j) s.toks) { s with toks:=s.toks+1 }->xf (xC X.prog X.w) X.A (f (.int i t) (.int j u)) Q E s) :
  Yp X f (XD λi j=>.int (g i j)):=by
 intro jJ s σ H x y v u Q I rx ry h;obtain⟨i,j,rfl,rfl,q⟩:=h;obtain⟨t,rfl⟩:=rx;obtain⟨t',rfl⟩:=ry;exact rule i j t t' s _ _ ⟨.int (g i j),H,I.tok _,⟨_,rfl⟩,q⟩
def opB0 {f:Value->Value->Sem Value}{g:Int->Int->Bool}
  (rule:∀(i j:Int) (t u:Tok) (s:Shared) (Q:xG) (E:xG),Q (.bool (g i j)) s->xf (xC X.prog X.w) X.A (f (.int i t) (.int j u)) Q E s) :
  Yp X f (XD λi j=>.bl (g i j)):=by
 intro jJ s σ H x y v u Q I rx ry h;obtain⟨i,j,rfl,rfl,q⟩:=h;obtain⟨t,rfl⟩:=rx;obtain⟨t',rfl⟩:=ry;exact rule i j t t' s _ _ ⟨.bl (g i j),H,I,rfl,q⟩
def CDiv (i j:Int):Prop:=0<j/\j<1073741824
def CPow (i j:Int):Prop:=0<=j/\j<=1000000/\i.natAbs<2 ^ 64
def Ui (i j:Int):Prop:=(-(2 ^ 64)<i/\i<2 ^ 64)∨(-(2 ^ 64)<j/\j<2 ^ 64)
def Ui.ok {i j:Int}(h:Ui i j):IntMulOk i j:=by
 rcases h with⟨h1,h2⟩ | ⟨h1,h2⟩
 ·exact .of_left (intBits_le_64 h1 h2)
 ·exact .of_right (intBits_le_64 h1 h2)
def Uy:Yp X (binaryOp .Add) (XD λi j=>.int (i+j)):=opI0 λ_ _ _ _ _ _ _ q=>add_int q
def ZoO:Yp X (binaryOp .Sub) (XD λi j=>.int (i-j)):=opI0 λ_ _ _ _ _ _ _ q=>sub_int q
def UV:Yp X (binaryOp .Mult) (rI Ui λi j=>.int (i*j)):=opI λ_ _ _ _ _ _ _ hc q=>mul_int q hc.ok
def Zik:Yp X (binaryOp .FloorDiv) (rI CDiv λi j=>.int (i / j)):=opI λi j _ _ _ _ _ hc q=>by
 have h1:(0:Int)<j:=hc.1;have h2:j<1073741824:=hc.2;exact floordiv_int (by omega) (by rw[Int.fdiv_eq_ediv_of_nonneg i (by omega)];exact q) (.inl (PyProof.noPylong_small (by omega)))
def UW:Yp X (binaryOp .Mod) (rI (λ_ j=>0<j) λi j=>.int (i % j)):=opI λi j _ _ _ _ _ hc q=>by
 have h1:(0:Int)<j:=hc;exact mod_int' (by omega) (by rw[Int.fmod_eq_emod_of_nonneg i (by omega)];exact q)
def ZoP:Yp X (binaryOp .Pow) (rI CPow λi j=>.int (i ^ j.toNat)):=opI λ_ _ _ _ _ _ _ hc q=>pow_int_small hc.1 hc.2.1 hc.2.2 q
def unI {f:Value->Sem Value}{g:Int->Int}
  (rule:∀(i:Int) (t:Tok) (s:Shared) (Q:xG) (E:xG),Q (.int (g i) s.toks) { s with toks:=s.toks+1 }->xf (xC X.prog X.w) X.A (f (.int i t)) Q E s) :
  UnR X f (rU λi=>.int (g i)):=by
 intro jJ s σ H x v Q I rx h;obtain⟨i,rfl,q⟩:=h;obtain⟨t,rfl⟩:=rx;exact rule i t s _ _ ⟨.int (g i),H,I.tok _,⟨_,rfl⟩,q⟩
def ZkL:UnR X (unaryOp .USub) (rU λi=>.int (-i)):=unI λ_ _ _ _ _ q=>neg_int q
end
section
variable {X:Cx}{a b c:Expr}{ta tb tc:TE}{pos:Pos}
def ZkM {jJ:Qb}{σ:St}{H:Hp}{s:Shared}{Q:VK}{k k':Bool}(I:Inv X jJ σ H s)(q:Q (.bl k) H)(e:k=k'):EP X jJ σ Q (.bool k') s:=by
 subst e;exact⟨.bl k,H,I,rfl,q⟩
def Zn0:Yp X (xk .Lt) (XD λi j=>.bl (decide (i<j))):=opB0 λ_ _ _ _ _ _ _ q=>lt_int q
def ZpN:Yp X (xk .LtE) (XD λi j=>.bl (decide (i<=j))):=opB0 λ_ _ _ _ _ _ _ q=>le_int q
def ZkN:Yp X (xk .Gt) (XD λi j=>.bl (decide (j<i))):=opB0 λ_ _ _ _ _ _ _ q=>gt_int q
def Zn1:Yp X (xk .GtE) (XD λi j=>.bl (decide (j<=i))):=opB0 λ_ _ _ _ _ _ _ q=>ge_int q
def ZoQ:Yp X (xk .Is) (λx y H Q=>y=.non/\Q (.bl (decide (x=.non))) H):=by
 intro jJ s σ H x y v u Q I rx ry h;obtain⟨rfl,q⟩:=h
 cases ry
 refine is_none_gen (ZkM I q ?_)
 cases x <;> first
  | (cases rx;rfl)
  | (obtain⟨t,rfl⟩:=rx;rfl)
def ZmO:Yp X (xk .IsNot) (λx y H Q=>y=.non/\Q (.bl (!decide (x=.non))) H):=by
 intro jJ s σ H x y v u Q I rx ry h;obtain⟨rfl,q⟩:=h
 cases ry
 refine isnot_none_gen (ZkM I q ?_)
 cases x <;> first
  | (cases rx;rfl)
  | (obtain⟨t,rfl⟩:=rx;rfl)
def Yp.or {f:Value->Value->Sem Value}{r r':R2}(h:Yp X f r)(h':Yp X f r'):Yp X f (λx y H Q=>r x y H Q∨r' x y H Q):=by
 intro jJ s σ H x y v u Q I rx ry q;rcases q with q | q
 ·exact h jJ s σ H x y v u Q I rx ry q
 ·exact h' jJ s σ H x y v u Q I rx ry q
def JB (b:Expr){op:CmpOp}(h:op≠.In:=by decide)(h2:op≠.NotIn:=by decide):behindInMarks op b=false:=by
 have e1:(op==CmpOp.In)=false:=by cases op <;> first | rfl | exact absurd rfl h
 have e2:(op==CmpOp.NotIn)=false:=by cases op <;> first | rfl | exact absurd rfl h2
 cases b <;> simp[behindInMarks,e1,e2]
def ZmP {op:CmpOp}{r:R2}(ho:Yp X (xk op) r)(ha:PE X a ta)(hb:PE X b tb)(hm:behindInMarks op b=false):PE X (.Compare a [op] [b] pos) (YK r ta tb):=by
 intro jJ s σ H Q I h;exact wpAny_Compare1 (binT ha hb I h λv u s2 x y H2 I2 rx ry q=>ho jJ s2 σ H2 x y v u Q I2 rx ry q) hm
def BP (t:TE):TT:=fun σ H Q=>t σ H λx H'=>∃k,x=.bl k/\Q k H'
def BA {op:CmpOp}{r:R2}(ho:Yp X (xk op) r)(ha:PE X a ta)(hb:PE X b tb)(hm:behindInMarks op b=false):PT X (.Compare a [op] [b] pos) (BP (YK r ta tb)):=by
 intro jJ s σ H Q I h;refine wpAny_isTrue_Compare1 (ZL (ha jJ s σ H _ I h) λv s1 ⟨x,H1,I1,r1,q1⟩=>ZL (hb jJ s1 σ H1 _ I1 q1) λu s2 ⟨y,H2,I2,r2,q2⟩=>
  ZL (ho jJ s2 σ H2 x y v u _ I2 r1 r2 q2) λc s3 ⟨z,H3,I3,r3,k,e,q3⟩=>?_) hm
 subst e
 cases r3
 exact wpAny_truthy_bool ⟨H3,I3,q3⟩
def BI:(xg:Nat)<2 ^ 63:=by rw[sizeLine_eq];decide
def XI {x:V}{us:List Value}(r:Zz [x] us):∃u,us=[u]/\ZJ x u:=by
 cases r with
 | cons r1 r2=>cases r2;exact⟨_,rfl,r1⟩
def Zil {x y:V}{us:List Value}(r:Zz [x,y] us):∃u w',us=[u,w']/\ZJ x u/\ZJ y w':=by
 cases r with
 | cons r1 r2=>
  cases r2 with
  | cons r3 r4=>cases r4;exact⟨_,_,rfl,r1,r3⟩
def Zjg (hc:X.calm=true):XB X (.builtin "max") (λxs H Q=>∃i j,xs=[.int i,.int j]/\Q (.int (if j > i then j else i)) H):=by
 intro jJ s σ H xs us Q I r h;obtain⟨i,j,rfl,q⟩:=h;obtain⟨u,w',rfl,⟨t,rfl⟩,⟨t',rfl⟩⟩:=Zil r;refine max_two_ints (I.ok.hd hc) λh' tk k=>⟨_,H,I.kept k,?_,q⟩;by_cases hj:j > i
 ·rw[if_pos hj,if_pos hj];exact⟨_,rfl⟩
 ·rw[if_neg hj,if_neg hj];exact⟨_,rfl⟩
def Zjh (hc:X.calm=true):XB X (.builtin "min") (λxs H Q=>∃i j,xs=[.int i,.int j]/\Q (.int (if j<i then j else i)) H):=by
 intro jJ s σ H xs us Q I r h;obtain⟨i,j,rfl,q⟩:=h;obtain⟨u,w',rfl,⟨t,rfl⟩,⟨t',rfl⟩⟩:=Zil r;refine min_two_ints (I.ok.hd hc) λh' tk k=>⟨_,H,I.kept k,?_,q⟩;by_cases hj:j<i
 ·rw[if_pos hj,if_pos hj];exact⟨_,rfl⟩
 ·rw[if_neg hj,if_neg hj];exact⟨_,rfl⟩
def Zji:XB X (.type "int") (λxs H Q=>(∃i,xs=[.int i]/\Q (.int i) H)∨∃k,xs=[.bl k]/\Q (.int (if k then 1 else 0)) H):=by
 intro jJ s σ H xs us Q I r h;rcases h with⟨i,rfl,q⟩ | ⟨k,rfl,q⟩
 ·obtain⟨u,rfl,t,rfl⟩:=XI r
  exact call_int_int ⟨.int i,H,I,⟨_,rfl⟩,q⟩
 ·obtain⟨u,rfl,r1⟩:=XI r
  cases r1
  exact call_int_bool ⟨.int (if k then 1 else 0),H,I.tok _,⟨_,rfl⟩,q⟩
end
structure ObjM (h:Heap)(x dx C:Addr)(mA:Str->Option Value):Prop where
 obj:h.get? x=some (qbQ C dx)
 ns:h.Ns1 dx mA
 ne:dx≠x
def Zjj {h:Heap}{dx:Addr}{mA:Str->Option Value}(n:h.Ns1 dx mA):∃od,h.get? dx=some od/\∀name,qb1 name od=some (mA name):=by
 obtain⟨o,es,ep,ho,hd,hk,_,hm⟩:=n;refine⟨o,ho,λname=>?_⟩;have e:=hm name;unfold nsFind findBy at e;rw[<-Array.find?_toList]at e;unfold qb1;rw[hd];dsimp only;split
 ·rename_i y q
  rw[q]at e;exact congrArg some e
 ·rename_i q
  rw[q]at e;have a:es.toList.any (·.refKey)=false:=by
   rw[List.any_eq_false];intro y hy;obtain⟨z,t,hkey⟩:=hk y (Array.mem_toList_iff.mp hy);simp[DictEntry.refKey,hkey]
  have a':¬es.toList.any (·.refKey)=true:=by rw[a];exact zZ
  rw[if_neg a'];exact congrArg some e
def ObjM.look {h:Heap}{x dx C:Addr}{mA:Str->Option Value}(I:ObjM h x dx C mA):∃od,PySem.W.InstAt h x (qbQ C dx) C (some od)/\∀name,qb1 name od=some (mA name):=
 let ⟨od,ho,hl⟩:=Zjj I.ns
 ⟨od,⟨I.obj,rfl,rfl,ho⟩,hl⟩
section
variable {prog:xE}{w:World}{A:xF}{E:xG}{s:Shared}{K:ql}{x dx C f:Addr}{mA:Str->Option Value}{name:Str}{v:Value}
end
def jx {v:V}{o:Option Value}(r:UF (some v) o):∃u,o=some u/\ZJ v u:=by
 cases o with
 | none=>exact(show False from r).elim
 | some u=>exact⟨u,rfl,r⟩
section
variable {P:xE}{w:World}{H H':Hp}{h h':Heap}{a C dx:Addr}{fs fs':List (Str×V)}
def ZmQ (hok:YA P w H h)(e:H a=some (.ins C dx fs)):∃mA,ObjM h a dx C mA/\(∀f,UF (fs.lookup f) (mA f))/\PySem.Within mA (fs.map (·.1))/\fs.length<=1000/\H dx=some (.own a):=by
 obtain⟨d,z,ne,ob,mA,n,r,q⟩:=(show Yz P w H h a (.ins C dx fs)from hok a _ e);exact⟨mA,⟨ob,n,ne⟩,r,q,z,d⟩
end
structure Cls (K:ql)(C:Addr):Prop where
 pg:PySem.W.plainGet K C Str.empty=true
 hd:PySem.W.hasDictIn K C=true
 po:PySem.W.plainOver K C=true
 sa:PySem.W.findIn K (.ref C) "__setattr__" = some (some (.builtin "object.__setattr__"))
def Cls.get {K:ql}{C:Addr}(c:Cls K C)(f:Str):PySem.W.plainGet K C f=true:=c.pg
section
variable {X:Cx}{jJ:Qb}{σ:St}{H:Hp}{s:Shared}{a C dx:Addr}{fs:List (Str×V)}{f:Str}{v:V}{A:xF}{E:xG}
end
section
variable {X:Cx}{o e value:Expr}{f:Str}{pos pos' tpos:Pos}{ta tv:TE}
end
section
variable {X:Cx}{jJ:Qb}{σ:St}{H:Hp}{s:Shared}{A:xF}{E:xG}{Q:xG}{c:Value}{b:Bool}
inductive TyOf (K:ql)(H:Hp):V->Value->Prop where
 | non:TyOf K H .non (.type "NoneType")
 | bl (x:Bool):TyOf K H (.bl x) (.type "bool")
 | int (i:Int):TyOf K H (.int i) (.type "int")
 | str (x:Str):TyOf K H (.str x) (.type "str")
 | flt (x:UInt64):TyOf K H (.flt x) (.type "float")
 | lst {a:Addr} {xs:List V} (e:H a=some (.lst xs)):TyOf K H (.ref a) (.type "list")
 | frz {a:Addr} {o:Obj} {xs:List V} (e:H a=some (.frz o (.lst xs))):TyOf K H (.ref a) (.type "list")
 | tup {a:Addr} {xs:List V} (e:H a=some (.tup xs)):TyOf K H (.ref a) (.type "tuple")
 | dK {a:Addr} {kvs:List (Zt×V)} (e:H a=some (.dK kvs)):TyOf K H (.ref a) (.type "dict")
 | dT {a:Addr} {kvs:List (List Zt×V)} (e:H a=some (.dT kvs)):TyOf K H (.ref a) (.type "dict")
 | ins {a C dx:Addr} {fs:List (Str×V)} (e:H a=some (.ins C dx fs)) (cl:Cls K C) (ha:PySem.W.findIn K (.ref C) "__class__" = some (some (.builtin "object.__class__")))
   (hn:PySem.W.specialIn K (.builtin "object.__class__") "__get__" = some (some (.builtin "getset_descriptor.__get__"))) (htk:PySem.W.takesIn K (.builtin "object.__class__")=some true)
   (hm:PySem.W.mroIn K C (.type "object")=some true):TyOf K H (.ref a) (.ref C)
def Zjk {x:V}{u t:Value}(I:Inv X jJ σ H s)(rx:ZJ x u)(ty:TyOf X.K H x t)(e:PySem.W.kitOne X.K t c=some b)(h:∀tk,Q (.bool b) { s with toks:=tk }) :
  xf (xC X.prog X.w) A (call (.builtin "isinstance") [u,c]) Q E s:=by
 cases ty with
 | non=>cases (show u=qX from rx);exact zY PySem.W.kitx_none I.kIn yt e (λz=>nomatch z) h
 | bl y=>cases (show u=zQ y from rx);exact zY PySem.W.kitx_bool I.kIn yt e (λz=>nomatch z) h
 | int i=>obtain⟨t,q⟩:=(show ∃t,u=qbg i t from rx);cases q;exact zY PySem.W.kitx_int I.kIn yt e (λz=>nomatch z) h
 | str y=>obtain⟨t,q⟩:=(show ∃t,u=qcq y t from rx);cases q;exact zY PySem.W.kitx_str I.kIn yt e (λz=>nomatch z) h
 | flt y=>obtain⟨t,q⟩:=(show ∃t,u=Value.float y t from rx);cases q;exact zY PySem.W.kitx_float I.kIn yt e (λz=>nomatch z) h
 | @lst a xs ea=>
  cases (show u=qQ a from rx)
  obtain⟨_,_,n,_,h1⟩:=(show Yz X.prog X.w H s.heap a (.lst xs)from I.hok a _ ea);exact zY PySem.W.kitx_list I.kIn ⟨_,h1,rfl⟩ e (λz=>nomatch z) h
 | @frz a ob xs ea=>
  cases (show u=qQ a from rx)
  obtain⟨_,_,_,n,_,h1⟩:=(show Yz X.prog X.w H s.heap a (.frz ob (.lst xs))from I.hok a _ ea);exact zY PySem.W.kitx_list I.kIn ⟨_,h1,rfl⟩ e (λz=>nomatch z) h
 | @tup a xs ea=>
  cases (show u=qQ a from rx)
  obtain⟨_,_,_,p⟩:=(show Yz X.prog X.w H s.heap a (.tup xs)from I.hok a _ ea);obtain⟨o,h1,h2,_⟩:=p;exact zY PySem.W.kitx_tuple I.kIn ⟨o,h1,h2⟩ e (λz=>nomatch z) h
 | @dK a kvs ea=>
  cases (show u=qQ a from rx)
  obtain⟨_,_,vs,_,p⟩:=(show Yz X.prog X.w H s.heap a (.dK kvs)from I.hok a _ ea);obtain⟨o,es,ep,h1,h2,_⟩:=p;exact zY PySem.W.kitx_dict I.kIn ⟨o,h1,h2.1⟩ e (λz=>nomatch z) h
 | @dT a kvs ea=>
  cases (show u=qQ a from rx)
  obtain⟨_,_,xs,_,o,es,ep,h1,h2,_⟩:=(show Yz X.prog X.w H s.heap a (.dT kvs)from I.hok a _ ea);exact zY PySem.W.kitx_dict I.kIn ⟨o,h1,h2.1⟩ e (λz=>nomatch z) h
 | @ins a C dx fs ea cl ha hn htk hm=>
  cases (show u=qQ a from rx)
  obtain⟨mA,O,_⟩:=ZmQ I.hok ea;obtain⟨od,J,_⟩:=O.look;exact zY (PySem.W.kitx_own (cl.get _) cl.hd ha hn htk hm) I.kIn J e (λz=>nomatch z) h
end
structure Room (k:Nat)(A:xF):Prop where
 hd:A.handled=none
 dp:A.depth+3*k+5<recursionLimit
 un:A.units+16*k+200<cLine
 gd:A.guards=some []
def Room.mono {j k:Nat}{A:xF}(r:Room k A)(h:j<=k):Room j A:=⟨r.hd,by have:=r.dp;omega,by have:=r.un;omega,r.gd⟩
def Room.deeper {k:Nat}{A:xF}(r:Room (k+1) A)(env:Env):Room k (A.deeper env):=
 ⟨r.hd,by have:=r.dp;show A.depth+1+3*k+5<_;omega,by have:=r.un;show A.units+3+16*k+200<_;omega,r.gd⟩
def Room.in1 {k:Nat}{A:xF}(r:Room (k+1) A):Room k A.in1:=
 ⟨r.hd,by have:=r.dp;show A.depth+3*k+5<_;omega,by have:=r.un;show A.units+1+16*k+200<_;omega,r.gd⟩
def Room.depth {k:Nat}{A:xF}(r:Room k A):A.depth<recursionLimit:=by have:=r.dp;omega
def Room.units {k:Nat}{A:xF}(r:Room k A):A.units+64<cLine:=by have:=r.un;omega
def Room.units0 {k:Nat}{A:xF}(r:Room k A):A.units<cLine:=by have:=r.un;omega
def Xq:TA:=λ_ H Q=>Q [] H
def Y9 (ta:TE)(tr:TA):TA:=fun σ H Q=>ta σ H λx H1=>tr σ H1 λxs H2=>Q (x::xs) H2
section
variable {X:Cx}{e:Expr}{es:List Expr}{te:TE}{t:TA}{pos:Pos}
def Y3:PA X [] Xq:=λ_ _ _ _ H Q I h=>Calls.spliced_nil ⟨[],H,I,.nil,h⟩
def YN (ha:PE X e te)(hr:PA X es t)(hs:xh (e::es) X.env=(false,eval e X.env)::xh es X.env:=by rfl):PA X (e::es) (Y9 te t):=by
 intro pos jJ s σ H Q I h;rw[hs];show xf _ _ (spliced ((false,eval e X.env)::backTo pos (xh es X.env))) _ _ s;refine Calls.spliced_cons (ZL (ha jJ s σ H _ I h) λu s1 ⟨x,H1,I1,r1,q1⟩=>?_);exact ZL (hr pos jJ s1 σ H1 _ I1 q1) λus s2 ⟨xs,H2,I2,r2,q2⟩=>⟨x::xs,H2,I2,.cons r1 r2,q2⟩
def tTup (t:TA):TE:=fun σ H Q=>t σ H λxs H1=>xs.length<=xg/\∀p,H1 p=none->Q (.ref p) (Zi H1 p (.tup xs))
def tLst (t:TA):TE:=fun σ H Q=>t σ H λxs H1=>xs.length<=xg/\∀p,H1 p=none->Q (.ref p) (Zi H1 p (.lst xs))
def ZoR {x1}(h:PA X es t):PE X (.Tuple es x1 pos) (tTup t):=by
 intro jJ s σ H Q I hq;refine wpAny_Tuple_spliced (ZL (h pos jJ s σ H _ I hq) λus s1 ⟨xs,H1,I1,r,z,q⟩=>⟨by rw[<-r.length];exact z,?_⟩);have hf:H1 s1.heap.objs.size=none:=I1.hok.fresh (qq _);refine⟨.ref s1.heap.objs.size,Zi H1 s1.heap.objs.size (.tup xs),I1.laid (t':=s1.toks) (λb u e=>qh _ e) (qq _) ?_,rfl,q _ hf⟩;exact⟨z,us,r,⟨_,qz _ rfl,rfl,_,rfl⟩⟩
def ZoS (h:PA X es t):PE X (.List es pos) (tLst t):=by
 intro jJ s σ H Q I hq;refine wpAny_List_spliced (ZL (h pos jJ s σ H _ I hq) λus s1 ⟨xs,H1,I1,r,z,q⟩=>⟨by rw[<-r.length];exact z,?_⟩);have hf:H1 s1.heap.objs.size=none:=I1.hok.fresh (qq _);refine⟨.ref s1.heap.objs.size,Zi H1 s1.heap.objs.size (.lst xs),I1.laid (t':=s1.toks) (λb u e=>qh _ e) (qq _) ?_,rfl,q _ hf⟩;exact⟨z,us,0,r,qz _ rfl⟩
end
abbrev Sp:=List V->Hp->VK->XK->Prop
abbrev Wm:=List Env->Hp->Shared->XK->xG
structure Env0 (P:xE)(w:World)(K:ql)(mg:Str->Option Value)(base:Heap)(A:xF)(outer:List Env)(s:Shared)(H:Hp):Prop where
 frames:A.frames=some outer
 mod:Mod K mg base
 bs:∀b o,base.get? b=some o->s.heap.get? b=some o/\H b=none
 bsz:base.objs.size<=s.heap.objs.size
 funs:s.heap.FunFrames base outer
 frf:∀b∈Wl outer,H b=none
 hok:YA P w H s.heap
 bare:AllBare s.gens
def CE (outer:List Env)(P:xE)(w:World)(H:Hp)(s:Shared)(Q:VK)(u:Value)(s':Shared):Prop:=
 ∃v H',s'.os=s.os/\AllBare s'.gens/\Un (Wl outer) [] H H' s.heap s'.heap/\YA P w H' s'.heap/\ZJ v u/\Q v H'
def CR (CX:Wm)(outer:List Env)(P:xE)(w:World)(H:Hp)(s:Shared)(Q:VK)(E:XK)(r:Result)(s':Shared):Prop:=
 match r with
 | .ok (.ret u)=>CE outer P w H s Q u s'
 | .ok _=>False
 | .error e=>CX outer H s E e s'
structure FnOk (P:xE)(w:World)(K:ql)(mg:Str->Option Value)(base:Heap)(CX:Wm)(k:Nat)(f:Addr)(fd:xD)(ps:List Str)(sp:Sp):Prop where
 len:∀vs H Q E,sp vs H Q E->vs.length=ps.length
 run:∀(A:xF) (outer:List Env) (s:Shared) (H:Hp) (args:Args) (us:List Value) (vs:List V) (Q:VK) (E:XK),Room k A->Env0 P w K mg base A outer s H->BindsTo s fd args (ps.zip us)->Zz vs us->sp vs H Q E->
  xo (xC P w) A (.call (.ref f) args) (CR CX outer P w H s Q E) s
def FnOk.mono {P:xE}{w:World}{K:ql}{mg:Str->Option Value}{base:Heap}{CX:Wm}{j k:Nat}{f:Addr}{fd:xD}{ps:List Str}{sp:Sp}(F:FnOk P w K mg base CX j f fd ps sp)(h:j<=k) :
  FnOk P w K mg base CX k f fd ps sp:=⟨F.len,λA outer s H args us vs Q E hr=>F.run A outer s H args us vs Q E (hr.mono h)⟩
def FnOk.imp {P:xE}{w:World}{K:ql}{mg:Str->Option Value}{base:Heap}{CX:Wm}{k:Nat}{f:Addr}{fd:xD}{ps:List Str}{sp sp':Sp}(F:FnOk P w K mg base CX k f fd ps sp)
  (h:∀vs H Q E,sp' vs H Q E->sp vs H Q E):FnOk P w K mg base CX k f fd ps sp':=
 ⟨λvs H Q E q=>F.len vs H Q E (h _ _ _ _ q),λA outer s H args us vs Q E hr he hb hv hs=>F.run A outer s H args us vs Q E hr he hb hv (h _ _ _ _ hs)⟩
def Env0.in1 {P:xE}{w:World}{K:ql}{mg:Str->Option Value}{base:Heap}{A:xF}{outer:List Env}{s:Shared}{H:Hp}(e:Env0 P w K mg base A outer s H) :
  Env0 P w K mg base A.in1 outer s H:=⟨e.frames,e.mod,e.bs,e.bsz,e.funs,e.frf,e.hok,e.bare⟩
section
variable {X:Cx}{jJ:Qb}{σ:St}{H:Hp}{s s':Shared}
def Inv.env0 (I:Inv X jJ σ H s):Env0 X.prog X.w X.K X.mg X.base X.A X.stack s H:=
 ⟨I.ok.frames,I.ok.mod,I.bs,ze I.ok.bsz I.sz,I.stack,I.stkFree,I.hok,I.bare⟩
def Inv.after {Q:VK}{u:Value}(I:Inv X jJ σ H s)(h:CE X.stack X.prog X.w H s Q u s'):EP X jJ σ Q u s':=by
 obtain⟨v,H',os,bare,un,hok,r,q⟩:=h;obtain⟨hh,g,d,t,os'⟩:=s';obtain rfl:os'=s.os:=os;exact⟨v,H',I.call (h':=hh) (g':=g) (d':=d) (t':=t) (ch:=[]) un hok bare (λb z=>absurd z (by simp)),r,q⟩
end
def Zn2 (sp:Sp)(dvs:List V)(E:XK)(t:TA):TE:=fun σ H Q=>t σ H λvs H1=>sp (vs++dvs) H1 Q E
def Wr (K:ql)(fd:xD)(ps:List Str)(ds:List Value):Prop:=
 ∀(s:Shared) (us:List Value),K.In s.heap->(us++ds).length=ps.length->BindsTo s fd ⟨us,[]⟩ (ps.zip (us++ds))
def Wr.all {K:ql}{fd:xD}{ps:List Str}(h:∀us:List Value,us.length=ps.length->bindArgs fd ⟨us,[]⟩=pure (ps.zip us)):Wr K fd ps []:=λs us _ hl=>by
 rw[zp]at hl⊢;exact .of_eq (h us hl)
def Zfc (CX:Wm)(X:Cx)(E:XK):Prop:=∀(jJ:Qb) (σ:St) (H:Hp) (s:Shared) (e:Value) (s':Shared),Inv X jJ σ H s->CX X.stack H s E e s'->X.xe e s'
section
variable {X:Cx}{CX:Wm}{k:Nat}{f C:Addr}{fd:xD}{ps:List Str}{sp:Sp}{dvs:List V}{ds:List Value}{E:XK}{x m:Str}{p pos apos:Pos}{e o:Expr}{es:List Expr}{ta:TE}{t:TA}
def ZkO {jJ:Qb}{σ:St}{H:Hp}{s:Shared}{Q:VK}{us:List Value}{vs:List V}(F:FnOk X.prog X.w X.K X.mg X.base CX k f fd ps sp)(hr:Room k X.A)(hb:Wr X.K fd ps ds)(hd:Zz dvs ds)(hx:Zfc CX X E)
  (I:Inv X jJ σ H s) (r:Zz vs us) (h:sp (vs++dvs) H Q E):xf (xC X.prog X.w) X.A (call (.ref f) us) (EP X jJ σ Q) X.xe s:=by
 have r2:Zz (vs++dvs) (us++ds):=r.append hd;have hl:(us++ds).length=ps.length:=by rw[<-r2.length];exact F.len _ _ _ _ h
 refine xB (codeAny_mono (F.run X.A X.stack s H ⟨us,[]⟩ (us++ds) (vs++dvs) Q E hr I.env0 (hb s us I.kIn hl) r2 h) λr s' hq=>?_)
 cases r with
 | error e=>exact hx jJ σ H s e s' I hq
 | ok fl=>
  cases fl with
  | ret u=>exact I.after hq
  | next=>exact zU hq
  | brk=>exact zU hq
  | cont=>exact zU hq
def Zfd (F:FnOk X.prog X.w X.K X.mg X.base CX k f fd ps sp)(hr:Room k X.A)(hg:Gl X x)(hm:X.mg x=some (.ref f))(hk:ym X.K (.ref f)=true)(hb:Wr X.K fd ps ds)(hd:Zz dvs ds)(hx:Zfc CX X E)
  (ha:PA X (e::es) t) (hdb:(x==("__debug__" : Str))=false:=by decide) (he:xh (e::es) X.env=(false,eval e X.env)::xh es X.env:=by rfl) (hpl:(backTo pos (xh es X.env)).any (·.1)=false:=by rfl) :
  PE X (.Call (.Name x p) (e::es) [] pos) (Zn2 sp dvs E t):=by
 intro jJ s σ H Q I h;refine wpAny_Call_Name_kw (Zii I hg hm ?_ hdb);refine PySem.W.callWith_K (h₀:=X.base) I.ok.mod.kin hk (ZL (ha pos jJ s σ H _ I h) λus s1 ⟨vs,H1,I1,r,q⟩=>⟨I1.kIn,?_⟩) he hpl;exact ZkO F hr hb hd hx I1 r q
end
def PK (X:Cx)(kws:List Keyword)(t:TA):Prop:=
 ∀(pos:Pos) (jJ:Qb) (s:Shared) (σ:St) (H:Hp) (Q:List V->Hp->Prop),Inv X jJ σ H s->t σ H Q->xf (xC X.prog X.w) X.A (evalAll ((xp pos (xi kws X.env)).map (·.2))) (AP X jJ σ Q) X.xe s
section
variable {X:Cx}{CX:Wm}{k:Nat}{f C:Addr}{fd:xD}{ps ks:List Str}{sp:Sp}{E:XK}{x m:Str}{p pos apos kpos:Pos}{e o:Expr}{es:List Expr}{kws:List Keyword}{te ta:TE}{t tk:TA}{nm:Option Str}
def ZkP:PK X [] Xq:=λ_ _ _ _ H Q I h=>wpAny_evalAll_nil ⟨[],H,I,.nil,h⟩
def Zim (ha:PE X e te)(hr:PK X kws t):PK X (⟨nm,e,kpos⟩::kws) (Y9 te t):=by
 intro pos jJ s σ H Q I h;show xf _ _ (evalAll ((do let v<-eval e X.env;standAt pos;pure v)::(xp pos (xi kws X.env)).map (·.2))) _ _ s;refine wpAny_evalAll_cons (xa (ZL (ha jJ s σ H _ I h) λu s1 ⟨x,H1,I1,r1,q1⟩=>xa (wpAny_standAt (xb ?_))));exact ZL (hr pos jJ s1 σ H1 _ I1 q1) λus s2 ⟨xs,H2,I2,r2,q2⟩=>⟨x::xs,H2,I2,.cons r1 r2,q2⟩
variable {g:List Value->List Value->List Value}{gV:List V->List V->List V}
end
structure FnScope (N P:List Str)(sc:Scope):Prop where
 kind:sc.kind=.function
 co:sc.isCoroutine=false
 gen:sc.isGenerator=false
 nd:N.Nodup
 pre:N.take P.length=P
 par:∀x∈P,sc.names.lookup x=some .local∨sc.names.lookup x=some .cell
 nofree:∀y∈sc.names,y.2≠.free
def Zes {kindOf:Str->Option NameKind}{x:Str}:∀{binds:List (Str×Value)} {m:Str->Option Value},(∀v,(x,v)∉binds)->bindL kindOf binds m x=m x
 | [],_,_=>rfl
 | (n,v)::r,m,h=>by
  unfold bindL;rw[Zes λw hw=>h w (qO _ hw)];split
  ·have:x≠n:=by rintro rfl;exact h v zI
   simp[this]
  ·rfl
def Zet {kindOf:Str->Option NameKind}{x:Str}:∀{binds:List (Str×Value)} {m:Str->Option Value},(∀v,(x,v)∉binds)->bindC kindOf binds m x=m x
 | [],_,_=>rfl
 | (n,v)::r,m,h=>by
  unfold bindC;rw[Zet λw hw=>h w (qO _ hw)];split
  ·rfl
  ·have:x≠n:=by rintro rfl;exact h v zI
   simp[this]
def Zeu {kindOf:Str->Option NameKind}{x:Str}{v:Value}:∀{P:List Str} {vs:List Value} {i:Nat} {m:Str->Option Value},P.Nodup->P[i]?=some x->vs[i]?=some v->kindOf x=some .local->
  bindL kindOf (P.zip vs) m x=some v
 | [],_,_,_,_,h,_,_=>by simp at h
 | _::_,[],_,_,_,_,h,_=>by simp at h
 | p::P,w::vs,0,m,nd,h1,h2,hk=>by
  simp at h1 h2;subst h1;subst h2;show bindL kindOf ((p,w)::P.zip vs) m p=_;unfold bindL;rw[Zes λv hv=>(zC.mp nd).1 (qa3 hv).1,if_pos hk];simp
 | p::P,w::vs,i+1,m,nd,h1,h2,hk=>by
  show bindL kindOf ((p,w)::P.zip vs) m x=_;unfold bindL;exact Zeu (i:=i) (zC.mp nd).2 (by simpa using h1) (by simpa using h2) hk
def Zev {kindOf:Str->Option NameKind}{x:Str}{v:Value}:∀{P:List Str} {vs:List Value} {i:Nat} {m:Str->Option Value},P.Nodup->P[i]?=some x->vs[i]?=some v->kindOf x≠some .local->
  bindC kindOf (P.zip vs) m x=some v
 | [],_,_,_,_,h,_,_=>by simp at h
 | _::_,[],_,_,_,_,h,_=>by simp at h
 | p::P,w::vs,0,m,nd,h1,h2,hk=>by
  simp at h1 h2;subst h1;subst h2;show bindC kindOf ((p,w)::P.zip vs) m p=_;unfold bindC;rw[Zet λv hv=>(zC.mp nd).1 (qa3 hv).1,if_neg hk];simp
 | p::P,w::vs,i+1,m,nd,h1,h2,hk=>by
  show bindC kindOf ((p,w)::P.zip vs) m x=_;unfold bindC;exact Zev (i:=i) (zC.mp nd).2 (by simpa using h1) (by simpa using h2) hk
def start (N:List Str)(vs:List V):St:=vs.map some++qw (N.length-vs.length) none
def W2 (CX:Wm)(P:xE)(w:World)(K:ql)(mg:Str->Option Value)(base:Heap)(N:List Str)(qual:Str)(scope:Scope)(f:Addr)(cd:Value)(A:xF)(outer:List Env)(s:Shared)(H:Hp)(E:XK):Cx where
 prog:=P
 w:=w
 K:=K
 mg:=mg
 base:=base
 A:=A.deeper (envOfC qual scope s.heap.objs.size f cd)
 N:=N
 s₀:=s
 H₀:=H
 env:=envOfC qual scope s.heap.objs.size f cd
 outer:=outer
 stack:=envOfC qual scope s.heap.objs.size f cd::outer
 ex:=[]
 calm:=true
 fn:=λ_=>true
 pn:=[]
 xe:=λe s'=>xf (xC P w) (A.deeper (envOfC qual scope s.heap.objs.size f cd)) (leaving (envOfC qual scope s.heap.objs.size f cd) e) (λ_ s''=>CX outer H s E e s'') (λe' s''=>CX outer H s E e' s'') s'
def ZfU {sc:Scope}{n:Nat}{x:Str}(h:sc.names.lookup x=some .cell):∃c,(cellsFrom n sc.names []).lookup x=some c:=by
 have q:=qbW sc.names n [] (.inl h);exact zL.mp q
def Zjl {CX:Wm}{P:xE}{w:World}{K:ql}{mg:Str->Option Value}{base:Heap}{N ps:List Str}{qual:Str}{scope:Scope}{f:Addr}{cd:Value}{A:xF}{outer:List Env}{s s1:Shared}{H:Hp}{E:XK}{us:List Value}{vs:List V}
  (S:FnScope N ps scope) (hd:A.handled=none) (e0:Env0 P w K mg base A outer s H) (hl:vs.length=ps.length) (r:Zz vs us)
  (x:InCallC s s.heap.objs.size (bindL (envOfC qual scope s.heap.objs.size f cd).kindOf (ps.zip us) λ_=>none) (cellsFrom (s.heap.objs.size+1) scope.names []) (bindC (envOfC qual scope s.heap.objs.size f cd).kindOf (ps.zip us) λ_=>none) s1) :
  Inv (W2 CX P w K mg base N qual scope f cd A outer s H E) [] (start N vs) H s1:=by
 have hpl:ps.length<=N.length:=by have:=congrArg qaQ S.pre;rw[z0]at this;omega
 obtain⟨h1,tk,rfl,hk⟩:=x.done;have noA:∀b:Addr,b∉(W2 CX P w K mg base N qual scope f cd A outer s H E).ex:=λb z=>absurd (show b∈([]:List Addr)from z) (by simp);refine⟨⟨e0.mod,S.kind,rfl,rfl,qq _,λy z c h1 h2=>?_,λy hy=>?_,λy c _ h=>?_,λ_=>hd,qce e0.frames,.inr ⟨rfl,rfl⟩,λb z=>absurd z (noA b),e0.bs,e0.bsz,λb _ _=>noA b,λb z=>absurd z (noA b),e0.funs,e0.frf⟩,
  rfl,e0.bare,Un.kept hk,⟨_,x.toInCall.ns,λi y v h1 h2 h3=>?_⟩,λy c h=>⟨_,x.cell y c h⟩,e0.hok.fresh (qq _),λy c h=>?_,λp hp=>absurd (show p∈([]:Qb)from hp) (by simp),e0.hok.kept hk,?_⟩
 ·exact name_of_addr x.apart (zN h1) (zN h2)
 ·have hy:scope.names.lookup y=some .cell∨scope.names.lookup y=some .free:=hy
  rcases hy with hy | hy
  ·exact ZfU hy
  ·exact absurd rfl (S.nofree _ (zN hy))
 ·exact qbz (x.above y c (zN h))
 ·have hi:i<vs.length:=by
   unfold start at h2;by_cases hi:i<vs.length
   ·exact hi
   ·rw[yb (by simpa using hi)]at h2
    rw[yE]at h2;split at h2 <;> cases h2
  have ha:vs[i]?=some v:=by
   unfold start at h2;rw[zH (by simpa using hi),qt]at h2
   cases e:vs[i]? with
   | none=>rw[e]at h2;cases h2
   | some a=>rw[e]at h2;cases h2;rfl
  obtain⟨u,hu,rv⟩:=r.get ha;have hp:ps[i]?=some y:=by
   rw[<-S.pre,yU (by omega)];exact h1
  have ndP:ps.Nodup:=by rw[<-S.pre];exact S.nd.sublist (qaJ _ _)
  refine⟨u,rv,?_⟩;rcases S.par y (z9 hp)with k | k
  ·exact .inl ⟨k,Zeu ndP hp hu k⟩
  ·obtain⟨c,e⟩:=ZfU (n:=s.heap.objs.size+1) k
   refine .inr ⟨.inl k,c,e,?_⟩;have q:=x.cell y c e;rw[Zev ndP hp hu (by show scope.names.lookup y≠_;rw[k];decide)]at q;exact q
 ·exact e0.hok.fresh (qbz (x.above y c (zN h)))
 ·unfold start
  show _=N.length;rw[qJ,qd,List.length_replicate];omega
def Zn3 {CX:Wm}{P:xE}{w:World}{K:ql}{mg:Str->Option Value}{base:Heap}{k:Nat}{f:Addr}{name qual:Str}{params:Arguments}{body:List Stmt}{scope:Scope}{dV kV doc pm cdv ct oc:Value}{an od:Option Addr}
  {osl:Array (Option Value)} {N ps:List Str} {sp:Sp} (lk:K.lookup f=some ⟨oc,od,.func (yz name qual params body scope dV kV doc pm an cdv ct),osl⟩) (hcd:qaC K cdv qual=true) (S:FnScope N ps scope)
  (len:∀vs H Q E,sp vs H Q E->vs.length=ps.length)
  (hbody:∀(A:xF) (outer:List Env) (s:Shared) (H:Hp) (vs:List V) (Q:VK) (E:XK),Room k (A.deeper (envOfC qual scope s.heap.objs.size f cdv))->sp vs H Q E->
   ∃t,WJ (W2 CX P w K mg base N qual scope f cdv A outer s H E) body t/\t { nx:=λ_ H'=>Q .non H',rt:=Q } (start N vs) H) :
  FnOk P w K mg base CX (k+1) f (yz name qual params body scope dV kV doc pm an cdv ct) ps sp:=by
 refine⟨len,λA outer s H args us vs Q E hr e0 hb r hsp=>?_⟩;have hl:=len _ _ _ _ hsp;have KX:K.In s.heap:=e0.mod.kin.keeps λb o e=>(e0.bs b o e).1;have lim:s.heap.NoLimit:=e0.mod.nolimit.keeps λb o e=>(e0.bs b o e).1;have hkind:∀y∈ps.zip us,scope.names.lookup y.1=some .local∨(scope.names.lookup y.1=some .cell/\((cellsFrom (s.heap.objs.size+1) scope.names []).lookup y.1).isSome=true):=λ⟨n,v⟩ hy=>by
  rcases S.par n (qa3 hy).1 with q | q
  ·exact .inl q
  ·exact .inr ⟨q,qbW _ _ _ (.inl q)⟩
 refine codeAny_call_function hr.depth (KX _ _ lk) rfl S.co S.gen rfl (PySem.W.codeRec_of KX hcd) (hb _ _ _ _ ?_);refine wpAny_newFunctionEnv_cells S.kind hkind λenv he s1 x=>?_;subst he;refine⟨lim.keeps x.toInCall.keep,codeAny_func ?_⟩;obtain⟨t,ht,hq⟩:=hbody A outer s H vs Q E (hr.deeper _) hsp;have I:Inv (W2 CX P w K mg base N qual scope f cdv A outer s H E) [] (start N vs) H s1:=Zjl S hr.hd e0 hl r x;refine xc (ht [] s1 (start N vs) H _ I hq) (λfl s' hs=>?_) λe s' hs=>hs;have fin:∀{σ':St} {H':Hp} {v:V} {u:Value},Inv (W2 CX P w K mg base N qual scope f cdv A outer s H E) [] σ' H' s'->ZJ v u->Q v H'->CE outer P w H s Q u s':=
  λ{σ' H' v u} J rv q=>⟨v,H',J.os,J.bare,J.base,J.hok,rv,q⟩
 cases fl with
 | ret u=>
  obtain⟨v,σ',H',J,rv,q⟩:=hs;exact fin J rv q
 | next=>
  obtain⟨σ',H',J,q⟩:=hs;exact fin (v:=V.non) (u:=qX) J rfl q
 | brk=>
  obtain⟨_,_,_,q⟩:=hs;exact zU q
 | cont=>
  obtain⟨_,_,_,q⟩:=hs;exact zU q
section
variable {X:Cx}{x:Str}{p pos:Pos}{e:Expr}{es:List Expr}{t:TA}{id T:String}{r:List V->Hp->VK->Prop}
def B4 (r:List V->Hp->VK->Prop)(t:TA):TE:=fun σ H Q=>t σ H λvs H1=>r vs H1 Q
def Bu (hc:XB X (.builtin id) r)(hg:Gl X x)(hm:X.mg x=none)(hv:xj x=some (.builtin id))(ha:PA X (e::es) t)(hn:x≠"__name__":=by decide)(hdb:(x==("__debug__" : Str))=false:=by decide)
  (he:xh (e::es) X.env=(false,eval e X.env)::xh es X.env:=by rfl) (hpl:(backTo pos (xh es X.env)).any (·.1)=false:=by rfl):PE X (.Call (.Name x p) (e::es) [] pos) (B4 r t):=by
 intro jJ s σ H Q I h;refine wpAny_Call_Name_kw (Ub I hg hm hv ?_ hn hdb);exact PyProof.Rows.callWith_builtin1 (ZL (ha pos jJ s σ H _ I h) λus s1 ⟨vs,H1,I1,r1,q1⟩=>hc jJ s1 σ H1 vs us Q I1 r1 q1) he hpl
def Zbl (hc:XB X (.type T) r)(hg:Gl X x)(hm:X.mg x=none)(hv:xj x=some (.type T))(ha:PA X (e::es) t)(hn:x≠"__name__":=by decide)(hdb:(x==("__debug__" : Str))=false:=by decide)
  (he:xh (e::es) X.env=(false,eval e X.env)::xh es X.env:=by rfl) (hpl:(backTo pos (xh es X.env)).any (·.1)=false:=by rfl):PE X (.Call (.Name x p) (e::es) [] pos) (B4 r t):=by
 intro jJ s σ H Q I h;refine wpAny_Call_Name_kw (Ub I hg hm hv ?_ hn hdb);exact yo (ZL (ha pos jJ s σ H _ I h) λus s1 ⟨vs,H1,I1,r1,q1⟩=>hc jJ s1 σ H1 vs us Q I1 r1 q1) he hpl
end
end L2
namespace HT
def lexLt:List Int->List Int->Bool
 | [],[]=>false
 | [],_::_=>true
 | _::_,[]=>false
 | x::xs,y::ys=>if x=y then lexLt xs ys else decide (x<y)
def Zhf (x y:Int)(xs ys:List Int):lexLt (x::xs) (y::ys)=if x=y then lexLt xs ys else decide (x<y):=rfl
def Zd8:lexLt [] []=false:=rfl
def Zc6 (y:Int)(ys:List Int):lexLt [] (y::ys)=true:=rfl
def Zc7 (x:Int)(xs:List Int):lexLt (x::xs) []=false:=rfl
def ZkQ (A:xF)(s:Shared)(a:Int)(t:Tok)(c:Int)(u:Tok):∃e,qan A s (.int a t) (.int c u) e/\(e=true↔a=c):=
 ⟨(a==c),qan.int_int a t c u,by simp⟩
def ZkR (A:xF)(s:Shared)(a:Int)(t:Tok)(c:Int)(u:Tok)(prog:xE)(w:World)(E:xG)(Q:xG)(h:Q (.bool (decide (a<c))) s) :
  xf (xC prog w) A (richCompare .Lt (.int a t) (.int c u)) Q E s:=
 (PyProof.Rows.lt_int h:xf (xC prog w) A (xk .Lt (.int a t) (.int c u)) Q E s)
section
open PySem.SeqAt
open PySem.AutoSeq1 (wpAny_loadPart')
open PySem.MeetsSeq PySem.MeetsSeq2 PySem.MeetsSeq3
def Zd9 (l b:Addr)(items items2:Array Value)(n n2:Nat)(dd dd2:Option Addr)(sl sl2:Array (Option Value))(ns ms:List Int)(hi:IntsAre items.toList ns)(hj:IntsAre items2.toList ms) :
  Meets (Builtin.«tuple.__lt__» ⟨[.ref l,.ref b],[]⟩)
   (λ_ R s=>s.heap.get? l=some { cls:=.type "tuple",dict:=dd,data:=.seq items n,slots:=sl }/\s.heap.get? b=some { cls:=.type "tuple",dict:=dd2,data:=.seq items2 n2,slots:=sl2 }/\
    R (.ok (.ret (.bool (lexLt ns ms)))) s):=
 .of_wp λprog w A R s h=>by
  obtain⟨hp,g,d,tk,os⟩:=s;obtain⟨hl,hb,h⟩:=h;have f2:=yV;have z1:items.size=ns.length:=by rw[<-hi.length];simp
  have z2:items2.size=ms.length:=by rw[<-hj.length];simp
  wp_walk using wpAny_loadPart' hl,wpAny_loadPart' hb,wpAny_forIn_list _ (λrest b s'=>b.1=none/\s'=⟨hp,g,d,tk,os⟩/\∃(vs ws:List Value) (ns' ms':List Int),rest=vs.zip ws/\
   IntsAre vs ns'/\IntsAre ws ms'/\ns'.length+items2.size=ms'.length+items.size/\R (.ok (.ret (.bool (lexLt ns' ms')))) ⟨hp,g,d,tk,os⟩) _
  case turn=>
   rintro⟨y,x⟩ rest b s' ⟨hb',rfl,vs,ws,ns',ms',hz,hvi,hwi,jT,hR⟩
   cases hvi with
   | nil=>rw[List.zip_nil_left]at hz;cases hz
   | cons a t hvi'=>
    cases hwi with
    | nil=>rw[List.zip_nil_right]at hz;cases hz
    | cons c u hwi'=>
     rw[List.zip_cons_cons]at hz;injection hz with hyx hrest;injection hyx with hy hx;subst hy hx;rw[Zhf]at hR;simp only[qN]at jT;obtain⟨e,he,hiff⟩:=ZkQ A.in1 ⟨hp,g,d,tk,os⟩ a t c u;refine xa (he prog w _ _ ?_)
     cases e with
     | true=>
      rw[if_pos (hiff.mp rfl)]at hR
      wp_walk
      exact⟨rfl,rfl,_,_,_,_,hrest,hvi',hwi',by omega,hR⟩
     | false=>
      rw[if_neg (λq=>absurd (hiff.mpr q) zZ)]at hR;have hri:=ZkR A.in1 ⟨hp,g,d,tk,os⟩ a t c u prog w
      wp_walk using hri
      exact⟨_,rfl,by simpa using hR⟩
  case fin=>
   rintro⟨b1,b2⟩ s' ⟨hb',rfl,vs,ws,ns',ms',hz,hvi,hwi,jT,hR⟩;simp only at hb';subst hb';have hv:lexLt ns' ms'=decide (items.size<items2.size):=by
    cases hvi with
    | nil=>
     cases hwi with
     | nil=>
      simp only[yA]at jT;rw[Zd8];exact(decide_eq_false (by omega)).symm
     | cons c u hw=>
      simp only[yA,qN]at jT;rw[Zc6];exact(decide_eq_true (by omega)).symm
    | cons a t hv=>
     cases hwi with
     | nil=>
      simp only[yA,qN]at jT;rw[Zc7];exact(decide_eq_false (by omega)).symm
     | cons c u hw=>
      rw[List.zip_cons_cons]at hz
      cases hz
   rw[hv]at hR
   wp_walk
   exact⟨_,rfl,by simpa[Builtin.Tuple.tupleCompareSizes]using hR⟩
  case h=>
   exact⟨rfl,rfl,items.toList,items2.toList,ns,ms,rfl,hi,hj,by omega,h⟩
end
section
variable {prog:xE}{w:World}{A:xF}{E:xG}{s:Shared}
def lt_tupInts {l b:Addr}{items items2:Array Value}{ns ms:List Int}{Q:xG}(hl:IsTup s.heap l items)(hb:IsTup s.heap b items2)(hi:IntsAre items.toList ns)(hj:IntsAre items2.toList ms)
  (hu:A.units<cLine) (h:Q (.bool (lexLt ns ms)) s):xf (xC prog w) A (xk .Lt (.ref l) (.ref b)) Q E s:=by
 obtain⟨⟨cls,dd,data,sl⟩,ho,hc,n,hd⟩:=id hl;obtain⟨⟨cls2,dd2,data2,sl2⟩,ho2,hc2,n2,hd2⟩:=id hb;simp only at hc hd hc2 hd2;subst hc hd hc2 hd2;exact richCompare_meets_room (op:=.Lt) ⟨_,ho,rfl⟩ ⟨_,ho2,rfl⟩ PySem.F.slot_tuple_lt PySem.F.entry_tuple_lt (PySem.F.args_tuple_lt_2 _ _) (Zd9 l b items items2 n n2 dd dd2 sl sl2 ns ms hi hj)
  ⟨ho,ho2,show zQ (lexLt ns ms)≠qcf/\Q (.bool (lexLt ns ms)) s from⟨(λx=>nomatch x),h⟩⟩ hu
def cat_tup {t b:Addr}{vs ws:List Value}{Q:xG}(ht:IsTup s.heap t vs.toArray)(hb:IsTup s.heap b ws.toArray)(hv:vs≠[])
  (h1:ws=[]->Q (.ref t) s) (h2:ws≠[]->Q (.ref s.heap.objs.size) { s with heap:=s.heap.push { cls:=.type "tuple",data:=.seq (vs++ws).toArray } })
  (hsz:vs.length+ws.length<=xg):xf (xC prog w) A (binaryOp .Add (.ref t) (.ref b)) Q E s:=by
 obtain⟨⟨cls,dd,data,sl⟩,ho,hc,n,hd⟩:=id ht;obtain⟨⟨cls2,dd2,data2,sl2⟩,ho2,hc2,n2,hd2⟩:=id hb;simp only at hc hd hc2 hd2;subst hc hd hc2 hd2;have e:vs.toArray++ws.toArray=(vs++ws).toArray:=by simp
 by_cases hw:ws=[]
 ·exact concat_meets ⟨_,ho,rfl⟩ ⟨_,ho2,rfl⟩ noFill_tuple_add seq_tuple_add qaR qaE (qaw _ _)
   (tuple_addW1 t b vs.toArray ws.toArray n n2 dd dd2 sl sl2 (by simpa using hv) (by simp[hw])) ⟨ho,ho2,h1 hw⟩
 ·refine concat_meets ⟨_,ho,rfl⟩ ⟨_,ho2,rfl⟩ noFill_tuple_add seq_tuple_add qaR qaE (qaw _ _)
   (tuple_addW2 t b vs.toArray ws.toArray n n2 dd dd2 sl sl2 (by simpa using hv) (by simpa using hw) (by rw[qy,qy];exact hsz)) ⟨ho,ho2,?_⟩
  rw[e];exact h2 hw
end
end HT
namespace L2
def W8 {ns:List Int}:∀{us:List Value},Zz (ns.map V.int) us->IntsAre us ns:=by
 induction ns with
 | nil=>intro us r;rw[qa4]at r;cases r;exact .nil
 | cons n ns ih=>
  intro us r;rw[zh]at r
  cases r with
  | cons r1 r2=>
   obtain⟨t,e⟩:=r1;subst e;exact .cons n t (ih r2)
section
variable {X:Cx}{e:Expr}{te:TE}{lo hi:Option Expr}{tl th:TO}{pos p2:Pos}
def rLtT (K:ql):R2:=λx y H Q=>∃a b ns ms,x=.ref a/\y=.ref b/\ZS K H a (ns.map V.int)/\ZS K H b (ms.map V.int)/\Q (.bl (HT.lexLt ns ms)) H
def ZoT (hu:X.A.units<cLine):Yp X (xk .Lt) (rLtT X.K):=by
 intro jJ s σ H x y v u Q I rx ry h;obtain⟨a,b,ns,ms,rfl,rfl,ha,hb,q⟩:=h
 cases rx
 cases ry
 obtain⟨jL,r1,p1,_⟩:=I.tuple ha;obtain⟨j8,r2,p2,_⟩:=I.tuple hb;have i1:IntsAre jL.toArray.toList ns:=W8 r1;have i2:IntsAre j8.toArray.toList ms:=W8 r2;exact HT.lt_tupInts p1 p2 i1 i2 hu ⟨.bl (HT.lexLt ns ms),H,I,rfl,q⟩
def ZpO (K:ql):R2:=λx y H Q=>∃a b xs ys,x=.ref a/\y=.ref b/\ZS K H a xs/\ZS K H b ys/\xs≠[]/\xs.length+ys.length<=xg/\
 (ys=[]->Q (.ref a) H)/\(ys≠[]->∀p,H p=none->Q (.ref p) (Zi H p (.tup (xs++ys))))
def Zz.nil_iff {xs:List V}{us:List Value}(r:Zz xs us):us=[]↔xs=[]:=by
 cases r with
 | nil=>simp
 | cons _ _=>simp
def ZmR:Yp X (binaryOp .Add) (ZpO X.K):=by
 intro jJ s σ H x y v u Q I rx ry h;obtain⟨a,b,xs,ys,rfl,rfl,ha,hb,hx,hz,q1,q2⟩:=h
 cases rx
 cases ry
 obtain⟨jL,r1,p1,_⟩:=I.tuple ha;obtain⟨j8,r2,p2,_⟩:=I.tuple hb;refine HT.cat_tup p1 p2 (λz=>hx (r1.nil_iff.mp z)) (λz=>⟨.ref a,H,I,rfl,q1 (r2.nil_iff.mp z)⟩) (λz=>?_) (by rw[<-r1.length,<-r2.length];exact hz);refine⟨.ref s.heap.objs.size,_,I.laid (t':=s.toks) (o:=.tup (xs++ys)) (λb ob q=>qh _ q) (qq _) ?_,rfl,q2 (λw=>z (r2.nil_iff.mpr w)) _ (I.hok.fresh (qq _))⟩;exact⟨by rw[qJ];exact hz,_,r1.append r2,qcr _ _⟩
end
def V1 (n:Nat)(i:Int):Option Nat:=if 0<=i then (if i<n then some i.toNat else none)else if -(n:Int)<=i then some (i+n).toNat else none
def XY {α:Type}(xs:List α)(i:Int):Option α:=(V1 xs.length i).bind λj=>xs[j]?
def Zin {n:Nat}{i:Int}{j:Nat}(h:V1 n i=some j):seqIndex? i n=some j/\j<n/\-(n:Int)<=i/\i<n:=by
 unfold V1 at h;by_cases h0:0<=i
 ·rw[if_pos h0]at h
  by_cases h1:i<n
  ·rw[if_pos h1]at h
   have e:i.toNat=j:=zo h;exact⟨by rw[seqIndex_of h0 h1,e],by omega,by omega,h1⟩
  ·rw[if_neg h1]at h;cases h
 ·rw[if_neg h0]at h
  by_cases h1:-(n:Int)<=i
  ·rw[if_pos h1]at h
   have e:(i+n).toNat=j:=zo h;exact⟨by rw[seqIndex_neg (by omega) h1,e],by omega,h1,by omega⟩
  ·rw[if_neg h1]at h;cases h
def Zio {α:Type}{xs:List α}{i:Int}{v:α}(h:XY xs i=some v):∃j,seqIndex? i xs.length=some j/\xs[j]?=some v/\j<xs.length/\-(xs.length:Int)<=i/\i<xs.length:=by
 unfold XY at h
 cases e:V1 xs.length i with
 | none=>rw[e]at h;cases h
 | some j=>
  rw[e]at h;obtain⟨h1,h2,h3,h4⟩:=Zin e;exact⟨j,h1,h,h2,h3,h4⟩
def X8 {α:Type}{xs:List α}{j:Nat}{v:α}(h:xs[j]?=some v):XY xs (j:Int)=some v:=by
 have hj:j<xs.length:=(qM.mp h).1;have e:V1 xs.length (j:Int)=some j:=by
  unfold V1;rw[if_pos (by omega),if_pos (by omega)];simp
 unfold XY;rw[e];exact h
def Zip (b:Expr):Prop:=∀o i,subscripted b false o i=operate [o,i] (getItem o i)
def UK (X:Cx)(r:R2):Prop:=
 ∀(value slice:Expr) (jJ:Qb) (s:Shared) (σ:St) (H:Hp) (x y:V) (v u:Value) (Q:VK),Inv X jJ σ H s->ZJ x v->ZJ y u->r x y H Q->
  subscripted slice false v u=operate [v,u] (getItem v u)->xf (xC X.prog X.w) X.A (subscriptTail value slice v u) (EP X jJ σ Q) X.xe s
def MtR (X:Cx)(id:String)(r:V->List V->Hp->VK->Prop):Prop:=
 ∀(jJ:Qb) (s:Shared) (σ:St) (H:Hp) (x:V) (xs:List V) (v:Value) (us:List Value) (Q:VK),Inv X jJ σ H s->ZJ x v->Zz xs us->r x xs H Q->
  xf (xC X.prog X.w) X.A (call (.builtin id) (v::us)) (EP X jJ σ Q) X.xe s
section
variable {X:Cx}{a b:Expr}{ta tb:TE}{pos:Pos}
def UK.or {r r':R2}(h:UK X r)(h':UK X r'):UK X (λx y H Q=>r x y H Q∨r' x y H Q):=by
 intro value slice jJ s σ H x y v u Q I rx ry q hs;rcases q with q | q
 ·exact h value slice jJ s σ H x y v u Q I rx ry q hs
 ·exact h' value slice jJ s σ H x y v u Q I rx ry q hs
def Ziq {r:R2}(hr:UK X r)(ha:PE X a ta)(hb:PE X b tb)(hs:Zip b):PE X (.Subscript a b pos) (YK r ta tb):=by
 intro jJ s σ H Q I h;exact Subscript_ (binT ha hb I h λv u s2 x y H2 I2 rx ry q=>hr a b jJ s2 σ H2 x y v u Q I2 rx ry q (hs _ _))
def rIxL (K:ql):R2:=λx y H Q=>∃p xs i v,x=.ref p/\y=.int i/\ZF K H p xs/\XY xs i=some v/\Q v H
def rIxT (K:ql):R2:=λx y H Q=>∃p xs i v,x=.ref p/\y=.int i/\ZS K H p xs/\XY xs i=some v/\Q v H
def ZcP:UK X (rIxL X.K):=by
 intro value slice jJ s σ H x y v u Q I rx ry h hs;obtain⟨p,xs,i,z,rfl,rfl,hq,he,q⟩:=h
 cases rx
 obtain⟨t,rfl⟩:=ry;obtain⟨jL,r,pl,hz⟩:=I.list hq;obtain⟨j,h1,h2,h3,h4,h5⟩:=Zio he;obtain⟨w,ew,rw'⟩:=r.get h2;have hl:=r.length;have hn:=BI;have fin:EP X jJ σ Q w s:=⟨z,H,I,rw',q⟩;by_cases h0:0<=i
 ·have hj:i.toNat=j:=by
   rw[seqIndex_of h0 h5]at h1;exact zo h1
  exact item_listR pl.isList h0 (by omega) (by rw[hj];simpa using ew) fin hs
 ·have hj:(i+(jL.toArray.size:Int)).toNat=j:=by
   rw[seqIndex_neg (by omega) h4]at h1;rw[qy,<-hl];exact zo h1
  exact subscriptTail_builtinR (x:=w) pl.isList.typeIs slot_list_getitem.lookup
   (wpAny_getItem_list_neg (Q:=λr s'=>r=w/\EP X jJ σ Q r s') pl.isList (by omega) (by rw[qy] <;> omega) (by omega) (by rw[hj];simpa using ew) ⟨rfl,fin⟩) hs
def ZoU:UK X (rIxT X.K):=by
 intro value slice jJ s σ H x y v u Q I rx ry h hs;obtain⟨p,xs,i,z,rfl,rfl,hq,he,q⟩:=h
 cases rx
 obtain⟨t,rfl⟩:=ry;obtain⟨jL,r,pl,hz⟩:=I.tuple hq;obtain⟨j,h1,h2,h3,h4,h5⟩:=Zio he;obtain⟨w,ew,rw'⟩:=r.get h2;have hl:=r.length;have hn:=BI;have fin:EP X jJ σ Q w s:=⟨z,H,I,rw',q⟩;exact subscriptTail_builtinR (x:=w) pl.typeIs slot_tuple_getitem.lookup
  (getItem_tuple (j:=j) (Q:=λr s'=>r=w/\EP X jJ σ Q r s') pl (by omega) (by omega) (by rw[qy,<-hl];exact h1) (by simpa using ew) ⟨rfl,fin⟩) hs
def Zhg (jL:List Value)(n j:Nat)(u:Value):zy (·.setIfInBounds j u) { cls:=.type "list",data:=.seq jL.toArray n } = { cls:=.type "list",data:=.seq (jL.set j u).toArray n }:=by
 simp[zy]
def Inv.lst {jJ:Qb}{σ:St}{H:Hp}{s:Shared}{p:Addr}{xs:List V}(I:Inv X jJ σ H s)(h:H p=some (.lst xs)) :
  ∃(jL:List Value) (n:Nat),Zz xs jL/\s.heap.get? p=some { cls:=.type "list",data:=.seq jL.toArray n }/\xs.length<=xg:=by
 obtain⟨z,jL,n,r,e⟩:=I.hok p _ h;exact⟨jL,n,r,e,z⟩
def Inv.lstUpd {jJ:Qb}{σ:St}{H:Hp}{s:Shared}{p:Addr}{xs ys:List V}{jL its':List Value}{n n':Nat}{f:Obj->Obj}(I:Inv X jJ σ H s)(h:H p=some (.lst xs))
  (ho:s.heap.get? p=some { cls:=.type "list",data:=.seq jL.toArray n }) (hf:f { cls:=.type "list",data:=.seq jL.toArray n } = { cls:=.type "list",data:=.seq its'.toArray n' }) (r:Zz ys its') (hz:ys.length<=xg) (t:Nat) :
  Inv X jJ σ (Zi H p (.lst ys)) { s with heap:=s.heap.update p f,toks:=t }:=by
 have e:(s.heap.update p f).get? p=some { cls:=.type "list",data:=.seq its'.toArray n' }:=by
  rw[zO f ho (by rw[hf] <;> rfl),hf]
 refine I.write (x:=p) (e:=p) (by rw[h];trivial) (.inl rfl) (λb u hb q=>(zk _ _ (zg hb)).trans q) ⟨_,e⟩ ?_;exact⟨hz,its',n',r,e⟩
def Zn4:V->V->V->Hp->(Hp->Prop)->Prop:=λo i v H Q=>∃p xs k j,o=.ref p/\i=.int k/\H p=some (.lst xs)/\V1 xs.length k=some j/\Q (Zi H p (.lst (xs.set j v)))
def ZkS:PSet X Zn4:=by
 intro jJ s σ H o i v ov iv u Q I ro ri rv h;obtain⟨p,xs,k,j,rfl,rfl,hp,hj,q⟩:=h
 cases ro
 obtain⟨t,rfl⟩:=ri;obtain⟨jL,n,r,ho,hz⟩:=I.lst hp;obtain⟨h1,h2,h3,h4⟩:=Zin hj;have hl:=r.length;have hn:=BI;have I':Inv X jJ σ (Zi H p (.lst (xs.set j v))) { s with heap:=s.heap.update p (zy (·.setIfInBounds j u)) }:=
  I.lstUpd hp ho (Zhg jL n j u) (r.set rv j) (by rw[List.length_set];exact hz) s.toks
 by_cases h0:0<=k
 ·have hk:k.toNat=j:=by
   rw[seqIndex_of h0 h4]at h1;exact zo h1
  exact PySem.W.ki_setAt ho h0 (by omega) (by rw[qy,<-hl];exact h4) (by rw[hk];exact⟨_,I',q⟩)
 ·have hk:(k+(jL.toArray.size:Int)).toNat=j:=by
   rw[seqIndex_neg (by omega) h3]at h1;rw[qy,<-hl];exact zo h1
  exact PySem.W.ki_setBack ho (by omega) (by rw[qy,<-hl];exact h3) (by omega) (by rw[hk];exact⟨_,I',q⟩)
def Zaq:XB X (.builtin "len") (λxs H Q=>∃p ys,xs=[.ref p]/\(ZF X.K H p ys∨ZS X.K H p ys)/\Q (.int ys.length) H):=by
 intro jJ s σ H xs us Q I r h;obtain⟨p,ys,rfl,hq,q⟩:=h;obtain⟨u,rfl,rx⟩:=XI r
 cases rx
 have hn:=BI;rcases hq with hq | hq
 ·obtain⟨jL,r',pl,hz⟩:=I.list hq
  have jT:=r'.length;exact Calls.call_len_list pl.isList (by simp only[qy] <;> omega) ⟨.int ys.length,H,I.tok _,⟨s.toks+1,by rw[qy,jT]⟩,q⟩
 ·obtain⟨jL,r',pl,hz⟩:=I.tuple hq
  have jT:=r'.length;exact len_tuple pl (by simp only[qy] <;> omega) ⟨.int ys.length,H,I.tok _,⟨s.toks+1,by rw[qy,jT]⟩,q⟩
def Zfe:XB X (.type "list") (λxs H Q=>∃p ys,xs=[.ref p]/\(ZF X.K H p ys∨ZS X.K H p ys)/\∀l,H l=none->Q (.ref l) (Zi H l (.lst ys))):=by
 intro jJ s σ H xs us Q I r h;obtain⟨p,ys,rfl,hq,q⟩:=h;obtain⟨u,rfl,rx⟩:=XI r
 cases rx
 have fin:∀(jL:List Value),Zz ys jL->ys.length<=xg->∀(h':Heap) (c':Nat),(∀b o',s.heap.get? b=some o'->h'.get? b=some o')->
   h'.get? s.heap.objs.size=some { cls:=.type "list",dict:=none,data:=.seq jL.toArray c',slots:=#[] }->EP X jJ σ Q (.ref s.heap.objs.size) { s with heap:=h' }:=λjL r' hz h' c' kp e=>
  ⟨.ref s.heap.objs.size,_,I.laid (t':=s.toks) kp (qq _) (show Yz X.prog X.w _ h' _ (.lst ys)from⟨hz,jL,c',r',e⟩),rfl,q _ (I.hok.fresh (qq _))⟩
 rcases hq with hq | hq
 ·obtain⟨jL,r',pl,hz⟩:=I.list hq
  have jT:=r'.length;obtain⟨o,ho,hc,n,hd⟩:=pl.isList;exact call_list_seq p (.inl rfl) ho hc hd (λh' c' kp e=>fin jL r' hz h' c' kp e) (by simp only[qy] <;> omega)
 ·obtain⟨jL,r',pl,hz⟩:=I.tuple hq
  have jT:=r'.length;obtain⟨o,ho,hc,n,hd⟩:=pl;exact call_list_seq p (.inr rfl) ho hc hd (λh' c' kp e=>fin jL r' hz h' c' kp e) (by simp only[qy] <;> omega)
def Zea:XB X (.type "tuple") (λxs H Q=>∃p ys,xs=[.ref p]/\((ZF X.K H p ys/\∀l,H l=none->Q (.ref l) (Zi H l (.tup ys)))∨(ZS X.K H p ys/\Q (.ref p) H))):=by
 intro jJ s σ H xs us Q I r h;obtain⟨p,ys,rfl,h⟩:=h;obtain⟨u,rfl,rx⟩:=XI r
 cases rx
 rcases h with⟨hq,q⟩ | ⟨hq,q⟩
 ·obtain⟨jL,r',pl,hz⟩:=I.list hq
  have jT:=r'.length;refine call_tuple_list pl.isList (λh' kp=>?_) (by simp only[qy] <;> omega);have I1:Inv X jJ σ H { s with heap:=h' }:=I.kept (t':=s.toks) kp;have I2:Inv X jJ σ (Zi H h'.objs.size (.tup ys)) { s with heap:=h'.push { cls:=.type "tuple",data:=.seq jL.toArray } }:=
   I1.laid (t':=s.toks) (λb o e=>qh _ e) (qq _) (show Yz X.prog X.w _ _ _ (.tup ys)from⟨hz,jL,r',qcr _ _⟩)
  exact⟨.ref h'.objs.size,_,I2,rfl,q _ (I1.hok.fresh (qq _))⟩
 ·obtain⟨jL,r',pl,hz⟩:=I.tuple hq
  exact call_tuple_same pl ⟨.ref p,H,I,rfl,q⟩
def tyV (K:ql)(T:String)(x:V)(H:Hp):Prop:=match x with
 | .str _=>T = "str"
 | .int _=>T = "int"
 | .ref p=>(T = "list"/\∃xs,ZF K H p xs)∨(T = "tuple"/\∃o,K.lookup p=some o/\o.cls=.type "tuple"/\o.dict=none)∨
   (T = "dict"/\((∃kvs,H p=some (.dK kvs))∨∃kvs,H p=some (.dT kvs)))∨(T = "set"/\∃S n,H p=some (.set S n))
 | _=>False
def ZoV {jJ:Qb}{σ:St}{H:Hp}{s:Shared}{T:String}{x:V}{v:Value}(I:Inv X jJ σ H s)(r:ZJ x v)(ty:tyV X.K T x H) :
  s.TypeIs v T/\∀a,v=.ref a->∃ob,s.heap.get? a=some ob/\ob.dict=none:=by
 cases x with
 | str z=>
  obtain⟨t,rfl⟩:=r
  cases (show T = "str" from ty)
  exact⟨typeIs_str s z t,λ_ e=>nomatch e⟩
 | int i=>
  obtain⟨t,rfl⟩:=r
  cases (show T = "int" from ty)
  exact⟨typeIs_int s i t,λ_ e=>nomatch e⟩
 | ref p=>
  cases r
  rcases ty with⟨rfl,xs,hq⟩ | ⟨rfl,o,hk,hc,hd⟩ | ⟨rfl,hk⟩ | ⟨rfl,S,n,hk⟩
  ·obtain⟨jL,_,pl,_⟩:=I.list hq
   refine⟨pl.isList.typeIs,λa e=>?_⟩
   cases e
   obtain⟨o,n,e,c,hd,_⟩:=pl;exact⟨o,e,hd⟩
  ·refine⟨⟨o,I.kIn p o hk,hc⟩,λa e=>?_⟩
   cases e
   exact⟨o,I.kIn _ o hk,hd⟩
  ·have z:∃o,s.heap.get? p=some o/\o.ExactDict:=by
    rcases hk with⟨kvs,hk⟩ | ⟨kvs,hk⟩
    ·obtain⟨_,_,_,_,o,_,_,e,ex,_⟩:=I.hok p _ hk
     exact⟨o,e,ex⟩
    ·obtain⟨_,_,_,_,o,_,_,e,ex,_⟩:=I.hok p _ hk
     exact⟨o,e,ex⟩
   obtain⟨o,e,ex⟩:=z;refine⟨⟨o,e,ex.1⟩,λa e2=>?_⟩
   cases e2
   exact⟨o,e,ex.2.1⟩
  ·obtain⟨o,_,_,_,e,ex,_⟩:=I.hok p _ hk
   refine⟨⟨o,e,ex.1⟩,λa e2=>?_⟩
   cases e2
   exact⟨o,e,ex.2.1⟩
 | _=>exact zU ty
def VE (K:ql)(T:String)(r:V->List V->Hp->VK->Prop)(to:TE)(t:TA):TE:=fun σ H Q=>to σ H λx H1=>tyV K T x H1/\t σ H1 λxs H2=>r x xs H2 Q
variable {o e:Expr}{es:List Expr}{to:TE}{t:TA}{name:Str}{apos cpos:Pos}{T id:String}{r:V->List V->Hp->VK->Prop}
def JO (pa:PlainAttrs T)(slot:Slot T name id)(hty:typeOf (.builtin id)=pure (.type "method_descriptor"))(hm:MtR X id r)(ho:PE X o to)(ha:PA X (e::es) t)
  (hbase:xq o name X.env (eval o X.env)=eval o X.env:=by rfl)
  (hfew:((backTo cpos (xh (e::es) X.env)).all (λx=>!x.1)&&(xp cpos (xi [] X.env)).all (λx=>x.1.isSome)
   && decide ((e::es).length+([]:List Keyword).length+(if ([]:List Keyword).isEmpty then 0 else 1)<30))=true:=by rfl)
  (hline:(apos.endLine==cpos.line)=true:=by rfl) (hs:xh (e::es) X.env=(false,eval e X.env)::xh es X.env:=by rfl) (hplain:(backTo cpos (xh es X.env)).any (·.1)=false:=by rfl) :
  PE X (.Call (.Attribute o name apos) (e::es) [] cpos) (VE X.K T r to t):=by
 intro jJ s σ H Q I h;refine wpAny_Call_method_late hbase hfew hline rfl (ZL (ho jJ s σ H _ I h) λv s1 ⟨x,H1,I1,r1,ty,q1⟩=>?_);obtain⟨h1,h2⟩:=ZoV I1 r1 ty;refine⟨T,id,pa,slot,hty,h1,h2,?_⟩;have hA:=ha cpos jJ s1 σ H1 _ I1 q1;rw[hs]at hA⊢;refine Calls.callWith_builtin (by show(false||(backTo cpos (xh es X.env)).any (·.1))=false;rw[hplain] <;> rfl) (Calls.evalArgs_plain ?_);exact ZL hA λus s2 ⟨vs,H2,I2,r2,q2⟩=>hm jJ s2 σ H2 x vs v us Q I2 r1 r2 q2
end
def MtM (X:Cx)(id:String)(r:V->List V->Hp->VK->Prop):Prop:=
 ∀(jJ:Qb) (s:Shared) (σ:St) (H:Hp) (x:V) (xs:List V) (v:Value) (us:List Value) (Q:VK),Inv X jJ σ H s->ZJ x v->Zz xs us->r x xs H Q->
  xf (xC X.prog X.w) X.A (call (.builtin id) (v::us)) (EP X jJ σ Q) X.xe s
def Zz.one:∀{x:V} {us:List Value},Zz [x] us->∃u,us=[u]/\ZJ x u
 | _,_,.cons r .nil=>⟨_,rfl,r⟩
def Zz.two:∀{x y:V} {us:List Value},Zz [x,y] us->∃u v,us=[u,v]/\ZJ x u/\ZJ y v
 | _,_,_,.cons r (.cons q .nil)=>⟨_,_,rfl,r,q⟩
def Zz.eraseIdx:∀{xs:List V} {us:List Value} (i:Nat),Zz xs us->Zz (xs.eraseIdx i) (us.eraseIdx i)
 | _,_,_,.nil=>.nil
 | _,_,0,.cons _ t=>t
 | _,_,i+1,.cons r t=>.cons r (Zz.eraseIdx i t)
def Zz.rep {xs:List V}{us:List Value}(h:Zz xs us):∀k:Nat,Zz (qw k xs).flatten (qw k us).flatten
 | 0=>.nil
 | k+1=>by
  rw[ye,ye,yN,yN];exact Zz.append h (Zz.rep h k)
def Zew {α:Type}:∀(l:List α) (i:Nat),(l.eraseIdx i).length<=l.length
 | [],_=>qq _
 | _::_,0=>qbf _
 | _::r,i+1=>Nat.succ_le_succ (Zew r i)
def Zcd (jL:List Value):∀(k:Nat) (jP:List Value),
  qa5 (λx1 x2=>x1++x2) jP.toArray (qw k jL.toArray)=(jP++(qw k jL).flatten).toArray
 | 0,jP=>by simp
 | k+1,jP=>by
  have e:jP.toArray++jL.toArray=(jP++jL).toArray:=by simp
  have e2:(jP++jL)++(qw k jL).flatten=jP++(qw (k+1) jL).flatten:=by
   rw[ye,yN,yO]
  rw[<-e2,<-Zcd jL k (jP++jL),<-e,ye,List.foldl_cons]
section
variable {X:Cx}{jJ:Qb}{σ:St}{H:Hp}{s:Shared}{l b:Addr}{xs ys zs:List V}
def Inv.lset {jL its':List Value}{n:Nat}{f:Array Value->Array Value}{t':Nat}(I:Inv X jJ σ H s)(hH:H l=some (.lst xs))
  (e:s.heap.get? l=some { cls:=.type "list",data:=.seq jL.toArray n }) (hf:f jL.toArray=its'.toArray) (hv:Zz ys its') (hz:ys.length<=xg) :
  Inv X jJ σ (Zi H l (.lst ys)) { s with heap:=s.heap.update l (zy f),toks:=t' }:=by
 have q:=PySem.IsL.update e f;rw[hf]at q;refine I.write (x:=l) (e:=l) (by rw[hH];exact trivial) (.inl rfl) (λb' u hb hu=>(zk s.heap (zy f) (zg hb)).trans hu) ⟨_,q⟩ ?_;exact⟨hz,its',_,hv,q⟩
def Inv.lnew {jL:List Value}{t':Nat}(I:Inv X jJ σ H s)(hv:Zz ys jL)(hz:ys.length<=xg) :
  Inv X jJ σ (Zi H s.heap.objs.size (.lst ys)) { s with heap:=s.heap.push { cls:=.type "list",data:=.seq jL.toArray },toks:=t' }:=
 I.laid (λ_ _ q=>qh _ q) (qq _) ⟨hz,jL,0,hv,qz _ rfl⟩
def Inv.fresh (I:Inv X jJ σ H s):H s.heap.objs.size=none:=I.hok.fresh (qq _)
def Inv.lstM (I:Inv X jJ σ H s)(hH:H l=some (.lst xs)):xs.length<=xg/\∃(jL:List Value) (n:Nat),Zz xs jL/\xs.length=jL.length/\s.heap.get? l=some { cls:=.type "list",data:=.seq jL.toArray n }:=by
 obtain⟨z,jL,n,r,e⟩:=I.hok l _ hH;exact⟨z,jL,n,r,r.length,e⟩
def ZfV {n:Nat}(h:n<=xg):yW n=false:=by
 unfold yW;exact decide_eq_false (by omega)
end
section
variable {X:Cx}
def BB:V->List V->Hp->VK->Prop:=λx vs H Q=>∃l xs y,x=.ref l/\vs=[y]/\H l=some (.lst xs)/\xs.length<xg/\Q .non (Zi H l (.lst (xs ++ [y])))
def Zex:MtM X "list.append" BB:=by
 intro jJ s σ H x vs v us Q I rx rv h;obtain⟨l,xs,y,rfl,rfl,hH,hz,q⟩:=h
 cases rx
 obtain⟨u,rfl,ru⟩:=rv.one;obtain⟨z,jL,n,r,hl,e⟩:=I.lstM hH;refine call_meets F.slot_list_append ⟨_,e,rfl⟩ F.entry_list_append (F.args_list_append_2 _ _) (PySem.list_append l jL.toArray n u (by rw[qy];omega)) ⟨e,?_⟩;refine⟨.non,_,I.lset (its':=jL ++ [u]) hH e (by simp) (r.append (.cons ru .nil)) ?_,rfl,q⟩;rw[qJ,zW];omega
def ZcQ:V->List V->Hp->VK->Prop:=λx vs H Q=>∃l b xs zs,x=.ref l/\vs=[.ref b]/\H l=some (.lst xs)/\H b=some (.lst zs)/\xs.length+zs.length<=xg/\Q .non (Zi H l (.lst (xs++zs)))
def Zjm:MtM X "list.extend" ZcQ:=by
 intro jJ s σ H x vs v us Q I rx rv h;obtain⟨l,b,xs,zs,rfl,rfl,hH,hB,hz,q⟩:=h
 cases rx
 obtain⟨u,rfl,ru⟩:=rv.one
 cases ru
 obtain⟨z,jL,n,r,hl,e⟩:=I.lstM hH;obtain⟨z2,j8,n2,r2,hl2,e2⟩:=I.lstM hB;have hsz:jL.toArray.size+j8.toArray.size<=xg:=by rw[qy,qy];omega
 have hlong:¬(!jL.toArray.isEmpty&&yW (jL.toArray.size+j8.toArray.size))=true:=by
  rw[ZfV hsz,Bool.and_false];exact zZ
 refine call_meets F.slot_list_extend ⟨_,e,rfl⟩ F.entry_list_extend (F.args_list_extend_2 _ _)
  (AutoSeq1.list_extend_list_list_0 l jL.toArray n b j8.toArray n2 hlong (by rw[qy];omega) (by omega)) ⟨e,e2,?_⟩
 refine⟨.non,_,I.lset (its':=jL++j8) hH e (by simp) (r.append r2) ?_,rfl,q⟩;rw[qJ];omega
def Zhh:V->List V->Hp->VK->Prop:=λx vs H Q=>∃l xs i k y,x=.ref l/\vs=[.int i]/\H l=some (.lst xs)/\-(2 ^ 63)<=i/\i<2 ^ 63/\seqIndex? i xs.length=some k/\xs[k]?=some y/\Q y (Zi H l (.lst (xs.eraseIdx k)))
def ZfW:MtM X "list.pop" Zhh:=by
 intro jJ s σ H x vs v us Q I rx rv h;obtain⟨l,xs,i,k,y,rfl,rfl,hH,h1,h2,hk,hy,q⟩:=h
 cases rx
 obtain⟨u,rfl,ru⟩:=rv.one;obtain⟨t,rfl⟩:=ru;obtain⟨z,jL,n,r,hl,e⟩:=I.lstM hH;obtain⟨w,hw,rw'⟩:=r.get hy;refine call_meets F.slot_list_pop ⟨_,e,rfl⟩ F.entry_list_pop (F.args_list_pop_2 _ _)
  (MeetsSeq.list_pop_at l jL.toArray n i t k w (fitsIndex_both h1 h2) (by rw[qy,<-hl];exact hk) (by rw[<-zP];exact hw) (by rw[qy];omega)) ⟨e,?_⟩
 refine⟨y,_,I.lset (its':=jL.eraseIdx k) hH e ?_ (r.eraseIdx k) ?_,rw',q⟩
 ·show jL.toArray.eraseIdxIfInBounds k=(jL.eraseIdx k).toArray
  rw[List.eraseIdxIfInBounds_toArray]
 ·have:=Zew xs k
  omega
def rCat:R2:=λx y H Q=>∃l b xs zs,x=.ref l/\y=.ref b/\H l=some (.lst xs)/\H b=some (.lst zs)/\xs.length+zs.length<=xg/\∀p,H p=none->Q (.ref p) (Zi H p (.lst (xs++zs)))
def ZoW:Yp X (binaryOp .Add) rCat:=by
 intro jJ s σ H x y v u Q I rx ry h;obtain⟨l,b,xs,zs,rfl,rfl,hH,hB,hz,q⟩:=h
 cases rx
 cases ry
 obtain⟨z,jL,n,r,hl,e⟩:=I.lstM hH;obtain⟨z2,j8,n2,r2,hl2,e2⟩:=I.lstM hB;refine PySem.P.add_list e e2 ?_ (by rw[qy,qy];omega);have ea:jL.toArray++j8.toArray=(jL++j8).toArray:=by simp
 rw[ea];exact⟨.ref _,_,I.lnew (t':=s.toks) (r.append r2) (by rw[qJ];omega),rfl,q _ I.fresh⟩
def rRep:R2:=λx y H Q=>∃l k xs,x=.ref l/\y=.int k/\H l=some (.lst xs)/\-(2 ^ 63)<=k/\k<2 ^ 63/\xs.length*k.toNat<=xg/\
 ∀p,H p=none->Q (.ref p) (Zi H p (.lst (qw k.toNat xs).flatten))
def Zff {α:Type}(xs:List α)(k:Nat):(qw k xs).flatten.length=k*xs.length:=by
 induction k with
 | zero=>simp
 | succ k ih=>rw[ye,yN,qJ,ih,Nat.succ_mul,Nat.add_comm]
def ZoX:Yp X (binaryOp .Mult) rRep:=by
 intro jJ s σ H x y v u Q I rx ry h;obtain⟨l,k,xs,rfl,rfl,hH,h1,h2,hz,q⟩:=h
 cases rx
 obtain⟨t,rfl⟩:=ry;obtain⟨z,jL,n,r,hl,e⟩:=I.lstM hH;have jT:jL.toArray.size*k.toNat<=xg:=by rw[qy,<-hl];exact hz
 have hcap:¬jL.toArray.size*k.toNat > (2 ^ 63-1) / 8:=by
  have:(xg:Nat)<=(2 ^ 63-1) / 8:=by decide
  omega
 have hfit:¬(!Builtin.List.listFitsIndex k)=true:=by
  rw[fitsIndex_both h1 h2];exact zZ
 have hlong:¬yW (jL.toArray.size*k.toNat)=true:=by
  rw[ZfV jT];exact zZ
 have hnew:qa5 (λx1 x2=>x1++x2) #[] (qw (if jL.toArray.isEmpty=true then 0 else k.toNat) jL.toArray)=(qw k.toNat jL).flatten.toArray:=by
  have f0:∀m:Nat,qa5 (λx1 x2=>x1++x2) #[] (qw m jL.toArray)=(qw m jL).flatten.toArray:=λm=>by
   have:=Zcd jL m [];rw[qbR]at this;exact this
  rw[f0]
  cases jL with
  | nil=>simp
  | cons a r'=>rw[if_neg (by simp)]
 refine wpAny_binaryOp_repeat_ref (T:="list") (U:="int") (by decide) ⟨_,e,rfl⟩ (λs'=>typeIs_int s' k t) noFill_list_mul qa6 yB repeat_list qaY.lookup
  (call_meets yB (typeIs_int s k t) qaZ (qaK _ _) (int___rmul___int_list k t l jL.toArray n)
   ⟨e,rfl,⟨_,e,rfl⟩,call_meets F.slot_list_mul ⟨_,e,rfl⟩ F.entry_list_mul (F.args_list_mul_2 _ _) (AutoListH.list___mul___list_int_3 l jL.toArray n k t hfit hcap hlong) ⟨e,?_⟩⟩)
 rw[hnew];exact⟨.ref _,_,I.lnew (t':=s.toks) (r.rep k.toNat) (by rw[Zff,qcs];exact hz),rfl,q _ I.fresh⟩
end
section
variable {prog:xE}{w:World}{A:xF}{E:xG}{s:Shared}
end
section
variable {X:Cx}
end
section
variable {κ:Type}[DecidableEq κ]
def ZY (kvs:List (κ×V))(k:κ):Option V:=(kvs.find? λkv=>decide (kv.1=k)).map (·.2)
def Z9 (kvs:List (κ×V))(k:κ)(v:V):List (κ×V):=
 if (kvs.any λkv=>decide (kv.1=k))=true then kvs.map (λkv=>if kv.1=k then (kv.1,v)else kv)else kvs ++ [(k,v)]
def X5 {p:κ×V}{r:List (κ×V)}{k:κ}(e:p.1=k):ZY (p::r) k=some p.2:=by simp[ZY,yM,e]
def X6 {p:κ×V}{r:List (κ×V)}{k:κ}(e:¬p.1=k):ZY (p::r) k=ZY r k:=by simp[ZY,yM,e]
def Bv (k:κ):∀kvs:List (κ×V),(kvs.any λkv=>decide (kv.1=k))=(ZY kvs k).isSome
 | []=>rfl
 | p::r=>by
  rw[qao];by_cases e:p.1=k
  ·simp only[X5 e,decide_eq_true e,Bool.true_or,Option.isSome_some]
  ·rw[X6 e,decide_eq_false e,Bool.false_or];exact Bv k r
def ZfX (k j:κ)(y:V):∀kvs:List (κ×V),ZY (kvs.map λkv=>if kv.1=k then (kv.1,y)else kv) j=(ZY kvs j).map λx=>if j=k then y else x
 | []=>rfl
 | p::r=>by
  have ih:=ZfX k j y r;rw[zh];by_cases h:p.1=k
  ·rw[if_pos h]
   by_cases e:p.1=j
   ·rw[X5 (p:=(p.1,y)) e,X5 e,zS,if_pos (e.symm.trans h)]
   ·rw[X6 (p:=(p.1,y)) e,X6 e,ih]
  ·rw[if_neg h]
   by_cases e:p.1=j
   ·rw[X5 (p:=p) e,X5 e,zS,if_neg (λz=>h (e.trans z))]
   ·rw[X6 (p:=p) e,X6 e,ih]
def Zey (k j:κ)(y:V):∀kvs:List (κ×V),ZY kvs k=none->ZY (kvs ++ [(k,y)]) j=if j=k then some y else ZY kvs j
 | [],_=>by
  by_cases e:k=j
  ·rw[if_pos e.symm];exact X5 (p:=(k,y)) e
  ·rw[if_neg (λz=>e z.symm)];exact X6 (p:=(k,y)) e
 | p::r,hn=>by
  rw[qbA];have hk:¬p.1=k:=λz=>by rw[X5 z]at hn;cases hn
  rw[X6 hk]at hn;have ih:=Zey k j y r hn;by_cases e:p.1=j
  ·rw[X5 e,X5 e,if_neg (λz=>hk (e.trans z))]
  ·rw[X6 e,X6 e,ih]
def Zc8 (kvs:List (κ×V))(k j:κ)(y:V):ZY (Z9 kvs k y) j=if j=k then some y else ZY kvs j:=by
 unfold Z9;by_cases a:(kvs.any λkv=>decide (kv.1=k))=true
 ·rw[if_pos a,ZfX]
  rw[Bv]at a;by_cases e:j=k
  ·obtain⟨x,hx⟩:=zL.mp a
   rw[if_pos e,e,hx,zS,if_pos rfl]
  ·rw[if_neg e]
   cases ZY kvs j with
   | none=>rfl
   | some x=>rw[zS,if_neg e]
 ·rw[if_neg a]
  refine Zey k j y kvs ?_;rw[Bv]at a
  cases q:ZY kvs k with
  | none=>rfl
  | some x=>rw[q]at a;exact(a rfl).elim
def Up (kvs:List (κ×V))(k:κ)(v:V):(Z9 kvs k v).length<=kvs.length+1:=by
 unfold Z9;split
 ·rw[qd];omega
 ·rw[qJ,qN,yA];omega
def Zc9 {kvs:List (κ×V)}{k:κ}(v:V)(h:ZY kvs k=none):Z9 kvs k v=kvs ++ [(k,v)]:=by
 unfold Z9;rw[Bv,h];exact if_neg (by decide)
def UF.isSome_eq {o:Option V}{u:Option Value}(r:UF o u):o.isSome=u.isSome:=by
 cases o with
 | none=>cases u with
  | none=>rfl
  | some _=>exact(show False from r).elim
 | some _=>cases u with
  | none=>exact(show False from r).elim
  | some _=>rfl
def KV.val {kvs:List (κ×V)}{vs:List (κ×Value)}(r:KV kvs vs)(k:κ):UF (ZY kvs k) (valueAt vs k):=by
 unfold KV at r
 induction r with
 | nil=>exact yt
 | @cons p q ps qs h t ih=>
  obtain⟨h1,h2⟩:=h;by_cases e:p.1=k
  ·have e':q.1=k:=h1.symm.trans e
   have b:valueAt (q::qs) k=some q.2:=by simp[valueAt,yM,e']
   rw[X5 e,b];exact h2
  ·have e':¬q.1=k:=λz=>e (h1.trans z)
   have b:valueAt (q::qs) k=valueAt qs k:=by simp[valueAt,yM,e']
   rw[X6 e,b];exact ih
def KV.any {kvs:List (κ×V)}{vs:List (κ×Value)}(r:KV kvs vs)(k:κ):(kvs.any λkv=>decide (kv.1=k))=vs.any λkv=>decide (kv.1=k):=by
 unfold KV at r
 induction r with
 | nil=>rfl
 | cons h t ih=>rw[qao,qao,ih,h.1]
def KV.repl {kvs:List (κ×V)}{vs:List (κ×Value)}(r:KV kvs vs)(k:κ){y:V}{u:Value}(ry:ZJ y u) :
  KV (kvs.map λkv=>if kv.1=k then (kv.1,y)else kv) (vs.map λkv=>if kv.1=k then (kv.1,u)else kv):=by
 unfold KV at r⊢
 induction r with
 | nil=>exact .nil
 | @cons p q ps qs h t ih=>
  rw[zh,zh];refine .cons ?_ ih;obtain⟨h1,h2⟩:=h;by_cases e:p.1=k
  ·rw[if_pos e,if_pos (h1.symm.trans e)];exact⟨h1,ry⟩
  ·rw[if_neg e,if_neg (λz=>e (h1.trans z))];exact⟨h1,h2⟩
def KV.put {kvs:List (κ×V)}{vs:List (κ×Value)}(r:KV kvs vs)(k:κ){y:V}{u:Value}(ry:ZJ y u):KV (Z9 kvs k y) (stored vs k u):=by
 unfold Z9 stored;rw[r.any k];by_cases e:(vs.any λkv=>decide (kv.1=k))=true
 ·rw[if_pos e,if_pos e];exact r.repl k ry
 ·rw[if_neg e,if_neg e];exact Paired.snoc r ⟨rfl,ry⟩
def KV.length {kvs:List (κ×V)}{vs:List (κ×Value)}(r:KV kvs vs):kvs.length=vs.length:=qaX r
end
def UZ {P:xE}{w:World}{k:Zt}{u:Value}(r:ZJ (kV k) u):(Wo P w).is k u=true:=by
 cases k with
 | inl i=>obtain⟨t,e⟩:=(show ∃t,u=qbg i t from r);subst e;exact ZfQ P w i t
 | inr x=>obtain⟨t,e⟩:=(show ∃t,u=qcq x t from r);subst e;exact ZfR P w x t
def Zez {P:xE}{w:World}:∀{ks:List Zt} {us:List Value},Zz (ks.map kV) us->ItemsAre (Wo P w) ks us
 | [],_,r=>by rw[qa4]at r;cases r;exact .nil
 | k::ks,_,r=>by
  rw[zh]at r
  cases r with
  | cons h t=>exact .cons (UZ h) (Zez t)
abbrev KT (H:Hp):List (List Zt×V)->List (List Zt×Addr×Value)->Prop:=Paired λp q=>p.1=q.1/\H q.2.1=some (.tup (p.1.map kV))/\ZJ p.2 q.2.2
def KT.val {H:Hp}{kvs:List (List Zt×V)}{xs:List (List Zt×Addr×Value)}(r:KT H kvs xs)(k:List Zt):UF (ZY kvs k) ((atKey xs k).map (·.2)):=by
 induction r with
 | nil=>exact yt
 | @cons p q ps qs h t ih=>
  obtain⟨h1,_,h2⟩:=h;by_cases e:p.1=k
  ·have e':q.1=k:=h1.symm.trans e
   have b:atKey (q::qs) k=some q.2:=by simp[atKey,yM,e']
   rw[X5 e,b];exact h2
  ·have e':¬q.1=k:=λz=>e (h1.trans z)
   have b:atKey (q::qs) k=atKey qs k:=by simp[atKey,yM,e']
   rw[X6 e,b];exact ih
def KT.repl {H:Hp}{kvs:List (List Zt×V)}{xs:List (List Zt×Addr×Value)}(r:KT H kvs xs)(k:List Zt){y:V}{u:Value}(ry:ZJ y u) :
  KT H (kvs.map λkv=>if kv.1=k then (kv.1,y)else kv) (xs.map (putAt k u)):=by
 induction r with
 | nil=>exact .nil
 | @cons p q ps qs h t ih=>
  rw[zh,zh];refine .cons ?_ ih;obtain⟨h1,h2,h3⟩:=h;unfold putAt;by_cases e:p.1=k
  ·rw[if_pos e,if_pos (h1.symm.trans e)];exact⟨h1,h2,ry⟩
  ·rw[if_neg e,if_neg (λz=>e (h1.trans z))];exact⟨h1,h2,h3⟩
def KT.put {H:Hp}{kvs:List (List Zt×V)}{xs:List (List Zt×Addr×Value)}(r:KT H kvs xs)(k:List Zt){b:Addr}{y:V}{u:Value}(hb:H b=some (.tup (k.map kV)))(ry:ZJ y u) :
  KT H (Z9 kvs k y) (storedH xs k b u):=by
 have e:(kvs.any λkv=>decide (kv.1=k))=(atKey xs k).isSome:=by
  rw[Bv,(r.val k).isSome_eq,qbu]
 unfold Z9 storedH;rw[e];by_cases q:(atKey xs k).isSome=true
 ·rw[if_pos q,if_pos q];exact r.repl k ry
 ·rw[if_neg q,if_neg q];exact Paired.snoc r ⟨rfl,hb,ry⟩
def KT.keeps {H H':Hp}{kvs:List (List Zt×V)}{xs:List (List Zt×Addr×Value)}(r:KT H kvs xs)(ht:∀b ys,H b=some (.tup ys)->H' b=some (.tup ys)):KT H' kvs xs:=
 ju r λ_ _ z=>⟨z.1,ht _ _ z.2.1,z.2.2⟩
section
variable {P:xE}{w:World}{H:Hp}{h:Heap}{a:Addr}
def Zn5 {u:HO}(ok:YA P w H h)(e:Rd H a u):Yz P w H h a u:=e.ok ok
def BQ {kvs:List (Zt×V)}(ok:YA P w H h)(e:Rd H a (.dK kvs)):kvs.length<=xg/\(a==sysModules)=false/\∃vs,KV kvs vs/\h.DictOf (Wo P w) a vs:=
 show Yz P w H h a (.dK kvs)from Zn5 ok e
def ZkT {kvs:List (Zt×V)}(ok:YA P w H h)(e:H a=some (.dK kvs)):kvs.length<=xg/\(a==sysModules)=false/\∃vs,KV kvs vs/\h.DictOf (Wo P w) a vs:=BQ ok (.inl e)
def JC {ks:List Zt}(ok:YA P w H h)(e:H a=some (.tup (ks.map kV))):(tupleKind (Wo P w)).is h ks a:=by
 obtain⟨_,jL,r,o,h1,h2,n,h3⟩:=(show Yz P w H h a (.tup (ks.map kV))from ok a _ e);exact⟨o,jL.toArray,n,h1,h2,h3,by simpa using Zez r⟩
def BR {kvs:List (List Zt×V)}(ok:YA P w H h)(e:Rd H a (.dT kvs)):kvs.length<=xg/\(a==sysModules)=false/\
  ∃xs,KT H kvs xs/\h.DictOfH (tupleKind (Wo P w)) a xs:=by
 obtain⟨z,y,xs,r,o,es,ep,h1,h2,h3,h4,h5⟩:=(show Yz P w H h a (.dT kvs)from Zn5 ok e);refine⟨z,y,xs,r,o,es,ep,h1,h2,h3,h4,λx hx=>?_,h5⟩;have all:∀{l:List (List Zt×V)} {m:List (List Zt×Addr×Value)},KT H l m->∀x∈m,(tupleKind (Wo P w)).is h x.1 x.2.1:=by
  intro l m q
  induction q with
  | nil=>intro x hx;exact nomatch hx
  | @cons p q ps qs hq t ih=>
   intro x hx;rcases qm.mp hx with e | hx
   ·subst e
    exact JC ok (by rw[<-hq.1];exact hq.2.1)
   ·exact ih x hx
 exact all r x hx
def Zn6 {kvs:List (List Zt×V)}(ok:YA P w H h)(e:H a=some (.dT kvs)):kvs.length<=xg/\(a==sysModules)=false/\
  ∃xs,KT H kvs xs/\h.DictOfH (tupleKind (Wo P w)) a xs:=BR ok (.inl e)
end
def Xw (H:Hp)(a:Addr)(y:V)(r:Option V):Prop:=
 (∃kvs k,Rd H a (.dK kvs)/\y=kV k/\r=ZY kvs k)∨∃kvs k b,Rd H a (.dT kvs)/\y=.ref b/\H b=some (.tup (k.map kV))/\r=ZY kvs k
def WG (H:Hp)(a:Addr)(y v:V)(H':Hp):Prop:=
 (∃kvs k,H a=some (.dK kvs)/\y=kV k/\kvs.length<xg/\H'=Zi H a (.dK (Z9 kvs k v)))∨
 ∃kvs k b,H a=some (.dT kvs)/\y=.ref b/\H b=some (.tup (k.map kV))/\kvs.length<xg/\H'=Zi H a (.dT (Z9 kvs k v))
def Xw.k {H:Hp}{a:Addr}{kvs:List (Zt×V)}{k:Zt}(e:H a=some (.dK kvs)):Xw H a (kV k) (ZY kvs k):=.inl ⟨kvs,k,.inl e,rfl,rfl⟩
def Xw.t {H:Hp}{a b:Addr}{kvs:List (List Zt×V)}{k:List Zt}(e:H a=some (.dT kvs))(eb:H b=some (.tup (k.map kV))):Xw H a (.ref b) (ZY kvs k):=.inr ⟨kvs,k,b,.inl e,rfl,eb,rfl⟩
def WG.k {H:Hp}{a:Addr}{kvs:List (Zt×V)}{k:Zt}{v:V}(e:H a=some (.dK kvs))(hl:kvs.length<xg):WG H a (kV k) v (Zi H a (.dK (Z9 kvs k v))):=.inl ⟨kvs,k,e,rfl,hl,rfl⟩
def WG.t {H:Hp}{a b:Addr}{kvs:List (List Zt×V)}{k:List Zt}{v:V}(e:H a=some (.dT kvs))(eb:H b=some (.tup (k.map kV)))(hl:kvs.length<xg) :
  WG H a (.ref b) v (Zi H a (.dT (Z9 kvs k v))):=.inr ⟨kvs,k,b,e,rfl,eb,hl,rfl⟩
section
variable {X:Cx}{jJ:Qb}{σ:St}{H:Hp}{s:Shared}{a:Addr}{y v:V}{u r:Value}{o:Option V}{A:xF}{E:xG}
def Inv.big (I:Inv X jJ σ H s):sysModules<s.heap.objs.size:=by
 have h:mainGlobals<s.heap.objs.size:=(I.mod.glob.keeps I.bk).lt;exact yX (by decide) h
def Zjn {Q:xG}(hu:A.units+1<cLine)(I:Inv X jJ σ H s)(g:Xw H a y (some v))(ry:ZJ y u)(h:∀w' s',Inv X jJ σ H s'->ZJ v w'->Q w' s') :
  xf (xC X.prog X.w) A (getItem (.ref a) u) Q E s:=by
 rcases g with⟨kvs,k,e,ey,l⟩ | ⟨kvs,k,b,e,ey,eb,l⟩
 ·subst ey
  obtain⟨z,hd,vs,rel,dd⟩:=BQ I.hok e;obtain⟨w',hw,rw'⟩:=jx (v:=v) (o:=valueAt vs k) (by rw[l];exact rel.val k);exact wpAny_getItem_of (UZ ry) dd.mapOf hw (h w' _ (I.tok _) rw')
 ·subst ey
  cases (show u=qQ b from ry)
  obtain⟨z,hd,xs,rel,dd⟩:=BR I.hok e;obtain⟨w',hw,rw'⟩:=jx (v:=v) (o:=(atKey xs k).map (·.2)) (by rw[l];exact rel.val k);obtain⟨p,hp,hp2⟩:=Option.map_eq_some_iff.mp hw;refine wpAny_getItem_heap (tupleKind_room_in1 hu) (JC I.hok eb) dd hp ?_;rw[hp2];exact h w' _ (I.tok _) rw'
def d_in {Q:xG}(hu:A.units+1<cLine)(I:Inv X jJ σ H s)(g:Xw H a y o)(ry:ZJ y u)(h:∀s',Inv X jJ σ H s'->Q (.bool o.isSome) s') :
  xf (xC X.prog X.w) A (xk .In u (.ref a)) Q E s:=by
 rcases g with⟨kvs,k,e,ey,l⟩ | ⟨kvs,k,b,e,ey,eb,l⟩
 ·subst ey
  obtain⟨z,hd,vs,rel,dd⟩:=BQ I.hok e;refine wpAny_in_of (UZ ry) hd dd.mapOf ?_;rw[<-(rel.val k).isSome_eq,<-l];exact h _ (I.tok _)
 ·subst ey
  cases (show u=qQ b from ry)
  obtain⟨z,hd,xs,rel,dd⟩:=BR I.hok e;refine wpAny_in_heap (tupleKind_room_in1 hu) (JC I.hok eb) hd dd ?_;have q:=(rel.val k).isSome_eq;rw[qbu]at q;rw[<-q,<-l];exact h _ (I.tok _)
def ZmS {Q:xG}(hu:A.units+1<cLine)(I:Inv X jJ σ H s)(g:Xw H a y o)(ry:ZJ y u)(h:∀s',Inv X jJ σ H s'->Q (.bool (!o.isSome)) s') :
  xf (xC X.prog X.w) A (xk .NotIn u (.ref a)) Q E s:=by
 rcases g with⟨kvs,k,e,ey,l⟩ | ⟨kvs,k,b,e,ey,eb,l⟩
 ·subst ey
  obtain⟨z,hd,vs,rel,dd⟩:=BQ I.hok e;refine wpAny_notIn_of (UZ ry) hd dd.mapOf ?_;rw[<-(rel.val k).isSome_eq,<-l];exact h _ (I.tok _)
 ·subst ey
  cases (show u=qQ b from ry)
  obtain⟨z,hd,xs,rel,dd⟩:=BR I.hok e;refine wpAny_notIn_heap (tupleKind_room_in1 hu) (JC I.hok eb) hd dd ?_;have q:=(rel.val k).isSome_eq;rw[qbu]at q;rw[<-q,<-l];exact h _ (I.tok _)
def BC {h':Heap}{t':Nat}{ob:HO}(I:Inv X jJ σ H s)(mu:B2 (H a))(hs:zR a s.heap h')(he:∃q,h'.get? a=some q)(new:Yz X.prog X.w (Zi H a ob) h' a ob) :
  Inv X jJ σ (Zi H a ob) { s with heap:=h',toks:=t' }:=
 I.write (x:=a) (e:=a) mu (.inl rfl) (λb q hb z=>(hs.2 b hb).trans z) he new
def Zhi {P:xE}{w:World}{H':Hp}{h':Heap}{kvs:List (Zt×V)}{vs:List (Zt×Value)}(z:kvs.length<=xg)(hd:(a==sysModules)=false)(rel:KV kvs vs)(dd:h'.DictOf (Wo P w) a vs) :
  Yz P w H' h' a (.dK kvs):=⟨z,hd,vs,rel,dd⟩
def Zjo {H':Hp}{Q:Unit->Shared->Prop}(hu:A.units+1<cLine)(I:Inv X jJ σ H s)(g:WG H a y v H')(ry:ZJ y u)(rv:ZJ v r)(h:∀s',Inv X jJ σ H' s'->Q () s') :
  xf (xC X.prog X.w) A (setItem (.ref a) u r) Q E s:=by
 rcases g with⟨kvs,k,e,ey,l,eH⟩ | ⟨kvs,k,b,e,ey,eb,l,eH⟩
 ·subst ey eH
  obtain⟨z,hd,vs,rel,dd⟩:=ZkT I.hok e;have hz:vs.length<=xg:=by rw[<-rel.length];exact z
  have hl:(Z9 kvs k v).length<=xg:=by have:=Up kvs k v;omega
  refine wpAny_setItem_pairs (hsz:=hz) (UZ ry) dd λh' dd' hs=>h _ ?_;have he:∃q,h'.get? a=some q:=let ⟨q,_,_,hq,_⟩:=dd';⟨q,hq⟩;exact BC I (by rw[e];exact yt) hs he (Zhi hl hd (rel.put k rv) dd')
 ·subst ey eH
  cases (show u=qQ b from ry)
  obtain⟨z,hd,xs,rel,dd⟩:=Zn6 I.hok e;have hz:xs.length<=xg:=by rw[<-qaX rel];exact z
  have hl:(Z9 kvs k v).length<=xg:=by have:=Up kvs k v;omega
  refine wpAny_setItem_heap (hsz:=hz) (tupleKind_room_in1 hu) (JC I.hok eb) dd λh' dd' hs=>h _ ?_;obtain⟨q,es,ep,hq,h2,h3,h4,_,h5⟩:=dd';refine BC I (by rw[e];exact yt) hs ⟨q,hq⟩ ⟨hl,hd,_,(rel.put k eb rv).keeps λc ys ec=>?_,q,es,ep,hq,h2,h3,h4,h5⟩;rw[Zr (ZnX ec e (λz=>nomatch z))];exact ec
end
section
variable {X:Cx}{jJ:Qb}{σ:St}{H:Hp}{s:Shared}{a:Addr}{kvs:List (Zt×V)}{k:Zt}{u:Value}{A:xF}{E:xG}
end
def NoSl (i:Expr):Prop:=∀ov iv,subscripted i false ov iv=operate [ov,iv] (getItem ov iv)
def ZmT {prog:xE}{w:World}{A:xF}{E:xG}{s:Shared}{env:Env}{value slice:Expr}{pos:Pos}{T id:String}{Q:xG}
  (hl:typeLookup (.type T) "__getitem__" = pure (some (.builtin id))) (hs:NoSl slice)
  (h:xf (xC prog w) A (eval value env) (λo s₁=>xf (xC prog w) A (eval slice env) (λi s₂=>s₂.TypeIs o T/\xf (xC prog w) A (getItem o i) Q E s₂) E s₁) E s) :
  xf (xC prog w) A (eval (.Subscript value slice pos) env) Q E s:=by
 refine Subscript_ (xc h (λo s₁ h₁=>xc h₁ (λi s₂ h₂=>?_) λ_ _ x=>x) λ_ _ x=>x);obtain⟨hT,h₂⟩:=h₂;unfold subscriptTail;refine xa ?_;rw[getitemInPython_of_ne hT.not_modules];refine xa (wpAny_specialOf hT hl ?_);have fin:xf (xC prog w) A (subscripted slice false o i) (λr s₃=>xf (xC prog w) A (letTemporaryGo value o r >>= λ_=>pure r) Q E s₃) E s₂:=by
  rw[hs o i];exact wpAny_operating (xc h₂ (λr s₃ h₃=>xa (wpAny_letTemporaryGo (xb h₃))) λ_ _ x=>x)
 first
  | exact xb (xa fin)
  | exact xa (xb (xa fin))
  | exact xa fin
def ZfY {X:Cx}{jJ:Qb}{σ:St}{H:Hp}{s:Shared}{a:Addr}{y:V}{o:Option V}(I:Inv X jJ σ H s)(g:Xw H a y o):s.TypeIs (.ref a) "dict":=by
 rcases g with⟨kvs,k,e,_,_⟩ | ⟨kvs,k,b,e,_,_,_⟩
 ·obtain⟨_,_,vs,_,dd⟩:=BQ I.hok e
  exact dd.typeIs
 ·obtain⟨_,_,xs,_,dd⟩:=BR I.hok e
  exact dd.typeIs
def Zir (td ty:TE):TE:=fun σ H Q=>td σ H λx H1=>ty σ H1 λy H2=>∃a v,x=.ref a/\Xw H2 a y (some v)/\Q v H2
def Zn7 (td ty tv:TE):TS:=λD σ H=>tv σ H λv H1=>td σ H1 λx H2=>ty σ H2 λy H3=>∃a H4,x=.ref a/\WG H3 a y v H4/\D.nx σ H4
section
variable {X:Cx}{o i e value:Expr}{pos pos' tpos:Pos}{td ty tv:TE}
def WY (hu:X.A.units+1<cLine)(ho:PE X o td)(hi:PE X i ty)(hs:NoSl i):PE X (.Subscript o i pos) (Zir td ty):=by
 intro jJ s σ H Q I h;refine ZmT PySem.F.slot_dict_getitem.lookup hs (ZL (ho jJ s σ H _ I h) λu s1 ⟨x,H1,I1,rx,q1⟩=>ZL (hi jJ s1 σ H1 _ I1 q1) λiv s2 ⟨y,H2,I2,ry,a,v,ex,g,q2⟩=>?_);subst ex;obtain rfl:u=qQ a:=rx;exact⟨ZfY I2 g,Zjn hu I2 g ry λw' s3 I3 rw'=>⟨v,H2,I3,rw',q2⟩⟩
def Zfg (hu:X.A.units+1<cLine)(ho:PE X o td)(hi:PE X i ty)(hv:PE X value tv)(hs:xr value (some (.Subscript o i pos')) pos.line X.env=pure false) :
  PS X (.Assign [.Subscript o i pos'] value pos) (Zn7 td ty tv):=by
 intro jJ s σ H D I h;refine wpAny_Assign_Subscript (ZL (hv jJ s σ H _ I h) λr s1 ⟨v,H1,I1,rv,q1⟩=>ZL (ho jJ s1 σ H1 _ I1 q1) λu s2 ⟨x,H2,I2,rx,q2⟩=>ZL (hi jJ s2 σ H2 _ I2 q2) λiv s3 ⟨y,H3,I3,ry,a,H4,ex,g,q3⟩=>?_) hs;subst ex;obtain rfl:u=qQ a:=rx;exact Zjo hu I3 g ry rv λs4 I4=>⟨σ,H4,I4,q3⟩
end
def Zda {P:xE}{w:World}{H:Hp}(h:Heap)(hb:sysModules<h.objs.size):Yz P w H (h.push { cls:=.type "dict",data:=.dict #[] }) h.objs.size (.dK []):=
 ⟨zl _,beq_eq_false_iff_ne.mpr (zg (qH hb)),[],.nil,Heap.DictOf.new h⟩
def ZkU {P:xE}{w:World}{H:Hp}(h:Heap)(hb:sysModules<h.objs.size):Yz P w H (h.push { cls:=.type "dict",data:=.dict #[] }) h.objs.size (.dT []):=
 ⟨zl _,beq_eq_false_iff_ne.mpr (zg (qH hb)),[],.nil,_,#[],0,qz _ rfl,⟨rfl,rfl,rfl⟩,rfl,rfl,qbc⟩
def ZoY:TE:=λ_ H Q=>∀p,H p=none->Q (.ref p) (Zi H p (.dK []))
section
variable {X:Cx}{pos:Pos}
def ZkV:PE X (.Dict [] [] pos) ZoY:=λjJ s σ H Q I h=>
 wpAny_Dict_empty ⟨.ref s.heap.objs.size,_,I.laid (a:=s.heap.objs.size) (o:=.dK []) (t':=s.toks) (λ_ _ q=>qh _ q) (qq _) (Zda s.heap I.big),rfl,h _ (I.hok.fresh (qq _))⟩
end
def Zhj:List (TE×TE)->St->Hp->(List (V×V)->Hp->Prop)->Prop
 | [],_,H,Q=>Q [] H
 | (tk,tv)::r,σ,H,Q=>tk σ H λx H1=>tv σ H1 λy H2=>Zhj r σ H2 λps H3=>Q ((x,y)::ps) H3
abbrev VV:List (V×V)->List (Value×Value)->Prop:=Paired λp q=>ZJ p.1 q.1/\ZJ p.2 q.2
def PPs (X:Cx)(pos:Pos)(keys:List (Option Expr))(values:List Expr)(trs:List (TE×TE)):Prop:=
 ∀(jJ:Qb) (s:Shared) (σ:St) (H:Hp) (Q:List (V×V)->Hp->Prop),Inv X jJ σ H s->Zhj trs σ H Q->
  xf (xC X.prog X.w) X.A (evalPairs (pairTrees keys values X.env pos)) (λvs s'=>∃ps H',Inv X jJ σ H' s'/\VV ps vs/\Q ps H') X.xe s
def ZmU {X:Cx}{pos:Pos}:PPs X pos [] [] []:=λjJ s σ H Q I h=>pairTrees_nil_walk ⟨[],H,I,.nil,h⟩
def Zdb {X:Cx}{pos:Pos}{k v:Expr}{ks:List (Option Expr)}{vs:List Expr}{tk tv:TE}{trs:List (TE×TE)}(hk:PE X k tk)(hv:PE X v tv)(hr:PPs X pos ks vs trs) :
  PPs X pos (some k::ks) (v::vs) ((tk,tv)::trs):=λjJ s σ H Q I h=>
 pairTrees_cons_walk (ZL (hk jJ s σ H _ I h) λu s1 ⟨x,H1,I1,rx,q1⟩=>ZL (hv jJ s1 σ H1 _ I1 q1) λw2 s2 ⟨y,H2,I2,ry,q2⟩=>
  ZL (hr jJ s2 σ H2 _ I2 q2) λws s3 ⟨ps,H3,I3,rel,q3⟩=>⟨(x,y)::ps,H3,I3,.cons ⟨rx,ry⟩ rel,q3⟩)
def Uz (kvs more:List (Zt×V)):List (Zt×V):=more.foldl (λjP kv=>Z9 jP kv.1 kv.2) kvs
def KV.merge:∀{more:List (Zt×V)} {rs:List (Zt×Value)} {kvs:List (Zt×V)} {vs:List (Zt×Value)},KV more rs->KV kvs vs->KV (Uz kvs more) (merged vs rs):=by
 intro more rs kvs vs r;unfold KV at r
 induction r generalizing kvs vs with
 | nil=>intro q;exact q
 | @cons p q ps qs h t ih=>
  intro r0;have e:KV (Z9 kvs p.1 p.2) (stored vs q.1 q.2):=by
   have:=r0.put p.1 h.2;rw[<-h.1];exact this
  exact ih e
def Zbt:∀(more kvs:List (Zt×V)),(Uz kvs more).length<=kvs.length+more.length
 | [],kvs=>by show kvs.length<=kvs.length+0;omega
 | p::r,kvs=>by
  have h1:=Zbt r (Z9 kvs p.1 p.2);have h2:=Up kvs p.1 p.2;show(Uz (Z9 kvs p.1 p.2) r).length<=_;rw[qN];omega
def Zdc {P:xE}{w:World}:∀{kvs:List (Zt×V)} {ws:List (Value×Value)},VV (kvs.map λkv=>(kV kv.1,kv.2)) ws->∃rs,Carries (Wo P w) ws rs/\KV kvs rs
 | [],_,r=>by rw[qa4]at r;cases r;exact⟨[],yt,.nil⟩
 | p::kvs,_,r=>by
  rw[zh]at r
  cases r with
  | @cons a b as bs h t=>
   obtain⟨rs,c,q⟩:=Zdc (P:=P) (w:=w) t;obtain⟨b1,b2⟩:=b;exact⟨(p.1,b2)::rs,⟨UZ h.1,rfl,c⟩,.cons ⟨rfl,h.2⟩ q⟩
def Zn8 (trs:List (TE×TE)):TE:=fun σ H Q=>∀p,H p=none->Zhj trs σ (Zi H p (.dK [])) λps H2=>H2 p=some (.dK [])/\∃kvs:List (Zt×V),ps=kvs.map (λkv=>(kV kv.1,kv.2))/\kvs.length<=15/\Q (.ref p) (Zi H2 p (.dK (Uz [] kvs)))
def ZmV {X:Cx}{pos:Pos}{keys:List (Option Expr)}{values:List Expr}{trs:List (TE×TE)}(h:PPs X pos keys values trs)(hall:keys.all (·.isSome)=true)(hl:keys.length=values.length)(h0:keys≠[])
  (h15:keys.length<=15):PE X (.Dict keys values pos) (Zn8 trs):=by
 intro jJ s σ H Q I q;have hn:=I.hok.fresh (qq s.heap.objs.size);have I1:=I.laid (a:=s.heap.objs.size) (o:=.dK []) (h':=s.heap.push { cls:=.type "dict",data:=.dict #[] }) (t':=s.toks) (λ_ _ q=>qh _ q) (qq _) (Zda s.heap I.big);refine wpAny_Dict_walk (knd:=Wo X.prog X.w) hall hl h0 h15 (ZL (h jJ _ σ _ _ I1 (q _ hn)) λws s2 ⟨ps,H2,I2,rel,e,kvs,ep,lk,q2⟩=>?_);subst ep;obtain⟨rs,c,rk⟩:=Zdc (P:=X.prog) (w:=X.w) rel;obtain⟨z,hd,vs0,r0,dd⟩:=ZkT I2.hok e
 cases r0
 refine⟨rs,c,dd,λh' dd' hs=>⟨.ref s.heap.objs.size,_,?_,rfl,q2⟩⟩;have hz:(Uz [] kvs).length<=xg:=by
  have h1:=Zbt kvs [];rw[yA]at h1;rw[sizeLine_eq];omega
 have he:∃q,h'.get? s.heap.objs.size=some q:=let ⟨q,_,_,hq,_⟩:=dd';⟨q,hq⟩;exact BC I2 (by rw[e];exact yt) hs he (Zhi hz hd (rk.merge .nil) dd')
section
variable {X:Cx}{jJ:Qb}{σ:St}{H:Hp}{s:Shared}{a:Addr}{y d:V}{u r:Value}{o:Option V}{A:xF}{E:xG}
end
section
variable {X:Cx}{o e f:Expr}{apos cpos:Pos}{td ty tx:TE}
end
section
variable {X:Cx}{jJ:Qb}{σ:St}{H:Hp}{s:Shared}{a:Addr}{kvs:List (Zt×V)}{A:xF}{E:xG}
end
section
variable {X:Cx}{jJ:Qb}{σ:St}{H:Hp}{s:Shared}{a:Addr}{y:V}{u:Value}{A:xF}{E:xG}
end
end L2
namespace Att
open PySem.W PySem.Calls
def ZcI {P:Params}{h:Heap}:∀(ns:List Int) (vs:List Value),WellAll P h vs (ns.map WData.int)->IntsAre vs ns:=by
 intro ns
 induction ns with
 | nil=>
  intro vs w;rw[qa4]at w
  cases w
  exact .nil
 | cons n ns ih=>
  intro vs w;rw[zh]at w
  cases w with
  | cons a b=>
   cases a
   exact .cons _ _ (ih _ b)
def Zjp {l:OpenLaw}{n:Nat}(hn:l.most=some n){P:Params}{h:Heap}{args:List WData}{vals:List Value}
  (hpre:l.row.toRowW.claim.pre args=true) (hwl:WellAll P h vals args) :
  ∃a vs ns,vals=[qQ a]/\args=[WData.list (ns.map WData.int)]/\h.get? a=some { cls:=.type "list",data:=.seq vs.toArray }/\IntsAre vs ns/\ns.length<=n:=by
 have hsh:WShape.hasAll [] args [.list .int]=true:=(pre_splitW hpre).1;have hc:l.pre.holds [] { args:=args }=true:=(pre_splitW hpre).2;obtain⟨d,r,rfl,h1,h2⟩:=hasAllW_cons hsh;obtain rfl:=hasAllW_nil h2;obtain⟨xs,rfl,h3⟩:=hasW_list h1;obtain⟨ns,rfl⟩:=items_int h3;have jT:ns.length<=n:=by
  unfold OpenLaw.pre at hc;have h4:(WTm.not (.lt (.lit (.int (n:Int))) (.len (.arg 0)))).holds [] { args:=[.list (ns.map .int)] }=true:=by
   have h4:=(holds_andW hc).1;rw[hn]at h4;exact h4
  have h5:=condW_of h4 (w_not (w_lt w_lit (w_len_list (w_arg rfl))));rw[qd]at h5;refine Nat.le_of_not_lt λq=>?_;have q':(n:Int)<((ns.length:Nat):Int):=by omega
  first
   | (rw[decide_eq_true q']at h5;exact absurd h5 (by decide))
   | (simp at h5;omega)
 cases hwl with
 | cons w1 w2=>
  cases w2
  cases w1 with
  | list ho hall=>exact⟨_,_,ns,rfl,rfl,ho,ZcI ns _ hall,jT⟩
def Zjq (l:OpenLaw)(args:List WData):l.row.toRowW.claim.post args (.bool true) args=true:=
 postW_of (r:=l.row.toRowW) (X:=(true==true))
  (show WShape.has [] (.bool true) .bool=true by first | rfl | decide | simp[WShape.has,WShape.arms,WShape.armsAll])
  (show(WTm.eq .res (.lit (.bool true))).value [] { args:=args,res:=some (.bool true),after:=args }=some (.bool (true==true))from w_eq_bool (w_res rfl) w_lit) rfl
def attach_call {l:OpenLaw}{n:Nat}{q:xE}{loose:List Str}{XP:(Str->Option Value)->Heap->Prop}{YP:World->Heap->Prop}{d:DefRec}
  (hn:l.most=some n) (hdf:d.params.defaults=[])
  (call:∀(w:World) (s₀ s₁:Shared) (mg mb:Str->Option Value) (fa:Addr) (o:Obj) (pm cd doc:Value) (a:Addr) (vs:List Value) (ns:List Int),
   Ground q loose [] XP w s₀ mg mb s₁.heap->YP w s₁.heap->
   s₁.heap.get? fa=some o->o.data=.func (docDef d.name d.params d.body d.scope pm cd doc)->s₁.heap.CodeRec cd d.name->mg d.name=some (.ref fa)->
   s₁.heap.get? a=some { cls:=.type "list",data:=.seq vs.toArray }->IntsAre vs ns->ns.length<=n->s₁.gens = #[]->
   xo (xC l.prog w) callerA (.call (.ref fa) ⟨[.ref a],[]⟩) (λr s'=>r=.ok (.ret (.bool true))/\OldK s₁.heap s'.heap/\s'.os=s₁.os/\AllBare s'.gens) s₁) :
  WalkO q loose XP YP l.row.toRowW d [] (λf vs=>qcg f vs):=by
 intro w s₀ s₁ mg mb G Y fa o pm cd doc dV kV ho hd hcd hD hmg hg args vals as hpre hlay hrd hwl hlo;obtain rfl:dV=.none:=Dflts.none hD hdf;obtain rfl:kV=.none:=Dflts.noKw hD;obtain⟨a,vs,ns,rfl,rfl,hobj,hints,jT⟩:=Zjp hn hpre hwl;refine enter_call (codeAny_mono (call w s₀ s₁ mg mb fa o pm cd doc a vs ns G Y ho (fd_plain hd) hcd hmg hobj hints jT hg) λr s' hq=>?_);obtain⟨rfl,h2,h3,h4⟩:=hq;exact⟨.inl ⟨.bool true,.bool true,[],rfl,λ_=>rfl,.bool true,Zjq l _,λ_=>⟨qaL,λ_ hm=>(nomatch hm)⟩⟩,h2,h3,h4⟩
section
variable {prog:xE}{w:World}{A:xF}{E:xG}{s:Shared}{K:Frag}
end
end Att
namespace L2
def ZeA:∀{vs:List Value} {ns:List Int},IntsAre vs ns->Zz (ns.map V.int) vs
 | _,_,.nil=>.nil
 | _,_,.cons n t h=>.cons ⟨t,rfl⟩ (ZeA h)
def Vc (s:Stmt):Arguments:=match s with
 | .FunctionDef _ a _ _ _ _ _ _ _ _=>a
 | _=>{ posonlyargs:=[],args:=[],vararg:=none,kwonlyargs:=[],kw_defaults:=[],kwarg:=none,defaults:=[] }
def WM (s:Stmt):List Stmt:=match s with
 | .FunctionDef _ _ b _ _ _ _ _ _ _=>b
 | _=>[]
def Zy (s:Stmt):Scope:=match s with
 | .FunctionDef _ _ _ _ _ _ sc _ _ _=>sc
 | _=>{ kind:=.function,names:=[],isGenerator:=false,isCoroutine:=false }
abbrev ZQ:Wm:=λ_ _ _ _ _ _=>False
abbrev E0:XK:=λ_ _ _=>False
def Zis {X:Cx}:Zfc ZQ X E0:=λ_ _ _ _ _ _ _ h=>h.elim
structure Fun (K:ql)(x qual:Str)(st:Stmt)(f:Addr)(fd:xD):Prop where
 ex:∃(oc:Value) (od:Option Addr) (kV doc pm:Value) (an:Option Addr) (cdv ct:Value) (osl:Array (Option Value)),
  fd=yz x qual (Vc st) (WM st) (Zy st) .none kV doc pm an cdv ct/\K.lookup f=some ⟨oc,od,.func fd,osl⟩/\qaC K cdv qual=true
 kp:ym K (.ref f)=true
section
variable {P:xE}{w:World}{K:ql}{mg:Str->Option Value}{base:Heap}
def Fun.ok {x qual:Str}{st:Stmt}{f:Addr}{fd:xD}{N ps:List Str}{k:Nat}{sp:Sp}(F:Fun K x qual st f fd)(S:FnScope N ps (Zy st))(len:∀vs H Q E,sp vs H Q E->vs.length=ps.length)
  (hbody:∀(cdv:Value) (A:xF) (outer:List Env) (s:Shared) (H:Hp) (vs:List V) (Q:VK) (E:XK),Room k (A.deeper (envOfC qual (Zy st) s.heap.objs.size f cdv))->sp vs H Q E->
   ∃t,WJ (W2 ZQ P w K mg base N qual (Zy st) f cdv A outer s H E).nox (WM st) t/\t { nx:=λ_ H'=>Q .non H',rt:=Q } (start N vs) H):FnOk P w K mg base ZQ (k+1) f fd ps sp:=by
 obtain⟨oc,od,kV,doc,pm,an,cdv,ct,osl,rfl,lk,hcd⟩:=F.ex;refine Zn3 lk hcd S len λA outer s H vs Q E hr hsp=>?_;obtain⟨t,h,q⟩:=hbody cdv A outer s H vs Q E hr hsp;exact⟨t,h.nox,q⟩
def Fun.binds {x qual:Str}{st:Stmt}{f:Addr}{fd:xD}{ps:List Str}(F:Fun K x qual st f fd)
  (h:∀(kV doc pm:Value) (an:Option Addr) (cdv ct:Value) (us:List Value),us.length=ps.length->bindArgs (yz x qual (Vc st) (WM st) (Zy st) .none kV doc pm an cdv ct) ⟨us,[]⟩=pure (ps.zip us)):Wr K fd ps []:=by
 obtain⟨oc,od,kV,doc,pm,an,cdv,ct,osl,rfl,lk,hcd⟩:=F.ex;exact .all (h kV doc pm an cdv ct)
def ZoZ {x qual:Str}{st:Stmt}{f:Addr}{oc:Value}{od an:Option Addr}{osl:Array (Option Value)}{kV doc pm cdv ct:Value}(l:K.lookup f=some ⟨oc,od,.func (yz x qual (Vc st) (WM st) (Zy st) .none kV doc pm an cdv ct),osl⟩)
  (c:qaC K cdv qual=true) (k:ym K (.ref f)=true):Fun K x qual st f (yz x qual (Vc st) (WM st) (Zy st) .none kV doc pm an cdv ct):=⟨⟨oc,od,kV,doc,pm,an,cdv,ct,osl,rfl,l,c⟩,k⟩
end
def hu_of {A:xF}{k:Nat}(hr:Room k A):A.units+1<cLine:=Nat.lt_of_le_of_lt (Nat.add_le_add_left (by decide:1<=64) _) hr.units
section
variable {X:Cx}
def pv (i:Nat){x:Str}{pos:Pos}(hN:X.N[i]?=some x:=by rfl)(hv:J3 X.env.scope x:=by first | exact qI rfl | exact yc (qI rfl) | exact yc (yc rfl))(hd:(x==("__debug__" : Str))=false:=by decide)
  (hcd:(x==("__classdict__" : Str))=false:=by decide):PE X (.Name x pos) (Z7 i):=ZoB hN hv hd hcd
end
def Vx {A B:Prop}(h:B):if false=true then A else B:=by
 rw[if_neg zZ];exact h
def Vy {A B:Prop}(h:A):if true=true then A else B:=by
 rw[if_pos rfl];exact h
section
variable {X:Cx}
end
section
variable {κ:Type}[DecidableEq κ]
end
def ZfZ {prog:xE}{w:World}{A:xF}{R:Result->Shared->Prop}{s:Shared}{elt target iter:Expr}{ifs:List Expr}{scope:Scope}{pos:Pos}{it jP:Value}{env:Env}(I:Nat->Shared->Prop)
  (turn:∀n s,I n s->xf (xC prog w) A (pyNext it) (λr s₁=>match r with
   | none=>R (.ok .next) s₁
   | some v=>xf (xC prog w) A (letOwnedTupleGo target it v) (λ_ s₁'=>xf (xC prog w) A (assign target env v) (λ_ s₂=>
     xf (xC prog w) A (forIn ifs true λc r=>if r=true then do let ok<-isTrue c env (eval c env);pure (qae ok)else pure (qae r)) (λok s₃=>
      if ok=true then xf (xC prog w) A (eval elt env) (λx s₄=>
       xf (xC prog w) A (call (.builtin "list.append") [jP,x]) (λ_ s₅=>∃m,m<n/\I m s₅) (notedBy (xC prog w) A env λe s'=>R (.error e) s') s₄) (notedBy (xC prog w) A env λe s'=>R (.error e) s') s₃
      else ∃m,m<n/\I m s₃) (notedBy (xC prog w) A env λe s'=>R (.error e) s') s₂) (notedBy (xC prog w) A env λe s'=>R (.error e) s') s₁') (notedBy (xC prog w) A env λe s'=>R (.error e) s') s₁) (notedBy (xC prog w) A env λe s'=>R (.error e) s') s)
  (n:Nat) (h:I n s) :
  xo (xC prog w) A (.compLoop (.ListComp elt [⟨target,iter,ifs,0⟩] scope pos) 0 it jP env) R s:=by
 refine codeAny_loop rfl I (λn s hI=>?_) n h;show xf _ A ((compTurn (.ListComp elt [⟨target,iter,ifs,0⟩] scope pos) 0 it jP env).onRaise (λx=>do noteFrame x env;theTreesLotGoes x)) _ _ s;refine wpAny_noted ?_;rw[compTurn_list];refine xa (wpAny_standAt (xa (xc (turn n s hI) (λr s₁ h₁=>?_) λ_ _ h'=>h')))
 cases r with
 | none=>exact xb h₁
 | some v=>
  refine xa (xc h₁ (λ_ s₁' h₁'=>?_) λ_ _ h'=>h');refine xa (xc h₁' (λ_ s₂ h₂=>xa (xc h₂ (λok s₃ h₃=>?_) λ_ _ h'=>h')) λ_ _ h'=>h')
  cases ok with
  | false=>exact xb ⟨rfl,h₃⟩
  | true=>
   exact xa (xa (xc h₃ (λx s₄ h₄=>xa (xc h₄ (λ_ s₅ h₅=>xb (xb ⟨rfl,h₅⟩)) λ_ _ h'=>h')) λ_ _ h'=>h'))
def blk (X:Cx)(jJ:Qb)(N':List Str)(scope:Scope)(cl:List (Str×Addr))(C:Addr)(s:Shared)(H:Hp)(fp:List Addr):Cx where
 prog:=X.prog
 w:=X.w
 K:=X.K
 mg:=X.mg
 base:=X.base
 A:=X.A
 N:=N'
 s₀:=s
 H₀:=H
 env:=compEnvC scope cl C X.env
 outer:=X.stack
 stack:=X.stack
 ex:=fp
 fn:=λ_=>false
 calm:=X.calm
 pn:=X.pn++jJ
 xe:=λ_ _=>False
def Vz (X:Cx)(ifs:List Expr)(t:TT):Prop:=
 ∀(jJ:Qb) (s:Shared) (σ:St) (H:Hp) (Q:Bool->Hp->Prop),Inv X jJ σ H s->t σ H Q->
  xf (xC X.prog X.w) X.A (forIn ifs true λc r=>if r=true then do let ok<-isTrue c X.env (eval c X.env);pure (qae ok)else pure (qae r)) (TP X jJ σ Q) X.xe s
def Zit:TT:=λ_ H Q=>Q true H
def Zf0 {X:Cx}:Vz X [] Zit:=λ_ _ _ H _ I h=>xb ⟨H,I,h⟩
def Zf1 {X:Cx}{c:Expr}{t:TT}(h:PT X c t):Vz X [c] t:=λjJ s σ H Q I hq=>wpAny_tests_one (h jJ s σ H Q I hq)
structure BlkOk (X:Cx)(N':List Str)(src:List (Option Nat))(scope:Scope)(cl:List (Str×Addr)):Prop where
 clos:closureFor scope X.env=pure cl
 nocell:∀y∈scope.names,y.2≠.cell
 kind:scope.kind=.function
 names:∀y∈scope.names,y.2=.local->scope.names.lookup y.1=some .local
 len:src.length=N'.length
 cells:∀x c,cl.lookup x=some c->X.env.cells.lookup x=some c
 has:∀x,((relabel scope X.env).names.lookup x=some .cell∨(relabel scope X.env).names.lookup x=some .free)->∃c,cl.lookup x=some c
 from_:∀(i j:Nat) x,src[i]?=some (some j)->N'[i]?=some x->X.N[j]?=some x/\(X.env.kindOf x=some .cell∨X.env.kindOf x=some .free)/\((relabel scope X.env).names.lookup x=some .cell∨(relabel scope X.env).names.lookup x=some .free)
def VR (src:List (Option Nat))(σ:St):St:=src.map λo=>o.bind λj=>(σ[j]?).bind id
def ZmW {X:Cx}{jJ:Qb}{σ:St}{H:Hp}{s s1:Shared}{N':List Str}{src:List (Option Nat)}{scope:Scope}{cl:List (Str×Addr)}{C:Addr}{fp:List Addr}{m:Str->Option Value}
  (B:BlkOk X N' src scope cl) (I:Inv X jJ σ H s) (hf:∀b∈fp,WF X jJ H b) (hC:s.heap.objs.size<=C) (hCf:∀b∈fp,b≠C)
  (hs:s1.os=s.os) (hg:s1.gens=s.gens) (hk:∀b o,s.heap.get? b=some o->s1.heap.get? b=some o) (hn:s1.heap.Ns C m):Inv (blk X jJ N' scope cl C s H fp) [] (VR src σ) H s1:=by
 have noC:∀b o,s.heap.get? b=some o->b≠C:=λb o e=>qH (qS (qD e) hC);refine⟨⟨I.ok.mod,B.kind,I.ok.glob,I.ok.blt,hC,λx y c h1 h2=>I.ok.inj x y c (B.cells _ _ h1) (B.cells _ _ h2),λx hx=>B.has x hx,λx c hf _=>(by cases hf),I.ok.hd,I.ok.frames,.inl rfl,λb hb=>?_,I.bs,ze I.ok.bsz I.sz,λb o e hb=>?_,λb hb z=>?_,I.stack,I.stkFree⟩,
  hs,by rw[hg];exact I.bare,Un.kept hk,⟨m,hn,λi x v h1 h2 h3=>?_⟩,λx c e=>?_,I.hok.fresh hC,λx c e=>I.freeC x c (B.cells _ _ e),λp hp=>?_,I.hok.kept hk,?_⟩
 ·obtain⟨f0,f1,f2,f3,f4,f5⟩:=hf b hb
  exact⟨hCf b hb,λx c e=>f4 x c (B.cells _ _ e)⟩
 ·obtain⟨f0,f1,f2,f3,f4,f5⟩:=hf b hb
  rcases f3 with z | z
  ·exact I.ok.noex b o e z
  ·exact absurd (qS (qD (I.ok.bs b o e).1) z) (yk _)
 ·obtain⟨f0,f1,f2,f3,f4,f5⟩:=hf b hb
  rcases qm.mp (I.stkSub b z)with e | e
  ·exact f1 e
  ·exact f2 e
 ·have h2':(VR src σ)[i]?=some (some v):=h2
  unfold VR at h2';rw[qt]at h2'
  cases e:src[i]? with
  | none=>rw[e]at h2';cases h2'
  | some o=>
   rw[e]at h2'
   cases o with
   | none=>simp at h2'
   | some j=>
    obtain⟨q1,q2,q3⟩:=B.from_ i j x e h1;have hj:σ[j]?=some (some v):=by
     simp only[zS,qbB,qbv]at h2'
     cases e2:σ[j]? with
     | none=>rw[e2]at h2';cases h2'
     | some o2=>rw[e2]at h2';simp at h2';rw[h2']
    obtain⟨mm,hnn,hl⟩:=I.loc;have vis:J3 X.env.scope x:=by
     rcases q2 with z | z
     ·exact .inr (.inl z)
     ·exact .inr (.inr z)
    obtain⟨u,r,l⟩:=hl j x v q1 hj vis;refine⟨u,r,?_⟩;rcases l with⟨k,_⟩ | ⟨_,c,ec,z⟩
    ·rcases q2 with z | z <;> rw[z]at k <;> cases k
    ·obtain⟨c',ec'⟩:=B.has x q3
     have ee:c'=c:=by
      have:=B.cells _ _ ec';rw[ec]at this;exact(zo this).symm
     subst ee;obtain⟨o,ho,hd⟩:=z;exact .inr ⟨q3,c',ec',o,hk _ _ ho,hd⟩
 ·obtain⟨v,o,ho,hd⟩:=I.cell x c (B.cells _ _ e)
  exact⟨v,o,hk _ _ ho,hd⟩
 ·have hp':p∈X.pn++jJ:=by simpa[blk]using hp
  obtain⟨e,n,ne,nf,d⟩:=I.pin p hp';refine⟨hk _ _ e,n,noC _ _ e,λz=>?_,d⟩;rcases qm.mp (I.stkSub p.1 z)with q | q
  ·exact ne q
  ·exact nf q
 ·show(VR src σ).length=N'.length
  unfold VR;rw[qd,B.len]
def JP (src:List (Option Nat))(wi:TI)(g:TG)(tt:TT)(te:TE):TE:=fun σ H Q=>wi σ H λJ H1=>∀p,H1 p=none->
 ∃W:Nat->Nat->St->Hp->Prop,(∃m,W 0 m (VR src σ) (Zi H1 p (.lst [])))/\∀i m σ2 H2,W i m σ2 H2->
  (J.stop i H2/\Q (.ref p) H2)∨(J.go i H2/\∀x H3,J.yld i H2 x H3->g x σ2 H3 fun σ4 H4=>tt σ4 H4 λok H5=>
   if ok=true then te σ4 H5 λy H6=>∃xs,H6 p=some (.lst xs)/\xs.length<xg/\∃m',m'<m/\W (i+1) m' σ4 (Zi H6 p (.lst (xs ++ [y])))
   else ∃m',m'<m/\W (i+1) m' σ4 H5)
def ZeB {X:Cx}{elt tg iter:Expr}{ifs:List Expr}{scope:Scope}{pos:Pos}{N':List Str}{src:List (Option Nat)}{cl:List (Str×Addr)}{g:TG}{tt:TT}{te:TE}
  {jJ:Qb} {σ:St} {H2:Hp} {s₂:Shared} {it:Addr} {fp:List Addr} {tn:Nat->Heap->Prop} {J:It} {Qp:Addr->Hp->Prop} {RR:Value->Addr->Result->Shared->Prop} {E:xG}
  (hc:X.calm=true) (B:BlkOk X N' src scope cl)
  (hg:∀jJ C s H fp,PG (blk X jJ N' scope cl C s H fp) tg g) (ht:∀jJ C s H fp,Vz (blk X jJ N' scope cl C s H fp) ifs tt) (he:∀jJ C s H fp,PE (blk X jJ N' scope cl C s H fp) elt te)
  (I2:Inv X jJ σ H2 s₂) (T:Turn X.prog X.w X.K tg J fp it tn) (j6:tn 0 s₂.heap) (f2:∀b∈fp,WF X jJ H2 b)
  (q2:∀p,H2 p=none->∃W:Nat->Nat->St->Hp->Prop,(∃m,W 0 m (VR src σ) (Zi H2 p (.lst [])))/\∀i m σ2 H2,W i m σ2 H2->
   (J.stop i H2/\Qp p H2)∨(J.go i H2/\∀x H3,J.yld i H2 x H3->g x σ2 H3 fun σ4 H4=>tt σ4 H4 λok H5=>
    if ok=true then te σ4 H5 λy H6=>∃xs,H6 p=some (.lst xs)/\xs.length<xg/\∃m',m'<m/\W (i+1) m' σ4 (Zi H6 p (.lst (xs ++ [y])))
    else ∃m',m'<m/\W (i+1) m' σ4 H5))
  (hfin:∀p C s6 H5 mm,Inv X jJ σ H5 s6->s6.heap.Ns C mm->WF X jJ H5 C->Qp p H5->RR (.ref p) C (.ok .next) s6) :
  xf (xC X.prog X.w) X.A (newList []) (λjP s₃=>xf (xC X.prog X.w) X.A (newFunctionEnv scope X.env.globals cl [] X.env.qual none .none (some X.env)) (λcenv s₄=>
   xo (xC X.prog X.w) X.A (.compStart (.ListComp elt [⟨tg,iter,ifs,0⟩] scope pos) 0 (.ref it) jP { cenv with scope:=relabel scope X.env }) (RR jP cenv.locals) s₄) E s₃) E s₂:=by
 have fpold:∀b∈fp,b<s₂.heap.objs.size:=λb hb=>by
  obtain⟨o,e,_⟩:=T.obj _ _ j6 b hb;exact qD e
 have q2:=q2 s₂.heap.objs.size (I2.hok.fresh (qq _));obtain⟨W,⟨m0,w0⟩,turn⟩:=q2
 -- the new list
 refine xl ?_;have I3:Inv X jJ σ (Zi H2 s₂.heap.objs.size (.lst [])) { s₂ with heap:=s₂.heap.push { cls:=.type "list",dict:=none,data:=.seq ([]:List Value).toArray } }:=
  I2.lnew (t':=s₂.toks) (ys:=[]) .nil (zl _)
 have st3:tn 0 (s₂.heap.push { cls:=.type "list",dict:=none,data:=.seq ([]:List Value).toArray }):=T.keep _ _ _ j6 λb _ o e=>qh _ e;have f3:∀b∈fp,WF X jJ (Zi H2 s₂.heap.objs.size (.lst [])) b:=λb hb=>by
  obtain⟨f0,f1⟩:=f2 b hb;exact⟨by rw[Zr (qH (fpold b hb))];exact f0,f1⟩
 generalize hs3:({ s₂ with heap:=s₂.heap.push { cls:=.type "list",dict:=none,data:=.seq ([]:List Value).toArray } }:Shared)=s₃ at I3;have st3':tn 0 s₃.heap:=by rw[<-hs3];exact st3
 have lt3:s₂.heap.objs.size<s₃.heap.objs.size:=by rw[<-hs3];show _<(Heap.push _ _).objs.size;rw[zX];exact yg _
 refine wpAny_newFunctionEnv B.nocell (by intro y hy;simp at hy) (λh₁ hns₁ hsb₁=>?_) B.kind;have kp1:∀b o,s₃.heap.get? b=some o->h₁.get? b=some o:=λb o e=>hsb₁.extBut b o (qH (qD e)) (qh _ e);have I4:=ZmW (s1:={ s₃ with heap:=h₁,toks:=s₃.toks+([]:List (Str×Value)).length }) (C:=s₃.heap.objs.size) B I3 f3 (qq _) (λb hb=>qH (yX (fpold b hb) lt3)) rfl rfl kp1 hns₁;have st4:tn 0 h₁:=T.keep _ _ _ st3' λb _ o e=>kp1 b o e;show xo (xC X.prog X.w) X.A (.compStart (.ListComp elt [⟨tg,iter,ifs,0⟩] scope pos) 0 (.ref it) (.ref s₂.heap.objs.size) (compEnvC scope cl s₃.heap.objs.size X.env)) (RR (.ref s₂.heap.objs.size) s₃.heap.objs.size) _;generalize hs4:({ s₃ with heap:=h₁,toks:=s₃.toks+([]:List (Str×Value)).length }:Shared)=s₄ at I4;have st4':tn 0 s₄.heap:=by rw[<-hs4];exact st4
 have blkX:∀{b:Addr} {H':Hp},b∈fp->H' b=none->WF (blk X jJ N' scope cl s₃.heap.objs.size s₃ (Zi H2 s₂.heap.objs.size (.lst [])) fp) [] H' b:=λ{b H'} hb hn=>by
  obtain⟨f0,f1,f2',f3',f4',f5'⟩:=f3 b hb;refine⟨hn,qH (yX (fpold b hb) lt3),λz=>?_,.inl hb,λx c e=>f4' x c (B.cells _ _ e),λp hp=>?_⟩
  ·rcases qm.mp (I3.stkSub b z)with e | e
   ·exact f1 e
   ·exact f2' e
  ·exact f5' p (by simpa[blk]using hp)
 have loop:xo (xC X.prog X.w) X.A (.compLoop (.ListComp elt [⟨tg,iter,ifs,0⟩] scope pos) 0 (.ref it) (.ref s₂.heap.objs.size) (compEnvC scope cl s₃.heap.objs.size X.env)) (RR (.ref s₂.heap.objs.size) s₃.heap.objs.size) s₄:=by
  refine ZfZ (λn s'=>∃i σ' H',Inv (blk X jJ N' scope cl s₃.heap.objs.size s₃ (Zi H2 s₂.heap.objs.size (.lst [])) fp) [] σ' H' s'/\tn i s'.heap/\(∀b∈fp,H' b=none)/\W i n σ' H') ?_ m0 ⟨0,_,_,I4,st4',λb hb=>(f3 b hb).1,w0⟩;rintro n s5 ⟨i,σ5,H5,I5,st5,fr5,w5⟩;rcases turn i n σ5 H5 w5 with⟨stop,qn⟩ | ⟨go,step⟩
  ·refine xc (T.done (blk X jJ N' scope cl s₃.heap.objs.size s₃ (Zi H2 s₂.heap.objs.size (.lst [])) fp) rfl rfl rfl hc i [] s5 σ5 H5 (λ_ _=>False) I5 (λb hb=>blkX hb (fr5 b hb)) st5 stop) (λr s6 ⟨hr,I6⟩=>?_) λ_ _ f=>f.elim
   subst hr;obtain⟨mm,hnn,_⟩:=id I6.loc;have nC:H5 s₃.heap.objs.size=none:=I6.free;have J1:Inv X jJ σ H5 s6:=by
    refine I3.call' (ch:=fp) I6.os I6.base I6.hok I6.bare λb hb=>?_;obtain⟨f0,f1,f2',f3',f4',f5'⟩:=f3 b hb;exact⟨f3',f1,f4',f5'⟩
   exact hfin _ _ s6 H5 mm J1 hnn (I3.fpOk (qq _) nC) qn
  ·refine xc (T.item (blk X jJ N' scope cl s₃.heap.objs.size s₃ (Zi H2 s₂.heap.objs.size (.lst [])) fp) rfl rfl rfl hc i [] s5 σ5 H5 (λ_ _=>False) I5 (λb hb=>blkX hb (fr5 b hb)) st5 go) (λr s6 ⟨u,hr,h6⟩=>?_) λ_ _ f=>f.elim
   subst hr;refine xc h6 (λ_ s7 ⟨x,H7,I7,r7,y7,st7,fr7⟩=>?_) λ_ _ f=>f.elim;have I7':=I7.pinned (λb hb=>blkX hb (fr7 b hb)) (T.obj _ _ st7);refine xc (hg _ _ _ _ _ _ s7 σ5 H7 x u _ I7' r7 (step x H7 y7)) (λ_ s8 ⟨σ8,H8,I8,q8⟩=>?_) λ_ _ f=>f.elim;refine xc (ht _ _ _ _ _ _ s8 σ8 H8 _ I8 q8) (λok s9 ⟨H9,I9,q9⟩=>?_) λ_ _ f=>f.elim;have again:∀{σ7:St} {H7:Hp} {sz:Shared},Inv (blk X jJ N' scope cl s₃.heap.objs.size s₃ (Zi H2 s₂.heap.objs.size (.lst [])) fp) ([]++BH fp s7.heap) σ7 H7 sz->(∃m',m'<n/\W (i+1) m' σ7 H7)->
     ∃m,m<n/\∃i σ' H',Inv (blk X jJ N' scope cl s₃.heap.objs.size s₃ (Zi H2 s₂.heap.objs.size (.lst [])) fp) [] σ' H' sz/\tn i sz.heap/\(∀b∈fp,H' b=none)/\W i m σ' H':=λ{σ7 H7 sz} Iz ⟨m',hm,wz⟩=>by
    refine⟨m',hm,i+1,σ7,H7,Iz.unpinned,T.keep _ _ _ st7 λb hb o e=>(Iz.pin (b,o) (qp _ (qp _ (Jk hb e)))).1,λb hb=>?_,wz⟩;obtain⟨o,e,d⟩:=T.obj _ _ st7 b hb;exact(Iz.pin (b,o) (qp _ (qp _ (Jk hb e)))).2.1
   cases ok with
   | false=>
    show ∃m,m<n/\_;exact again I9 (by simpa using q9)
   | true=>
    have q9':te σ8 H9 λy H6=>∃xs,H6 s₂.heap.objs.size=some (.lst xs)/\xs.length<xg/\∃m',m'<n/\W (i+1) m' σ8 (Zi H6 s₂.heap.objs.size (.lst (xs ++ [y]))):=by simpa using q9
    show xf _ _ _ _ _ _;refine xc (he _ _ _ _ _ _ s9 σ8 H9 _ I9 q9') (λy sA ⟨yv,HA,IA,rA,xs,eA,zA,mA⟩=>?_) λ_ _ f=>f.elim;refine xc (Zex (X:=blk X jJ N' scope cl s₃.heap.objs.size s₃ (Zi H2 s₂.heap.objs.size (.lst [])) fp) _ sA σ8 HA (.ref s₂.heap.objs.size) [yv] (.ref s₂.heap.objs.size) [y] (λ_ HB=>HB=Zi HA s₂.heap.objs.size (.lst (xs ++ [yv]))) IA rfl (.cons rA .nil) ⟨_,xs,yv,rfl,rfl,eA,zA,rfl⟩) (λ_ sB ⟨_,HB,IB,_,eB⟩=>?_) λ_ _ f=>f.elim;subst eB;exact again IB mA
 exact codeAny_compStart_list loop (T.self _ 0 _ _ _ st4' loop)
def Ziu {X:Cx}{elt tg iter:Expr}{ifs:List Expr}{scope:Scope}{pos:Pos}{N':List Str}{src:List (Option Nat)}{cl:List (Str×Addr)}{wi:TI}{g:TG}{tt:TT}{te:TE}
  (hc:X.calm=true) (B:BlkOk X N' src scope cl) (hi:PI X tg iter wi)
  (hg:∀jJ C s H fp,PG (blk X jJ N' scope cl C s H fp) tg g) (ht:∀jJ C s H fp,Vz (blk X jJ N' scope cl C s H fp) ifs tt) (he:∀jJ C s H fp,PE (blk X jJ N' scope cl C s H fp) elt te)
  (hs:∀x,foldedSetIterable iter X.env x=pure x:=by intro _;rfl):PE X (.ListComp elt [⟨tg,iter,ifs,0⟩] scope pos) (JP src wi g tt te):=by
 intro jJ s σ H Q I h;rw[eval_ListComp];refine wpAny_comprehension_free (use:=none) rfl hs B.clos B.kind B.names (xc (hi jJ s σ H _ I h) (λxv s₁ h₁=>xc h₁ (λit s₂ h₂=>?_) λ_ _ e=>e) λ_ _ e=>e);obtain⟨it,fp,tn,J,H2,e,I2,T,j6,f2,q2⟩:=h₂;subst e;refine ZeB (RR:=λjP C=>compPost (xC X.prog X.w) X.A X.xe none (EP X jJ σ Q) jP C) (Qp:=λp H=>Q (.ref p) H) hc B hg ht he I2 T j6 f2 q2 ?_;intro p C s6 H5 mm J1 hnn fC qn;refine⟨mm,hnn,λh' sb=>?_⟩;obtain⟨c0,c1,c2,c3,c4,c5⟩:=fC;exact⟨.ref p,H5,J1.turned (t':=s6.toks) (it:=C) (λb o hb e=>(sb.2 b hb).trans e) c0 c1 c3 c4 c5,rfl,qn⟩
def ZmX {X:Cx}{elt tg iter:Expr}{ifs:List Expr}{scope:Scope}{pos pos' spos:Pos}{N':List Str}{src:List (Option Nat)}{cl:List (Str×Addr)}{wi:TI}{g:TG}{tt:TT}{te:TE}{i:Nat}{x:Str}
  (hN:X.N.Nodup) (hi':X.N[i]?=some x) (hx:WR X.env.scope x)
  (hc:X.calm=true) (B:BlkOk X N' src scope cl) (hi:PI X tg iter wi)
  (hg:∀jJ C s H fp,PG (blk X jJ N' scope cl C s H fp) tg g) (ht:∀jJ C s H fp,Vz (blk X jJ N' scope cl C s H fp) ifs tt) (he:∀jJ C s H fp,PE (blk X jJ N' scope cl C s H fp) elt te)
  (hsw:xr (.ListComp elt [⟨tg,iter,ifs,0⟩] scope pos) (some (.Name x pos')) spos.line X.env=pure true:=by rfl)
  (hs:∀x,foldedSetIterable iter X.env x=pure x:=by intro _;rfl)
  (hf:X.fn x=true∨X.env.scope.names.lookup x=some .local:=by first | exact .inl rfl | exact .inr rfl | assumption) :
  PS X (.Assign [.Name x pos'] (.ListComp elt [⟨tg,iter,ifs,0⟩] scope pos) spos) (λD σ H=>JP src wi g tt te σ H λy H1=>D.nx (σ.set i (some y)) H1):=by
 intro jJ s σ H D I h;rw[exec_Assign_Name_used _ _ _ _ hsw];refine xa (wpAny_standAt (xa ?_));show xf _ _ (do let _<-comprehension (.ListComp elt [⟨tg,iter,ifs,0⟩] scope pos) scope X.env _ (newList []) false (eval iter X.env) (some (assign (.Name x pos') X.env))) _ _ s;refine xa (xc (wpAny_comprehension_free (use:=some (assign (.Name x pos') X.env)) (Q:=λ_ s'=>SP X jJ D .next s') rfl hs B.clos B.kind B.names
  (xc (hi jJ s σ H _ I h) (λxv s₁ h₁=>xc h₁ (λit s₂ h₂=>?_) λ_ _ e=>e) λ_ _ e=>e)) (λ_ s' hq=>xb (xb hq)) λ_ _ e=>e)
 obtain⟨it,fp,tn,J,H2,e,I2,T,j6,f2,q2⟩:=h₂;subst e;refine ZeB (RR:=λjP C=>compPost (xC X.prog X.w) X.A X.xe (some (assign (.Name x pos') X.env)) (λ_ s'=>SP X jJ D .next s') jP C) (Qp:=λp H=>D.nx (σ.set i (some (.ref p))) H) hc B hg ht he I2 T j6 f2 q2 ?_;intro p C s6 H5 mm J1 hnn fC qn;obtain⟨oC,es,ep,hoC,hdC,hrC⟩:=id hnn;have fC':∀b∈[C],WF X jJ H5 b:=by
  intro b hb;have e:b=C:=by simpa using hb
  rw[e];exact fC
 have oC':∀b∈[C],∃o,s6.heap.get? b=some o/\∀v,o.data≠.cell v:=by
  intro b hb;have e:b=C:=by simpa using hb
  rw[e];exact⟨oC,hoC,λv z=>by rw[hdC]at z;cases z⟩
 have J2:=J1.pinned (fp:=[C]) fC' oC';show xf _ _ (assign (.Name x pos') X.env (.ref p)) _ _ _;refine xc (X0 (X:=X) (pos:=pos') hN hi' hx hf _ s6 σ H5 (.ref p) (.ref p) (fun σ' H'=>σ'=σ.set i (some (.ref p))/\H'=H5) J2 rfl ⟨rfl,rfl⟩) (λ_ s7 ⟨σ7,H7,I7,e7,e7'⟩=>?_) λ_ _ e=>e;subst e7 e7';have pC:=I7.pin (C,oC) (qp _ (qp _ (Jk (by simp) hoC)));refine⟨mm,⟨oC,es,ep,pC.1,hdC,hrC⟩,λh' sb=>?_⟩;obtain⟨c0,c1,c2,c3,c4,c5⟩:=fC;exact⟨_,_,(I7.unpinned).turned (t':=s7.toks) (it:=C) (λb o hb e=>(sb.2 b hb).trans e) c0 c1 c3 c4 c5,qn⟩
end L2
namespace TF
open L2
inductive D where
 | non | bl (b:Bool) | int (i:Int) | str (x:Str) | tup (xs:List D) | lst (xs:List D)
 | dk (kvs:List (Zt×V)) | dt (kvs:List (List Zt×V)) | du (kvs:List (List Zt×V)) | df (kvs:List (Zt×V)) | pen | ty (n:String) | clo (t:Nat) (caps:List D)
abbrev St:=L2.St
abbrev Pn:=List Int×List Int
abbrev M (α:Type):=Pn->Option (α×Pn)
abbrev Zb:=List (Option D)
def ZA {α:Type}(a:α):M α:=λs=>some (a,s)
def Zq {α β:Type}(m:M α)(k:α->M β):M β:=λs=>match m s with | none=>none | some p=>k p.1 p.2
def Zv {α:Type}:M α:=λ_=>none
def YQ {α:Type}(o:Option α):M α:=λs=>match o with | none=>none | some a=>some (a,s)
def ZC {α β:Type}{m:M α}{k:α->M β}{s s':Pn}{b:β}(h:Zq m k s=some (b,s')):∃a s1,m s=some (a,s1)/\k a s1=some (b,s'):=by
 unfold Zq at h
 cases e:m s with
 | none=>rw[e]at h;cases h
 | some p=>rw[e]at h;exact⟨p.1,p.2,rfl,h⟩
def ZO {α:Type}{a b:α}{s s':Pn}(h:ZA a s=some (b,s')):b=a/\s'=s:=by
 unfold ZA at h
 cases h
 exact⟨rfl,rfl⟩
def WL {α:Type}{o:Option α}{b:α}{s s':Pn}(h:YQ o s=some (b,s')):o=some b/\s'=s:=by
 unfold YQ at h
 cases e:o with
 | none=>rw[e]at h;cases h
 | some a=>rw[e]at h;cases h;exact⟨rfl,rfl⟩
structure Gh where
 fp:Addr->Prop
 rd:Addr->Prop
 pen:V
 st:Pn->Hp->Prop
 mono:∀s H H',st s H->(∀b o,rd b->H b=some o->H' b=some o)->(∀b φ,H b=some (.ext φ)->H' b=some (.ext φ))->st s H'
 sub:∀b,fp b->rd b
 dom:∀s H b,st s H->rd b->∃o,H b=some o
 ntp:∀s H b vs,st s H->fp b->H b≠some (.tup vs)
 clo:Nat->V->List V->Prop:=λ_ _ _=>False
mutual
def Zm (G:Gh)(H:Hp):D->V->Prop
 | .non,v=>v=.non
 | .bl b,v=>v=.bl b
 | .int i,v=>v=.int i
 | .str x,v=>v=.str x
 | .tup ds,v=>∃a vs,v=.ref a/\¬G.fp a/\H a=some (.tup vs)/\Zk G H ds vs
 | .lst ds,v=>∃a vs,v=.ref a/\¬G.fp a/\H a=some (.lst vs)/\Zk G H ds vs
 | .dk kvs,v=>∃a,v=.ref a/\¬G.fp a/\H a=some (.dK kvs)
 | .dt kvs,v=>∃a o,v=.ref a/\¬G.fp a/\H a=some (.frz o (.dT kvs))
 | .du kvs,v=>∃a,v=.ref a/\¬G.fp a/\H a=some (.dT kvs)
 | .df kvs,v=>∃a o,v=.ref a/\¬G.fp a/\H a=some (.frz o (.dK kvs))
 | .pen,v=>v=G.pen
 | .ty n,v=>v=.ty n
 | .clo t ds,v=>∃vs,G.clo t v vs/\Zk G H ds vs
def Zk (G:Gh)(H:Hp):List D->List V->Prop
 | [],vs=>vs=[]
 | d::ds,vs=>∃v r,vs=v::r/\Zm G H d v/\Zk G H ds r
end
def ZB (G:Gh)(H H':Hp):Prop:=∀b o,¬G.fp b->H b=some o->H' b=some o
def ZB.refl (G:Gh)(H:Hp):ZB G H H:=λ_ _ _ e=>e
def ZB.trans {G:Gh}{H H1 H2:Hp}(a:ZB G H H1)(b:ZB G H1 H2):ZB G H H2:=λc o n e=>b c o n (a c o n e)
mutual
def Zm.ext {G:Gh}{H H':Hp}(e:ZB G H H'):∀{d:D} {v:V},Zm G H d v->Zm G H' d v
 | .non,_,h=>h
 | .bl _,_,h=>h
 | .int _,_,h=>h
 | .str _,_,h=>h
 | .tup ds,v,h=>by
  unfold Zm at h⊢;obtain⟨a,vs,e1,n,e2,r⟩:=h;exact⟨a,vs,e1,n,e _ _ n e2,Zk.ext e r⟩
 | .lst ds,v,h=>by
  unfold Zm at h⊢;obtain⟨a,vs,e1,n,e2,r⟩:=h;exact⟨a,vs,e1,n,e _ _ n e2,Zk.ext e r⟩
 | .dk kvs,v,h=>by
  unfold Zm at h⊢;obtain⟨a,e1,n,e2⟩:=h;exact⟨a,e1,n,e _ _ n e2⟩
 | .dt kvs,v,h=>by
  unfold Zm at h⊢;obtain⟨a,o,e1,n,e2⟩:=h;exact⟨a,o,e1,n,e _ _ n e2⟩
 | .df kvs,v,h=>by
  unfold Zm at h⊢;obtain⟨a,o,e1,n,e2⟩:=h;exact⟨a,o,e1,n,e _ _ n e2⟩
 | .du kvs,v,h=>by
  unfold Zm at h⊢;obtain⟨a,e1,n,e2⟩:=h;exact⟨a,e1,n,e _ _ n e2⟩
 | .pen,_,h=>h
 | .ty _,_,h=>h
 | .clo t ds,v,h=>by
  unfold Zm at h⊢;obtain⟨vs,c,r⟩:=h;exact⟨vs,c,Zk.ext e r⟩
def Zk.ext {G:Gh}{H H':Hp}(e:ZB G H H'):∀{ds:List D} {vs:List V},Zk G H ds vs->Zk G H' ds vs
 | [],_,h=>h
 | d::ds,vs,h=>by
  unfold Zk at h⊢;obtain⟨v,r,e1,r1,r2⟩:=h;exact⟨v,r,e1,Zm.ext e r1,Zk.ext e r2⟩
end
section
variable {G:Gh}{H:Hp}
def jc {ds:List D}{v:V}:Zm G H (.tup ds) v↔∃a vs,v=.ref a/\¬G.fp a/\H a=some (.tup vs)/\Zk G H ds vs:=by unfold Zm;exact yS
def jb {ds:List D}{v:V}:Zm G H (.lst ds) v↔∃a vs,v=.ref a/\¬G.fp a/\H a=some (.lst vs)/\Zk G H ds vs:=by unfold Zm;exact yS
def jj {kvs:List (Zt×V)}{v:V}:Zm G H (.dk kvs) v↔∃a,v=.ref a/\¬G.fp a/\H a=some (.dK kvs):=by unfold Zm;exact yS
def jk {kvs:List (List Zt×V)}{v:V}:Zm G H (.dt kvs) v↔∃a o,v=.ref a/\¬G.fp a/\H a=some (.frz o (.dT kvs)):=by unfold Zm;exact yS
def jl {kvs:List (List Zt×V)}{v:V}:Zm G H (.du kvs) v↔∃a,v=.ref a/\¬G.fp a/\H a=some (.dT kvs):=by unfold Zm;exact yS
def jq {kvs:List (Zt×V)}{v:V}:Zm G H (.df kvs) v↔∃a o,v=.ref a/\¬G.fp a/\H a=some (.frz o (.dK kvs)):=by unfold Zm;exact yS
def ja {i:Int}{v:V}:Zm G H (.int i) v↔v=.int i:=by unfold Zm;exact yS
def je {b:Bool}{v:V}:Zm G H (.bl b) v↔v=.bl b:=by unfold Zm;exact yS
def ji {b:Str}{v:V}:Zm G H (.str b) v↔v=.str b:=by unfold Zm;exact yS
def jg {v:V}:Zm G H .non v↔v=.non:=by unfold Zm;exact yS
def jo {v:V}:Zm G H .pen v↔v=G.pen:=by unfold Zm;exact yS
def jr {n:String}{v:V}:Zm G H (.ty n) v↔v=.ty n:=by unfold Zm;exact yS
def jz {t:Nat}{ds:List D}{v:V}:Zm G H (.clo t ds) v↔∃vs,G.clo t v vs/\Zk G H ds vs:=by unfold Zm;exact yS
def Zk.nil_iff {vs:List V}:Zk G H [] vs↔vs=[]:=by unfold Zk;exact yS
def jd {d:D}{ds:List D}{vs:List V}:Zk G H (d::ds) vs↔∃v r,vs=v::r/\Zm G H d v/\Zk G H ds r:=by
 constructor
 ·intro h;unfold Zk at h;exact h
 ·intro h;unfold Zk;exact h
def Zk.length:∀{ds:List D} {vs:List V},Zk G H ds vs->ds.length=vs.length
 | [],vs,h=>by rw[Zk.nil_iff.mp h];rfl
 | d::ds,vs,h=>by
  obtain⟨v,r,rfl,_,h2⟩:=jd.mp h;simp[Zk.length h2]
def Zk.get:∀{ds:List D} {vs:List V} {i:Nat} {d:D},Zk G H ds vs->ds[i]?=some d->∃v,vs[i]?=some v/\Zm G H d v
 | [],_,_,_,_,e=>by simp at e
 | d::ds,vs,0,d',h,e=>by
  obtain⟨v,r,rfl,h1,_⟩:=jd.mp h;simp at e;subst e;exact⟨v,rfl,h1⟩
 | d::ds,vs,i+1,d',h,e=>by
  obtain⟨v,r,rfl,_,h2⟩:=jd.mp h;obtain⟨u,e1,e2⟩:=Zk.get h2 (i:=i) (d:=d') (by simpa using e);exact⟨u,by simpa using e1,e2⟩
def Zk.append:∀{ds es:List D} {vs us:List V},Zk G H ds vs->Zk G H es us->Zk G H (ds++es) (vs++us)
 | [],es,vs,us,h,h'=>by rw[Zk.nil_iff.mp h];exact h'
 | d::ds,es,vs,us,h,h'=>by
  obtain⟨v,r,rfl,h1,h2⟩:=jd.mp h;exact jd.mpr ⟨v,r++us,rfl,h1,Zk.append h2 h'⟩
def Zk.one {d:D}{v:V}(h:Zm G H d v):Zk G H [d] [v]:=jd.mpr ⟨v,[],rfl,h,Zk.nil_iff.mpr rfl⟩
def Zk.cons {d:D}{v:V}{ds:List D}{vs:List V}(h:Zm G H d v)(h2:Zk G H ds vs):Zk G H (d::ds) (v::vs):=jd.mpr ⟨v,vs,rfl,h,h2⟩
end
def Nt (o:Option HO):Prop:=∃u,o=some u/\∀vs,u≠.tup vs
def Nt.no {o:Option HO}(h:Nt o)(e:o=none):False:=by
 obtain⟨u,q,_⟩:=h;rw[e]at q;cases q
structure Gr (G:Gh)(Hf H Hf' H':Hp):Prop where
 hh:ZB G H H'
 ff:ZB G Hf Hf'
 fh:ZB G Hf' H'
 nw:∀b,¬G.fp b->Hf b=none->Nt (H b)->Hf' b=none
def Gr.refl {G:Gh}{Hf H:Hp}(e:ZB G Hf H):Gr G Hf H Hf H:=⟨.refl _ _,.refl _ _,e,λ_ _ h _=>h⟩
def Gr.trans {G:Gh}{Hf H jV H1 kc H2:Hp}(a:Gr G Hf H jV H1)(b:Gr G jV H1 kc H2):Gr G Hf H kc H2:=
 ⟨a.hh.trans b.hh,a.ff.trans b.ff,b.fh,λc n h1 h2=>b.nw c n (a.nw c n h1 h2) (let ⟨u,e,nt⟩:=h2;⟨u,a.hh c u n e,nt⟩)⟩
def Gr.new {G:Gh}{Hf H:Hp}{p:Addr}{o:HO}(e:ZB G Hf H)(hp:H p=none)(nf:¬G.fp p):Gr G Hf H (Zi Hf p o) (Zi H p o) where
 hh:=λb u n q=>by rw[Zr (Z1 q hp)];exact q
 ff:=λb u n q=>by rw[Zr (Z1 (e b u n q) hp)];exact q
 fh:=λb u n q=>by
  by_cases hb:b=p
  ·subst hb;rw[ZI]at q⊢;exact q
  ·rw[Zr hb]at q⊢;exact e b u n q
 nw:=λb n h1 h2=>by
  by_cases hb:b=p
  ·subst hb;exact(h2.no hp).elim
  ·rw[Zr hb];exact h1
def Gh.nofp {G:Gh}{s:Pn}{H:Hp}{p:Addr}(h:G.st s H)(hp:H p=none):¬G.fp p:=λf=>by
 obtain⟨o,e⟩:=G.dom s H p h (G.sub p f);rw[hp]at e;cases e
def jC {G:Gh}{s:Pn}{H:Hp}{p:Addr}(h:G.st s H)(hp:H p=none):¬G.rd p:=λf=>by
 obtain⟨o,e⟩:=G.dom s H p h f;rw[hp]at e;cases e
def Gh.grow {G:Gh}{s:Pn}{H:Hp}{p:Addr}{o:HO}(h:G.st s H)(hp:H p=none):G.st s (Zi H p o):=G.mono s H _ h (λb u _ q=>by
 rw[Zr (Z1 q hp)];exact q) λb φ q=>by
 rw[Zr (Z1 q hp)];exact q
def U0:D->Prop
 | .lst _=>True
 | .dk _=>True
 | .dt _=>True
 | .du _=>True
 | _=>False
def YC (G:Gh)(H Hf':Hp)(d:D)(v:V):Prop:=∀a,v=.ref a->U0 d->H a=none/\∀ds,d=.lst ds->∃vs Hm,Hf' a=some (.lst vs)/\Hm a=none/\ZB G Hm Hf'/\Zk G Hm ds vs
def jn {G:Gh}{H H' Hf':Hp}{d:D}{v:V}(e:ZB G H H')(r:∀a,v=.ref a->U0 d->¬G.fp a)(h:YC G H' Hf' d v):YC G H Hf' d v:=λa ea m=>by
 refine⟨?_,(h a ea m).2⟩
 cases q:H a with
 | none=>rfl
 | some o=>
  have:=e a o (r a ea m) q;rw[(h a ea m).1]at this;cases this
def Zm.nofp {G:Gh}{H:Hp}{d:D}{v:V}(r:Zm G H d v):∀a,v=.ref a->U0 d->¬G.fp a:=λa e m=>by
 cases d with
 | lst ds=>obtain⟨b,vs,e1,n,_⟩:=jb.mp r;rw[e]at e1;cases e1;exact n
 | dk ds=>obtain⟨b,e1,n,_⟩:=jj.mp r;rw[e]at e1;cases e1;exact n
 | dt ds=>obtain⟨b,_,e1,n,_⟩:=jk.mp r;rw[e]at e1;cases e1;exact n
 | du ds=>obtain⟨b,e1,n,_⟩:=jl.mp r;rw[e]at e1;cases e1;exact n
 | _=>exact m.elim
def YY (G:Gh)(H:Hp)(σ:St)(ρ:Zb):Prop:=∀(i:Nat) (d:D),ρ[i]?=some (some d)->∃v,σ[i]?=some (some v)/\Zm G H d v
def YY.ext {G:Gh}{H H':Hp}{σ:St}{ρ:Zb}(h:YY G H σ ρ)(e:ZB G H H'):YY G H' σ ρ:=λi d q=>let ⟨v,a,b⟩:=h i d q;⟨v,a,b.ext e⟩
def PD (X:Cx)(G:Gh)(fr:Bool)(e:Expr)(f:Zb->M D):Prop:=
 ∃t,PE X e t/\∀(σ:St) (Hf H:Hp) (ρ:Zb) (s:Pn) (d:D) (s':Pn) (Q:VK),ZB G Hf H->YY G Hf σ ρ->G.st s H->f ρ s=some (d,s')->
  (∀v Hf' H',Gr G Hf H Hf' H'->G.st s' H'->Zm G Hf' d v->(fr=true->YC G H Hf' d v)->Q v H')->t σ H Q
def Ww (X:Cx)(G:Gh)(e:Expr)(f:Zb->M Bool):Prop:=
 ∃t,PT X e t/\∀(σ:St) (Hf H:Hp) (ρ:Zb) (s:Pn) (b:Bool) (s':Pn) (Q:Bool->Hp->Prop),ZB G Hf H->YY G Hf σ ρ->G.st s H->f ρ s=some (b,s')->
  (∀Hf' H',Gr G Hf H Hf' H'->G.st s' H'->Q b H')->t σ H Q
def Vg (X:Cx)(G:Gh)(es:List Expr)(f:Zb->M (List D)):Prop:=
 ∃t,PA X es t/\∀(σ:St) (Hf H:Hp) (ρ:Zb) (s:Pn) (ds:List D) (s':Pn) (Q:List V->Hp->Prop),ZB G Hf H->YY G Hf σ ρ->G.st s H->f ρ s=some (ds,s')->
  (∀vs Hf' H',Gr G Hf H Hf' H'->G.st s' H'->Zk G Hf' ds vs->Q vs H')->t σ H Q
section
variable {X:Cx}{G:Gh}
def PD.weak {e:Expr}{f:Zb->M D}{fr:Bool}(h:PD X G fr e f):PD X G false e f:=by
 obtain⟨t,p,q⟩:=h;exact⟨t,p,fun σ Hf H ρ s d s' Q e1 e2 e3 e4 k=>q σ Hf H ρ s d s' Q e1 e2 e3 e4 λv Hf' H' g1 g2 g3 _=>k v Hf' H' g1 g2 g3 (λz=>by cases z)⟩
def Za (i:Nat):Zb->M D:=fun ρ=>YQ ((ρ[i]?).bind id)
def dC (d:D):Zb->M D:=λ_=>ZA d
def Zo0 (i:Nat){x:Str}{pos:Pos}(h:PE X (.Name x pos) (Z7 i)):PD X G false (.Name x pos) (Za i):=by
 refine⟨_,h,fun σ Hf H ρ s d s' Q e1 e2 e3 e4 k=>?_⟩;obtain⟨e,rfl⟩:=WL e4;have e':ρ[i]?=some (some d):=by
  cases q:ρ[i]? with
  | none=>rw[q]at e;cases e
  | some o=>rw[q]at e;simp at e;rw[e]
 obtain⟨v,h1,h2⟩:=e2 i d e';exact⟨v,h1,k v Hf H (.refl e1) e3 h2 (λz=>by cases z)⟩
def YC.scal {H Hf':Hp}{d:D}{v:V}(h:U0 d->False):YC G H Hf' d v:=λ_ _ m=>(h m).elim
def Z2 {i:Int}{j pos}:PD X G true (.Constant (.int i) j pos) (dC (.int i)):=by
 refine⟨_,Y8,fun σ Hf H ρ s d s' Q e1 e2 e3 e4 k=>?_⟩;obtain⟨rfl,rfl⟩:=ZO e4;exact k _ Hf H (.refl e1) e3 (ja.mpr rfl) λ_=>.scal λz=>z
def WD {b:Bool}{j pos}:PD X G true (.Constant (.bool b) j pos) (dC (.bl b)):=by
 refine⟨_,ZpH,fun σ Hf H ρ s d s' Q e1 e2 e3 e4 k=>?_⟩;obtain⟨rfl,rfl⟩:=ZO e4;exact k _ Hf H (.refl e1) e3 (je.mpr rfl) λ_=>.scal λz=>z
def Zhk {j pos}:PD X G true (.Constant .none j pos) (dC .non):=by
 refine⟨_,ZoC,fun σ Hf H ρ s d s' Q e1 e2 e3 e4 k=>?_⟩;obtain⟨rfl,rfl⟩:=ZO e4;exact k _ Hf H (.refl e1) e3 (jg.mpr rfl) λ_=>.scal λz=>z
def Zd:Zb->M (List D):=λ_=>ZA []
def Zc (f:Zb->M D)(g:Zb->M (List D)):Zb->M (List D):=fun ρ=>Zq (f ρ) λd=>Zq (g ρ) λds=>ZA (d::ds)
def Zj:Vg X G [] Zd:=by
 refine⟨_,Y3,fun σ Hf H ρ s d s' Q e1 e2 e3 e4 k=>?_⟩;obtain⟨rfl,rfl⟩:=ZO e4;exact k _ Hf H (.refl e1) e3 (Zk.nil_iff.mpr rfl)
def Zf {e:Expr}{es:List Expr}{f:Zb->M D}{g:Zb->M (List D)}{fr:Bool}(h:PD X G fr e f)(hr:Vg X G es g)(hs:xh (e::es) X.env=(false,eval e X.env)::xh es X.env:=by rfl):Vg X G (e::es) (Zc f g):=by
 obtain⟨t,p,q⟩:=h;obtain⟨u,p2,q2⟩:=hr;refine⟨_,YN p p2 hs,fun σ Hf H ρ s ds s' Q e1 e2 e3 e4 k=>?_⟩;obtain⟨d,s1,a1,a2⟩:=ZC e4;obtain⟨r,s2,a3,a4⟩:=ZC a2;obtain⟨rfl,rfl⟩:=ZO a4;refine q σ Hf H ρ s d s1 _ e1 e2 e3 a1 λv jV H1 g1 kb r1 _=>?_;refine q2 σ jV H1 ρ s1 r _ _ g1.fh (e2.ext g1.ff) kb a3 λvs kc H2 g2 j6 r2=>?_;exact k _ kc H2 (g1.trans g2) j6 (Zk.cons (r1.ext g2.ff) r2)
def ZW (f:Zb->M (List D)):Zb->M D:=fun ρ=>Zq (f ρ) λds=>if ds.length<=xg then ZA (.tup ds)else Zv
def XC (f:Zb->M (List D)):Zb->M D:=fun ρ=>Zq (f ρ) λds=>if ds.length<=xg then ZA (.lst ds)else Zv
def Xf {α:Type}{c:Prop}[Decidable c]{a:M α}{s s':Pn}{b:α}(h:(if c then a else Zv) s=some (b,s')):c/\a s=some (b,s'):=by
 split at h
 ·rename_i hc;exact⟨hc,h⟩
 ·cases h
def YC.mk {Hf H:Hp}{p:Addr}{vs:List V}{ds:List D}(e:ZB G Hf H)(hp:H p=none)(nf:¬G.fp p)(r:Zk G Hf ds vs):YC G H (Zi Hf p (.lst vs)) (.lst ds) (.ref p):=λa ea _=>by
 cases ea
 refine⟨hp,λds' ed=>?_⟩
 cases ed
 have hf:Hf p=none:=by
  cases q:Hf p with
  | none=>rfl
  | some o=>rw[e p o nf q]at hp;cases hp
 exact⟨vs,Hf,ZI,hf,λb o n q=>by rw[Zr (Z1 q hf)];exact q,r⟩
def Y4 {es:List Expr}{f:Zb->M (List D)}{x1:Nat}{pos:Pos}(h:Vg X G es f):PD X G true (.Tuple es x1 pos) (ZW f):=by
 obtain⟨t,p,q⟩:=h;refine⟨_,ZoR p,fun σ Hf H ρ s d s' Q e1 e2 e3 e4 k=>?_⟩;obtain⟨ds,s1,a1,a2⟩:=ZC e4;obtain⟨hl,a3⟩:=Xf a2;obtain⟨rfl,rfl⟩:=ZO a3;refine q σ Hf H ρ s ds s' _ e1 e2 e3 a1 λvs jV H1 g1 kb r1=>⟨by rw[<-r1.length];exact hl,λp hp=>?_⟩;have nf:=Gh.nofp kb hp;have g2:=Gr.new (o:=.tup vs) g1.fh hp nf;exact k (.ref p) _ _ (g1.trans g2) (Gh.grow kb hp) (jc.mpr ⟨p,vs,rfl,nf,ZI,r1.ext g2.ff⟩) λ_=>.scal λz=>z
def Uc {es:List Expr}{f:Zb->M (List D)}{pos:Pos}(h:Vg X G es f):PD X G true (.List es pos) (XC f):=by
 obtain⟨t,p,q⟩:=h;refine⟨_,ZoS p,fun σ Hf H ρ s d s' Q e1 e2 e3 e4 k=>?_⟩;obtain⟨ds,s1,a1,a2⟩:=ZC e4;obtain⟨hl,a3⟩:=Xf a2;obtain⟨rfl,rfl⟩:=ZO a3;refine q σ Hf H ρ s ds s' _ e1 e2 e3 a1 λvs jV H1 g1 kb r1=>⟨by rw[<-r1.length];exact hl,λp hp=>?_⟩;have nf:=Gh.nofp kb hp;have g2:=Gr.new (o:=.lst vs) g1.fh hp nf;refine k (.ref p) _ _ (g1.trans g2) (Gh.grow kb hp) (jb.mpr ⟨p,vs,rfl,nf,ZI,r1.ext g2.ff⟩) λ_=>jn g1.hh (λa ea _=>by cases ea;exact nf) (YC.mk g1.fh hp nf r1)
def XE (X:Cx)(G:Gh)(f:Value->Value->Sem Value)(g:D->D->Option D):Prop:=
 ∃r,Yp X f r/\∀(Hf H:Hp) (s:Pn) (x y:V) (d e c:D) (Q:VK),ZB G Hf H->G.st s H->Zm G Hf d x->Zm G Hf e y->g d e=some c->
  (∀v Hf' H',Gr G Hf H Hf' H'->G.st s H'->Zm G Hf' c v->YC G H Hf' c v->Q v H')->r x y H Q
def Ze (g:D->D->Option D)(a b:Zb->M D):Zb->M D:=fun ρ=>Zq (a ρ) λd=>Zq (b ρ) λe=>YQ (g d e)
def op2D {fa fb:Zb->M D}{g:D->D->Option D}{ta tb:TE}{r:R2}
  (qa:∀(σ:St) (Hf H:Hp) (ρ:Zb) (s:Pn) (d:D) (s':Pn) (Q:VK),ZB G Hf H->YY G Hf σ ρ->G.st s H->fa ρ s=some (d,s')->(∀v Hf' H',Gr G Hf H Hf' H'->G.st s' H'->Zm G Hf' d v->Q v H')->ta σ H Q)
  (qb:∀(σ:St) (Hf H:Hp) (ρ:Zb) (s:Pn) (d:D) (s':Pn) (Q:VK),ZB G Hf H->YY G Hf σ ρ->G.st s H->fb ρ s=some (d,s')->(∀v Hf' H',Gr G Hf H Hf' H'->G.st s' H'->Zm G Hf' d v->Q v H')->tb σ H Q)
  (qo:∀(Hf H:Hp) (s:Pn) (x y:V) (d e c:D) (Q:VK),ZB G Hf H->G.st s H->Zm G Hf d x->Zm G Hf e y->g d e=some c->(∀v Hf' H',Gr G Hf H Hf' H'->G.st s H'->Zm G Hf' c v->YC G H Hf' c v->Q v H')->r x y H Q)
  (σ:St) (Hf H:Hp) (ρ:Zb) (s:Pn) (d:D) (s':Pn) (Q:VK) (e1:ZB G Hf H) (e2:YY G Hf σ ρ) (e3:G.st s H) (e4:Ze g fa fb ρ s=some (d,s'))
  (k:∀v Hf' H',Gr G Hf H Hf' H'->G.st s' H'->Zm G Hf' d v->YC G H Hf' d v->Q v H'):YK r ta tb σ H Q:=by
 obtain⟨da,s1,a1,a2⟩:=ZC e4;obtain⟨db,s2,a3,a4⟩:=ZC a2;obtain⟨a5,rfl⟩:=WL a4;refine qa σ Hf H ρ s da s1 _ e1 e2 e3 a1 λx jV H1 g1 kb r1=>?_;refine qb σ jV H1 ρ s1 db _ _ g1.fh (e2.ext g1.ff) kb a3 λy kc H2 g2 j6 r2=>?_;refine qo kc H2 _ x y da db d Q g2.fh j6 (r1.ext g2.ff) r2 a5 λv Hf3 H3 g3 st3 r3 fz=>?_;exact k v Hf3 H3 ((g1.trans g2).trans g3) st3 r3 (jn (g1.hh.trans g2.hh) r3.nofp fz)
def PD.drop {e:Expr}{f:Zb->M D}{fr:Bool}(h:PD X G fr e f):∃t,PE X e t/\∀(σ:St) (Hf H:Hp) (ρ:Zb) (s:Pn) (d:D) (s':Pn) (Q:VK),ZB G Hf H->YY G Hf σ ρ->G.st s H->f ρ s=some (d,s')->
  (∀v Hf' H',Gr G Hf H Hf' H'->G.st s' H'->Zm G Hf' d v->Q v H')->t σ H Q:=by
 obtain⟨t,p,q⟩:=h;exact⟨t,p,fun σ Hf H ρ s d s' Q a b c d' k=>q σ Hf H ρ s d s' Q a b c d' λv Hf' H' g1 g2 g3 _=>k v Hf' H' g1 g2 g3⟩
def W0 {a b:Expr}{op:Operator}{pos:Pos}{fa fb:Zb->M D}{g:D->D->Option D}{r1 r2:Bool}(ho:XE X G (binaryOp op) g)(ha:PD X G r1 a fa)(hb:PD X G r2 b fb):PD X G true (.BinOp a op b pos) (Ze g fa fb):=by
 obtain⟨r,po,qo⟩:=ho;obtain⟨ta,pa,qa⟩:=ha.drop;obtain⟨tb,pb,qb⟩:=hb.drop;exact⟨_,Xp po pa pb,fun σ Hf H ρ s d s' Q e1 e2 e3 e4 k=>op2D qa qb qo σ Hf H ρ s d s' Q e1 e2 e3 e4 λv Hf' H' g1 g2 g3 fz=>k v Hf' H' g1 g2 g3 λ_=>fz⟩
def Vo {a b:Expr}{op:CmpOp}{pos:Pos}{fa fb:Zb->M D}{g:D->D->Option D}{r1 r2:Bool}(ho:XE X G (xk op) g)(ha:PD X G r1 a fa)(hb:PD X G r2 b fb)
  (hm:behindInMarks op b=false:=by first | exact JB _ | with_unfolding_all rfl):PD X G true (.Compare a [op] [b] pos) (Ze g fa fb):=by
 obtain⟨r,po,qo⟩:=ho;obtain⟨ta,pa,qa⟩:=ha.drop;obtain⟨tb,pb,qb⟩:=hb.drop;exact⟨_,ZmP po pa pb hm,fun σ Hf H ρ s d s' Q e1 e2 e3 e4 k=>op2D qa qb qo σ Hf H ρ s d s' Q e1 e2 e3 e4 λv Hf' H' g1 g2 g3 fz=>k v Hf' H' g1 g2 g3 λ_=>fz⟩
def asB (f:Zb->M D):Zb->M Bool:=fun ρ=>Zq (f ρ) λd=>match d with | .bl b=>ZA b | _=>Zv
def Zf2 {f:Zb->M D}{ρ:Zb}{s s':Pn}{b:Bool}(h:asB f ρ s=some (b,s')):f ρ s=some (.bl b,s'):=by
 obtain⟨d,s1,a1,a2⟩:=ZC h
 cases d with
 | bl c=>obtain⟨rfl,rfl⟩:=ZO a2;exact a1
 | _=>cases a2
def YM {a b:Expr}{op:CmpOp}{pos:Pos}{fa fb:Zb->M D}{g:D->D->Option D}{r1 r2:Bool}(ho:XE X G (xk op) g)(ha:PD X G r1 a fa)(hb:PD X G r2 b fb)
  (hm:behindInMarks op b=false:=by first | exact JB _ | with_unfolding_all rfl):Ww X G (.Compare a [op] [b] pos) (asB (Ze g fa fb)):=by
 obtain⟨r,po,qo⟩:=ho;obtain⟨ta,pa,qa⟩:=ha.drop;obtain⟨tb,pb,qb⟩:=hb.drop;refine⟨_,BA po pa pb hm,fun σ Hf H ρ s c s' Q e1 e2 e3 e4 k=>?_⟩;exact op2D qa qb qo σ Hf H ρ s (.bl c) s' _ e1 e2 e3 (Zf2 e4) λv Hf' H' g1 g2 g3 fz=>⟨c,je.mp g3,k Hf' H' g1 g2⟩
def Vm {e:Expr}{f:Zb->M D}{fr:Bool}(h:PD X G fr e f)(he:∀whole,isTrue e X.env whole=(do let v<-whole;standAt e.pos;holding [v] (truthy v)):=by intro _;rfl):Ww X G e (asB f):=by
 obtain⟨t,p,q⟩:=h;refine⟨_,ZoD p he,fun σ Hf H ρ s c s' Q e1 e2 e3 e4 k=>?_⟩;exact q σ Hf H ρ s (.bl c) s' _ e1 e2 e3 (Zf2 e4) λv Hf' H' g1 g2 g3 fz=>⟨c,je.mp g3,k Hf' H' g1 g2⟩
def Wu (f:Zb->M Bool):Zb->M Bool:=fun ρ=>Zq (f ρ) λb=>ZA (!b)
def Uv {a:Expr}{pos:Pos}{f:Zb->M Bool}(h:Ww X G a f):Ww X G (.UnaryOp .Not a pos) (Wu f):=by
 obtain⟨t,p,q⟩:=h;refine⟨_,ZoF p,fun σ Hf H ρ s c s' Q e1 e2 e3 e4 k=>?_⟩;obtain⟨b,s1,a1,a2⟩:=ZC e4;obtain⟨rfl,rfl⟩:=ZO a2;exact q σ Hf H ρ s b s' _ e1 e2 e3 a1 λHf' H' g1 g2=>k Hf' H' g1 g2
def XX (f g:Zb->M Bool):Zb->M Bool:=fun ρ=>Zq (f ρ) λb=>if b=true then g ρ else ZA false
def VF (f g:Zb->M Bool):Zb->M Bool:=fun ρ=>Zq (f ρ) λb=>if b=true then ZA true else g ρ
def Wx (X:Cx)(G:Gh)(e:Expr)(f:Zb->M Bool):Prop:=
 ∃t,PW X e t/\∀(σ:St) (Hf H:Hp) (ρ:Zb) (s:Pn) (b:Bool) (s':Pn) (Q:Bool->Hp->Prop),ZB G Hf H->YY G Hf σ ρ->G.st s H->f ρ s=some (b,s')->
  (∀Hf' H',Gr G Hf H Hf' H'->G.st s' H'->Q b H')->t σ H Q
def Wx.pt {e:Expr}{f:Zb->M Bool}(h:Wx X G e f):Ww X G e f:=by
 obtain⟨t,p,q⟩:=h;exact⟨t,p.pt,q⟩
def Bw {a:Expr}{pos:Pos}{f:Zb->M Bool}(h:Ww X G a f):Wx X G (.BoolOp .And [a] pos) f:=by
 obtain⟨t,p,q⟩:=h;exact⟨t,Zij p,q⟩
def Zfh {a:Expr}{pos:Pos}{f:Zb->M Bool}(h:Ww X G a f):Wx X G (.BoolOp .Or [a] pos) f:=by
 obtain⟨t,p,q⟩:=h;exact⟨t,ZoE p,q⟩
def BD {a b:Expr}{rest:List Expr}{pos:Pos}{f g:Zb->M Bool}(h:Ww X G a f)(h2:Wx X G (.BoolOp .And (b::rest) pos) g):Wx X G (.BoolOp .And (a::b::rest) pos) (XX f g):=by
 obtain⟨t,p,q⟩:=h;obtain⟨u,p2,q2⟩:=h2;refine⟨_,ZkB p p2,fun σ Hf H ρ s c s' Q e1 e2 e3 e4 k=>?_⟩;obtain⟨b,s1,a1,a2⟩:=ZC e4;refine q σ Hf H ρ s b s1 _ e1 e2 e3 a1 λjV H1 g1 kb=>?_
 cases b with
 | true=>exact q2 σ jV H1 ρ s1 c s' _ g1.fh (e2.ext g1.ff) kb a2 λkc H2 g2 j6=>k kc H2 (g1.trans g2) j6
 | false=>obtain⟨rfl,rfl⟩:=ZO a2;exact k jV H1 g1 kb
def Zfi {a b:Expr}{rest:List Expr}{pos:Pos}{f g:Zb->M Bool}(h:Ww X G a f)(h2:Wx X G (.BoolOp .Or (b::rest) pos) g):Wx X G (.BoolOp .Or (a::b::rest) pos) (VF f g):=by
 obtain⟨t,p,q⟩:=h;obtain⟨u,p2,q2⟩:=h2;refine⟨_,ZpI p p2,fun σ Hf H ρ s c s' Q e1 e2 e3 e4 k=>?_⟩;obtain⟨b,s1,a1,a2⟩:=ZC e4;refine q σ Hf H ρ s b s1 _ e1 e2 e3 a1 λjV H1 g1 kb=>?_
 cases b with
 | true=>obtain⟨rfl,rfl⟩:=ZO a2;exact k jV H1 g1 kb
 | false=>exact q2 σ jV H1 ρ s1 c s' _ g1.fh (e2.ext g1.ff) kb a2 λkc H2 g2 j6=>k kc H2 (g1.trans g2) j6
def WH (f g:Zb->M D):Zb->M D:=fun ρ=>Zq (f ρ) λd=>match d with | .bl true=>g ρ | .bl false=>ZA (.bl false) | _=>Zv
def J5 (f g:Zb->M D):Zb->M D:=fun ρ=>Zq (f ρ) λd=>match d with | .bl true=>ZA (.bl true) | .bl false=>g ρ | _=>Zv
def JV (f:Zb->M D):Zb->M D:=fun ρ=>Zq (f ρ) λd=>match d with | .bl b=>ZA (.bl (!b)) | _=>Zv
def BJ {op}{a:Expr}{pos:Pos}{fr:Bool}{f:Zb->M D}(h:PD X G fr a f):PD X G false (.BoolOp op [a] pos) f:=by
 obtain⟨t,p,q⟩:=h.weak;exact⟨t,ZoG p,q⟩
def BK {a b:Expr}{rest:List Expr}{pos:Pos}{r1 r2:Bool}{f g:Zb->M D}(h:PD X G r1 a f)(h2:PD X G r2 (.BoolOp .And (b::rest) pos) g):PD X G false (.BoolOp .And (a::b::rest) pos) (WH f g):=by
 obtain⟨t,p,q⟩:=h.drop;obtain⟨u,p2,q2⟩:=h2.drop;refine⟨_,ZoH p p2,fun σ Hf H ρ s c s' Q e1 e2 e3 e4 k=>?_⟩;obtain⟨d,s1,a1,a2⟩:=ZC e4;refine q σ Hf H ρ s d s1 _ e1 e2 e3 a1 λv jV H1 g1 kb r1=>?_
 cases d with
 | bl b=>
  cases b with
  | true=>exact⟨true,je.mp r1,Vy (q2 σ jV H1 ρ s1 c s' _ g1.fh (e2.ext g1.ff) kb a2 λv kc H2 g2 j6 r2=>k v kc H2 (g1.trans g2) j6 r2 (λz=>by cases z))⟩
  | false=>obtain⟨rfl,rfl⟩:=ZO a2;exact⟨false,je.mp r1,Vx (k _ jV H1 g1 kb (je.mpr rfl) (λz=>by cases z))⟩
 | _=>cases a2
def ZpP {a b:Expr}{rest:List Expr}{pos:Pos}{r1 r2:Bool}{f g:Zb->M D}(h:PD X G r1 a f)(h2:PD X G r2 (.BoolOp .Or (b::rest) pos) g):PD X G false (.BoolOp .Or (a::b::rest) pos) (J5 f g):=by
 obtain⟨t,p,q⟩:=h.drop;obtain⟨u,p2,q2⟩:=h2.drop;refine⟨_,ZpL p p2,fun σ Hf H ρ s c s' Q e1 e2 e3 e4 k=>?_⟩;obtain⟨d,s1,a1,a2⟩:=ZC e4;refine q σ Hf H ρ s d s1 _ e1 e2 e3 a1 λv jV H1 g1 kb r1=>?_
 cases d with
 | bl b=>
  cases b with
  | false=>exact⟨false,je.mp r1,Vx (q2 σ jV H1 ρ s1 c s' _ g1.fh (e2.ext g1.ff) kb a2 λv kc H2 g2 j6 r2=>k v kc H2 (g1.trans g2) j6 r2 (λz=>by cases z))⟩
  | true=>obtain⟨rfl,rfl⟩:=ZO a2;exact⟨true,je.mp r1,Vy (k _ jV H1 g1 kb (je.mpr rfl) (λz=>by cases z))⟩
 | _=>cases a2
def ZkW {a:Expr}{pos:Pos}{r1:Bool}{f:Zb->M D}(h:PD X G r1 a f):PD X G true (.UnaryOp .Not a pos) (JV f):=by
 obtain⟨t,p,q⟩:=h.drop;refine⟨_,ZoI p,fun σ Hf H ρ s c s' Q e1 e2 e3 e4 k=>?_⟩;obtain⟨d,s1,a1,a2⟩:=ZC e4;refine q σ Hf H ρ s d s1 _ e1 e2 e3 a1 λv jV H1 g1 kb r1=>?_
 cases d with
 | bl b=>obtain⟨rfl,rfl⟩:=ZO a2;exact⟨b,je.mp r1,k _ jV H1 g1 kb (je.mpr rfl) λ_=>.scal λz=>z⟩
 | _=>cases a2
def B5 (c:Zb->M Bool)(f g:Zb->M D):Zb->M D:=fun ρ=>Zq (c ρ) λb=>if b=true then f ρ else g ρ
def ZpQ {c a b:Expr}{pos:Pos}{r1 r2:Bool}{fc:Zb->M Bool}{f g:Zb->M D}(hc:Ww X G c fc)(ha:PD X G r1 a f)(hb:PD X G r2 b g):PD X G false (.IfExp c a b pos) (B5 fc f g):=by
 obtain⟨tc,pc,qc⟩:=hc;obtain⟨ta,pa,qa⟩:=ha.drop;obtain⟨tb,pb,qb⟩:=hb.drop;refine⟨_,ZkC pc pa pb,fun σ Hf H ρ s d s' Q e1 e2 e3 e4 k=>?_⟩;obtain⟨b,s1,a1,a2⟩:=ZC e4;refine qc σ Hf H ρ s b s1 _ e1 e2 e3 a1 λjV H1 g1 kb=>?_
 cases b with
 | true=>exact Vy (qa σ jV H1 ρ s1 d s' _ g1.fh (e2.ext g1.ff) kb a2 λv kc H2 g2 j6 r2=>k v kc H2 (g1.trans g2) j6 r2 (λz=>by cases z))
 | false=>exact Vx (qb σ jV H1 ρ s1 d s' _ g1.fh (e2.ext g1.ff) kb a2 λv kc H2 g2 j6 r2=>k v kc H2 (g1.trans g2) j6 r2 (λz=>by cases z))
def X2 (X:Cx)(G:Gh)(f:Value)(g:List D->Option D):Prop:=
 ∃r,XB X f r/\∀(Hf H:Hp) (s:Pn) (xs:List V) (ds:List D) (c:D) (Q:VK),ZB G Hf H->G.st s H->Zk G Hf ds xs->g ds=some c->
  (∀v Hf' H',Gr G Hf H Hf' H'->G.st s H'->Zm G Hf' c v->YC G H Hf' c v->Q v H')->r xs H Q
def ZE (g:List D->Option D)(fs:Zb->M (List D)):Zb->M D:=fun ρ=>Zq (fs ρ) λds=>YQ (g ds)
def XU {id:String}{x:Str}{p pos:Pos}{e:Expr}{es:List Expr}{g:List D->Option D}{fs:Zb->M (List D)}(hc:X2 X G (.builtin id) g)(hg:Gl X x)(hm:X.mg x=none)(hv:xj x=some (.builtin id))(ha:Vg X G (e::es) fs)
  (hn:x≠"__name__":=by decide) (hdb:(x==("__debug__" : Str))=false:=by decide)
  (he:xh (e::es) X.env=(false,eval e X.env)::xh es X.env:=by rfl) (hpl:(backTo pos (xh es X.env)).any (·.1)=false:=by rfl):PD X G true (.Call (.Name x p) (e::es) [] pos) (ZE g fs):=by
 obtain⟨r,pr,qr⟩:=hc;obtain⟨t,pa,qa⟩:=ha;refine⟨_,Bu pr hg hm hv pa hn hdb he hpl,fun σ Hf H ρ s d s' Q e1 e2 e3 e4 k=>?_⟩;obtain⟨ds,s1,a1,a2⟩:=ZC e4;obtain⟨a3,rfl⟩:=WL a2;refine qa σ Hf H ρ s ds _ _ e1 e2 e3 a1 λvs jV H1 g1 kb r1=>?_;exact qr jV H1 _ vs ds d Q g1.fh kb r1 a3 λv kc H2 g2 j6 r2 fz=>k v kc H2 (g1.trans g2) j6 r2 λ_=>jn g1.hh r2.nofp fz
def Vk {T:String}{x:Str}{p pos:Pos}{e:Expr}{es:List Expr}{g:List D->Option D}{fs:Zb->M (List D)}(hc:X2 X G (.type T) g)(hg:Gl X x)(hm:X.mg x=none)(hv:xj x=some (.type T))(ha:Vg X G (e::es) fs)
  (hn:x≠"__name__":=by decide) (hdb:(x==("__debug__" : Str))=false:=by decide)
  (he:xh (e::es) X.env=(false,eval e X.env)::xh es X.env:=by rfl) (hpl:(backTo pos (xh es X.env)).any (·.1)=false:=by rfl):PD X G true (.Call (.Name x p) (e::es) [] pos) (ZE g fs):=by
 obtain⟨r,pr,qr⟩:=hc;obtain⟨t,pa,qa⟩:=ha;refine⟨_,Zbl pr hg hm hv pa hn hdb he hpl,fun σ Hf H ρ s d s' Q e1 e2 e3 e4 k=>?_⟩;obtain⟨ds,s1,a1,a2⟩:=ZC e4;obtain⟨a3,rfl⟩:=WL a2;refine qa σ Hf H ρ s ds _ _ e1 e2 e3 a1 λvs jV H1 g1 kb r1=>?_;exact qr jV H1 _ vs ds d Q g1.fh kb r1 a3 λv kc H2 g2 j6 r2 fz=>k v kc H2 (g1.trans g2) j6 r2 λ_=>jn g1.hh r2.nofp fz
def IxD (X:Cx)(G:Gh)(g:D->D->Option D):Prop:=
 ∃r,UK X r/\∀(Hf H:Hp) (s:Pn) (x y:V) (d e c:D) (Q:VK),ZB G Hf H->G.st s H->Zm G Hf d x->Zm G Hf e y->g d e=some c->
  (∀v,Zm G Hf c v->Q v H)->r x y H Q
def Z5 {a b:Expr}{pos:Pos}{fa fb:Zb->M D}{g:D->D->Option D}{r1 r2:Bool}(ho:IxD X G g)(ha:PD X G r1 a fa)(hb:PD X G r2 b fb)(hs:Zip b:=by intro _ _;rfl):PD X G false (.Subscript a b pos) (Ze g fa fb):=by
 obtain⟨r,po,qo⟩:=ho;obtain⟨ta,pa,qa⟩:=ha.drop;obtain⟨tb,pb,qb⟩:=hb.drop;refine⟨_,Ziq po pa pb hs,fun σ Hf H ρ s d s' Q e1 e2 e3 e4 k=>?_⟩;obtain⟨da,s1,a1,a2⟩:=ZC e4;obtain⟨db,s2,a3,a4⟩:=ZC a2;obtain⟨a5,rfl⟩:=WL a4;refine qa σ Hf H ρ s da s1 _ e1 e2 e3 a1 λx jV H1 g1 kb r1=>?_;refine qb σ jV H1 ρ s1 db _ _ g1.fh (e2.ext g1.ff) kb a3 λy kc H2 g2 j6 r2=>?_;exact qo kc H2 _ x y da db d Q g2.fh j6 (r1.ext g2.ff) r2 a5 λv r3=>k v kc H2 (g1.trans g2) j6 r3 (λz=>by cases z)
def Yf (n:Nat)(fr:Bool)(GG:Gh->Prop)(F:List D->M D):Sp:=λvs H Q _=>∃(G:Gh) (Hf:Hp) (ds:List D) (s:Pn) (d:D) (s':Pn),GG G/\vs.length=n/\ZB G Hf H/\Zk G Hf ds vs/\G.st s H/\F ds s=some (d,s')/\
 ∀v Hf' H',Gr G Hf H Hf' H'->G.st s' H'->Zm G Hf' d v->(fr=true->YC G H Hf' d v)->Q v H'
def Zn (F:List D->M D)(fs:Zb->M (List D)):Zb->M D:=fun ρ=>Zq (fs ρ) F
def ZmY {CX:Wm}{k:Nat}{f:Addr}{fd:xD}{ps:List Str}{n:Nat}{fr:Bool}{GG:Gh->Prop}{F:List D->M D}{E:XK}{x:Str}{p pos:Pos}{e:Expr}{es:List Expr}{fs:Zb->M (List D)}
  (FN:FnOk X.prog X.w X.K X.mg X.base CX k f fd ps (Yf n fr GG F)) (hG:GG G) (hr:Room k X.A) (hg:Gl X x) (hm:X.mg x=some (.ref f)) (hk:ym X.K (.ref f)=true) (hb:Wr X.K fd ps []) (hx:Zfc CX X E)
  (ha:Vg X G (e::es) fs) (jT:(e::es).length=n:=by rfl) (hal:∀ρ s ds s',fs ρ s=some (ds,s')->ds.length=(e::es).length)
  (hdb:(x==("__debug__" : Str))=false:=by decide) (he:xh (e::es) X.env=(false,eval e X.env)::xh es X.env:=by rfl) (hpl:(backTo pos (xh es X.env)).any (·.1)=false:=by rfl) :
  PD X G fr (.Call (.Name x p) (e::es) [] pos) (Zn F fs):=by
 obtain⟨t,pa,qa⟩:=ha;refine⟨_,Zfd FN hr hg hm hk hb .nil hx pa hdb he hpl,fun σ Hf H ρ s d s' Q e1 e2 e3 e4 k=>?_⟩;obtain⟨ds,s1,a1,a2⟩:=ZC e4;refine qa σ Hf H ρ s ds _ _ e1 e2 e3 a1 λvs jV H1 g1 kb r1=>?_;refine⟨G,jV,ds,s1,d,s',hG,by rw[zp,<-r1.length,hal _ _ _ _ a1];exact jT,g1.fh,by rw[zp];exact r1,kb,a2,λv kc H2 g2 j6 r2 fz=>?_⟩;exact k v kc H2 (g1.trans g2) j6 r2 λz=>jn g1.hh r2.nofp (fz z)
def Xs {f:Zb->M D}{g:Zb->M (List D)}{n:Nat}(h:∀ρ s ds s',g ρ s=some (ds,s')->ds.length=n):∀ρ s ds s',Zc f g ρ s=some (ds,s')->ds.length=n+1:=fun ρ s ds s' q=>by
 obtain⟨d,s1,a1,a2⟩:=ZC q;obtain⟨r,s2,a3,a4⟩:=ZC a2;obtain⟨rfl,rfl⟩:=ZO a4;simp[h _ _ _ _ a3]
def US:∀ρ s ds s',Zd ρ s=some (ds,s')->ds.length=0:=fun ρ s ds s' q=>by
 obtain⟨rfl,rfl⟩:=ZO q;rfl
end
mutual
def XV:D->Bool
 | .tup ds=>Ud ds
 | .lst _=>false
 | .dk _=>false
 | .dt _=>false
 | .du _=>false
 | .df _=>false
 | .clo _ _=>false
 | _=>true
def Ud:List D->Bool
 | []=>true
 | d::ds=>XV d&&Ud ds
end
mutual
def Zm.only {G:Gh}{H H':Hp}(e:∀b vs,¬G.fp b->H b=some (.tup vs)->H' b=some (.tup vs)):∀{d:D} {v:V},XV d=true->Zm G H d v->Zm G H' d v
 | .non,_,_,h=>h
 | .bl _,_,_,h=>h
 | .int _,_,_,h=>h
 | .str _,_,_,h=>h
 | .tup ds,v,n,h=>by
  obtain⟨a,vs,e1,nf,e2,r⟩:=jc.mp h;exact jc.mpr ⟨a,vs,e1,nf,e _ _ nf e2,Zk.only e (by simpa[XV]using n) r⟩
 | .lst ds,v,n,h=>by simp[XV]at n
 | .dk kvs,v,n,h=>by simp[XV]at n
 | .dt kvs,v,n,h=>by simp[XV]at n
 | .du kvs,v,n,h=>by simp[XV]at n
 | .df kvs,v,n,h=>by simp[XV]at n
 | .pen,_,_,h=>h
 | .ty _,_,_,h=>h
 | .clo _ _,v,n,h=>by simp[XV]at n
def Zk.only {G:Gh}{H H':Hp}(e:∀b vs,¬G.fp b->H b=some (.tup vs)->H' b=some (.tup vs)):∀{ds:List D} {vs:List V},Ud ds=true->Zk G H ds vs->Zk G H' ds vs
 | [],_,_,h=>h
 | d::ds,vs,n,h=>by
  obtain⟨v,r,e1,r1,r2⟩:=jd.mp h;have n':XV d=true/\Ud ds=true:=by simpa[Ud]using n
  exact jd.mpr ⟨v,r,e1,Zm.only e n'.1 r1,Zk.only e n'.2 r2⟩
end
def Ue (G:Gh)(Hf H:Hp)(a:Addr):D->Prop
 | .lst ds=>∃vs,H a=some (.lst vs)/\Zk G Hf ds vs
 | .dk kvs=>H a=some (.dK kvs)
 | .dt kvs=>∃o,H a=some (.frz o (.dT kvs))
 | .du kvs=>H a=some (.dT kvs)
 | _=>False
def Ue.there {G:Gh}{Hf H:Hp}{a:Addr}{d:D}(h:Ue G Hf H a d):∃o,H a=some o/\∀vs,o≠.tup vs:=by
 cases d with
 | lst ds=>obtain⟨vs,e,_⟩:=h;exact⟨_,e,λ_ z=>by cases z⟩
 | dk kvs=>exact⟨_,h,λ_ z=>by cases z⟩
 | dt kvs=>obtain⟨o,h⟩:=h;exact⟨_,h,λ_ z=>by cases z⟩
 | du kvs=>exact⟨_,h,λ_ z=>by cases z⟩
 | _=>exact h.elim
def Ue.keep {G:Gh}{Hf H Hf' H':Hp}{a:Addr}{d:D}(h:Ue G Hf H a d)(e:ZB G Hf Hf')(ha:∀o,H a=some o->H' a=some o):Ue G Hf' H' a d:=by
 cases d with
 | lst ds=>obtain⟨vs,q,r⟩:=h;exact⟨vs,ha _ q,r.ext e⟩
 | dk kvs=>exact ha _ h
 | dt kvs=>obtain⟨o,h⟩:=h;exact⟨o,ha _ h⟩
 | du kvs=>exact ha _ h
 | _=>exact h.elim
def Ue.rep {G:Gh}{Hf H Hf':Hp}{a:Addr}{d:D}(h:Ue G Hf H a d)(nf:¬G.fp a)(e:ZB G Hf Hf')(ha:∀o,H a=some o->Hf' a=some o):Zm G Hf' d (.ref a):=by
 cases d with
 | lst ds=>obtain⟨vs,q,r⟩:=h;exact jb.mpr ⟨a,vs,rfl,nf,ha _ q,r.ext e⟩
 | dk kvs=>exact jj.mpr ⟨a,rfl,nf,ha _ h⟩
 | dt kvs=>obtain⟨o,h⟩:=h;exact jk.mpr ⟨a,o,rfl,nf,ha _ h⟩
 | du kvs=>exact jl.mpr ⟨a,rfl,nf,ha _ h⟩
 | _=>exact h.elim
structure Jf (G:Gh)(own:List Nat)(kn jR H0:Hp)(σ:St)(Hf H:Hp)(ρ:Zb):Prop where
 len:σ.length=ρ.length
 kn:ZB G kn Hf
 gr:Gr G jR H0 Hf H
 fz:∀(i:Nat) (d:D),i∉own->ρ[i]?=some (some d)->∃v,σ[i]?=some (some v)/\Zm G Hf d v
 ow:∀(i:Nat) (d:D),i∈own->ρ[i]?=some (some d)->∃a,σ[i]?=some (some (.ref a))/\¬G.rd a/\Hf a=none/\H0 a=none/\Ue G Hf H a d
 ne:∀(i j:Nat) (a:Addr) (di dj:D),i∈own->j∈own->i≠j->ρ[i]?=some (some di)->ρ[j]?=some (some dj)->σ[i]?=some (some (.ref a))->σ[j]?=some (some (.ref a))->False
def J (G:Gh)(own:List Nat)(kn jR H0:Hp)(σ:St)(H:Hp)(ρ:Zb):Prop:=∃Hf,Jf G own kn jR H0 σ Hf H ρ
def Yq (own:List Nat)(ρ:Zb):Zb:=ρ.mapIdx λi o=>if i∈own then none else o
def Zdd (ρ:Zb):Yq [] ρ=ρ:=by
 unfold Yq;apply yD;intro i;simp
def ZkX {own:List Nat}{ρ:Zb}{i:Nat}{d:D}(h:(Yq own ρ)[i]?=some (some d)):i∉own/\ρ[i]?=some (some d):=by
 unfold Yq at h;rw[yC]at h
 cases e:ρ[i]? with
 | none=>rw[e]at h;cases h
 | some o=>
  rw[e]at h;simp only[zS,qbv]at h;split at h
  ·cases h
  ·rename_i hn;exact⟨hn,by rw[h]⟩
section
variable {X:Cx}{G:Gh}{own:List Nat}{kn jR H0 Hf H:Hp}{σ:St}{ρ:Zb}
def Jf.envA (j:Jf G own kn jR H0 σ Hf H ρ):YY G Hf σ (Yq own ρ):=λi d e=>by
 obtain⟨n,q⟩:=ZkX e;exact j.fz i d n q
def jt {G:Gh}{a:Addr}(h:¬G.rd a):¬G.fp a:=λz=>h (G.sub a z)
def Jf.grow {Hf' H':Hp}(j:Jf G own kn jR H0 σ Hf H ρ)(g:Gr G Hf H Hf' H'):Jf G own kn jR H0 σ Hf' H' ρ where
 len:=j.len
 kn:=j.kn.trans g.ff
 gr:=j.gr.trans g
 fz:=λi d n e=>let ⟨v,a,b⟩:=j.fz i d n e;⟨v,a,b.ext g.ff⟩
 ow:=λi d m e=>by
  obtain⟨a,h1,h2,h3,h4,h5⟩:=j.ow i d m e;have nf:=jt h2;refine⟨a,h1,h2,?_,h4,h5.keep g.ff λo q=>g.hh a o nf q⟩;exact g.nw a nf h3 h5.there
 ne:=j.ne
noncomputable def wide (jR H0 H:Hp):Hp:=λb=>open Classical in if jR b=none/\Nt (H0 b)then none else H b
def UT {jR H0 H:Hp}:ZB G (wide jR H0 H) H:=λb o _ e=>by
 unfold wide at e;split at e
 ·cases e
 ·exact e
def Jf.wideF (j:Jf G own kn jR H0 σ Hf H ρ):ZB G Hf (wide jR H0 H):=λb o n e=>by
 unfold wide;split
 ·rename_i h
  rw[j.gr.nw b n h.1 h.2]at e;cases e
 ·exact j.gr.fh b o n e
def Jf.envB (j:Jf G own kn jR H0 σ Hf H ρ):YY G (wide jR H0 H) σ ρ:=λi d e=>by
 by_cases m:i∈own
 ·obtain⟨a,h1,h2,h3,h4,h5⟩:=j.ow i d m e
  refine⟨_,h1,h5.rep (jt h2) j.wideF λo q=>?_⟩;unfold wide;rw[if_neg (λz=>z.2.no h4)];exact q
 ·obtain⟨v,h1,h2⟩:=j.fz i d m e
  exact⟨v,h1,h2.ext j.wideF⟩
def Jf.grW {Hf' H':Hp}(j:Jf G own kn jR H0 σ Hf H ρ)(g:Gr G (wide jR H0 H) H Hf' H'):Gr G jR H0 Hf' H' where
 hh:=j.gr.hh.trans g.hh
 ff:=λb o n e=>g.ff b o n (j.wideF b o n (j.gr.ff b o n e))
 fh:=g.fh
 nw:=λb n h1 h2=>g.nw b n (by unfold wide;rw[if_pos ⟨h1,h2⟩]) (let ⟨u,e,nt⟩:=h2;⟨u,j.gr.hh b u n e,nt⟩)
def J6:D->Bool
 | .lst ds=>Ud ds
 | .dk _=>true
 | .dt _=>true
 | .du _=>true
 | _=>false
def ZmZ {d:D}(h:J6 d=true):U0 d:=by
 cases d <;> first | trivial | (simp[J6]at h)
def Jf.growB {Hf' H':Hp}(j:Jf G own kn jR H0 σ Hf H ρ)(g:Gr G (wide jR H0 H) H Hf' H') :
  ∃Hf'',Jf G own kn jR H0 σ Hf'' H' ρ/\ZB G Hf Hf''/\(∀d v,XV d=true->Zm G Hf' d v->Zm G Hf'' d v)/\∀d v,J6 d=true->YC G H Hf' d v->Zm G Hf' d v->Zm G Hf'' d v/\YC G H Hf'' d v:=by
 classical
 -- the owned addresses are left out again
 let OA:Addr->Prop:=λb=>∃i d,i∈own/\ρ[i]?=some (some d)/\σ[i]?=some (some (.ref b))
 have oaH:∀b,OA b->Hf b=none/\¬G.rd b/\∃o,H b=some o/\∀vs,o≠.tup vs:=λb ⟨i,d,m,e,q⟩=>by
  obtain⟨a,h1,h2,h3,h4,h5⟩:=j.ow i d m e;rw[q]at h1;cases h1;exact⟨h3,h2,h5.there⟩
 have W:=j.grW g;refine⟨λb=>if OA b then none else Hf' b,?_⟩;have fF:ZB G Hf (λb=>if OA b then none else Hf' b):=λb o n e=>by
  have:¬OA b:=λz=>by rw[(oaH b z).1]at e;cases e
  show(if OA b then none else Hf' b)=_;rw[if_neg this];exact g.ff b o n (j.wideF b o n e)
 have Fh:ZB G (λb=>if OA b then none else Hf' b) H':=λb o n e=>by
  have e':(if OA b then none else Hf' b)=some o:=e;split at e'
  ·cases e'
  ·exact g.fh b o n e'
 have tupK:∀b vs,¬G.fp b->Hf' b=some (.tup vs)->(if OA b then none else Hf' b)=some (.tup vs):=λb vs nf e=>by
  have:¬OA b:=λz=>by
   obtain⟨_,_,o,q,nt⟩:=oaH b z;have q1:=g.hh b o nf q;have q2:=g.fh b _ nf e;rw[q1]at q2;exact nt vs (zo q2)
  rw[if_neg this];exact e
 have frK:∀a,H a=none->¬OA a:=λa e z=>by
  obtain⟨_,_,o,q,nt⟩:=oaH a z;rw[e]at q;cases q
 refine⟨⟨j.len,j.kn.trans fF,⟨W.hh,j.gr.ff.trans fF,Fh,λb n h1 h2=>?_⟩,λi d n e=>?_,λi d m e=>?_,j.ne⟩,fF,λd v n r=>Zm.only tupK n r,λd v ok fr r=>?_⟩
 ·show(if OA b then none else Hf' b)=none
  split
  ·rfl
  ·exact W.nw b n h1 h2
 ·obtain⟨v,a,b⟩:=j.fz i d n e
  exact⟨v,a,b.ext fF⟩
 ·obtain⟨a,h1,h2,h3,h4,h5⟩:=j.ow i d m e
  refine⟨a,h1,h2,?_,h4,h5.keep fF λo q=>g.hh a o (jt h2) q⟩;show(if OA a then none else Hf' a)=none;rw[if_pos ⟨i,d,m,e,h1⟩]
 ·cases d with
  | lst ds=>
   obtain⟨a,vs,e,n,q,r'⟩:=jb.mp r;have na:=frK a (fr a e trivial).1;have ea:(if OA a then none else Hf' a)=some (.lst vs):=by rw[if_neg na];exact q
   refine⟨jb.mpr ⟨a,vs,e,n,ea,Zk.only tupK ok r'⟩,λb eb m=>?_⟩;rw[e]at eb;cases eb;refine⟨(fr a e trivial).1,λds' ed=>?_⟩
   cases ed
   refine⟨vs,λb=>if b=a then none else if OA b then none else Hf' b,ea,if_pos rfl,λb o nb eb=>?_,?_⟩
   ·have eb':(if b=a then none else if OA b then none else Hf' b)=some o:=eb
    split at eb'
    ·cases eb'
    ·exact eb'
   ·refine Zk.only (λb ws nb eb=>?_) ok r'
    have hba:b≠a:=λz=>by rw[z,q]at eb;cases eb
    show(if b=a then none else if OA b then none else Hf' b)=_;rw[if_neg hba];exact tupK b ws nb eb
  | dk ds=>
   obtain⟨a,e,n,q⟩:=jj.mp r;have na:=frK a (fr a e trivial).1;refine⟨jj.mpr ⟨a,e,n,?_⟩,λb eb m=>⟨(fr b eb m).1,λds' ed=>by cases ed⟩⟩;show(if OA a then none else Hf' a)=_;rw[if_neg na];exact q
  | dt ds=>
   obtain⟨a,o,e,n,q⟩:=jk.mp r;have na:=frK a (fr a e trivial).1;refine⟨jk.mpr ⟨a,o,e,n,?_⟩,λb eb m=>⟨(fr b eb m).1,λds' ed=>by cases ed⟩⟩;show(if OA a then none else Hf' a)=_;rw[if_neg na];exact q
  | du ds=>
   obtain⟨a,e,n,q⟩:=jl.mp r;have na:=frK a (fr a e trivial).1;refine⟨jl.mpr ⟨a,e,n,?_⟩,λb eb m=>⟨(fr b eb m).1,λds' ed=>by cases ed⟩⟩;show(if OA a then none else Hf' a)=_;rw[if_neg na];exact q
  | _=>exact absurd (ZmZ ok) (λz=>z)
def Jf.set {i:Nat}{d:D}{v:V}{own':List Nat}(j:Jf G own kn jR H0 σ Hf H ρ)(ho:∀k,k∈own'->k≠i/\k∈own)(hk:∀k,k∈own->k≠i->k∈own')(r:Zm G Hf d v):Jf G own' kn jR H0 (σ.set i (some v)) Hf H (ρ.set i (some d)) where
 len:=by simp[j.len]
 kn:=j.kn
 gr:=j.gr
 fz:=λk c n e=>by
  by_cases h:i=k
  ·subst h
   have hl:i < ρ.length:=by
    have:=(qM.mp e).1;simpa using this
   rw[zw hl]at e
   cases e
   exact⟨v,zw (by rw[j.len];exact hl),r⟩
  ·rw[qT h]at e⊢
   exact j.fz k c (λz=>n (hk k z (zg h))) e
 ow:=λk c m e=>by
  have h:i≠k:=zg (ho k m).1;rw[qT h]at e⊢;exact j.ow k c (ho k m).2 e
 ne:=λk l a dk dl mk ml n ek el sk sl=>by
  have h:i≠k:=zg (ho k mk).1;have h':i≠l:=zg (ho l ml).1;rw[qT h]at ek sk;rw[qT h']at el sl;exact j.ne k l a dk dl (ho k mk).2 (ho l ml).2 n ek el sk sl
def BL:D->Bool
 | .lst _=>true
 | .dk _=>true
 | .dt _=>true
 | .du _=>true
 | _=>false
def Zhl {d:D}(h:BL d=true):U0 d:=by
 cases d <;> first | trivial | (simp[BL]at h)
def Jf.setOwn {i:Nat}{d:D}{v:V}{Hb Hq:Hp}{s:Pn}{own':List Nat}(j0:Jf G own kn jR H0 σ Hq Hb ρ)(j:Jf G own kn jR H0 σ Hf H ρ)(ho:∀k,k∈own'↔k=i∨k∈own)(st:G.st s Hb)(hb:ZB G Hb H)(hq:ZB G Hq Hf)
  (r:Zm G Hf d v) (fr:YC G Hb Hf d v) (ok:BL d=true):∃Hf',Jf G own' kn jR H0 (σ.set i (some v)) Hf' H (ρ.set i (some d)):=by
 classical
 have mu:=Zhl ok;obtain⟨a,ea,nfa⟩:∃a,v=.ref a/\¬G.fp a:=by
  cases d with
  | lst ds=>obtain⟨a,vs,e,n,_⟩:=jb.mp r;exact⟨a,e,n⟩
  | dk ds=>obtain⟨a,e,n,_⟩:=jj.mp r;exact⟨a,e,n⟩
  | dt ds=>obtain⟨a,_,e,n,_⟩:=jk.mp r;exact⟨a,e,n⟩
  | du ds=>obtain⟨a,e,n,_⟩:=jl.mp r;exact⟨a,e,n⟩
  | _=>exact mu.elim
 subst ea;have fra:Hb a=none:=(fr a rfl mu).1;have hqa:Hq a=none:=by
  cases e:Hq a with
  | none=>rfl
  | some o=>rw[j0.gr.fh a o nfa e]at fra;cases fra
 have h0a:H0 a=none:=by
  cases e:H0 a with
  | none=>rfl
  | some o=>rw[j0.gr.hh a o nfa e]at fra;cases fra
 have qF:ZB G Hq (λb=>if b=a then none else Hf b):=λb o n e=>by
  have:b≠a:=λz=>by rw[z,hqa]at e;cases e
  show(if b=a then none else Hf b)=_;rw[if_neg this];exact hq b o n e
 have oldA:∀k c,k∈own->ρ[k]?=some (some c)->σ[k]?≠some (some (.ref a)):=λk c m e z=>by
  obtain⟨b,h1,_,_,_,h5⟩:=j0.ow k c m e;rw[z]at h1;cases h1;obtain⟨o,q,_⟩:=h5.there;rw[fra]at q;cases q
 refine⟨λb=>if b=a then none else Hf b,by simp[j.len],j0.kn.trans qF,⟨j.gr.hh,j0.gr.ff.trans qF,λb o n e=>?_,λb n h1 h2=>?_⟩,λk c n e=>?_,λk c m e=>?_,λk l b dk dl mk ml n ek el sk sl=>?_⟩
 ·have e':(if b=a then none else Hf b)=some o:=e
  split at e'
  ·cases e'
  ·exact j.gr.fh b o n e'
 ·show(if b=a then none else Hf b)=none
  split
  ·rfl
  ·exact j.gr.nw b n h1 h2
 ·have h:i≠k:=λz=>n ((ho k).mpr (.inl z.symm))
  rw[qT h]at e⊢;obtain⟨v,q1,q2⟩:=j0.fz k c (λz=>n ((ho k).mpr (.inr z))) e;exact⟨v,q1,q2.ext qF⟩
 ·by_cases h:i=k
  ·subst h
   have hl:i < ρ.length:=by
    have:=(qM.mp e).1;simpa using this
   rw[zw hl]at e
   cases e
   refine⟨a,zw (by rw[j.len];exact hl),jC st fra,by show(if a=a then none else Hf a)=none;rw[if_pos rfl],h0a,?_⟩
   cases d with
   | lst ds=>
    obtain⟨a',vs,e',n',q',r'⟩:=jb.mp r
    cases e'
    obtain⟨ws,Hm,f1,f2,f3,f4⟩:=(fr a rfl mu).2 ds rfl;rw[q']at f1;cases f1;refine⟨vs,j.gr.fh a _ n' q',f4.ext λb o nb eb=>?_⟩;have:b≠a:=λz=>by rw[z,f2]at eb;cases eb
    show(if b=a then none else Hf b)=_;rw[if_neg this];exact f3 b o nb eb
   | dk ds=>obtain⟨a',e',n',q'⟩:=jj.mp r;cases e';exact j.gr.fh a _ n' q'
   | dt ds=>obtain⟨a',o',e',n',q'⟩:=jk.mp r;cases e';exact⟨o',j.gr.fh a _ n' q'⟩
   | du ds=>obtain⟨a',e',n',q'⟩:=jl.mp r;cases e';exact j.gr.fh a _ n' q'
   | _=>exact mu.elim
  ·have m':k∈own:=((ho k).mp m).resolve_left (zg h)
   rw[qT h]at e⊢;obtain⟨b,h1,h2,h3,h4,h5⟩:=j0.ow k c m' e;obtain⟨b',g1,g2,g3,g4,g5⟩:=j.ow k c m' e;rw[h1]at g1;cases g1;refine⟨b,h1,h2,?_,h4,h5.keep qF λo q=>hb b o (jt h2) q⟩;show(if b=a then none else Hf b)=none;split
   ·rfl
   ·exact g3
 ·by_cases hk:i=k
  ·subst hk
   have h':i≠l:=n;have hl:i < σ.length:=by
    have:=(qM.mp sk).1;simpa using this
   rw[zw hl]at sk
   cases sk
   rw[qT h']at el sl;exact oldA l dl (((ho l).mp ml).resolve_left (zg h')) el sl
  ·by_cases hl':i=l
   ·subst hl'
    have hl:i < σ.length:=by
     have:=(qM.mp sl).1;simpa using this
    rw[zw hl]at sl
    cases sl
    rw[qT hk]at ek sk;exact oldA k dk (((ho k).mp mk).resolve_left (zg hk)) ek sk
   ·rw[qT hk]at ek sk
    rw[qT hl']at el sl;exact j.ne k l b dk dl (((ho k).mp mk).resolve_left (zg hk)) (((ho l).mp ml).resolve_left (zg hl')) n ek el sk sl
def Jf.freeze {own':List Nat}(j:Jf G own kn jR H0 σ Hf H ρ)(ho:∀k,k∈own'->k∈own):∃Hf',Jf G own' kn jR H0 σ Hf' H ρ:=by
 classical
 let OA:Addr->Prop:=λb=>∃i d,i∈own/\i∉own'/\ρ[i]?=some (some d)/\σ[i]?=some (some (.ref b))
 have oaH:∀b,OA b->Hf b=none/\H0 b=none:=λb ⟨i,d,m,_,e,q⟩=>by
  obtain⟨a,h1,h2,h3,h4,h5⟩:=j.ow i d m e;rw[q]at h1;cases h1;exact⟨h3,h4⟩
 have fF:ZB G Hf (λb=>if OA b then H b else Hf b):=λb o n e=>by
  have:¬OA b:=λz=>by rw[(oaH b z).1]at e;cases e
  show(if OA b then H b else Hf b)=_;rw[if_neg this];exact e
 refine⟨λb=>if OA b then H b else Hf b,j.len,j.kn.trans fF,⟨j.gr.hh,j.gr.ff.trans fF,λb o n e=>?_,λb n h1 h2=>?_⟩,λk c n e=>?_,λk c m e=>?_,λk l b dk dl mk ml=>j.ne k l b dk dl (ho k mk) (ho l ml)⟩
 ·have e':(if OA b then H b else Hf b)=some o:=e
  split at e'
  ·exact e'
  ·exact j.gr.fh b o n e'
 ·have:¬OA b:=λz=>h2.no (oaH b z).2
  show(if OA b then H b else Hf b)=none;rw[if_neg this];exact j.gr.nw b n h1 h2
 ·by_cases m:k∈own
  ·obtain⟨a,h1,h2,h3,h4,h5⟩:=j.ow k c m e
   refine⟨_,h1,h5.rep (jt h2) fF λo q=>?_⟩;show(if OA a then H a else Hf a)=_;rw[if_pos ⟨k,c,m,n,e,h1⟩];exact q
  ·obtain⟨v,h1,h2⟩:=j.fz k c m e
   exact⟨v,h1,h2.ext fF⟩
 ·obtain⟨a,h1,h2,h3,h4,h5⟩:=j.ow k c (ho k m) e
  refine⟨a,h1,h2,?_,h4,h5.keep fF λo q=>q⟩;have:¬OA a:=λ⟨i,d,mi,ni,ei,qi⟩=>j.ne i k a d c mi (ho k m) (λz=>ni (z▸m)) ei e qi h1;show(if OA a then H a else Hf a)=none;rw[if_neg this];exact h3
end
def Jf.setF {G:Gh}{own:List Nat}{kn jR H0 Hf H:Hp}{σ:St}{ρ:Zb}{i:Nat}{d:D}{v:V}(j:Jf G own kn jR H0 σ Hf H ρ)(hi:i∉own)(r:Zm G Hf d v):Jf G own kn jR H0 (σ.set i (some v)) Hf H (ρ.set i (some d)):=
 j.set (own':=own) (λk m=>⟨λz=>hi (by rw[<-z];exact m),m⟩) (λk m _=>m) r
def XR (G:Gh)(fr:Bool)(t:TE)(f:Zb->M D):Prop:=
 ∀(σ:St) (Hf H:Hp) (ρ:Zb) (s:Pn) (d:D) (s':Pn) (Q:VK),ZB G Hf H->YY G Hf σ ρ->G.st s H->f ρ s=some (d,s')->
  (∀v Hf' H',Gr G Hf H Hf' H'->G.st s' H'->Zm G Hf' d v->(fr=true->YC G H Hf' d v)->Q v H')->t σ H Q
def WP (G:Gh)(own:List Nat)(fr:Bool)(t:TE)(f:Zb->M D):Prop:=
 ∀(kn jR H0:Hp) (σ:St) (Hf H:Hp) (ρ:Zb) (s:Pn) (d:D) (s':Pn) (Q:VK),Jf G own kn jR H0 σ Hf H ρ->G.st s H->f ρ s=some (d,s')->
  (∀v Hf' H',Jf G own kn jR H0 σ Hf' H' ρ->ZB G Hf Hf'->ZB G H H'->G.st s' H'->Zm G Hf' d v->(fr=true->YC G H Hf' d v)->Q v H')->t σ H Q
section
variable {X:Cx}{G:Gh}{own:List Nat}{fr:Bool}{t:TE}{f:Zb->M D}
def XR.a (h:XR G fr t f):WP G own fr t (fun ρ=>f (Yq own ρ)):=λkn jR H0 σ Hf H ρ s d s' Q j st e k=>
 h σ Hf H (Yq own ρ) s d s' Q j.gr.fh j.envA st e λv Hf' H' g st' r fz=>k v Hf' H' (j.grow g) g.ff g.hh st' r fz
def XR.n (h:XR G fr t f):WP G [] fr t f:=λkn jR H0 σ Hf H ρ s d s' Q j st e k=>
 h.a kn jR H0 σ Hf H ρ s d s' Q j st (by show f (Yq [] ρ) s=_;rw[Zdd];exact e) k
def Zjr {d:D}(h:XV d=true):¬U0 d:=by
 cases d <;> first | exact(λz=>z) | (simp[XV]at h)
def Y6 (fr:Bool)(f:Zb->M D):Zb->M D:=fun ρ=>Zq (f ρ) λd=>if (XV d||(fr&&J6 d))=true then ZA d else Zv
def ZkY {fr:Bool}{f:Zb->M D}{ρ:Zb}{s s':Pn}{d:D}(h:f ρ s=some (d,s'))(c:(XV d||(fr&&J6 d))=true):Y6 fr f ρ s=some (d,s'):=by
 unfold Y6 Zq;rw[h];show(if (XV d||(fr&&J6 d))=true then ZA d else Zv) s'=_;rw[if_pos c];rfl
def XR.b (h:XR G fr t f):WP G own fr t (Y6 fr f):=λkn jR H0 σ Hf H ρ s d s' Q j st e k=>by
 obtain⟨d1,s1,a1,a2⟩:=ZC e;obtain⟨c,a3⟩:=Xf a2;obtain⟨rfl,rfl⟩:=ZO a3;refine h σ _ H ρ s d s' Q UT j.envB st a1 λv Hf' H' g st' r fz=>?_;obtain⟨F,j',fF,q1,q2⟩:=j.growB g;rcases qcn.mp c with c | c
 ·exact k v F H' j' fF g.hh st' (q1 d v c r) λz a ea m=>absurd m (Zjr c)
 ·obtain⟨c1,c2⟩:=yQ.mp c
  obtain⟨x1,x2⟩:=q2 d v c2 (fz c1) r;exact k v F H' j' fF g.hh st' x1 λ_=>x2
inductive Out where
 | nx (ρ:Zb) | rt (d:D) | bk (ρ:Zb) | ct (ρ:Zb)
def Post (G:Gh)(ob own':List Nat)(kn jR H0:Hp)(fr:Bool)(out:Out)(s':Pn)(E:Ends):Prop:=match out with
 | .nx ρ=>∀σ H,J G own' kn jR H0 σ H ρ->G.st s' H->E.nx σ H
 | .bk ρ=>∀σ H,J G ob kn jR H0 σ H ρ->G.st s' H->E.bk σ H
 | .ct ρ=>∀σ H,J G ob kn jR H0 σ H ρ->G.st s' H->E.ct σ H
 | .rt d=>∀v Hf' H',Gr G jR H0 Hf' H'->G.st s' H'->Zm G Hf' d v->(fr=true->YC G H0 Hf' d v)->E.rt v H'
def J7 (G:Gh)(ob own own':List Nat)(fr:Bool)(t:TS)(g:Zb->M Out):Prop:=
 ∀(kn jR H0:Hp) (σ:St) (H:Hp) (ρ:Zb) (s:Pn) (out:Out) (s':Pn) (E:Ends),J G own kn jR H0 σ H ρ->G.st s H->g ρ s=some (out,s')->Post G ob own' kn jR H0 fr out s' E->t E σ H
def YE (X:Cx)(G:Gh)(ob own own':List Nat)(fr:Bool)(st:Stmt)(g:Zb->M Out):Prop:=∃t,PS X st t/\J7 G ob own own' fr t g
def Wh (X:Cx)(G:Gh)(ob own own':List Nat)(fr:Bool)(sts:List Stmt)(g:Zb->M Out):Prop:=∃t,WJ X sts t/\J7 G ob own own' fr t g
variable {ob own' own2:List Nat}
def YE.frz {st:Stmt}{g:Zb->M Out}(h:YE X G ob own2 own' fr st g)(hs:∀k,k∈own2->k∈own:=by decide):YE X G ob own own' fr st g:=by
 obtain⟨t,p,q⟩:=h;exact⟨t,p,λkn jR H0 σ H ρ s out s' E ⟨Hf,j⟩ st e po=>q kn jR H0 σ H ρ s out s' E (j.freeze hs) st e po⟩
def Zo:Zb->M Out:=fun ρ=>ZA (.nx ρ)
def Zg (g1 g2:Zb->M Out):Zb->M Out:=fun ρ=>Zq (g1 ρ) λo=>match o with | .nx ρ'=>g2 ρ' | .rt d=>ZA (.rt d) | .bk ρ'=>ZA (.bk ρ') | .ct ρ'=>ZA (.ct ρ')
def Ys (hs:∀k,k∈own'->k∈own:=by decide):Wh X G ob own own' fr [] Zo:=⟨_,Zfa,λkn jR H0 σ H ρ s out s' E ⟨Hf,j⟩ st e p=>by
 obtain⟨rfl,rfl⟩:=ZO e;exact p σ H (j.freeze hs) st⟩
def Yr {st:Stmt}{sts:List Stmt}{g1 g2:Zb->M Out}(h:YE X G ob own own2 fr st g1)(h2:Wh X G ob own2 own' fr sts g2):Wh X G ob own own' fr (st::sts) (Zg g1 g2):=by
 obtain⟨t,p,q⟩:=h;obtain⟨u,p2,q2⟩:=h2;refine⟨_,Va p p2,λkn jR H0 σ H ρ s out s' E j st e po=>?_⟩;obtain⟨o,s1,a1,a2⟩:=ZC e;refine q kn jR H0 σ H ρ s o s1 _ j st a1 ?_
 cases o with
 | nx ρ1=>exact fun σ1 H1 j1 kb=>q2 kn jR H0 σ1 H1 ρ1 s1 out s' E j1 kb a2 po
 | rt d=>obtain⟨rfl,rfl⟩:=ZO a2;exact po
 | bk ρ1=>obtain⟨rfl,rfl⟩:=ZO a2;exact po
 | ct ρ1=>obtain⟨rfl,rfl⟩:=ZO a2;exact po
def ZK (f:Zb->M D):Zb->M Out:=fun ρ=>Zq (f ρ) λd=>ZA (.rt d)
def Yh {e:Expr}{pos:Pos}(h:PD X G fr e f):YE X G ob own own' fr (.Return (some e) pos) (ZK f):=by
 obtain⟨t,p,q⟩:=h;refine⟨_,JA p,λkn jR H0 σ H ρ s out s' E ⟨Hf,j⟩ st e po=>?_⟩;obtain⟨d,s1,a1,a2⟩:=ZC e;obtain⟨rfl,rfl⟩:=ZO a2;exact q σ _ H ρ s d s' _ UT j.envB st a1 λv Hf' H' g st' r fz=>po v Hf' H' (j.grW g) st' r λz=>jn j.gr.hh r.nofp (fz z)
def ZbC {i:Nat}{x:Str}{pos pos':Pos}(hi:i∈own)(h:PE X (.Name x pos') (Z7 i)):YE X G ob own own' true (.Return (some (.Name x pos')) pos) (ZK (Za i)):=by
 refine⟨_,JA h,λkn jR H0 σ H ρ s out s' E ⟨Hf,j⟩ st e po=>?_⟩;obtain⟨d,s1,a1,a2⟩:=ZC e;obtain⟨rfl,rfl⟩:=ZO a2;obtain⟨e1,rfl⟩:=WL a1;have e':ρ[i]?=some (some d):=by
  cases q:ρ[i]? with
  | none=>rw[q]at e1;cases e1
  | some o=>rw[q]at e1;simp at e1;rw[e1]
 obtain⟨v,h1,h2⟩:=j.envB i d e';obtain⟨a,g1,g2,g3,g4,g5⟩:=j.ow i d hi e';rw[g1]at h1;cases h1;refine⟨_,g1,po (.ref a) _ H (j.grW (.refl UT)) st h2 λ_ b eb _=>?_⟩
 cases eb
 refine⟨g4,λds ed=>?_⟩;subst ed;obtain⟨vs,q1,q2⟩:=g5;refine⟨vs,Hf,?_,g3,j.wideF,q2⟩;unfold wide;rw[if_neg (λz=>z.2.no g4)];exact q1
def YF (c:Zb->M Bool)(g1 g2:Zb->M Out):Zb->M Out:=fun ρ=>Zq (c ρ) λb=>if b=true then g1 ρ else g2 ρ
def Zfj {c:Expr}{a b:List Stmt}{pos:Pos}{fc:Zb->M Bool}{g1 g2:Zb->M Out}(hc:Ww X G c fc)(ha:Wh X G ob own own' fr a g1)(hb:Wh X G ob own own' fr b g2):YE X G ob own own' fr (.If c a b pos) (YF fc g1 g2):=by
 obtain⟨tc,pc,qc⟩:=hc;obtain⟨ta,pa,qa⟩:=ha;obtain⟨tb,pb,qb⟩:=hb;refine⟨_,ZkE pc pa pb,λkn jR H0 σ H ρ s out s' E ⟨Hf,j⟩ st e po=>?_⟩;obtain⟨b,s1,a1,a2⟩:=ZC e;refine qc σ _ H ρ s b s1 _ UT j.envB st a1 λHf' H' g st'=>?_;obtain⟨F,j',fF,q1,q2⟩:=j.growB g
 cases b with
 | true=>exact Vy (qa kn jR H0 σ H' ρ s1 out s' E ⟨F,j'⟩ st' a2 po)
 | false=>exact Vx (qb kn jR H0 σ H' ρ s1 out s' E ⟨F,j'⟩ st' a2 po)
def JW (X:Cx)(G:Gh)(fr:Bool)(i:Nat)(st:Stmt)(f:Zb->M D):Prop:=∃te,PS X st (λE σ H=>te σ H λy H1=>E.nx (σ.set i (some y)) H1)/\XR G fr te f
def Yt {i:Nat}{x:Str}{e:Expr}{pos pos':Pos}(hN:X.N.Nodup)(hi:X.N[i]?=some x)(hx:WR X.env.scope x)(he:PD X G fr e f)(hs:xr e (some (.Name x pos')) pos.line X.env=pure false:=by rfl)
  (hf:X.fn x=true∨X.env.scope.names.lookup x=some .local:=by first | exact .inl rfl | exact .inr rfl | assumption):JW X G fr i (.Assign [.Name x pos'] e pos) f:=by
 obtain⟨t,p,q⟩:=he;exact⟨t,Ux hN hi hx p hs hf,q⟩
def ZT (i:Nat)(f:Zb->M D):Zb->M Out:=fun ρ=>Zq (f ρ) λd=>ZA (.nx (ρ.set i (some d)))
def Zf3 {i:Nat}{st:Stmt}{te:TE}(hp:PS X st (λE σ H=>te σ H λy H1=>E.nx (σ.set i (some y)) H1))(hy:WP G own fr te f)(hi:i∉own){fr':Bool}:YE X G ob own own fr' st (ZT i f):=
 ⟨_,hp,λkn jR H0 σ H ρ s out s' E ⟨Hf,j⟩ st e po=>by
  obtain⟨d,s1,a1,a2⟩:=ZC e;obtain⟨rfl,rfl⟩:=ZO a2;exact hy kn jR H0 σ Hf H ρ s d s' _ j st a1 λv Hf' H' j' e1 e2 st' r fz=>po _ H' ⟨Hf',j'.setF hi r⟩ st'⟩
def YB {i:Nat}{st:Stmt}{fr':Bool}(h:JW X G fr i st f):YE X G ob [] [] fr' st (ZT i f):=let ⟨_,p,q⟩:=h;Zf3 p q.n (by simp)
def Zf4 {i:Nat}{st:Stmt}{fr':Bool}(h:JW X G fr i st f)(hi:i∉own:=by decide):YE X G ob own own fr' st (ZT i (fun ρ=>f (Yq own ρ))):=let ⟨_,p,q⟩:=h;Zf3 p q.a hi
def WI (i:Nat)(f:Zb->M D):Zb->M Out:=fun ρ=>Zq (f ρ) λd=>if BL d=true then ZA (.nx (ρ.set i (some d)))else Zv
def Zf5 {i:Nat}{st:Stmt}{te:TE}(hp:PS X st (λE σ H=>te σ H λy H1=>E.nx (σ.set i (some y)) H1))(hy:WP G own true te f)(ho:∀k,k∈own'↔k=i∨k∈own){fr':Bool}:YE X G ob own own' fr' st (WI i f):=
 ⟨_,hp,λkn jR H0 σ H ρ s out s' E ⟨Hf,j⟩ st e po=>by
  obtain⟨d,s1,a1,a2⟩:=ZC e;obtain⟨ok,a3⟩:=Xf a2;obtain⟨rfl,rfl⟩:=ZO a3;exact hy kn jR H0 σ Hf H ρ s d s' _ j st a1 λv Hf' H' j' e1 e2 st' r fz=>po _ H' (j.setOwn j' ho st e2 e1 r (fz rfl) ok) st'⟩
def Jp {i:Nat}{st:Stmt}{fr':Bool}(h:JW X G true i st f):YE X G ob [] [i] fr' st (WI i f):=let ⟨_,p,q⟩:=h;Zf5 p q.n (by intro k;simp)
def ZkZ {i:Nat}{st:Stmt}{fr':Bool}(h:JW X G true i st f)(ho:∀k,k∈own'↔k=i∨k∈own:=by intro k;simp;try omega):YE X G ob own own' fr' st (WI i (fun ρ=>f (Yq own ρ))):=let ⟨_,p,q⟩:=h;Zf5 p q.a ho
inductive Sets (G:Gh)(Hf:Hp)(ok:Nat->Prop):St->Zb->St->Zb->Prop
 | nil {σ ρ}:Sets G Hf ok σ ρ σ ρ
 | cons {σ ρ σ' ρ'} {i:Nat} {d:D} {v:V}:ok i->Zm G Hf d v->Sets G Hf ok (σ.set i (some v)) (ρ.set i (some d)) σ' ρ'->Sets G Hf ok σ ρ σ' ρ'
def Vh (X:Cx)(G:Gh)(tg:Expr)(ok:Nat->Prop)(τ:D->Zb->Option Zb):Prop:=
 ∃g,PG X tg g/\∀(x:V) (σ:St) (Hf H:Hp) (d:D) (ρ ρ':Zb) (Q:St->Hp->Prop),ZB G Hf H->Zm G Hf d x->τ d ρ=some ρ'->(∀σ',Sets G Hf ok σ ρ σ' ρ'->Q σ' H)->g x σ H Q
def Zw (i:Nat):D->Zb->Option Zb:=λd ρ=>some (ρ.set i (some d))
def X7 {i:Nat}{x:Str}{pos:Pos}{ok:Nat->Prop}(hN:X.N.Nodup)(hi:X.N[i]?=some x)(hx:WR X.env.scope x)(oi:ok i)(hf:X.fn x=true∨X.env.scope.names.lookup x=some .local:=by first | exact .inl rfl | exact .inr rfl | assumption):Vh X G (.Name x pos) ok (Zw i):=
 ⟨_,X0 hN hi hx hf,λx σ Hf H d ρ ρ' Q e r q k=>by
  cases q
  exact k _ (.cons oi r .nil)⟩
def Ws (i j:Nat):D->Zb->Option Zb:=λd ρ=>match d with | .tup [a,b]=>some ((ρ.set i (some a)).set j (some b)) | _=>none
def Bx {i j:Nat}{x y:Str}{pos px py:Pos}{k:Nat}{ok:Nat->Prop}(hc:X.calm=true)(hN:X.N.Nodup)(hi:X.N[i]?=some x)(hj:X.N[j]?=some y)(hx:WR X.env.scope x)(hy:WR X.env.scope y)(oi:ok i)(oj:ok j)
  (hfx:X.fn x=true∨X.env.scope.names.lookup x=some .local:=by first | exact .inl rfl | exact .inr rfl | assumption) (hfy:X.fn y=true∨X.env.scope.names.lookup y=some .local:=by first | exact .inl rfl | exact .inr rfl | assumption)
  (hn:(assignEach [.Name x px,.Name y py] X.env).length=2:=by rfl) (hst:(assignEach [.Name x px,.Name y py] X.env).findIdx? (·.1)=none:=by rfl)
  (hp:J4 X [.Name x px,.Name y py] (JN (Wf i) (JN (Wf j) gNil))):Vh X G (.Tuple [.Name x px,.Name y py] k pos) ok (Ws i j):=
 ⟨_,ZkF hc hp hn hst,λx σ Hf H d ρ ρ' Q e r q k=>by
  match d,q,r with
  | .tup [a,b],q,r=>
   cases q
   obtain⟨ad,vs,rfl,n,h,rl⟩:=jc.mp r;obtain⟨v1,r1,rfl,q1,q2⟩:=jd.mp rl;obtain⟨v2,r2,rfl,q3,q4⟩:=jd.mp q2;have:=Zk.nil_iff.mp q4;subst this;exact⟨ad,_,rfl,ZS.of (e _ _ n h),rfl,v1,_,rfl,v2,_,rfl,rfl,k _ (.cons oi q1 (.cons oj q3 .nil))⟩⟩
def Sets.jf {kn jR H0 Hf H:Hp}{σ σ':St}{ρ ρ':Zb}(h:Sets G Hf (λi=>i∉own) σ ρ σ' ρ'):Jf G own kn jR H0 σ Hf H ρ->Jf G own kn jR H0 σ' Hf H ρ':=by
 induction h with
 | nil=>exact λj=>j
 | cons o r _ ih=>exact λj=>ih (j.setF o r)
def VA (G:Gh)(J:It)(Hf':Hp)(ds:List D):Prop:=
 ∀(i:Nat) (kc H2:Hp) (s:Pn),ZB G Hf' kc->ZB G kc H2->G.st s H2->
  (∀d,ds[i]?=some d->J.go i H2/\∀x H3,J.yld i H2 x H3->∃Hf3,Gr G kc H2 Hf3 H3/\G.st s H3/\Zm G Hf3 d x)/\(i=ds.length->J.stop i H2)
def WS (X:Cx)(G:Gh)(tg iter:Expr)(f:Zb->M (List D)):Prop:=
 ∃wi,PI X tg iter wi/\∀(σ:St) (Hf H:Hp) (ρ:Zb) (s:Pn) (ds:List D) (s':Pn) (R:It->Hp->Prop),ZB G Hf H->YY G Hf σ ρ->G.st s H->f ρ s=some (ds,s')->
  (∀J Hf' H',Gr G Hf H Hf' H'->G.st s' H'->VA G J Hf' ds->R J H')->wi σ H R
def VA.range {lo:Int}{n:Nat}{Hf:Hp}{ds:List D}(e:ds=(qk n).map λ(i:Nat)=>D.int (lo+i)):VA G (B3 lo n) Hf ds:=λi kc H2 s e1 e2 st=>by
 subst e;refine⟨λd q=>?_,λq=>by show n<=i;rw[q];simp⟩;have hi:i<n:=by
  have:=(qM.mp q).1;simpa using this
 have hd:d=.int (lo+i):=by
  rw[qt,zT hi]at q;simp at q;exact q.symm
 subst hd;refine⟨hi,λx H3 y=>?_⟩;obtain⟨y1,y2⟩:=y;subst y1 y2;exact⟨kc,.refl e2,st,ja.mpr rfl⟩
def VA.list {K:ql}{a:Addr}{vs:List V}{Hf:Hp}{ds:List D}(nf:¬G.fp a)(h:Hf a=some (.lst vs))(r:Zk G Hf ds vs):VA G (Itl K a) Hf ds:=λi kc H2 s e1 e2 st=>by
 have h2:ZF K H2 a vs:=ZF.of (e2 _ _ nf (e1 _ _ nf h));refine⟨λd q=>?_,λq=>⟨vs,h2,by rw[q,r.length];exact qq _⟩⟩;obtain⟨v,q1,q2⟩:=r.get q;refine⟨⟨vs,v,h2,q1⟩,λx H3 ⟨y1,y2⟩=>?_⟩;subst y1;have e:=y2 vs h2;rw[q1]at e;cases e;exact⟨kc,.refl e2,st,q2.ext e1⟩
def VA.tup {K:ql}{a:Addr}{vs:List V}{Hf:Hp}{ds:List D}(nf:¬G.fp a)(h:Hf a=some (.tup vs))(r:Zk G Hf ds vs):VA G (Itt K a) Hf ds:=λi kc H2 s e1 e2 st=>by
 have h2:ZS K H2 a vs:=ZS.of (e2 _ _ nf (e1 _ _ nf h));refine⟨λd q=>?_,λq=>⟨vs,h2,by rw[q,r.length];exact qq _⟩⟩;obtain⟨v,q1,q2⟩:=r.get q;refine⟨⟨vs,v,h2,q1⟩,λx H3 ⟨y1,y2⟩=>?_⟩;subst y1;have e:=y2 vs h2;rw[q1]at e;cases e;exact⟨kc,.refl e2,st,q2.ext e1⟩
def Yb (lo:Int)(n:Nat):List D:=(qk n).map λ(i:Nat)=>D.int (lo+i)
def Z8 (f:Zb->M D):Zb->M (List D):=fun ρ=>Zq (f ρ) λd=>match d with | .int j=>if -(2 ^ 62)<=j/\j<2 ^ 62 then ZA (Yb 0 j.toNat)else Zv | _=>Zv
def V4 {tg a:Expr}{p pos:Pos}{r1:Bool}(hg:Gl X "range")(hm:X.mg "range" = none)(ha:PD X G r1 a f)(hs:xh [a] X.env=[(false,eval a X.env)]:=by rfl):WS X G tg (.Call (.Name "range" p) [a] [] pos) (Z8 f):=by
 obtain⟨t,pa,qa⟩:=ha.drop;refine⟨_,Zcc hg hm (YN pa Y3 (by rw[hs];rfl)) hs,fun σ Hf H ρ s ds s' R e1 e2 e3 e4 k=>?_⟩;obtain⟨d,s1,a1,a2⟩:=ZC e4
 cases d with
 | int j=>
  obtain⟨c,a3⟩:=Xf a2;obtain⟨rfl,rfl⟩:=ZO a3;refine qa σ Hf H ρ s _ _ _ e1 e2 e3 a1 λv jV H1 g st r=>?_;rw[ja.mp r];exact⟨j,rfl,c.1,c.2,k _ jV H1 g st (.range rfl)⟩
 | _=>cases a2
def ZcR (f g:Zb->M D):Zb->M (List D):=fun ρ=>Zq (f ρ) λd=>Zq (g ρ) λe=>match d,e with | .int i,.int j=>if -(2 ^ 62)<=i/\i<2 ^ 62/\-(2 ^ 62)<=j/\j<2 ^ 62 then ZA (Yb i (j-i).toNat)else Zv | _,_=>Zv
def ZV (f:Zb->M D):Zb->M (List D):=fun ρ=>Zq (f ρ) λd=>match d with | .lst ds=>ZA ds | _=>Zv
def WN (f:Zb->M D):Zb->M (List D):=fun ρ=>Zq (f ρ) λd=>match d with | .tup ds=>ZA ds | _=>Zv
def Xz {tg l:Expr}{r1:Bool}(hl:PD X G r1 l f):WS X G tg l (ZV f):=by
 obtain⟨t,pa,qa⟩:=hl.drop;refine⟨_,Zfb pa,fun σ Hf H ρ s ds s' R e1 e2 e3 e4 k=>?_⟩;obtain⟨d,s1,a1,a2⟩:=ZC e4
 cases d with
 | lst es=>
  obtain⟨rfl,rfl⟩:=ZO a2;refine qa σ Hf H ρ s _ _ _ e1 e2 e3 a1 λv jV H1 g st r=>?_;obtain⟨a,vs,rfl,nf,h,rl⟩:=jb.mp r;exact⟨a,rfl,⟨vs,ZF.of (g.fh _ _ nf h)⟩,k _ jV H1 g st (.list nf h rl)⟩
 | _=>cases a2
def ZcS {tg l:Expr}{r1:Bool}(hl:PD X G r1 l f):WS X G tg l (WN f):=by
 obtain⟨t,pa,qa⟩:=hl.drop;refine⟨_,ZoN pa,fun σ Hf H ρ s ds s' R e1 e2 e3 e4 k=>?_⟩;obtain⟨d,s1,a1,a2⟩:=ZC e4
 cases d with
 | tup es=>
  obtain⟨rfl,rfl⟩:=ZO a2;refine qa σ Hf H ρ s _ _ _ e1 e2 e3 a1 λv jV H1 g st r=>?_;obtain⟨a,vs,rfl,nf,h,rl⟩:=jc.mp r;exact⟨a,rfl,⟨vs,ZS.of (g.fh _ _ nf h)⟩,k _ jV H1 g st (.tup nf h rl)⟩
 | _=>cases a2
def WQ (τ:D->Zb->Option Zb)(body:Zb->M Out):List D->Zb->M Out
 | [],ρ=>ZA (.nx ρ)
 | d::ds,ρ=>Zq (YQ (τ d ρ)) fun ρ1=>Zq (body ρ1) λo=>match o with | .nx ρ2=>WQ τ body ds ρ2 | .ct ρ2=>WQ τ body ds ρ2 | .bk ρ2=>ZA (.nx ρ2) | .rt d=>ZA (.rt d)
def YZ (fi:Zb->M (List D))(τ:D->Zb->Option Zb)(body:Zb->M Out):Zb->M Out:=fun ρ=>Zq (fi ρ) λds=>WQ τ body ds ρ
def BY (X:Cx)(G:Gh)(own:List Nat)(tg iter:Expr)(f:Zb->M (List D)):Prop:=
 ∃wi,PI X tg iter wi/\∀(kn jR H0:Hp) (σ:St) (Hf H:Hp) (ρ:Zb) (s:Pn) (ds:List D) (s':Pn) (R:It->Hp->Prop),Jf G own kn jR H0 σ Hf H ρ->G.st s H->f ρ s=some (ds,s')->
  (∀J Hf' H',Jf G own kn jR H0 σ Hf' H' ρ->ZB G Hf Hf'->G.st s' H'->VA G J Hf' ds->R J H')->wi σ H R
def WS.a {tg iter:Expr}{fi:Zb->M (List D)}(h:WS X G tg iter fi):BY X G own tg iter (fun ρ=>fi (Yq own ρ)):=by
 obtain⟨wi,p,q⟩:=h;exact⟨wi,p,λkn jR H0 σ Hf H ρ s ds s' R j st e k=>q σ Hf H _ s ds s' R j.gr.fh j.envA st e λJ Hf' H' g st' it=>k J Hf' H' (j.grow g) g.ff st' it⟩
def WS.n {tg iter:Expr}{fi:Zb->M (List D)}(h:WS X G tg iter fi):BY X G [] tg iter fi:=by
 obtain⟨wi,p,q⟩:=h.a (own:=[]);exact⟨wi,p,λkn jR H0 σ Hf H ρ s ds s' R j st e k=>q kn jR H0 σ Hf H ρ s ds s' R j st (by show fi (Yq [] ρ) s=_;rw[Zdd];exact e) k⟩
def W7 {tg a:Expr}{p pos:Pos}{r1:Bool}(hg:Gl X "range")(hm:X.mg "range" = none)(ha:PD X G r1 a f)(hs:xh [a] X.env=[(false,eval a X.env)]:=by rfl):BY X G own tg (.Call (.Name "range" p) [a] [] pos) (Z8 f):=by
 obtain⟨t,pa,qa⟩:=ha.drop;refine⟨_,Zcc hg hm (YN pa Y3 (by rw[hs];rfl)) hs,λkn jR H0 σ Hf H ρ s ds s' R j st e4 k=>?_⟩;obtain⟨d,s1,a1,a2⟩:=ZC e4
 cases d with
 | int i=>
  obtain⟨c,a3⟩:=Xf a2;obtain⟨rfl,rfl⟩:=ZO a3;refine qa σ _ H ρ s _ _ _ UT j.envB st a1 λv jV H1 g st r=>?_;obtain⟨F,j',fF,q1,q2⟩:=j.growB g;rw[ja.mp r];exact⟨i,rfl,c.1,c.2,k _ F H1 j' fF st (.range rfl)⟩
 | _=>cases a2
def Zf6 {tg a b:Expr}{p pos:Pos}{r1 r2:Bool}{f2:Zb->M D}(hg:Gl X "range")(hm:X.mg "range" = none)(ha:PD X G r1 a f)(hb:PD X G r2 b f2)
  (hs:xh [a,b] X.env=[(false,eval a X.env),(false,eval b X.env)]:=by rfl) (hs2:xh [b] X.env=[(false,eval b X.env)]:=by rfl):BY X G own tg (.Call (.Name "range" p) [a,b] [] pos) (ZcR f f2):=by
 obtain⟨t,pa,qa⟩:=ha.drop;obtain⟨u,pb,qb⟩:=hb.drop;refine⟨_,Zje hg hm (YN pa (YN pb Y3 (by rw[hs2];rfl)) (by rw[hs,hs2])) hs hs2,λkn jR H0 σ Hf H ρ s ds s' R j st e4 k=>?_⟩;obtain⟨d,s1,a1,a2⟩:=ZC e4;obtain⟨d2,s2,a3,a4⟩:=ZC a2
 match d,d2,a4,a1,a3 with
 | .int i,.int l,a4,a1,a3=>
  obtain⟨c,a5⟩:=Xf a4;obtain⟨rfl,rfl⟩:=ZO a5;refine qa σ _ H ρ s _ _ _ UT j.envB st a1 λv jV H1 g st r=>?_;refine qb σ jV H1 ρ s1 _ _ _ g.fh (j.envB.ext g.ff) st a3 λv2 kc H2 g2 j6 r2=>?_;obtain⟨F,j',fF,q1,q2⟩:=j.growB (g.trans g2);rw[ja.mp r,ja.mp r2];exact⟨i,l,rfl,c,k _ F H2 j' fF j6 (.range rfl)⟩
def Jf.weak {kn kn' jR H0 Hf H:Hp}{σ:St}{ρ:Zb}(j:Jf G own kn' jR H0 σ Hf H ρ)(e:ZB G kn kn'):Jf G own kn jR H0 σ Hf H ρ:=⟨j.len,e.trans j.kn,j.gr,j.fz,j.ow,j.ne⟩
def Wp {tg iter:Expr}{body:List Stmt}{pos:Pos}{fi:Zb->M (List D)}{τ:D->Zb->Option Zb}{g:Zb->M Out}(hp:PassesOwn (xC X.prog X.w) X.A X.env X.xe)(hc:X.calm=true)(hi:BY X G own tg iter fi)(hg:Vh X G tg (λi=>i∉own) τ)(hb:Wh X G own own own fr body g)
  (hs:∀x,foldedSetIterable iter X.env x=pure x:=by intro _;rfl):YE X G ob own own fr (.For tg iter body [] pos) (YZ fi τ g):=by
 obtain⟨wi,pi,qi⟩:=hi;obtain⟨gt,pg,qg⟩:=hg;obtain⟨tb,pb,qb⟩:=hb;refine⟨_,ZkK hp hc pi pg pb hs,λkn jR H0 σ H ρ s out s' E ⟨Hf,j⟩ st e po=>?_⟩;obtain⟨ds,s1,a1,a2⟩:=ZC e;refine qi kn jR H0 σ Hf H ρ s ds s1 _ j st a1 λJt jV H1 j1 e1 kb it=>?_;refine⟨λi m σ2 H2=>∃ρ2 s2,J G own jV jR H0 σ2 H2 ρ2/\G.st s2 H2/\WQ τ g (ds.drop i) ρ2 s2=some (out,s')/\i<=ds.length/\m=ds.length-i,⟨_,ρ,s1,⟨jV,⟨j1.len,.refl _ _,j1.gr,j1.fz,j1.ow,j1.ne⟩⟩,kb,a2,zl _,rfl⟩,?_⟩;rintro i m σ2 H2 ⟨ρ2,s2,⟨kc,j2⟩,j6,eq2,hle,rfl⟩;obtain⟨i1,i2⟩:=it i kc H2 s2 j2.kn j2.gr.fh j6;by_cases hlt:i<ds.length
 ·have hd:ds.drop i=ds[i]::ds.drop (i+1):=qas hlt
  rw[hd]at eq2;obtain⟨ρ3,s3,b1,b2⟩:=ZC eq2;obtain⟨b1',e3⟩:=WL b1;subst e3;obtain⟨o,s4,b3,b4⟩:=ZC b2;obtain⟨go,yl⟩:=i1 ds[i] (by simp[hlt]);refine .inr ⟨go,fun σ' H'=>∃ρ5 s5,J G own jV jR H0 σ' H' ρ5/\G.st s5 H'/\WQ τ g (ds.drop (i+1)) ρ5 s5=some (out,s'),fun σ' H' ⟨ρ5,s5,j5,st5,q5⟩=>⟨_,by omega,ρ5,s5,j5,st5,q5,hlt,rfl⟩,λx H3 y3=>?_⟩;obtain⟨Hf3,g3,st3,r3⟩:=yl x H3 y3;have j3:=j2.grow g3;refine qg x σ2 Hf3 H3 ds[i] ρ2 ρ3 _ g3.fh r3 b1' fun σ3 sets=>?_;have j4:=sets.jf j3;refine qb jV jR H0 σ3 H3 ρ3 s3 o s4 _ ⟨Hf3,j4⟩ st3 b3 ?_
  cases o with
  | nx ρ5=>exact fun σ5 H5 j5 st5=>⟨ρ5,s4,j5,st5,b4⟩
  | ct ρ5=>exact fun σ5 H5 j5 st5=>⟨ρ5,s4,j5,st5,b4⟩
  | bk ρ5=>
   obtain⟨rfl,rfl⟩:=ZO b4;exact fun σ5 H5 ⟨Hf5,j5⟩ st5=>po σ5 H5 ⟨Hf5,j5.weak (j.kn.trans e1)⟩ st5
  | rt d=>
   obtain⟨rfl,rfl⟩:=ZO b4;exact po
 ·have hd:ds.drop i=[]:=qch.mpr (by omega)
  rw[hd]at eq2;obtain⟨rfl,rfl⟩:=ZO eq2;exact .inl ⟨i2 (by omega),po σ2 H2 ⟨kc,j2.weak (j.kn.trans e1)⟩ j6⟩
end
def runB (n k:Nat)(g:Zb->M Out):List D->M D:=λds=>if ds.length=k then Zq (g (ds.map some++qw (n-k) none)) λo=>match o with | .rt d=>ZA d | .nx _=>ZA .non | _=>Zv else Zv
def Y1 {P:xE}{w:World}{K:ql}{mg:Str->Option Value}{base:Heap}{x qual:Str}{st:Stmt}{f:Addr}{fd:xD}{N ps:List Str}{k:Nat}{own:List Nat}{fr:Bool}{GG:Gh->Prop}{g:Zb->M Out}
  (F:Fun K x qual st f fd) (S:FnScope N ps (Zy st))
  (hb:∀(cdv:Value) (A:xF) (outer:List Env) (s:Shared) (H:Hp) (E:XK),Room k (A.deeper (envOfC qual (Zy st) s.heap.objs.size f cdv))->∀G,GG G->Wh (W2 ZQ P w K mg base N qual (Zy st) f cdv A outer s H E).nox G [] [] own fr (WM st) g) :
  FnOk P w K mg base ZQ (k+1) f fd ps (Yf ps.length fr GG (runB N.length ps.length g)):=by
 refine F.ok S (λvs H Q E h=>?_) λcdv A outer s H vs Q E hr h=>?_
 ·obtain⟨G,Hf,ds,pn,d,pn',_,e,_⟩:=h
  exact e
 ·obtain⟨G,Hf,ds,pn,d,pn',hG,el,e1,r,st',eF,k'⟩:=h
  obtain⟨t,p,q⟩:=hb cdv A outer s H E hr G hG;refine⟨t,p,?_⟩;obtain⟨hl,a0⟩:=Xf eF;obtain⟨o,s1,a1,a2⟩:=ZC a0;have hpl:ps.length<=N.length:=by have:=congrArg qaQ S.pre;rw[z0]at this;omega
  have j0:Jf G [] Hf Hf H (L2.start N vs) Hf H (ds.map some++qw (N.length-ps.length) none):=by
   refine⟨?_,.refl _ _,.refl e1,λi d n e=>?_,λi d m e=>?_,λi j a di dj mi mj n e=>?_⟩
   ·unfold L2.start;simp;omega
   ·have hi:i<ds.length:=by
     by_cases hi:i<ds.length
     ·exact hi
     ·rw[yb (by simpa using hi),yE]at e
      split at e <;> cases e
    have e':ds[i]?=some d:=by
     rw[zH (by simpa using hi),qt]at e
     cases q:ds[i]? with
     | none=>rw[q]at e;cases e
     | some c=>rw[q]at e;simp at e;rw[e]
    obtain⟨v,h1,h2⟩:=r.get e';refine⟨v,?_,h2⟩;unfold L2.start;rw[zH (by simp;rw[<-r.length];exact hi),qt,h1];rfl
   ·exact absurd m (by simp)
   ·exact absurd mi (by simp)
  refine q Hf Hf H (L2.start N vs) H _ pn o s1 _ ⟨Hf,j0⟩ st' a1 ?_
  cases o with
  | rt c=>
   obtain⟨rfl,rfl⟩:=ZO a2;exact λv Hf' H' g' j6 r2 fz=>k' v Hf' H' g' j6 r2 fz
  | nx ρ'=>
   obtain⟨rfl,rfl⟩:=ZO a2;exact fun σ' H' ⟨Hf',j'⟩ j6=>k' .non Hf' H' j'.gr j6 (jg.mpr rfl) λ_=>.scal λz=>z
  | bk ρ'=>cases a2
  | ct ρ'=>cases a2
def tOf (G:Gh)(fr:Bool)(f:Zb->M D):TE:=fun σ H Q=>∃(Hf:Hp) (ρ:Zb) (s:Pn) (d:D) (s':Pn),ZB G Hf H/\YY G Hf σ ρ/\G.st s H/\f ρ s=some (d,s')/\
 ∀v Hf' H',Gr G Hf H Hf' H'->G.st s' H'->Zm G Hf' d v->(fr=true->YC G H Hf' d v)->Q v H'
def U4 (G:Gh)(f:Zb->M Bool):TT:=fun σ H Q=>∃(Hf:Hp) (ρ:Zb) (s:Pn) (b:Bool) (s':Pn),ZB G Hf H/\YY G Hf σ ρ/\G.st s H/\f ρ s=some (b,s')/\
 ∀Hf' H',Gr G Hf H Hf' H'->G.st s' H'->Q b H'
def gOf (G:Gh)(ok:Nat->Prop)(τ:D->Zb->Option Zb):TG:=λx σ H Q=>∃(Hf:Hp) (d:D) (ρ ρ':Zb),ZB G Hf H/\Zm G Hf d x/\τ d ρ=some ρ'/\∀σ',Sets G Hf ok σ ρ σ' ρ'->Q σ' H
section
variable {X:Cx}{G:Gh}{own:List Nat}{fr:Bool}{f:Zb->M D}
def PD.canon {e:Expr}(h:PD X G fr e f):PE X e (tOf G fr f):=by
 obtain⟨t,p,q⟩:=h;exact λjJ s σ H Q I ⟨Hf,ρ,pn,d,pn',a1,a2,a3,a4,k⟩=>p jJ s σ H Q I (q σ Hf H ρ pn d pn' Q a1 a2 a3 a4 k)
def Ww.canon {e:Expr}{f:Zb->M Bool}(h:Ww X G e f):PT X e (U4 G f):=by
 obtain⟨t,p,q⟩:=h;exact λjJ s σ H Q I ⟨Hf,ρ,pn,d,pn',a1,a2,a3,a4,k⟩=>p jJ s σ H Q I (q σ Hf H ρ pn d pn' Q a1 a2 a3 a4 k)
def Vh.canon {tg:Expr}{ok:Nat->Prop}{τ:D->Zb->Option Zb}(h:Vh X G tg ok τ):PG X tg (gOf G ok τ):=by
 obtain⟨t,p,q⟩:=h;exact λjJ s σ H v u Q I r ⟨Hf,d,ρ,ρ',a1,a2,a3,k⟩=>p jJ s σ H v u Q I r (q v σ Hf H d ρ ρ' Q a1 a2 a3 k)
def X1 (src:List (Option Nat))(ρ:Zb):Zb:=src.map λo=>o.bind λj=>(ρ[j]?).bind id
def Zhm {Hf:Hp}{σ:St}{ρ:Zb}{src:List (Option Nat)}(h:YY G Hf σ ρ):YY G Hf (VR src σ) (X1 src ρ):=λi d e=>by
 unfold X1 at e;rw[qt]at e
 cases q:src[i]? with
 | none=>rw[q]at e;cases e
 | some o=>
  rw[q]at e
  cases o with
  | none=>simp at e
  | some j=>
   simp only[zS,qbB,qbv]at e;have hj:ρ[j]?=some (some d):=by
    cases e2:ρ[j]? with
    | none=>rw[e2]at e;cases e
    | some o2=>rw[e2]at e;simp at e;rw[e]
   obtain⟨v,h1,h2⟩:=h j d hj;refine⟨v,?_,h2⟩;unfold VR;rw[qt,q];simp[h1]
def Sets.len {Hf:Hp}{ok:Nat->Prop}{σ σ':St}{ρ ρ':Zb}(h:Sets G Hf ok σ ρ σ' ρ'):(σ.length=ρ.length->σ'.length=ρ'.length)/\σ'.length=σ.length:=by
 induction h with
 | nil=>exact⟨λe=>e,rfl⟩
 | cons _ _ _ ih=>exact⟨λe=>ih.1 (by simp[e]),ih.2.trans (by simp)⟩
def Sets.env {Hf:Hp}{ok:Nat->Prop}{σ σ':St}{ρ ρ':Zb}(h:Sets G Hf ok σ ρ σ' ρ'):σ.length=ρ.length->YY G Hf σ ρ->YY G Hf σ' ρ':=by
 induction h with
 | nil=>exact λ_ e=>e
 | @cons σ ρ σ' ρ' i d v o r _ ih=>
  intro hl he;refine ih (by simp[hl]) λk c e=>?_;by_cases h:i=k
  ·subst h
   have hk:i < ρ.length:=by
    have:=(qM.mp e).1;simpa using this
   rw[zw hk]at e
   cases e
   exact⟨v,zw (by rw[hl];exact hk),r⟩
  ·rw[qT h]at e⊢
   exact he k c e
def Sets.envOld {Hf:Hp}{ok:Nat->Prop}{σ σ':St}{ρ ρ' ρ0:Zb}(h:Sets G Hf ok σ ρ σ' ρ')(h0:∀i d,ok i->ρ0[i]?≠some (some d)):YY G Hf σ ρ0->YY G Hf σ' ρ0:=by
 induction h with
 | nil=>exact λe=>e
 | @cons σ ρ σ' ρ' i d v o r _ ih=>
  intro he;refine ih λk c e=>?_;have hne:i≠k:=λz=>h0 k c (z▸o) e;rw[qT hne];exact he k c e
def UB (τ:D->Zb->Option Zb)(ft:Zb->M Bool)(fe:Zb->M D)(ρ:Zb):List D->M (List D)
 | []=>ZA []
 | d::ds=>Zq (YQ (τ d ρ)) fun ρ1=>Zq (ft ρ1) λb=>if b=true then Zq (fe ρ1) λc=>Zq (UB τ ft fe ρ ds) λr=>ZA (c::r)else UB τ ft fe ρ ds
def ZR (src:List (Option Nat))(fi:Zb->M (List D))(τ:D->Zb->Option Zb)(ft:Zb->M Bool)(fe:Zb->M D):Zb->M D:=fun ρ=>
 Zq (fi ρ) λds=>if ds.length<=xg then Zq (UB τ ft fe (X1 src ρ) ds) λr=>ZA (.lst r)else Zv
def Z3:Zb->M Bool:=λ_=>ZA true
def Zf7 {src:List (Option Nat)}{wi:TI}{fi:Zb->M (List D)}{τ:D->Zb->Option Zb}{ft:Zb->M Bool}{fe:Zb->M D}{r1:Bool}
  (qi:∀(σ:St) (Hf H:Hp) (ρ:Zb) (s:Pn) (ds:List D) (s':Pn) (R:It->Hp->Prop),ZB G Hf H->YY G Hf σ ρ->G.st s H->fi ρ s=some (ds,s')->
   (∀J Hf' H',Gr G Hf H Hf' H'->G.st s' H'->VA G J Hf' ds->R J H')->wi σ H R) :
  XR G true (JP src wi (gOf G (λi=>src[i]?=some none) τ) (U4 G ft) (tOf G r1 fe)) (ZR src fi τ ft fe):=by
 intro σ Hf H ρ s d s' Q e1 e2 e3 e4 k;obtain⟨ds,s1,a1,a2⟩:=ZC e4;obtain⟨hz,a3⟩:=Xf a2;obtain⟨r,s2,a4,a5⟩:=ZC a3;obtain⟨rfl,rfl⟩:=ZO a5;refine qi σ Hf H ρ s ds s1 _ e1 e2 e3 a1 λJt jV H1 g1 kb it=>?_;intro p hp;have nrp:=jC kb hp;have nfp:=jt nrp;have hf1p:jV p=none:=by
  cases e:jV p with
  | none=>rfl
  | some o=>rw[g1.fh p o nfp e]at hp;cases hp
 have h0:∀(i:Nat) (d:D),src[i]?=some none->(X1 src ρ)[i]?≠some (some d):=λi d e q=>by
  unfold X1 at q;rw[qt,e]at q;simp at q
 refine⟨λi m σ2 H2=>∃(kc:Hp) (s2:Pn) (vs:List V) (jP rest:List D),i<=ds.length/\m=ds.length-i/\Gr G jV H1 kc H2/\YY G kc σ2 (X1 src ρ)/\σ2.length=(X1 src ρ).length/\G.st s2 H2/\kc p=none/\H2 p=some (.lst vs)/\Zk G kc jP vs/\jP.length<=i/\
  UB τ ft fe (X1 src ρ) (ds.drop i) s2=some (rest,s')/\jP++rest=r,⟨_,jV,s1,[],[],r,zl _,rfl,?_,?_,?_,Gh.grow kb hp,hf1p,ZI,Zk.nil_iff.mpr rfl,qq _,a4,rfl⟩,?_⟩
 ·refine⟨λb o n e=>?_,.refl _ _,λb o n e=>?_,λb n h1 h2=>h1⟩
  ·rw[Zr (Z1 e hp)];exact e
  ·rw[Zr (Z1 e hf1p)];exact g1.fh b o n e
 ·exact Zhm (e2.ext g1.ff)
 ·unfold VR X1;simp
 ·rintro i m σ2 H2 ⟨kc,sz,vs,jP,rest,hle,rfl,g2,env2,len2,j6,hfp2,hp2,racc,hacc,eq2,hr⟩
  obtain⟨i1,i2⟩:=it i kc H2 sz g2.ff g2.fh j6;by_cases hlt:i<ds.length
  ·have hd:ds.drop i=ds[i]::ds.drop (i+1):=qas hlt
   rw[hd]at eq2;obtain⟨ρ3,s3,b1,b2⟩:=ZC eq2;obtain⟨b1',e3'⟩:=WL b1;subst e3';obtain⟨bo,s4,b3,b4⟩:=ZC b2;obtain⟨go,yl⟩:=i1 ds[i] (by simp[hlt]);refine .inr ⟨go,λx H3 y3=>?_⟩;obtain⟨Hf3,g3,st3,r3⟩:=yl x H3 y3;refine⟨Hf3,ds[i],X1 src ρ,ρ3,g3.fh,r3,b1',fun σ4 sets=>?_⟩;have env2':=env2.ext g3.ff;have env4:=sets.env len2 env2';have env4':=sets.envOld h0 env2';refine⟨Hf3,ρ3,s3,bo,s4,g3.fh,env4,st3,b3,λHf5 H5 g5 st5=>?_⟩;have g25:=g3.trans g5;have hfp5:Hf5 p=none:=g25.nw p nfp hfp2 ⟨_,hp2,λ_ z=>by cases z⟩;have hp5:H5 p=some (.lst vs):=g25.hh p _ nfp hp2
   cases bo with
   | false=>
    refine Vx ⟨ds.length-(i+1),by omega,Hf5,s4,vs,jP,rest,hlt,rfl,g2.trans g25,env4'.ext g5.ff,by rw[<-len2];exact sets.len.2,st5,hfp5,hp5,racc.ext g25.ff,by omega,?_,hr⟩;exact b4
   | true=>
    have b4':Zq (fe ρ3) (λc=>Zq (UB τ ft fe (X1 src ρ) (ds.drop (i+1))) λr=>ZA (c::r)) s4=some (rest,s'):=b4;obtain⟨c,s6,b5,b6⟩:=ZC b4';obtain⟨rr,s7,b7,b8⟩:=ZC b6;obtain⟨rfl,rfl⟩:=ZO b8;refine Vy ⟨Hf5,ρ3,s4,c,s6,g5.fh,env4.ext g5.ff,st5,b5,λv Hf6 H6 g6 st6 r6 _=>?_⟩;have hfp6:Hf6 p=none:=g6.nw p nfp hfp5 ⟨_,hp5,λ_ z=>by cases z⟩;have hp6:H6 p=some (.lst vs):=g6.hh p _ nfp hp5;have hl:vs.length<xg:=by rw[<-racc.length];omega
    refine⟨vs,hp6,hl,ds.length-(i+1),by omega,Hf6,s6,vs ++ [v],jP ++ [c],rr,hlt,rfl,?_,(env4'.ext g5.ff).ext g6.ff,by rw[<-len2];exact sets.len.2,?_,hfp6,ZI,(racc.ext (g25.ff.trans g6.ff)).append (.one r6),by simp;omega,b7,by rw[<-hr];simp⟩
    ·have gg:=(g2.trans g25).trans g6
     refine⟨λb o n e=>?_,gg.ff,λb o n e=>?_,gg.nw⟩
     ·rw[Zr (Z1 e hp)];exact gg.hh b o n e
     ·rw[Zr (Z1 e hfp6)];exact gg.fh b o n e
    ·refine G.mono _ _ _ st6 (λb o rb e=>?_) λb φ e=>?_
     ·have:b≠p:=λz=>nrp (z▸rb)
      rw[Zr this];exact e
     ·have:b≠p:=λz=>by rw[z,hp6]at e;cases e
      rw[Zr this];exact e
  ·have hd:ds.drop i=[]:=qch.mpr (by omega)
   rw[hd]at eq2;obtain⟨rfl,rfl⟩:=ZO eq2;refine .inl ⟨i2 (by omega),?_⟩;rw[zp]at hr;subst hr;refine k (.ref p) (Zi kc p (.lst vs)) H2 (g1.trans ⟨g2.hh,λb o n e=>?_,λb o n e=>?_,λb n h1 h2=>?_⟩) j6 (jb.mpr ⟨p,vs,rfl,nfp,ZI,racc.ext λb o n e=>?_⟩) λ_ a ea _=>?_
   ·rw[Zr (Z1 (g2.ff b o n e) hfp2)];exact g2.ff b o n e
   ·by_cases hb:b=p
    ·subst hb;rw[ZI]at e;rw[hp2];exact e
    ·rw[Zr hb]at e;exact g2.fh b o n e
   ·have:b≠p:=λz=>h2.no (z▸hp)
    rw[Zr this];exact g2.nw b n h1 h2
   ·rw[Zr (Z1 e hfp2)];exact e
   ·cases ea
    refine⟨?_,λds' ed=>?_⟩
    ·cases q:H p with
     | none=>rfl
     | some o=>rw[g1.hh p o nfp q]at hp;cases hp
    ·cases ed
     exact⟨vs,kc,ZI,hfp2,λb o n e=>by rw[Zr (Z1 e hfp2)];exact e,racc⟩
def XW:Vz X [] (U4 G Z3):=λjJ s σ H Q I ⟨Hf,ρ,pn,b,pn',a1,a2,a3,a4,k⟩=>by
 obtain⟨rfl,rfl⟩:=ZO a4;exact Zf0 jJ s σ H Q I (k Hf H (.refl a1) a3)
def W1 {c:Expr}{ft:Zb->M Bool}(h:Ww X G c ft):Vz X [c] (U4 G ft):=Zf1 h.canon
def Jf.put {kn jR H0 Hf H:Hp}{σ:St}{ρ:Zb}{i:Nat}{a:Addr}{d d':D}{o':HO}(j:Jf G own kn jR H0 σ Hf H ρ)(hi:i∈own)(e:ρ[i]?=some (some d))(sa:σ[i]?=some (some (.ref a)))
  (new:Ue G Hf (Zi H a o') a d'):Jf G own kn jR H0 σ Hf (Zi H a o') (ρ.set i (some d')):=by
 obtain⟨a',h1,h2,h3,h4,h5⟩:=j.ow i d hi e;rw[sa]at h1;cases h1;have il:i < ρ.length:=(qM.mp e).1;refine⟨by simp[j.len],j.kn,⟨λb o n q=>?_,j.gr.ff,λb o n q=>?_,j.gr.nw⟩,λk c n q=>?_,λk c m q=>?_,λk l b dk dl mk ml n ek el sk sl=>?_⟩
 ·rw[Zr (Z1 q h4)];exact j.gr.hh b o n q
 ·rw[Zr (Z1 q h3)];exact j.gr.fh b o n q
 ·have hne:i≠k:=λz=>n (z▸hi)
  rw[qT hne]at q;exact j.fz k c n q
 ·by_cases hk:i=k
  ·subst hk
   rw[zw il]at q
   cases q
   exact⟨a,sa,h2,h3,h4,new⟩
  ·rw[qT hk]at q
   obtain⟨b,g1,g2,g3,g4,g5⟩:=j.ow k c m q;have hab:b≠a:=λz=>j.ne i k a d c hi m hk e q sa (z▸g1);exact⟨b,g1,g2,g3,g4,g5.keep (.refl _ _) λo z=>by rw[Zr hab];exact z⟩
 ·have ek':∃d,ρ[k]?=some (some d):=by
   by_cases hk:i=k
   ·exact⟨d,hk▸e⟩
   ·rw[qT hk]at ek;exact⟨_,ek⟩
  have el':∃d,ρ[l]?=some (some d):=by
   by_cases hl:i=l
   ·exact⟨d,hl▸e⟩
   ·rw[qT hl]at el;exact⟨_,el⟩
  obtain⟨_,ek'⟩:=ek';obtain⟨_,el'⟩:=el';exact j.ne k l b _ _ mk ml n ek' el' sk sl
def Ju {kn jR H0 Hf H:Hp}{σ:St}{ρ:Zb}{i:Nat}{ds:List D}(j:Jf G own kn jR H0 σ Hf H ρ)(hi:i∈own)(e:ρ[i]?=some (some (.lst ds))) :
  ∃a vs,σ[i]?=some (some (.ref a))/\¬G.rd a/\H a=some (.lst vs)/\Zk G Hf ds vs:=by
 obtain⟨a,h1,h2,h3,h4,vs,h5,h6⟩:=j.ow i _ hi e;exact⟨a,vs,h1,h2,h5,h6⟩
def Jv {ρ:Zb}{i:Nat}{d:D}(h:(ρ[i]?).bind id=some d):ρ[i]?=some (some d):=by
 cases q:ρ[i]? with
 | none=>rw[q]at h;cases h
 | some o=>rw[q]at h;simp at h;rw[h]
def js {s:Pn}{H:Hp}{a:Addr}{o:HO}(st:G.st s H)(h:¬G.rd a)
  (hx:∀φ,H a≠some (.ext φ):=by intro φ z;first | (have z2:=z.symm.trans (by assumption:_=some (L2.HO.lst _));cases z2) | (have z2:=z.symm.trans (by assumption:_=some (L2.HO.dK _));cases z2) | (have z2:=z.symm.trans (by assumption:_=some (L2.HO.dT _));cases z2)):G.st s (Zi H a o):=G.mono _ _ _ st (λb u rb e=>by
 have:b≠a:=λz=>h (z▸rb);rw[Zr this];exact e) λb φ e=>by
 have:b≠a:=λz=>hx φ (z▸e);rw[Zr this];exact e
def VY (i:Nat)(f:Zb->M D):Zb->M Out:=fun ρ=>Zq (f ρ) λd=>match (ρ[i]?).bind id with
 | some (.lst ds)=>if ds.length<xg then ZA (.nx (ρ.set i (some (.lst (ds ++ [d])))))else Zv
 | _=>Zv
def Ziv {i:Nat}{ob:List Nat}{te:TE}{r1:Bool}(hi:i∈own)(hy:WP G own r1 te f) :
  J7 G ob own own fr (VQ (VE X.K "list" BB (Z7 i) (Y9 te Xq))) (VY i f):=λkn jR H0 σ H ρ s out s' E ⟨Hf,j⟩ st e po=>by
 obtain⟨d,s1,a1,a2⟩:=ZC e
 cases hb:(ρ[i]?).bind id with
 | none=>rw[hb]at a2;cases a2
 | some c=>
  rw[hb]at a2
  cases c with
  | lst ds=>
   have a2':(if ds.length<xg then ZA (.nx (ρ.set i (some (.lst (ds ++ [d])))))else Zv) s1=some (out,s'):=a2;obtain⟨c2,a3⟩:=Xf a2';obtain⟨rfl,rfl⟩:=ZO a3;have ei:=Jv hb;obtain⟨a,vs,h1,h2,h3,h4⟩:=Ju j hi ei;refine⟨_,h1,.inl ⟨rfl,vs,ZF.of h3⟩,?_⟩;refine hy kn jR H0 σ Hf H ρ s d s' _ j st a1 λv Hf' H' j' e1 e2 st' r fz=>?_;obtain⟨a',vs',h1',h2',h3',h4'⟩:=Ju j' hi ei;rw[h1]at h1';cases h1';refine⟨a,vs',v,rfl,rfl,h3',by rw[<-h4'.length];exact c2,?_⟩;exact po σ _ ⟨Hf',j'.put hi ei h1 ⟨vs' ++ [v],ZI,h4'.append (.one r)⟩⟩ (js st' h2)
  | _=>cases a2
def Zce {i:Nat}{x:Str}{e:Expr}{pos p1 p2 p3:Pos}{te:TE}(hv:PE X (.Name x p1) (Z7 i))(p:PE X e te)
  (hbase:xq (.Name x p1) "append" X.env (eval (.Name x p1) X.env)=eval (.Name x p1) X.env:=by rfl)
  (hfew:((backTo p3 (xh [e] X.env)).all (λx=>!x.1)&&(xp p3 (xi [] X.env)).all (λx=>x.1.isSome)
   && decide ([e].length+([]:List Keyword).length+(if ([]:List Keyword).isEmpty then 0 else 1)<30))=true:=by rfl)
  (hline:(p2.endLine==p3.line)=true:=by rfl) (hs:xh [e] X.env=(false,eval e X.env)::xh [] X.env:=by rfl)
  (hsw:xr (.Call (.Attribute (.Name x p1) "append" p2) [e] [] p3) none pos.line X.env=pure false:=by rfl) :
  PS X (.Expr (.Call (.Attribute (.Name x p1) "append" p2) [e] [] p3) pos) (VQ (VE X.K "list" BB (Z7 i) (Y9 te Xq))):=
 ZcO (JO yn PySem.F.slot_list_append PySem.F.type_list_append Zex hv (YN p Y3 hs) hbase hfew hline hs rfl) hsw
section
variable {i:Nat}{x:Str}{e:Expr}{pos p1 p2 p3:Pos}{r1:Bool}{ob:List Nat}{st:Stmt}
def Zf8 (hi:i∈own)(he:PD X G r1 e f)(hp:∀te,PE X e te->PS X st (VQ (VE X.K "list" BB (Z7 i) (Y9 te Xq)))):YE X G ob own own fr st (VY i (fun ρ=>f (Yq own ρ))):=by
 obtain⟨t,p,q⟩:=he;exact⟨_,hp t p,Ziv hi (XR.a q)⟩
def Zk0 (hi:i∈own)(he:PD X G r1 e f)(hp:∀te,PE X e te->PS X st (VQ (VE X.K "list" BB (Z7 i) (Y9 te Xq)))):YE X G ob own own fr st (VY i (Y6 r1 f)):=by
 obtain⟨t,p,q⟩:=he;exact⟨_,hp t p,Ziv hi (XR.b q)⟩
end
end
section
variable {X:Cx}{G:Gh}
def dI (C:Int->Int->Bool)(g:Int->Int->D):D->D->Option D
 | .int i,.int j=>if C i j=true then some (g i j)else none
 | _,_=>none
def Zfk {C:Int->Int->Bool}{g:Int->Int->D}{d e c:D}(h:dI C g d e=some c):∃i j,d=.int i/\e=.int j/\C i j=true/\c=g i j:=by
 match d,e,h with
 | .int i,.int j,h=>
  have h':(if C i j=true then some (g i j)else none)=some c:=h;split at h'
  ·rename_i hc;cases h';exact⟨i,j,rfl,rfl,hc,rfl⟩
  ·cases h'
def ZpR {f:Value->Value->Sem Value}{C:Int->Int->Prop}{Cb:Int->Int->Bool}{g:Int->Int->Int}(h:Yp X f (rI C λi j=>.int (g i j)))(hc:∀i j,Cb i j=true->C i j):XE X G f (dI Cb λi j=>.int (g i j)):=
 ⟨_,h,λHf H s x y d e c Q e1 st rx ry q k=>by
  obtain⟨i,j,rfl,rfl,hcb,rfl⟩:=Zfk q;exact⟨i,j,ja.mp rx,ja.mp ry,hc i j hcb,k _ Hf H (.refl e1) st (ja.mpr rfl) (.scal λz=>z)⟩⟩
def Zo1 {f:Value->Value->Sem Value}{g:Int->Int->Int}(h:Yp X f (XD λi j=>.int (g i j))):XE X G f (dI (λ_ _=>true) λi j=>.int (g i j)):=
 ⟨_,h,λHf H s x y d e c Q e1 st rx ry q k=>by
  obtain⟨i,j,rfl,rfl,hcb,rfl⟩:=Zfk q;exact⟨i,j,ja.mp rx,ja.mp ry,k _ Hf H (.refl e1) st (ja.mpr rfl) (.scal λz=>z)⟩⟩
def Zhn {f:Value->Value->Sem Value}{g:Int->Int->Bool}(h:Yp X f (XD λi j=>.bl (g i j))):XE X G f (dI (λ_ _=>true) λi j=>.bl (g i j)):=
 ⟨_,h,λHf H s x y d e c Q e1 st rx ry q k=>by
  obtain⟨i,j,rfl,rfl,hcb,rfl⟩:=Zfk q;exact⟨i,j,ja.mp rx,ja.mp ry,k _ Hf H (.refl e1) st (je.mpr rfl) (.scal λz=>z)⟩⟩
def JX:=dI (λ_ _=>true) λi j=>.int (i-j)
def Zk1 (i j:Int):Bool:=(decide (-(2 ^ 64)<i)&&decide (i<2 ^ 64))||(decide (-(2 ^ 64)<j)&&decide (j<2 ^ 64))
def dMul:=dI Zk1 λi j=>.int (i*j)
def dMod:=dI (λ_ j=>decide (0<j)) λi j=>.int (i % j)
def Zm0:XE X G (binaryOp .Sub) JX:=Zo1 ZoO
def Ziw:XE X G (binaryOp .Mult) dMul:=ZpR UV λi j h=>by
 simp only[Zk1,qat,qV,decide_eq_true_eq]at h;exact h
def Jb:=dI (λ_ _=>true) λi j=>.bl (decide (i<=j))
def dGt:=dI (λ_ _=>true) λi j=>.bl (decide (j<i))
def Jc:=dI (λ_ _=>true) λi j=>.bl (decide (j<=i))
def Zho:XE X G (xk .LtE) Jb:=Zhn ZpN
def Zo2:XE X G (xk .Gt) dGt:=Zhn ZkN
def Zo3:XE X G (xk .GtE) Jc:=Zhn Zn1
def ZG:List D->Option (List Int)
 | []=>some []
 | .int i::ds=>(ZG ds).map (i :: ·)
 | _::_=>none
def WA:∀{ds:List D} {ns:List Int},ZG ds=some ns->ds=ns.map D.int
 | [],ns,h=>by simp[ZG]at h;subst h;rfl
 | .int i::ds,ns,h=>by
  cases e:ZG ds with
  | none=>simp[ZG,e]at h
  | some ms=>simp[ZG,e]at h;subst h;simp[WA e]
 | .non::_,_,h=>by simp[ZG]at h
 | .bl _::_,_,h=>by simp[ZG]at h
 | .str _::_,_,h=>by simp[ZG]at h
 | .tup _::_,_,h=>by simp[ZG]at h
 | .lst _::_,_,h=>by simp[ZG]at h
 | .dk _::_,_,h=>by simp[ZG]at h
 | .dt _::_,_,h=>by simp[ZG]at h
 | .du _::_,_,h=>by simp[ZG]at h
 | .df _::_,_,h=>by simp[ZG]at h
 | .pen::_,_,h=>by simp[ZG]at h
 | .ty _::_,_,h=>by simp[ZG]at h
def ZaR (ns:List Int):ZG (ns.map D.int)=some ns:=by
 induction ns with
 | nil=>rfl
 | cons n ns ih=>simp[ZG,ih]
def jm {H:Hp}:∀{ns:List Int} {vs:List V},Zk G H (ns.map D.int) vs->vs=ns.map V.int
 | [],vs,h=>Zk.nil_iff.mp h
 | n::ns,vs,h=>by
  obtain⟨v,r,rfl,h1,h2⟩:=jd.mp h;rw[ja.mp h1,jm h2];rfl
def WT:D->D->Option D
 | .int i,.int j=>some (.bl (decide (i<j)))
 | .tup a,.tup b=>match ZG a,ZG b with | some ns,some ms=>some (.bl (HT.lexLt ns ms)) | _,_=>none
 | _,_=>none
def BM (hu:X.A.units<cLine):XE X G (xk .Lt) WT:=
 ⟨_,Zn0.or (ZoT hu),λHf H s x y d e c Q e1 st rx ry q k=>by
  match d,e,q,rx,ry with
  | .int i,.int j,q,rx,ry=>
   cases q
   exact .inl ⟨i,j,ja.mp rx,ja.mp ry,k _ Hf H (.refl e1) st (je.mpr rfl) (.scal λz=>z)⟩
  | .tup a,.tup b,q,rx,ry=>
   have q:(match ZG a,ZG b with | some ns,some ms=>some (D.bl (HT.lexLt ns ms)) | _,_=>none)=some c:=q
   cases ea:ZG a with
   | none=>rw[ea]at q;simp at q
   | some ns=>
    cases eb:ZG b with
    | none=>rw[ea,eb]at q;simp at q
    | some ms=>
     rw[ea,eb]at q
     cases q
     rw[WA ea]at rx;rw[WA eb]at ry;obtain⟨p,vs,rfl,np,hp,rp⟩:=jc.mp rx;obtain⟨p2,vs2,rfl,np2,hp2,rp2⟩:=jc.mp ry;rw[jm rp]at hp;rw[jm rp2]at hp2;exact .inr ⟨p,p2,ns,ms,rfl,rfl,ZS.of (e1 _ _ np hp),ZS.of (e1 _ _ np2 hp2),k _ Hf H (.refl e1) st (je.mpr rfl) (.scal λz=>z)⟩⟩
def Zm1:Yp X (binaryOp .Add) (λx y H Q=>∃a b ys,x=.ref a/\y=.ref b/\ZS X.K H a []/\ZS X.K H b ys/\Q (.ref b) H):=by
 intro jJ s σ H x y v u Q I rx ry h;obtain⟨a,b,ys,rfl,rfl,ha,hb,q⟩:=h
 cases rx
 cases ry
 obtain⟨jL,r1,p1,_⟩:=I.tuple ha;obtain⟨j8,r2,p2,_⟩:=I.tuple hb;have e0:jL=[]:=by cases r1;rfl
 subst e0;obtain⟨⟨cls,dd,data,sl⟩,ho,hc,n,hd⟩:=id p1;obtain⟨⟨cls2,dd2,data2,sl2⟩,ho2,hc2,n2,hd2⟩:=id p2;simp only at hc hd hc2 hd2;subst hc hd hc2 hd2;exact concat_meets ⟨_,ho,rfl⟩ ⟨_,ho2,rfl⟩ noFill_tuple_add seq_tuple_add qaR qaE (qaw _ _)
   (tuple_addW0 a b ([]:List Value).toArray j8.toArray n n2 dd dd2 sl sl2 rfl) ⟨ho,ho2,⟨.ref b,H,I,rfl,q⟩⟩
def Y5:D->D->Option D
 | .int i,.int j=>some (.int (i+j))
 | .tup a,.tup b=>if a.length+b.length<=xg then some (.tup (a++b))else none
 | .lst a,.lst b=>if a.length+b.length<=xg then some (.lst (a++b))else none
 | _,_=>none
def VM:XE X G (binaryOp .Add) Y5:=
 ⟨_,Uy.or (ZoW.or (ZmR.or Zm1)),λHf H s x y d e c Q e1 st rx ry q k=>by
  match d,e,q,rx,ry with
  | .int i,.int j,q,rx,ry=>
   cases q
   exact .inl ⟨i,j,ja.mp rx,ja.mp ry,k _ Hf H (.refl e1) st (ja.mpr rfl) (.scal λz=>z)⟩
  | .lst a,.lst b,q,rx,ry=>
   have q:(if a.length+b.length<=xg then some (D.lst (a++b))else none)=some c:=q;split at q
   ·rename_i hz
    cases q
    obtain⟨p,vs,rfl,np,hp,rp⟩:=jb.mp rx;obtain⟨p2,vs2,rfl,np2,hp2,rp2⟩:=jb.mp ry;refine .inr (.inl ⟨p,p2,vs,vs2,rfl,rfl,e1 _ _ np hp,e1 _ _ np2 hp2,by rw[<-rp.length,<-rp2.length];exact hz,λl hl=>?_⟩);have nf:=Gh.nofp st hl;have g2:=Gr.new (o:=.lst (vs++vs2)) e1 hl nf;have rr:=rp.append rp2;exact k (.ref l) _ _ g2 (Gh.grow st hl) (jb.mpr ⟨l,_,rfl,nf,ZI,rr.ext g2.ff⟩) (YC.mk e1 hl nf rr)
   ·cases q
  | .tup a,.tup b,q,rx,ry=>
   have q:(if a.length+b.length<=xg then some (D.tup (a++b))else none)=some c:=q;split at q
   ·rename_i hz
    cases q
    obtain⟨p,vs,rfl,np,hp,rp⟩:=jc.mp rx;obtain⟨p2,vs2,rfl,np2,hp2,rp2⟩:=jc.mp ry;by_cases hv:vs=[]
    ·subst hv
     have ea:a=[]:=zB.mp (by rw[rp.length];rfl);subst ea;exact .inr (.inr (.inr ⟨p,p2,vs2,rfl,rfl,ZS.of (e1 _ _ np hp),ZS.of (e1 _ _ np2 hp2),k _ Hf H (.refl e1) st ry (.scal λz=>z)⟩))
    ·refine .inr (.inr (.inl ⟨p,p2,vs,vs2,rfl,rfl,ZS.of (e1 _ _ np hp),ZS.of (e1 _ _ np2 hp2),hv,by rw[<-rp.length,<-rp2.length];exact hz,λz=>?_,λ_ l hl=>?_⟩))
     ·subst z
      have eb:b=[]:=zB.mp (by rw[rp2.length];rfl);subst eb;rw[zp]at k;exact k _ Hf H (.refl e1) st rx (.scal λz=>z)
     ·have nf:=Gh.nofp st hl
      have g2:=Gr.new (o:=.tup (vs++vs2)) e1 hl nf;exact k (.ref l) _ _ g2 (Gh.grow st hl) (jc.mpr ⟨l,_,rfl,nf,ZI,(rp.append rp2).ext g2.ff⟩) (.scal λz=>z)
   ·cases q⟩
def Zl:D->D->Option D
 | .lst ds,.int i=>XY ds i
 | .tup ds,.int i=>XY ds i
 | _,_=>none
def Zix {Hf:Hp}{ds:List D}{vs:List V}{i:Int}{c:D}(r:Zk G Hf ds vs)(h:XY ds i=some c):∃v,XY vs i=some v/\Zm G Hf c v:=by
 unfold XY at h⊢;rw[<-r.length]
 cases e:V1 ds.length i with
 | none=>rw[e]at h;cases h
 | some j=>
  rw[e]at h;obtain⟨v,h1,h2⟩:=r.get (i:=j) (d:=c) h;exact⟨v,h1,h2⟩
def Z6:IxD X G Zl:=
 ⟨_,ZcP.or ZoU,λHf H s x y d e c Q e1 st rx ry q k=>by
  match d,e,q,rx,ry with
  | .lst ds,.int i,q,rx,ry=>
   obtain⟨p,vs,rfl,np,hp,rp⟩:=jb.mp rx;obtain⟨v,h1,h2⟩:=Zix rp q;exact .inl ⟨p,vs,i,v,rfl,ja.mp ry,ZF.of (e1 _ _ np hp),h1,k v h2⟩
  | .tup ds,.int i,q,rx,ry=>
   obtain⟨p,vs,rfl,np,hp,rp⟩:=jc.mp rx;obtain⟨v,h1,h2⟩:=Zix rp q;exact .inr ⟨p,vs,i,v,rfl,ja.mp ry,ZS.of (e1 _ _ np hp),h1,k v h2⟩⟩
def jh {H:Hp}{d:D}{xs:List V}(h:Zk G H [d] xs):∃v,xs=[v]/\Zm G H d v:=by
 obtain⟨v,r,rfl,h1,h2⟩:=jd.mp h;rw[Zk.nil_iff.mp h2];exact⟨v,rfl,h1⟩
def jp {H:Hp}{d e:D}{xs:List V}(h:Zk G H [d,e] xs):∃v w,xs=[v,w]/\Zm G H d v/\Zm G H e w:=by
 obtain⟨v,r,rfl,h1,h2⟩:=jd.mp h;obtain⟨w,rfl,h3⟩:=jh h2;exact⟨v,w,rfl,h1,h3⟩
def Yw:List D->Option D
 | [.lst ds]=>some (.int ds.length)
 | [.tup ds]=>some (.int ds.length)
 | _=>none
def Zhp:X2 X G (.builtin "len") Yw:=
 ⟨_,Zaq,λHf H s xs ds c Q e1 st r q k=>by
  match ds,q,r with
  | [.lst es],q,r=>
   cases q
   obtain⟨v,rfl,rv⟩:=jh r;obtain⟨p,vs,rfl,np,hp,rp⟩:=jb.mp rv;exact⟨p,vs,rfl,.inl (ZF.of (e1 _ _ np hp)),k _ Hf H (.refl e1) st (ja.mpr (by rw[rp.length])) (.scal λz=>z)⟩
  | [.tup es],q,r=>
   cases q
   obtain⟨v,rfl,rv⟩:=jh r;obtain⟨p,vs,rfl,np,hp,rp⟩:=jc.mp rv;exact⟨p,vs,rfl,.inr (ZS.of (e1 _ _ np hp)),k _ Hf H (.refl e1) st (ja.mpr (by rw[rp.length])) (.scal λz=>z)⟩⟩
def UX:List D->Option D
 | [.lst ds]=>some (.tup ds)
 | [.tup ds]=>some (.tup ds)
 | _=>none
def Be:X2 X G (.type "tuple") UX:=
 ⟨_,Zea,λHf H s xs ds c Q e1 st r q k=>by
  match ds,q,r with
  | [.lst es],q,r=>
   cases q
   obtain⟨v,rfl,rv⟩:=jh r;obtain⟨p,vs,rfl,np,hp,rp⟩:=jb.mp rv;refine⟨p,vs,rfl,.inl ⟨ZF.of (e1 _ _ np hp),λl hl=>?_⟩⟩;have nf:=Gh.nofp st hl;have g2:=Gr.new (o:=.tup vs) e1 hl nf;exact k (.ref l) _ _ g2 (Gh.grow st hl) (jc.mpr ⟨l,_,rfl,nf,ZI,rp.ext g2.ff⟩) (.scal λz=>z)
  | [.tup es],q,r=>
   cases q
   obtain⟨v,rfl,rv⟩:=jh r;obtain⟨p,vs,rfl,np,hp,rp⟩:=jc.mp rv;exact⟨p,vs,rfl,.inr ⟨ZS.of (e1 _ _ np hp),k _ Hf H (.refl e1) st rv (.scal λz=>z)⟩⟩⟩
def Zn9:List D->Option D
 | [.lst ds]=>some (.lst ds)
 | [.tup ds]=>some (.lst ds)
 | _=>none
def Zf9:X2 X G (.type "list") Zn9:=
 ⟨_,Zfe,λHf H s xs ds c Q e1 st r q k=>by
  match ds,q,r with
  | [.lst es],q,r=>
   cases q
   obtain⟨v,rfl,rv⟩:=jh r;obtain⟨p,vs,rfl,np,hp,rp⟩:=jb.mp rv;refine⟨p,vs,rfl,.inl (ZF.of (e1 _ _ np hp)),λl hl=>?_⟩;have nf:=Gh.nofp st hl;have g2:=Gr.new (o:=.lst vs) e1 hl nf;exact k (.ref l) _ _ g2 (Gh.grow st hl) (jb.mpr ⟨l,_,rfl,nf,ZI,rp.ext g2.ff⟩) (YC.mk e1 hl nf rp)
  | [.tup es],q,r=>
   cases q
   obtain⟨v,rfl,rv⟩:=jh r;obtain⟨p,vs,rfl,np,hp,rp⟩:=jc.mp rv;refine⟨p,vs,rfl,.inr (ZS.of (e1 _ _ np hp)),λl hl=>?_⟩;have nf:=Gh.nofp st hl;have g2:=Gr.new (o:=.lst vs) e1 hl nf;exact k (.ref l) _ _ g2 (Gh.grow st hl) (jb.mpr ⟨l,_,rfl,nf,ZI,rp.ext g2.ff⟩) (YC.mk e1 hl nf rp)⟩
def Zk2:List D->Option D
 | [.int i,.int j]=>some (.int (if j > i then j else i))
 | _=>none
def U1:List D->Option D
 | [.int i,.int j]=>some (.int (if j<i then j else i))
 | _=>none
def Zhq (hc:X.calm=true):X2 X G (.builtin "max") Zk2:=
 ⟨_,Zjg hc,λHf H s xs ds c Q e1 st r q k=>by
  match ds,q,r with
  | [.int i,.int j],q,r=>
   cases q
   obtain⟨v,w,rfl,rv,rw'⟩:=jp r;rw[ja.mp rv,ja.mp rw'];exact⟨i,j,rfl,k _ Hf H (.refl e1) st (ja.mpr rfl) (.scal λz=>z)⟩⟩
def Zde (hc:X.calm=true):X2 X G (.builtin "min") U1:=
 ⟨_,Zjh hc,λHf H s xs ds c Q e1 st r q k=>by
  match ds,q,r with
  | [.int i,.int j],q,r=>
   cases q
   obtain⟨v,w,rfl,rv,rw'⟩:=jp r;rw[ja.mp rv,ja.mp rw'];exact⟨i,j,rfl,k _ Hf H (.refl e1) st (ja.mpr rfl) (.scal λz=>z)⟩⟩
def Zk3:List D->Option D
 | [.int i]=>some (.int i)
 | [.bl b]=>some (.int (if b then 1 else 0))
 | _=>none
def Zhr:X2 X G (.type "int") Zk3:=
 ⟨_,Zji,λHf H s xs ds c Q e1 st r q k=>by
  match ds,q,r with
  | [.int i],q,r=>
   cases q
   obtain⟨v,rfl,rv⟩:=jh r;rw[ja.mp rv];exact .inl ⟨i,rfl,k _ Hf H (.refl e1) st (ja.mpr rfl) (.scal λz=>z)⟩
  | [.bl i],q,r=>
   cases q
   obtain⟨v,rfl,rv⟩:=jh r;rw[je.mp rv];exact .inr ⟨i,rfl,k _ Hf H (.refl e1) st (ja.mpr rfl) (.scal λz=>z)⟩⟩
def Xg:List D->Option (List Bool)
 | []=>some []
 | .bl b::ds=>(Xg ds).map (b :: ·)
 | _::_=>none
def ZbD:∀{ds:List D} {ns:List Bool},Xg ds=some ns->ds=ns.map D.bl
 | [],ns,h=>by simp[Xg]at h;subst h;rfl
 | .bl i::ds,ns,h=>by
  cases e:Xg ds with
  | none=>simp[Xg,e]at h
  | some ms=>simp[Xg,e]at h;subst h;simp[ZbD e]
 | .non::_,_,h=>by simp[Xg]at h
 | .int _::_,_,h=>by simp[Xg]at h
 | .str _::_,_,h=>by simp[Xg]at h
 | .tup _::_,_,h=>by simp[Xg]at h
 | .lst _::_,_,h=>by simp[Xg]at h
 | .dk _::_,_,h=>by simp[Xg]at h
 | .dt _::_,_,h=>by simp[Xg]at h
 | .du _::_,_,h=>by simp[Xg]at h
 | .df _::_,_,h=>by simp[Xg]at h
 | .pen::_,_,h=>by simp[Xg]at h
 | .ty _::_,_,h=>by simp[Xg]at h
def Zcu (ns:List Bool):Xg (ns.map D.bl)=some ns:=by
 induction ns with
 | nil=>rfl
 | cons n ns ih=>simp[Xg,ih]
def jw {H:Hp}:∀{ns:List Bool} {vs:List V},Zk G H (ns.map D.bl) vs->vs=ns.map V.bl
 | [],vs,h=>Zk.nil_iff.mp h
 | n::ns,vs,h=>by
  obtain⟨v,r,rfl,h1,h2⟩:=jd.mp h;rw[je.mp h1,jw h2];rfl
def Zdf:∀{bs:List Bool} {us:List Value},Zz (bs.map V.bl) us->us=bs.map zQ
 | [],_,.nil=>rfl
 | b::bs,_,.cons r t=>by
  cases (show _=zQ b from r)
  rw[Zdf t];rfl
def Zdg {hc:X.calm=true}{jJ:Qb}{s:Shared}{σ:St}{H:Hp}{p:Addr}{bs:List Bool}{Q:xG}{E:xG}(fin:Bool)(I:Inv X jJ σ H s)(h:H p=some (.lst (bs.map V.bl)))
  (fn:(Nat->Bool)->List Nat->Bool) (hq:∀s',Inv X jJ σ H s'->Q (.bool (fn (λi=>bs.getD i false) (qk bs.length))) s') :
  xf (xC X.prog X.w) X.A.in1 (pyIter (.ref p)) (λit s₂=>∃I fp wr n P St tr,it=.ref I/\Walks X.prog X.w X.A.in1 I fp wr n P St/\St 0 s₂.heap/\TruthOf X.prog X.w X.A.in1 P tr/\
   ∀h' tk,(∀b o,b∉wr->s₂.heap.get? b=some o->h'.get? b=some o)->Q (.bool (fn tr (qk n))) { s₂ with heap:=h',toks:=tk }) E s:=by
 obtain⟨jL,rv,pl,hz⟩:=I.list (ZF.of h);have eu:=Zdf rv;subst eu;refine wpAny_pyIter_list pl.isList ?_;have hne:p≠s.heap.objs.size:=qH (by
  obtain⟨o,ho,_⟩:=pl.isList;exact qD ho)
 refine⟨s.heap.objs.size,_,_,_,_,_,λi=>bs.getD i false,rfl,Walks.list (A:=X.A.in1) (I.ok.hd hc) s.heap.objs.size p hne _,⟨⟨_,qz _ rfl,rfl,rfl⟩,pl.isList.at λo e=>qh _ e⟩,?_,?_⟩
 ·intro i v s' Q' E' hP hQ'
  have hv:v=.bool (bs.getD i false):=by
   have e:(bs.map zQ).toArray[i]?=some v:=hP;rw[List.getElem?_toArray,qt]at e
   cases q:bs[i]? with
   | none=>rw[q]at e;cases e
   | some b=>rw[q]at e;cases e;simp[qbh,q]
  subst hv;exact wpAny_truthy_bool hQ'
 ·intro h' tk hk
  have:(List.map zQ bs).toArray.size=bs.length:=by simp
  rw[this];have I1:Inv X jJ σ H { s with heap:=s.heap.push { cls:=.type "list_iterator",data:=.fields #[.ref p,.int 0 0] } }:=I.kept (t':=s.toks) λb o e=>qh _ e;refine hq _ (I.kept (t':=tk) λb o e=>hk b o ?_ (qh _ e));have:=qH (qD e);simpa using this
def Zk4 (bs:List Bool):(qk bs.length).all (λi=>bs.getD i false)=bs.all id:=by
 induction bs with
 | nil=>rfl
 | cons b bs ih=>
  rw[qN,qaf,qbp,qbC];show(b&&(qk bs.length).all λi=>bs.getD i false)=_;rw[ih];rfl
def Zk5 (bs:List Bool):(qk bs.length).any (λi=>bs.getD i false)=bs.any id:=by
 induction bs with
 | nil=>rfl
 | cons b bs ih=>
  rw[qN,qaf,qao,List.any_map];show(b||(qk bs.length).any λi=>bs.getD i false)=_;rw[ih];rfl
def Zjs (hc:X.calm=true):XB X (.builtin "all") (λxs H Q=>∃(p:Addr) (bs:List Bool),xs=[.ref p]/\H p=some (.lst (bs.map V.bl))/\Q (.bl (bs.all id)) H):=by
 intro jJ s σ H xs us Q I r h;obtain⟨p,bs,rfl,hp,q⟩:=h;obtain⟨u,rfl,ru⟩:=XI r
 cases ru
 refine call_all_walk (Zdg (hc:=hc) true I hp (λt l=>l.all t) λs' I'=>⟨.bl (bs.all id),H,I',?_,q⟩);show zQ _=_;rw[Zk4]
def Zjt (hc:X.calm=true):XB X (.builtin "any") (λxs H Q=>∃(p:Addr) (bs:List Bool),xs=[.ref p]/\H p=some (.lst (bs.map V.bl))/\Q (.bl (bs.any id)) H):=by
 intro jJ s σ H xs us Q I r h;obtain⟨p,bs,rfl,hp,q⟩:=h;obtain⟨u,rfl,ru⟩:=XI r
 cases ru
 refine call_any_walk (Zdg (hc:=hc) true I hp (λt l=>l.any t) λs' I'=>⟨.bl (bs.any id),H,I',?_,q⟩);show zQ _=_;rw[Zk5]
def VZ:List D->Option D
 | [.lst ds]=>(Xg ds).map λbs=>.bl (bs.all id)
 | _=>none
def JY:List D->Option D
 | [.lst ds]=>(Xg ds).map λbs=>.bl (bs.any id)
 | _=>none
def Bn (hc:X.calm=true):X2 X G (.builtin "all") VZ:=
 ⟨_,Zjs hc,λHf H s xs ds c Q e1 st r q k=>by
  match ds,q,r with
  | [.lst es],q,r=>
   obtain⟨v,rfl,rv⟩:=jh r;obtain⟨p,vs,rfl,np,hp,rp⟩:=jb.mp rv
   cases e:Xg es with
   | none=>simp[VZ,e]at q
   | some bs=>
    simp[VZ,e]at q;subst q;rw[ZbD e]at rp;rw[jw rp]at hp;exact⟨p,bs,rfl,e1 _ _ np hp,k _ Hf H (.refl e1) st (je.mpr rfl) (.scal λz=>z)⟩⟩
def Zju (hc:X.calm=true):X2 X G (.builtin "any") JY:=
 ⟨_,Zjt hc,λHf H s xs ds c Q e1 st r q k=>by
  match ds,q,r with
  | [.lst es],q,r=>
   obtain⟨v,rfl,rv⟩:=jh r;obtain⟨p,vs,rfl,np,hp,rp⟩:=jb.mp rv
   cases e:Xg es with
   | none=>simp[JY,e]at q
   | some bs=>
    simp[JY,e]at q;subst q;rw[ZbD e]at rp;rw[jw rp]at hp;exact⟨p,bs,rfl,e1 _ _ np hp,k _ Hf H (.refl e1) st (je.mpr rfl) (.scal λz=>z)⟩⟩
def Ziy {x:Str}{n:String}{pos:Pos}(hg:Gl X x)(hm:X.mg x=none)(hv:xj x=some (.type n))(hn:x≠"__name__":=by decide)(hd:(x==("__debug__" : Str))=false:=by decide):PD X G true (.Name x pos) (dC (.ty n)):=by
 refine⟨_,ZmN (v:=.ty n) hg hm hv rfl hn hd,fun σ Hf H ρ s d s' Q e1 e2 e3 e4 k=>?_⟩;obtain⟨rfl,rfl⟩:=ZO e4;exact k _ Hf H (.refl e1) e3 (jr.mpr rfl) λ_=>.scal λz=>z
def Zfl:D->Option String
 | .non=>some "NoneType"
 | .bl _=>some "bool"
 | .int _=>some "int"
 | .str _=>some "str"
 | .tup _=>some "tuple"
 | .lst _=>some "list"
 | .dk _=>some "dict"
 | .dt _=>none
 | .du _=>none
 | .df _=>none
 | _=>none
def BS:List String:=["int","bool","str","tuple","list","dict"]
def Uj:List D->Option D
 | [d,.ty T]=>match Zfl d with
  | some n=>if BS.contains T then some (.bl (n==T||(n == "bool" && T == "int")))else none
  | none=>none
 | _=>none
def Zm2 (K:ql):∀n∈["NoneType","bool","int","str","tuple","list","dict"],∀T∈BS,PySem.W.kitOne K (.type n) (.type T)=some (n==T||(n == "bool" && T == "int")):=by
 intro n hn T hT;simp only[BS,qm,zm,or_false]at hn hT;rcases hn with rfl | rfl | rfl | rfl | rfl | rfl | rfl <;> rcases hT with rfl | rfl | rfl | rfl | rfl | rfl <;> rfl
def Zjv {Hf H:Hp}{d:D}{v:V}{n:String}(e1:ZB G Hf H)(r:Zm G Hf d v)(h:Zfl d=some n):TyOf X.K H v (.type n)/\n∈["NoneType","bool","int","str","tuple","list","dict"]:=by
 cases d with
 | non=>cases h;rw[jg.mp r];exact⟨.non,by decide⟩
 | bl b=>cases h;rw[je.mp r];exact⟨.bl b,by decide⟩
 | int b=>cases h;rw[ja.mp r];exact⟨.int b,by decide⟩
 | str b=>cases h;rw[ji.mp r];exact⟨.str b,by decide⟩
 | tup ds=>cases h;obtain⟨p,vs,rfl,np,hp,rp⟩:=jc.mp r;exact⟨.tup (e1 _ _ np hp),by decide⟩
 | lst ds=>cases h;obtain⟨p,vs,rfl,np,hp,rp⟩:=jb.mp r;exact⟨.lst (e1 _ _ np hp),by decide⟩
 | dk ds=>cases h;obtain⟨p,rfl,np,hp⟩:=jj.mp r;exact⟨.dK (e1 _ _ np hp),by decide⟩
 | dt ds=>cases h
 | du ds=>cases h
 | df ds=>cases h
 | pen=>cases h
 | ty _=>cases h
 | clo _ _=>cases h
def Zjw:XB X (.builtin "isinstance") (λxs H Q=>∃x n T,xs=[x,.ty T]/\TyOf X.K H x (.type n)/\n∈["NoneType","bool","int","str","tuple","list","dict"]/\T∈BS/\Q (.bl (n==T||(n == "bool" && T == "int"))) H):=by
 intro jJ s σ H xs us Q I r h;obtain⟨x,n,T,rfl,ty,hn,hT,q⟩:=h;obtain⟨u,w',rfl,ru,rw'⟩:=Zil r
 cases (show w'=yf T from rw')
 exact Zjk I ru ty (Zm2 X.K n hn T hT) λtk=>⟨.bl _,H,I.tok tk,rfl,q⟩
def Zbm:X2 X G (.builtin "isinstance") Uj:=
 ⟨_,Zjw,λHf H s xs ds c Q e1 st r q k=>by
  match ds,q,r with
  | [d,.ty T],q,r=>
   obtain⟨v,w,rfl,rv,rw'⟩:=jp r;rw[jr.mp rw'];have q:(match Zfl d with | some n=>if BS.contains T then some (D.bl (n==T||(n == "bool" && T == "int")))else none | none=>none)=some c:=q
   cases e:Zfl d with
   | none=>rw[e]at q;cases q
   | some n=>
    rw[e]at q;simp only at q;split at q
    ·rename_i hk
     cases q
     obtain⟨t1,t2⟩:=Zjv (X:=X) e1 rv e;exact⟨v,n,T,rfl,t1,t2,by simpa using hk,k _ Hf H (.refl e1) st (je.mpr rfl) (.scal λz=>z)⟩
    ·cases q⟩
end
mutual
def Zs:D->Bool
 | .non=>true
 | .bl _=>true
 | .int _=>true
 | .str _=>true
 | .tup ds=>YG ds
 | .lst ds=>YG ds
 | _=>false
def YG:List D->Bool
 | []=>true
 | d::ds=>Zs d&&YG ds
end
mutual
def Yl:D->Nat
 | .tup ds=>Xx ds+1
 | .lst ds=>Xx ds+1
 | _=>0
def Xx:List D->Nat
 | []=>0
 | d::ds=>max (Yl d) (Xx ds)
end
def Jw:∀{ds:List D} {d:D},d∈ds->Yl d<=Xx ds
 | e::ds,d,h=>by
  rcases qm.mp h with rfl | h
  ·simp only[Xx];omega
  ·have:=Jw h
   simp only[Xx];omega
def UQ:∀{ds:List D} {d:D},YG ds=true->d∈ds->Zs d=true
 | e::ds,d,n,h=>by
  have n':Zs e=true/\YG ds=true:=by simpa[YG]using n
  rcases qm.mp h with rfl | h
  ·exact n'.1
  ·exact UQ n'.2 h
mutual
def ZM:D->D->Bool
 | .non,.non=>true
 | .bl a,.bl b=>a==b
 | .bl a,.int i=>(if a then 1 else 0)==i
 | .int i,.bl b=>i==(if b then 1 else 0)
 | .int i,.int j=>i==j
 | .str x,.str y=>x==y
 | .tup a,.tup b=>XM a b
 | .lst a,.lst b=>XM a b
 | _,_=>false
def XM:List D->List D->Bool
 | [],[]=>true
 | a::as,b::bs=>ZM a b&&XM as bs
 | _,_=>false
end
mutual
def Zdh:∀d:D,Zs d=true->ZM d d=true
 | .non,_=>by simp[ZM]
 | .bl _,_=>by simp[ZM]
 | .int _,_=>by simp[ZM]
 | .str _,_=>by simp[ZM]
 | .tup ds,h=>by simp only[ZM];exact Zcf ds (by simpa[Zs]using h)
 | .lst ds,h=>by simp only[ZM];exact Zcf ds (by simpa[Zs]using h)
 | .dk _,h=>by simp[Zs]at h
 | .dt _,h=>by simp[Zs]at h
 | .du _,h=>by simp[Zs]at h
 | .df _,h=>by simp[Zs]at h
 | .pen,h=>by simp[Zs]at h
 | .ty _,h=>by simp[Zs]at h
 | .clo _ _,h=>by simp[Zs]at h
def Zcf:∀ds:List D,YG ds=true->XM ds ds=true
 | [],_=>by simp[XM]
 | d::ds,h=>by
  have n':Zs d=true/\YG ds=true:=by simpa[YG]using h
  simp only[XM,Zdh d n'.1,Zcf ds n'.2,Bool.and_self]
end
def Zdi:∀{a b:List D},XM a b=true->a.length=b.length
 | [],[],_=>rfl
 | a::as,b::bs,h=>by
  have:ZM a b=true/\XM as bs=true:=by simpa[XM]using h
  simp[Zdi this.2]
 | [],_::_,h=>by simp[XM]at h
 | _::_,[],h=>by simp[XM]at h
def ZbE:∀(a b:List D),a.length=b.length->(qk a.length).all (λj=>ZM (a.getD j .non) (b.getD j .non))=XM a b
 | [],[],_=>rfl
 | a::as,b::bs,h=>by
  have h':as.length=bs.length:=by simpa using h
  rw[qN,qaf,qbp,qbC,XM,<-ZbE as bs h'];rfl
 | [],_::_,h=>by simp at h
 | _::_,[],h=>by simp at h
def Zga:∀(a b:List D),((qk (min a.length b.length)).all (λj=>ZM (a.getD j .non) (b.getD j .non))&&a.length==b.length)=XM a b:=λa b=>by
 by_cases h:a.length=b.length
 ·rw[<-ZbE a b h,h];simp
 ·have:XM a b=false:=by
   cases e:XM a b with
   | false=>rfl
   | true=>exact absurd (Zdi e) h
  rw[this];simp[h]
mutual
def Zm.inj {G:Gh}{H:Hp}:∀{d e:D} {v:V},Zs d=true->Zs e=true->Zm G H d v->Zm G H e v->d=e
 | .non,e,v,_,pe,h,h'=>by
  rw[jg.mp h]at h'
  cases e <;> first | rfl | (simp[Zs]at pe;done) | (simp[Zm]at h')
 | .bl b,e,v,_,pe,h,h'=>by
  rw[je.mp h]at h'
  cases e <;> first | (simp[Zs]at pe;done) | (simp[Zm]at h';rw[h']) | (simp[Zm]at h')
 | .int b,e,v,_,pe,h,h'=>by
  rw[ja.mp h]at h'
  cases e <;> first | (simp[Zs]at pe;done) | (simp[Zm]at h';rw[h']) | (simp[Zm]at h')
 | .str b,e,v,_,pe,h,h'=>by
  rw[ji.mp h]at h'
  cases e <;> first | (simp[Zs]at pe;done) | (simp[Zm]at h';rw[h']) | (simp[Zm]at h')
 | .tup ds,e,v,pd,pe,h,h'=>by
  obtain⟨a,vs,rfl,n,q,r⟩:=jc.mp h
  cases e with
  | tup es=>
   obtain⟨a',vs',e',n',q',r'⟩:=jc.mp h'
   cases e'
   rw[q]at q';cases q';rw[Zk.inj (by simpa[Zs]using pd) (by simpa[Zs]using pe) r r']
  | lst es=>
   obtain⟨a',vs',e',n',q',r'⟩:=jb.mp h'
   cases e'
   rw[q]at q';cases q'
  | _=>first | (simp[Zm]at h';done) | (simp[Zs]at pe;done)
 | .lst ds,e,v,pd,pe,h,h'=>by
  obtain⟨a,vs,rfl,n,q,r⟩:=jb.mp h
  cases e with
  | lst es=>
   obtain⟨a',vs',e',n',q',r'⟩:=jb.mp h'
   cases e'
   rw[q]at q';cases q';rw[Zk.inj (by simpa[Zs]using pd) (by simpa[Zs]using pe) r r']
  | tup es=>
   obtain⟨a',vs',e',n',q',r'⟩:=jc.mp h'
   cases e'
   rw[q]at q';cases q'
  | _=>first | (simp[Zm]at h';done) | (simp[Zs]at pe;done)
 | .dk _,_,_,pd,_,_,_=>by simp[Zs]at pd
 | .dt _,_,_,pd,_,_,_=>by simp[Zs]at pd
 | .du _,_,_,pd,_,_,_=>by simp[Zs]at pd
 | .df _,_,_,pd,_,_,_=>by simp[Zs]at pd
 | .pen,_,_,pd,_,_,_=>by simp[Zs]at pd
 | .ty _,_,_,pd,_,_,_=>by simp[Zs]at pd
 | .clo _ _,_,_,pd,_,_,_=>by simp[Zs]at pd
def Zk.inj {G:Gh}{H:Hp}:∀{ds es:List D} {vs:List V},YG ds=true->YG es=true->Zk G H ds vs->Zk G H es vs->ds=es
 | [],es,vs,_,pe,h,h'=>by
  rw[Zk.nil_iff.mp h]at h'
  cases es with
  | nil=>rfl
  | cons e es=>obtain⟨v,r,e1,_⟩:=jd.mp h';cases e1
 | d::ds,es,vs,pd,pe,h,h'=>by
  obtain⟨v,r,rfl,r1,r2⟩:=jd.mp h;have pd':Zs d=true/\YG ds=true:=by simpa[YG]using pd
  cases es with
  | nil=>have:=Zk.nil_iff.mp h';cases this
  | cons e es=>
   obtain⟨v',r',e1,r1',r2'⟩:=jd.mp h'
   cases e1
   have pe':Zs e=true/\YG es=true:=by simpa[YG]using pe
   rw[Zm.inj pd'.1 pe'.1 r1 r1',Zk.inj pd'.2 pe'.2 r2 r2']
end
section
variable {X:Cx}{G:Gh}{jJ:Qb}{σ:St}{Hf H:Hp}{s:Shared}
def Bo (A:xF):A.in1.units=A.units+1:=rfl
def ZcT {ds:List D}{vs:List V}{us:List Value}(r:Zk G Hf ds vs)(rv:Zz vs us){j:Nat}(h:j<us.toArray.size):∃v,Zm G Hf (ds.getD j .non) v/\ZJ v us.toArray[j]/\ds.getD j .non∈ds:=by
 have hl:j<ds.length:=by rw[r.length,rv.length];simpa using h
 have e:ds[j]?=some (ds.getD j .non):=by simp[qbh,hl]
 obtain⟨v,h1,h2⟩:=r.get e;obtain⟨u,h3,h4⟩:=rv.get h1;refine⟨v,h2,?_,?_⟩
 ·have:us.toArray[j]=u:=by
   have h':j<us.length:=by simpa using h
   have q:us[j]?=some us[j]:=by simp[h']
   rw[h3]at q;simpa using(zo q).symm
  rw[this];exact h4
 ·simp[qbh,hl]
def Zk6 (I:Inv X jJ σ H s)(e1:ZB G Hf H):∀(n:Nat) (A:xF) (d e:D) (x y:V) (u v:Value),Yl d<=n->Yl e<=n->A.units+n+1<cLine->Zs d=true->Zs e=true->Zm G Hf d x->Zm G Hf e y->ZJ x u->ZJ y v->
  qan A s u v (ZM d e)/\qci A s u v (ZM d e)/\qbD A s u v (!ZM d e):=by
 intro n
 induction n with
 | zero=>
  intro A d e x y u v hd he hu pd pe rd re ru rv;have hu':A.units<cLine:=by omega
  cases d with
  | tup ds=>simp[Yl]at hd
  | lst ds=>simp[Yl]at hd
  | dk _=>simp[Zs]at pd
  | dt _=>simp[Zs]at pd
  | du _=>simp[Zs]at pd
  | df _=>simp[Zs]at pd
  | pen=>simp[Zs]at pd
  | ty _=>simp[Zs]at pd
  | clo _ _=>simp[Zs]at pd
  | non=>
   rw[jg.mp rd]at ru
   cases (show u=qX from ru)
   cases e with
   | tup ds=>simp[Yl]at he
   | lst ds=>simp[Yl]at he
   | dk _=>simp[Zs]at pe
   | dt _=>simp[Zs]at pe
   | du _=>simp[Zs]at pe
   | df _=>simp[Zs]at pe
   | pen=>simp[Zs]at pe
   | ty _=>simp[Zs]at pe
   | clo _ _=>simp[Zs]at pe
   | non=>rw[jg.mp re]at rv;cases (show v=qX from rv);simp only[ZM];exact⟨.same _,.none_none,.none_none⟩
   | bl b=>rw[je.mp re]at rv;cases (show v=zQ b from rv);simp only[ZM];exact⟨.none_bool b,.none_bool b,.none_bool b⟩
   | int b=>rw[ja.mp re]at rv;obtain⟨t,rfl⟩:=rv;simp only[ZM];exact⟨.none_int b t,.none_int b t,.none_int b t⟩
   | str b=>rw[ji.mp re]at rv;obtain⟨t,rfl⟩:=rv;simp only[ZM];exact⟨.none_str b t,.none_str b t,.none_str b t⟩
  | bl a=>
   rw[je.mp rd]at ru
   cases (show u=zQ a from ru)
   cases e with
   | tup ds=>simp[Yl]at he
   | lst ds=>simp[Yl]at he
   | dk _=>simp[Zs]at pe
   | dt _=>simp[Zs]at pe
   | du _=>simp[Zs]at pe
   | df _=>simp[Zs]at pe
   | pen=>simp[Zs]at pe
   | ty _=>simp[Zs]at pe
   | clo _ _=>simp[Zs]at pe
   | non=>rw[jg.mp re]at rv;cases (show v=qX from rv);simp only[ZM];exact⟨.bool_none a,.bool_none a,.bool_none a⟩
   | bl b=>rw[je.mp re]at rv;cases (show v=zQ b from rv);simp only[ZM];exact⟨.bool_bool a b,.bool_bool a b,.bool_bool a b⟩
   | int b=>rw[ja.mp re]at rv;obtain⟨t,rfl⟩:=rv;simp only[ZM];exact⟨.bool_int a b t,.bool_int a b t,.bool_int a b t⟩
   | str b=>rw[ji.mp re]at rv;obtain⟨t,rfl⟩:=rv;simp only[ZM];exact⟨.bool_str a b t,.bool_str a b t,.bool_str a b t⟩
  | int a=>
   rw[ja.mp rd]at ru;obtain⟨ta,rfl⟩:=ru
   cases e with
   | tup ds=>simp[Yl]at he
   | lst ds=>simp[Yl]at he
   | dk _=>simp[Zs]at pe
   | dt _=>simp[Zs]at pe
   | du _=>simp[Zs]at pe
   | df _=>simp[Zs]at pe
   | pen=>simp[Zs]at pe
   | ty _=>simp[Zs]at pe
   | clo _ _=>simp[Zs]at pe
   | non=>rw[jg.mp re]at rv;cases (show v=qX from rv);simp only[ZM];exact⟨.int_none a ta,.int_none a ta,.int_none a ta⟩
   | bl b=>rw[je.mp re]at rv;cases (show v=zQ b from rv);simp only[ZM];exact⟨.int_bool a ta b,.int_bool a ta b,.int_bool a ta b⟩
   | int b=>rw[ja.mp re]at rv;obtain⟨t,rfl⟩:=rv;simp only[ZM];exact⟨.int_int a ta b t,.int_int a ta b t,.int_int a ta b t⟩
   | str b=>rw[ji.mp re]at rv;obtain⟨t,rfl⟩:=rv;simp only[ZM];exact⟨.int_str a ta b t,.int_str a ta b t,.int_str a ta b t⟩
  | str a=>
   rw[ji.mp rd]at ru;obtain⟨ta,rfl⟩:=ru
   cases e with
   | tup ds=>simp[Yl]at he
   | lst ds=>simp[Yl]at he
   | dk _=>simp[Zs]at pe
   | dt _=>simp[Zs]at pe
   | du _=>simp[Zs]at pe
   | df _=>simp[Zs]at pe
   | pen=>simp[Zs]at pe
   | ty _=>simp[Zs]at pe
   | clo _ _=>simp[Zs]at pe
   | non=>rw[jg.mp re]at rv;cases (show v=qX from rv);simp only[ZM];exact⟨.str_none a ta,.str_none a ta,.str_none a ta⟩
   | bl b=>rw[je.mp re]at rv;cases (show v=zQ b from rv);simp only[ZM];exact⟨.str_bool a ta b,.str_bool a ta b,.str_bool a ta b⟩
   | int b=>rw[ja.mp re]at rv;obtain⟨t,rfl⟩:=rv;simp only[ZM];exact⟨.str_int a ta b t,.str_int a ta b t,.str_int a ta b t⟩
   | str b=>rw[ji.mp re]at rv;obtain⟨t,rfl⟩:=rv;simp only[ZM];exact⟨.str_str a ta b t,.str_str a ta b t,.str_str a ta b t⟩
 | succ n ih=>
  intro A d e x y u v hd he hu pd pe rd re ru rv;have hu':A.units<cLine:=by omega
  by_cases hs:Yl d<=n/\Yl e<=n
  ·exact ih A d e x y u v hs.1 hs.2 (by omega) pd pe rd re ru rv
  -- two refs
  have same:∀{l b:Addr},x=.ref l->y=.ref b->l=b->ZM d e=true:=λex ey el=>by
   subst ex ey el;have:=Zm.inj pd pe rd re;subst this;exact Zdh d pd
  cases d with
  | dk _=>simp[Zs]at pd
  | dt _=>simp[Zs]at pd
  | du _=>simp[Zs]at pd
  | df _=>simp[Zs]at pd
  | pen=>simp[Zs]at pd
  | ty _=>simp[Zs]at pd
  | clo _ _=>simp[Zs]at pd
  | tup ds=>
   obtain⟨l,vs,rfl,nl,hl,rl⟩:=jc.mp rd
   cases (show u=qQ l from ru)
   obtain⟨jL,rits,pits,_⟩:=I.tuple (ZS.of (K:=X.K) (e1 _ _ nl hl));have il:s.heap.IsTuple l jL.toArray:=pits
   cases e with
   | dk _=>simp[Zs]at pe
   | dt _=>simp[Zs]at pe
   | du _=>simp[Zs]at pe
   | df _=>simp[Zs]at pe
   | pen=>simp[Zs]at pe
   | ty _=>simp[Zs]at pe
   | clo _ _=>simp[Zs]at pe
   | non=>rw[jg.mp re]at rv;cases (show v=qX from rv);simp only[ZM];exact⟨.tuple_none il hu',.tuple_none il hu',.tuple_none il hu'⟩
   | bl b=>rw[je.mp re]at rv;cases (show v=zQ b from rv);simp only[ZM];exact⟨.tuple_bool b il hu',.tuple_bool b il hu',.tuple_bool b il hu'⟩
   | int b=>rw[ja.mp re]at rv;obtain⟨t,rfl⟩:=rv;simp only[ZM];exact⟨.tuple_int b t il hu',.tuple_int b t il hu',.tuple_int b t il hu'⟩
   | str b=>rw[ji.mp re]at rv;obtain⟨t,rfl⟩:=rv;simp only[ZM];exact⟨.tuple_str b t il hu',.tuple_str b t il hu',.tuple_str b t il hu'⟩
   | lst es=>
    obtain⟨b,ws,rfl,nb,hb,rb⟩:=jb.mp re
    cases (show v=qQ b from rv)
    obtain⟨j8,kA,j9,_⟩:=I.list (ZF.of (K:=X.K) (e1 _ _ nb hb));simp only[ZM];exact⟨.tuple_list il j9.isList hu',.tuple_list il j9.isList hu',.tuple_list il j9.isList hu'⟩
   | tup es=>
    obtain⟨b,ws,rfl,nb,hb,rb⟩:=jc.mp re
    cases (show v=qQ b from rv)
    obtain⟨j8,kA,j9,_⟩:=I.tuple (ZS.of (K:=X.K) (e1 _ _ nb hb));have ib:s.heap.IsTuple b j8.toArray:=j9;have hit:∀j (h1:j<jL.toArray.size) (h2:j<j8.toArray.size),qan A.in1 s jL.toArray[j] j8.toArray[j] ((λj=>ZM (ds.getD j .non) (es.getD j .non)) j):=λj h1 h2=>by
     obtain⟨v1,a1,a2,a3⟩:=ZcT rl rits h1;obtain⟨v2,b1,b2,b3⟩:=ZcT rb kA h2;exact(ih A.in1 _ _ v1 v2 _ _ (ze (Jw a3) (by simp[Yl]at hd;omega)) (ze (Jw b3) (by simp[Yl]at he;omega)) (by rw[Bo];omega)
      (UQ (by simpa[Zs]using pd) a3) (UQ (by simpa[Zs]using pe) b3) a1 b1 a2 b2).1
    have sz1:jL.toArray.size=ds.length:=by rw[rl.length,rits.length];simp
    have sz2:j8.toArray.size=es.length:=by rw[rb.length,kA.length];simp
    have rc:=qci.tuples (e:=λj=>ZM (ds.getD j .non) (es.getD j .non)) il ib hu' hit;have rn:=qbD.tuples (e:=λj=>ZM (ds.getD j .non) (es.getD j .non)) il ib hu' hit;rw[sz1,sz2,Zga]at rc rn;simp only[ZM];refine⟨?_,rc,rn⟩;by_cases hlb:l=b
    ·have q:=same rfl rfl hlb
     simp only[ZM]at q;subst hlb;rw[q];exact .same _
    ·exact .of_refs hlb rc
  | lst ds=>
   obtain⟨l,vs,rfl,nl,hl,rl⟩:=jb.mp rd
   cases (show u=qQ l from ru)
   obtain⟨jL,rits,pits,_⟩:=I.list (ZF.of (K:=X.K) (e1 _ _ nl hl));have il:=pits.isList
   cases e with
   | dk _=>simp[Zs]at pe
   | dt _=>simp[Zs]at pe
   | du _=>simp[Zs]at pe
   | df _=>simp[Zs]at pe
   | pen=>simp[Zs]at pe
   | ty _=>simp[Zs]at pe
   | clo _ _=>simp[Zs]at pe
   | non=>rw[jg.mp re]at rv;cases (show v=qX from rv);simp only[ZM];exact⟨.list_none il hu',.list_none il hu',.list_none il hu'⟩
   | bl b=>rw[je.mp re]at rv;cases (show v=zQ b from rv);simp only[ZM];exact⟨.list_bool b il hu',.list_bool b il hu',.list_bool b il hu'⟩
   | int b=>rw[ja.mp re]at rv;obtain⟨t,rfl⟩:=rv;simp only[ZM];exact⟨.list_int b t il hu',.list_int b t il hu',.list_int b t il hu'⟩
   | str b=>rw[ji.mp re]at rv;obtain⟨t,rfl⟩:=rv;simp only[ZM];exact⟨.list_str b t il hu',.list_str b t il hu',.list_str b t il hu'⟩
   | tup es=>
    obtain⟨b,ws,rfl,nb,hb,rb⟩:=jc.mp re
    cases (show v=qQ b from rv)
    obtain⟨j8,kA,j9,_⟩:=I.tuple (ZS.of (K:=X.K) (e1 _ _ nb hb));have ib:s.heap.IsTuple b j8.toArray:=j9;simp only[ZM];exact⟨.list_tuple il ib hu',.list_tuple il ib hu',.list_tuple il ib hu'⟩
   | lst es=>
    obtain⟨b,ws,rfl,nb,hb,rb⟩:=jb.mp re
    cases (show v=qQ b from rv)
    obtain⟨j8,kA,j9,_⟩:=I.list (ZF.of (K:=X.K) (e1 _ _ nb hb));have ib:=j9.isList;have hit:∀j (h1:j<jL.toArray.size) (h2:j<j8.toArray.size),qan A.in1 s jL.toArray[j] j8.toArray[j] ((λj=>ZM (ds.getD j .non) (es.getD j .non)) j):=λj h1 h2=>by
     obtain⟨v1,a1,a2,a3⟩:=ZcT rl rits h1;obtain⟨v2,b1,b2,b3⟩:=ZcT rb kA h2;exact(ih A.in1 _ _ v1 v2 _ _ (ze (Jw a3) (by simp[Yl]at hd;omega)) (ze (Jw b3) (by simp[Yl]at he;omega)) (by rw[Bo];omega)
      (UQ (by simpa[Zs]using pd) a3) (UQ (by simpa[Zs]using pe) b3) a1 b1 a2 b2).1
    have sz1:jL.toArray.size=ds.length:=by rw[rl.length,rits.length];simp
    have sz2:j8.toArray.size=es.length:=by rw[rb.length,kA.length];simp
    have key:qci A s (.ref l) (.ref b) (XM ds es)/\qbD A s (.ref l) (.ref b) (!XM ds es):=by
     by_cases hsz:ds.length=es.length
     ·have rc:=qci.lists (e:=λj=>ZM (ds.getD j .non) (es.getD j .non)) il ib (by rw[sz1,sz2];exact hsz) hu' hit
      have rn:=qbD.lists (e:=λj=>ZM (ds.getD j .non) (es.getD j .non)) il ib (by rw[sz1,sz2];exact hsz) hu' hit;rw[sz1,ZbE ds es hsz]at rc rn;exact⟨rc,rn⟩
     ·have hne:(jL.toArray.size != j8.toArray.size)=true:=by rw[sz1,sz2];simpa using hsz
      have hf:XM ds es=false:=by
       cases e:XM ds es with
       | false=>rfl
       | true=>exact absurd (Zdi e) hsz
      rw[hf];exact⟨.lists_lengths il ib hne hu',.lists_lengths il ib hne hu'⟩
    simp only[ZM];refine⟨?_,key.1,key.2⟩;by_cases hlb:l=b
    ·have q:=same rfl rfl hlb
     simp only[ZM]at q;subst hlb;rw[q];exact .same _
    ·exact .of_refs hlb key.1
  | non=>
   rw[jg.mp rd]at ru
   cases (show u=qX from ru)
   cases e with
   | tup es=>
    obtain⟨b,ws,rfl,nb,hb,rb⟩:=jc.mp re
    cases (show v=qQ b from rv)
    obtain⟨j8,kA,j9,_⟩:=I.tuple (ZS.of (K:=X.K) (e1 _ _ nb hb));have ib:s.heap.IsTuple b j8.toArray:=j9;simp only[ZM];exact⟨.none_tuple ib hu',.none_tuple ib hu',.none_tuple ib hu'⟩
   | lst es=>
    obtain⟨b,ws,rfl,nb,hb,rb⟩:=jb.mp re
    cases (show v=qQ b from rv)
    obtain⟨j8,kA,j9,_⟩:=I.list (ZF.of (K:=X.K) (e1 _ _ nb hb));have ib:=j9.isList;simp only[ZM];exact⟨.none_list ib hu',.none_list ib hu',.none_list ib hu'⟩
   | _=>simp[Yl]at hs
  | bl a=>
   rw[je.mp rd]at ru
   cases (show u=zQ a from ru)
   cases e with
   | tup es=>
    obtain⟨b,ws,rfl,nb,hb,rb⟩:=jc.mp re
    cases (show v=qQ b from rv)
    obtain⟨j8,kA,j9,_⟩:=I.tuple (ZS.of (K:=X.K) (e1 _ _ nb hb));have ib:s.heap.IsTuple b j8.toArray:=j9;simp only[ZM];exact⟨.bool_tuple a ib hu',.bool_tuple a ib hu',.bool_tuple a ib hu'⟩
   | lst es=>
    obtain⟨b,ws,rfl,nb,hb,rb⟩:=jb.mp re
    cases (show v=qQ b from rv)
    obtain⟨j8,kA,j9,_⟩:=I.list (ZF.of (K:=X.K) (e1 _ _ nb hb));have ib:=j9.isList;simp only[ZM];exact⟨.bool_list a ib hu',.bool_list a ib hu',.bool_list a ib hu'⟩
   | _=>simp[Yl]at hs
  | int a=>
   rw[ja.mp rd]at ru;obtain⟨ta,rfl⟩:=ru
   cases e with
   | tup es=>
    obtain⟨b,ws,rfl,nb,hb,rb⟩:=jc.mp re
    cases (show v=qQ b from rv)
    obtain⟨j8,kA,j9,_⟩:=I.tuple (ZS.of (K:=X.K) (e1 _ _ nb hb));have ib:s.heap.IsTuple b j8.toArray:=j9;simp only[ZM];exact⟨.int_tuple a ta ib hu',.int_tuple a ta ib hu',.int_tuple a ta ib hu'⟩
   | lst es=>
    obtain⟨b,ws,rfl,nb,hb,rb⟩:=jb.mp re
    cases (show v=qQ b from rv)
    obtain⟨j8,kA,j9,_⟩:=I.list (ZF.of (K:=X.K) (e1 _ _ nb hb));have ib:=j9.isList;simp only[ZM];exact⟨.int_list a ta ib hu',.int_list a ta ib hu',.int_list a ta ib hu'⟩
   | _=>simp[Yl]at hs
  | str a=>
   rw[ji.mp rd]at ru;obtain⟨ta,rfl⟩:=ru
   cases e with
   | tup es=>
    obtain⟨b,ws,rfl,nb,hb,rb⟩:=jc.mp re
    cases (show v=qQ b from rv)
    obtain⟨j8,kA,j9,_⟩:=I.tuple (ZS.of (K:=X.K) (e1 _ _ nb hb));have ib:s.heap.IsTuple b j8.toArray:=j9;simp only[ZM];exact⟨.str_tuple a ta ib hu',.str_tuple a ta ib hu',.str_tuple a ta ib hu'⟩
   | lst es=>
    obtain⟨b,ws,rfl,nb,hb,rb⟩:=jb.mp re
    cases (show v=qQ b from rv)
    obtain⟨j8,kA,j9,_⟩:=I.list (ZF.of (K:=X.K) (e1 _ _ nb hb));have ib:=j9.isList;simp only[ZM];exact⟨.str_list a ta ib hu',.str_list a ta ib hu',.str_list a ta ib hu'⟩
   | _=>simp[Yl]at hs
end
section
variable {X:Cx}{G:Gh}
def Vf (d e:D):Bool:=Zs d&&Zs e&&decide (Yl d<=60)&&decide (Yl e<=60)
def ZeC {d e:D}(h:Vf d e=true):Zs d=true/\Zs e=true/\Yl d<=60/\Yl e<=60:=by
 simp only[Vf,qV,decide_eq_true_eq]at h;exact⟨h.1.1.1,h.1.1.2,h.1.2,h.2⟩
def Xc (d e:D):Option D:=if Vf d e=true then some (.bl (ZM d e))else none
def Xj (d e:D):Option D:=if Vf d e=true then some (.bl (!ZM d e))else none
def rEqD (G:Gh)(neg:Bool):R2:=λx y H Q=>∃Hf d e,ZB G Hf H/\Vf d e=true/\Zm G Hf d x/\Zm G Hf e y/\Q (.bl (if neg then !ZM d e else ZM d e)) H
def Zo4 (hu:X.A.units+64<cLine):Yp X (xk .Eq) (rEqD G false):=by
 intro jJ s σ H x y v u Q I rx ry h;obtain⟨Hf,d,e,e1,ok,rd,re,q⟩:=h;obtain⟨o1,o2,o3,o4⟩:=ZeC ok;exact(Zk6 I e1 60 X.A d e x y v u o3 o4 (by omega) o1 o2 rd re rx ry).2.1 _ _ _ _ ⟨.bl (ZM d e),H,I,rfl,q⟩
def Zo5 (hu:X.A.units+64<cLine):Yp X (xk .NotEq) (rEqD G true):=by
 intro jJ s σ H x y v u Q I rx ry h;obtain⟨Hf,d,e,e1,ok,rd,re,q⟩:=h;obtain⟨o1,o2,o3,o4⟩:=ZeC ok;exact(Zk6 I e1 60 X.A d e x y v u o3 o4 (by omega) o1 o2 rd re rx ry).2.2 _ _ _ _ ⟨.bl (!ZM d e),H,I,rfl,q⟩
def UA (hu:X.A.units+64<cLine):XE X G (xk .Eq) Xc:=
 ⟨_,Zo4 (G:=G) hu,λHf H s x y d e c Q e1 st rx ry q k=>by
  unfold Xc at q;split at q
  ·rename_i ok
   cases q
   exact⟨Hf,d,e,e1,ok,rx,ry,k _ Hf H (.refl e1) st (je.mpr rfl) (.scal λz=>z)⟩
  ·cases q⟩
def Uf (hu:X.A.units+64<cLine):XE X G (xk .NotEq) Xj:=
 ⟨_,Zo5 (G:=G) hu,λHf H s x y d e c Q e1 st rx ry q k=>by
  unfold Xj at q;split at q
  ·rename_i ok
   cases q
   exact⟨Hf,d,e,e1,ok,rx,ry,k _ Hf H (.refl e1) st (je.mpr rfl) (.scal λz=>z)⟩
  ·cases q⟩
def VB (x:D)(ds:List D):Bool:=Zs x&&YG ds&&decide (Yl x<=60)&&decide (Xx ds<=60)
def VG (x:D)(ds:List D):Bool:=ds.any λd=>ZM d x
def Zjx {x:D}{ds:List D}(h:VB x ds=true):Zs x=true/\YG ds=true/\Yl x<=60/\Xx ds<=60:=by
 simp only[VB,qV,decide_eq_true_eq]at h;exact⟨h.1.1.1,h.1.1.2,h.1.2,h.2⟩
open Classical in
noncomputable def U5 (G:Gh)(Hf:Hp)(x:D)(u:Value):Bool:=if h:∃d v,Zs d=true/\Zm G Hf d v/\ZJ v u then ZM h.choose x else false
def Ziz {Hf:Hp}{x d:D}{v:V}{u:Value}(pd:Zs d=true)(r:Zm G Hf d v)(ru:ZJ v u):U5 G Hf x u=ZM d x:=by
 have h:∃d v,Zs d=true/\Zm G Hf d v/\ZJ v u:=⟨d,v,pd,r,ru⟩;unfold U5;rw[dif_pos h];obtain⟨v',p',r',ru'⟩:=h.choose_spec;have ev:v'=v:=ZJ.inj ru' ru;subst ev;rw[Zm.inj p' pd r' r]
def Zgb {Hf:Hp}{x:D}:∀{ds:List D} {vs:List V} {us:List Value},YG ds=true->Zk G Hf ds vs->Zz vs us->us.any (U5 G Hf x)=VG x ds
 | [],vs,us,_,r,rv=>by
  rw[Zk.nil_iff.mp r]at rv
  cases rv
  rfl
 | d::ds,vs,us,p,r,rv=>by
  obtain⟨v,rr,rfl,r1,r2⟩:=jd.mp r;have p':Zs d=true/\YG ds=true:=by simpa[YG]using p
  cases rv with
  | cons a b=>
   rw[qao,Ziz p'.1 r1 a,Zgb p'.2 r2 b];rfl
def Zgc {Hf:Hp}:∀{ds:List D} {vs:List V} {us:List Value} {u:Value},Zk G Hf ds vs->Zz vs us->u∈us->∃d v,d∈ds/\Zm G Hf d v/\ZJ v u
 | [],vs,us,u,r,rv,m=>by
  rw[Zk.nil_iff.mp r]at rv
  cases rv
  simp at m
 | d::ds,vs,us,u,r,rv,m=>by
  obtain⟨v,rr,rfl,r1,r2⟩:=jd.mp r
  cases rv with
  | cons a b=>
   rcases qm.mp m with e | m
   ·subst e;exact⟨d,v,by simp,r1,a⟩
   ·obtain⟨d',v',m',h1,h2⟩:=Zgc r2 b m
    exact⟨d',v',by simp[m'],h1,h2⟩
def rInD (G:Gh)(neg:Bool):R2:=λx y H Q=>∃Hf d ds,ZB G Hf H/\VB d ds=true/\Zm G Hf d x/\(Zm G Hf (.lst ds) y∨Zm G Hf (.tup ds) y)/\Q (.bl (if neg then !VG d ds else VG d ds)) H
def ZcU {jJ:Qb}{s:Shared}{σ:St}{Hf H:Hp}{d:D}{ds:List D}{x:V}{v:Value}{vs:List V}{jL:List Value}(hu:X.A.units+64<cLine)(I:Inv X jJ σ H s)(e1:ZB G Hf H)(ok:VB d ds=true)(rd:Zm G Hf d x)(rx:ZJ x v)
  (rl:Zk G Hf ds vs) (rv:Zz vs jL):(∀y,y∈jL.toArray->qan X.A.in1 s y v (U5 G Hf d y))/\jL.toArray.any (U5 G Hf d)=VG d ds:=by
 obtain⟨o1,o2,o3,o4⟩:=Zjx ok;refine⟨λy hy=>?_,?_⟩
 ·obtain⟨c,w,m,h1,h2⟩:=Zgc rl rv (by simpa using hy)
  rw[Ziz (UQ o2 m) h1 h2];exact(Zk6 I e1 60 X.A.in1 c d w x y v (ze (Jw m) o4) o3 (by rw[Bo];omega) (UQ o2 m) o1 h1 rd h2 rx).1
 ·rw[show jL.toArray.any (U5 G Hf d)=jL.any (U5 G Hf d) by simp,Zgb o2 rl rv]
def Zo6 (hu:X.A.units+64<cLine):Yp X (xk .In) (rInD G false):=by
 intro jJ s σ H x y v u Q I rx ry h;obtain⟨Hf,d,ds,e1,ok,rd,hl,q⟩:=h;rcases hl with hl | hl
 ·obtain⟨p,vs,rfl,np,hp,rp⟩:=jb.mp hl
  cases (show u=qQ p from ry)
  obtain⟨jL,rv,pl,hz⟩:=I.list (ZF.of (K:=X.K) (e1 _ _ np hp));obtain⟨c1,c2⟩:=ZcU hu I e1 ok rd rx rp rv;refine SeqAt.in_listAt _ pl.isList c1 ⟨.bl _,H,I,rfl,?_⟩;rw[c2];exact q
 ·obtain⟨p,vs,rfl,np,hp,rp⟩:=jc.mp hl
  cases (show u=qQ p from ry)
  obtain⟨jL,rv,pl,hz⟩:=I.tuple (ZS.of (K:=X.K) (e1 _ _ np hp));obtain⟨c1,c2⟩:=ZcU hu I e1 ok rd rx rp rv;refine SeqAt.in_tupleAt _ pl c1 ⟨.bl _,H,I,rfl,?_⟩;rw[c2];exact q
def Zjy (hu:X.A.units+64<cLine):Yp X (xk .NotIn) (rInD G true):=by
 intro jJ s σ H x y v u Q I rx ry h;obtain⟨Hf,d,ds,e1,ok,rd,hl,q⟩:=h;rcases hl with hl | hl
 ·obtain⟨p,vs,rfl,np,hp,rp⟩:=jb.mp hl
  cases (show u=qQ p from ry)
  obtain⟨jL,rv,pl,hz⟩:=I.list (ZF.of (K:=X.K) (e1 _ _ np hp));obtain⟨c1,c2⟩:=ZcU hu I e1 ok rd rx rp rv;refine SeqAt.notIn_listAt _ pl.isList c1 ⟨.bl _,H,I,rfl,?_⟩;rw[c2];exact q
 ·obtain⟨p,vs,rfl,np,hp,rp⟩:=jc.mp hl
  cases (show u=qQ p from ry)
  obtain⟨jL,rv,pl,hz⟩:=I.tuple (ZS.of (K:=X.K) (e1 _ _ np hp));obtain⟨c1,c2⟩:=ZcU hu I e1 ok rd rx rp rv;refine SeqAt.notIn_tupleAt _ pl c1 ⟨.bl _,H,I,rfl,?_⟩;rw[c2];exact q
end
def Zjz:typeLookup (.type "list") "keys" = pure none:=by rw[typeLookup_type,builtinLookup_eq_fast];kernel_rfl
def Zay:entryFor table "dict.update.loop" = some Builtin.«dict.update.loop»:=entryFor_of_tree (by kernel_rfl)
def Zaa:plainId "dict.update.loop" = true:=by decide +kernel
def ZbF {prog:xE}{w:World}{A:xF}{E:xG}{s:Shared}{a:Addr}{o:Obj}{xs:Array Value}{k:Nat}{Q:Option Value->Shared->Prop}
  (hx:s.heap.get? a=some o) (hc:o.cls=.type "list") (hdat:o.data=.seq xs k) (hd:o.dict=none) (hA:A.handled=none)
  (h:∀h' tk,(∀b o,s.heap.get? b=some o->h'.get? b=some o)->Q none { s with heap:=h',toks:=tk }) :
  xf (xC prog w) A (getAttr? (.ref a) "keys") Q E s:=by
 have hmiss:=Zjz;have hname:(["__module__","__name__","__qualname__","__doc__","__annotations__"]:List Str).contains ("keys" : Str)=false:=by decide +kernel
 have hsz:("keys" : Str).length+100<=xg:=by decide +kernel
 obtain⟨c,dct,dat,sl⟩:=o;simp only at hc hdat hd;subst hc hdat hd;obtain⟨hp,g,d,tk,os⟩:=s;have hT:∀tk',(⟨hp,g,d,tk',os⟩:Shared).TypeIs (.ref a) "list":=λ_=>⟨_,hx,rfl⟩;have f1:=sub_AttributeError;have f3:=qax.lookup;have f4:=qax.bind (.ref a);have f5:=am_list_getattr_none;unfold getAttr? getAttrBy?;refine xa ?_;refine wpAny_mkText ?_;refine xa (wpAny_attempt ?_);unfold getAttrBy
 repeat (any_goals (first | assumption | exact hT _ | ((with_reducible show xf _ _ (call (Value.builtin "list.__getattribute__") _ _) _ _ _);refine call_meets qax (hT _) am_entry_list_getattribute (F.args_list_getattribute_2 _ _) (meets_getattribute_miss_list a xs k sl "keys" _ hmiss hname hsz) ⟨hx,hA,λh' tk' e hx'=>?_⟩) | wp_step))
 obtain⟨t',u',he⟩:=hx'.there;have hTe:∀tk',(⟨h',g,d,tk',os⟩:Shared).TypeIs (.ref e) "AttributeError":=λ_=>⟨_,he,rfl⟩;have fin:∀tk',xf (xC prog w) A (do
   let b<-isInstance (.ref e) (.type "AttributeError")
   if b=true then pure none else throw (.ref e)) Q E ⟨h',g,d,tk',os⟩:=λtk'=>by
  refine xa (wpAny_isInstance (hTe _) f1 ?_);simp only[if_true];exact xb (h h' tk' hx'.of.keeps)
 show xf _ _ (getattributeRaised _ _ _ _ _ _ _) _ _ _;unfold getattributeRaised
 repeat (any_goals (first | assumption | exact fin _ | wp_step))
section
variable {X:Cx}{jJ:Qb}{σ:St}{H:Hp}{s:Shared}{A:xF}{E:xG}{a:Addr}{y v:V}{u r:Value}
def ZjA {H':Hp}{Q:Unit->Shared->Prop}(hu:A.units<cLine)(I:Inv X jJ σ H s)(g:WG H a y v H')(ry:ZJ y u)(rv:ZJ v r)(h:∀s',Inv X jJ σ H' s'->Q () s') :
  xf (xC X.prog X.w) A (dictSet a u r) Q E s:=by
 rcases g with⟨kvs,k,e,ey,l,eH⟩ | ⟨kvs,k,b,e,ey,eb,l,eH⟩
 ·subst ey eH
  obtain⟨z,hd,vs,rel,dd⟩:=ZkT I.hok e;have hz:vs.length<=xg:=by rw[<-rel.length];exact z
  have hl:(Z9 kvs k v).length<=xg:=by have:=Up kvs k v;omega
  refine wpAny_dictSet_pairs (hsz:=hz) (UZ ry) dd λh' dd' hs=>h _ ?_;have he:∃q,h'.get? a=some q:=let ⟨q,_,_,hq,_⟩:=dd';⟨q,hq⟩;exact BC I (by rw[e];exact yt) hs he (Zhi hl hd (rel.put k rv) dd')
 ·subst ey eH
  cases (show u=qQ b from ry)
  obtain⟨z,hd,xs,rel,dd⟩:=Zn6 I.hok e;have hz:xs.length<=xg:=by rw[<-qaX rel];exact z
  have hl:(Z9 kvs k v).length<=xg:=by have:=Up kvs k v;omega
  refine wpAny_dictSet_heap (hsz:=hz) (knd:=tupleKind (Wo X.prog X.w)) hu (JC I.hok eb) dd λh' dd' hs=>h _ ?_;obtain⟨q,es,ep,hq,h2,h3,h4,_,h5⟩:=dd';refine BC I (by rw[e];exact yt) hs ⟨q,hq⟩ ⟨hl,hd,_,(rel.put k eb rv).keeps λc ys ec=>?_,q,es,ep,hq,h2,h3,h4,h5⟩;rw[Zr (ZnX ec e (λz=>nomatch z))];exact ec
end
section
variable {X:Cx}{jJ:Qb}{σ:St}
inductive Puts (d:Addr):Hp->List V->Hp->Prop
 | nil {H:Hp}:Puts d H [] H
 | cons {H H1 H2:Hp} {b:Addr} {k v:V} {r:List V}:H b=some (.tup [k,v])->WG H d k v H1->Puts d H1 r H2->Puts d H (.ref b::r) H2
def Zk7 {d l it:Addr}{vs:List V}{E:xG}{Q:Shared->Prop}{H':Hp}{A:xF}(hA:A.handled=none)(hu:A.units+1<cLine)
  (hQ:∀s',Inv X jJ σ H' s'->Q s') (hfp:∀Hx:Hp,Hx it=none->WF X jJ Hx it) :
  ∀(k i:Nat) (s:Shared) (H:Hp),vs.length-i=k->i<=vs.length->Inv X jJ σ H s->H it=none->s.heap.IsListIter it l i->H l=some (.lst vs)->l≠d->(∀Hx Hy y v,WG Hx d y v Hy->Hx l=some (.lst vs)->Hy l=some (.lst vs))->Puts d H (vs.drop i) H'->
   xo (xC X.prog X.w) A (.builtin "dict.update.loop" ⟨[.ref d,.ref it,rawInt i,.none],[]⟩) (wants (λr s₂=>r=.none/\Q s₂) E) s:=by
 intro k
 induction k with
 | zero=>
  intro i s H hk hi I hit st hl hne hkeep hp;have hil:i=vs.length:=by omega
  obtain⟨jL,rv,pl,hz⟩:=I.list (ZF.of (K:=X.K) hl);refine xm Zay ?_;rw[zx Zaa _];show xf _ A.in1 (pyNext (.ref it) >>= _) _ _ s;obtain⟨f0,f1,f2,f3,f4,f5⟩:=hfp H hit;have jT:=rv.length;refine xa (wpAny_pyNext_list_end (A:=A.in1) hA st pl.isList (by simp;omega) λh' eb=>?_);have I2:Inv X jJ σ H { s with heap:=h' }:=I.turned (t':=s.toks) (λb o hb e=>eb b o hb e) f0 f1 f3 f4 f5;have e0:vs.drop i=[]:=by rw[hil];simp
  rw[e0]at hp
  cases hp
  show xf _ _ (Builtin.Dict.addKeywords d [] >>= _) _ _ _;refine xa (xb ?_);exact xb ⟨rfl,hQ _ I2⟩
 | succ k ih=>
  intro i s H hk hi I hit st hl hne hkeep hp;have hlt:i<vs.length:=by omega
  obtain⟨jL,rv,pl,hz⟩:=I.list (ZF.of (K:=X.K) hl);have jT:=rv.length;refine xm Zay ?_;rw[zx Zaa _];show xf _ A.in1 (pyNext (.ref it) >>= _) _ _ s;obtain⟨f0,f1,f2,f3,f4,f5⟩:=hfp H hit;have hd:vs.drop i=vs[i]::vs.drop (i+1):=qas hlt;rw[hd]at hp;generalize hvi:vs[i]=x at hp;generalize hrest:vs.drop (i+1)=rest at hp
  cases hp with
  | @cons _ H1 _ b k0 v0 _ hb hput hrec=>
   have gx:vs[i]?=some (.ref b):=by rw[qj hlt,hvi]
   obtain⟨u,hu1,ru⟩:=rv.get gx
   cases (show u=qQ b from ru)
   refine xa (wpAny_pyNext_list_item (A:=A.in1) st pl.isList (x:=.ref b) (by simpa using hu1) λh' st' sb=>?_);have I1:Inv X jJ σ H { s with heap:=h' }:=I.turned (t':=s.toks) (λc o hc e=>(sb.2 c hc).trans e) f0 f1 f3 f4 f5;obtain⟨j8,rv2,pt,_⟩:=I1.tuple (ZS.of (K:=X.K) hb);obtain⟨ku,vu,e2,rk,rvv⟩:=rv2.two;subst e2;obtain⟨o,ho,hoc,n,hod⟩:=id pt;show xf _ _ (holding [qQ b] _ >>= _) _ _ _;refine xa (xw ?_);refine xa (xu ?_);unfold Builtin.Dict.pairItems;refine xa (wpAny_typeOf (T:="tuple") ⟨o,ho,hoc⟩ ?_);rw[if_pos (by decide)];refine xa (xt ho hod ?_);refine xb ?_;show xf _ _ (holding [ku,vu] (dictSet d ku vu)) _ _ _;refine xw ?_;obtain⟨oi,hoi,ci,di⟩:=id st';have Ip:=I1.pinned (fp:=[it]) (λc hc=>by
    have e:c=it:=by simpa using hc
    subst e;exact hfp H hit) (λc hc=>by
    have e:c=it:=by simpa using hc
    subst e;exact⟨oi,hoi,λw z=>by rw[di]at z;cases z⟩)
   refine ZjA (by rw[Bo];exact hu) Ip hput rk rvv λs2 I2=>?_;have pit:=I2.pin (it,oi) (qp _ (qp _ (Jk (by simp) hoi)));have ec:((i:Int)+1)=((i+1:Nat):Int):=by push_cast;rfl
   show xf _ _ (again (.builtin "dict.update.loop" ⟨[.ref d,.ref it,rawInt ((i:Int)+1),.none],[]⟩)) _ _ _;rw[ec];refine xb ⟨plainId_quiet Zaa _,?_⟩;refine ih (i+1) s2 H1 (by omega) hlt I2.unpinned pit.2.1 ⟨oi,pit.1,ci,di⟩ (hkeep _ _ _ _ hput hl) hne hkeep ?_;rw[hrest];exact hrec
def ZbG (hc:X.calm=true)(hu:X.A.units+64<cLine)(tk:Bool):XB X (.type "dict") (λxs H Q=>∃l vs,xs=[.ref l]/\H l=some (.lst vs)/\∀p,H p=none->∃H',Puts p (Zi H p (if tk then .dT []else .dK [])) vs H'/\Q (.ref p) H'):=by
 intro jJ s σ H xs us Q I r h;obtain⟨l,vs,rfl,hl,q⟩:=h;obtain⟨u,rfl,ru⟩:=XI r
 cases (show u=qQ l from ru)
 obtain⟨H',puts,q'⟩:=q s.heap.objs.size (I.hok.fresh (qq _));have hA:=I.ok.hd hc;refine callType_codes (Q₁:=λobj s₁=>obj=.ref s.heap.objs.size/\s₁ = { s with heap:=s.heap.push { cls:=.type "dict",data:=.dict #[] } }) F.kt_called_dict (F.kt_typeCall_dict_1 _) F.entry_dict_init (kt_code_dict_new _ ⟨rfl,rfl⟩) ?_;rintro obj s₁ ⟨rfl,rfl⟩;have hbig:=I.big;have I1:Inv X jJ σ (Zi H s.heap.objs.size (if tk then .dT []else .dK [])) { s with heap:=s.heap.push { cls:=.type "dict",data:=.dict #[] } }:=
  I.laid (t':=s.toks) (λb o e=>qh _ e) (qq _) (by
   cases tk
   ·exact Zda s.heap hbig
   ·exact ZkU s.heap hbig)
 have hnew:(s.heap.push { cls:=.type "dict",data:=.dict #[] }).get? s.heap.objs.size=some { cls:=.type "dict",data:=.dict #[] }:=qz _ rfl;have hTd:({ s with heap:=s.heap.push { cls:=.type "dict",data:=.dict #[] } }:Shared).TypeIs (.ref s.heap.objs.size) "dict":=⟨_,hnew,rfl⟩;have hld:l≠s.heap.objs.size:=Z1 hl (I.hok.fresh (qq _));have hl1:(Zi H s.heap.objs.size (if tk then HO.dT []else HO.dK [])) l=some (.lst vs):=by rw[Zr hld];exact hl
 obtain⟨zz,jL,n,rits,hlo⟩:=(show Yz X.prog X.w _ _ l (.lst vs)from I1.hok l _ hl1);refine⟨hTd,F.args_dict_init_2 _ _,?_⟩;unfold Builtin.«dict.__init__»;refine xa ?_;unfold Builtin.Dict.selfAndRest;refine xa (wpAny_notOrdered_dict hTd ?_);show xf _ _ (pure (s.heap.objs.size,[qQ l])) _ _ _;refine xb ?_;show xf _ _ (qbL "dict.__init__" s.heap.objs.size (.ref l) [] .none) _ _ _;unfold qbL;have hTl:({ s with heap:=s.heap.push { cls:=.type "dict",data:=.dict #[] } }:Shared).TypeIs (.ref l) "list":=⟨_,hlo,rfl⟩;refine xa (wpAny_typeOf hTl ?_);rw[if_pos (by decide)];refine xa (ZbF hlo rfl rfl rfl hA λh2 tk2 kp2=>?_);simp only[Option.isNone_none,if_true];refine xa (wpAny_rule ?_);have I2:Inv X jJ σ (Zi H s.heap.objs.size (if tk then .dT []else .dK [])) { s with heap:=h2,toks:=tk2 }:=I1.kept kp2;obtain⟨its',rv',pl',hz'⟩:=I2.list (ZF.of (K:=X.K) hl1);refine xa (wpAny_pyIter_list pl'.isList ?_);refine xb ⟨plainId_quiet Zaa _,?_⟩;have I3:Inv X jJ σ (Zi H s.heap.objs.size (if tk then .dT []else .dK [])) { s with heap:=h2.push { cls:=.type "list_iterator",data:=.fields #[.ref l,.int 0 0] },toks:=tk2 }:=I2.kept (t':=tk2) λb o e=>qh _ e;have hfresh:(Zi H s.heap.objs.size (if tk then HO.dT []else HO.dK [])) h2.objs.size=none:=I2.hok.fresh (qq _);have hst:(h2.push { cls:=.type "list_iterator",data:=.fields #[.ref l,.int 0 0] }).IsListIter h2.objs.size l 0:=⟨_,qz _ rfl,rfl,rfl⟩;refine Zk7 (l:=l) (vs:=vs) (H':=H') (A:=X.A.in1) (jJ:=jJ) (σ:=σ) hA (by rw[Bo];omega) (λs' I'=>⟨.ref s.heap.objs.size,H',I',rfl,q'⟩) (λHx hn=>I2.fpOk (qq _) hn) vs.length 0 _ _ rfl (zl _) I3 hfresh hst hl1 hld ?_ puts;intro Hx Hy y v hput hxl;rcases hput with⟨kvs,k,e,ey,l',eH⟩ | ⟨kvs,k,b,e,ey,eb,l',eH⟩
 ·subst eH;rw[Zr hld];exact hxl
 ·subst eH;rw[Zr hld];exact hxl
end
section
variable {X:Cx}{G:Gh}
def XJ:D->Option Zt
 | .int i=>some (.inl i)
 | .str x=>some (.inr x)
 | _=>none
def Xt:List D->Option (List Zt)
 | []=>some []
 | d::ds=>match XJ d,Xt ds with | some k,some ks=>some (k::ks) | _,_=>none
def X3:D->Option V
 | .int i=>some (.int i)
 | .bl b=>some (.bl b)
 | .str x=>some (.str x)
 | .non=>some .non
 | _=>none
def Jn {H:Hp}{d:D}{v:V}{k:Zt}(h:XJ d=some k)(r:Zm G H d v):v=kV k:=by
 cases d with
 | int i=>cases h;rw[ja.mp r];rfl
 | str i=>cases h;rw[ji.mp r];rfl
 | _=>cases h
def UP {H:Hp}:∀{ds:List D} {vs:List V} {ks:List Zt},Xt ds=some ks->Zk G H ds vs->vs=ks.map kV
 | [],vs,ks,h,r=>by cases h;exact Zk.nil_iff.mp r
 | d::ds,vs,ks,h,r=>by
  obtain⟨v,rr,rfl,r1,r2⟩:=jd.mp r;unfold Xt at h
  cases e1:XJ d with
  | none=>rw[e1]at h;cases h
  | some k=>
   cases e2:Xt ds with
   | none=>rw[e1,e2]at h;cases h
   | some ks'=>
    rw[e1,e2]at h
    cases h
    rw[Jn e1 r1,UP e2 r2];rfl
def Zbn {H:Hp}{d:D}{v w:V}(h:X3 d=some w)(r:Zm G H d v):v=w:=by
 cases d with
 | int i=>cases h;exact ja.mp r
 | str i=>cases h;exact ji.mp r
 | bl i=>cases h;exact je.mp r
 | non=>cases h;exact jg.mp r
 | _=>cases h
def ZiA:D->Option (List Zt×V)
 | .tup [.tup ks,v]=>match Xt ks,X3 v with | some k,some w=>some (k,w) | _,_=>none
 | _=>none
def ZiB:D->Option (Zt×V)
 | .tup [k,v]=>match XJ k,X3 v with | some k,some w=>some (k,w) | _,_=>none
 | _=>none
def WE:List (List Zt×V)->List D->Option (List (List Zt×V))
 | jP,[]=>some jP
 | jP,d::ds=>match ZiA d with | some (k,v)=>WE (Z9 jP k v) ds | none=>none
def Wg:List (Zt×V)->List D->Option (List (Zt×V))
 | jP,[]=>some jP
 | jP,d::ds=>match ZiB d with | some (k,v)=>Wg (Z9 jP k v) ds | none=>none
def Zhs {d:D}{k:List Zt}{v:V}(h:ZiA d=some (k,v)):∃ks w,d=.tup [.tup ks,w]/\Xt ks=some k/\X3 w=some v:=by
 match d,h with
 | .tup [.tup ks,w],h=>
  have h':(match Xt ks,X3 w with | some k,some w=>some (k,w) | _,_=>none)=some (k,v):=h
  cases e1:Xt ks with
  | none=>rw[e1]at h';cases h'
  | some k'=>
   cases e2:X3 w with
   | none=>rw[e1,e2]at h';cases h'
   | some w'=>rw[e1,e2]at h';cases h';exact⟨ks,w,rfl,e1,e2⟩
def Zht {d:D}{k:Zt}{v:V}(h:ZiB d=some (k,v)):∃ks w,d=.tup [ks,w]/\XJ ks=some k/\X3 w=some v:=by
 match d,h with
 | .tup [ks,w],h=>
  have h':(match XJ ks,X3 w with | some k,some w=>some (k,w) | _,_=>none)=some (k,v):=h
  cases e1:XJ ks with
  | none=>rw[e1]at h';cases h'
  | some k'=>
   cases e2:X3 w with
   | none=>rw[e1,e2]at h';cases h'
   | some w'=>rw[e1,e2]at h';cases h';exact⟨ks,w,rfl,e1,e2⟩
def Zhu {Hf H:Hp}{p:Addr}(e1:ZB G Hf H)(hp:H p=none):∀{ds:List D} {vs:List V} {jP res:List (List Zt×V)},Zk G Hf ds vs->WE jP ds=some res->jP.length+ds.length<=xg->Puts p (Zi H p (.dT jP)) vs (Zi H p (.dT res))
 | [],vs,jP,res,r,h,_=>by
  rw[Zk.nil_iff.mp r]
  cases h
  exact .nil
 | d::ds,vs,jP,res,r,h,hl=>by
  obtain⟨v,rr,rfl,r1,r2⟩:=jd.mp r;unfold WE at h
  cases e:ZiA d with
  | none=>rw[e]at h;cases h
  | some kv=>
   obtain⟨k,w⟩:=kv;rw[e]at h;have h:WE (Z9 jP k w) ds=some res:=h;obtain⟨ks,wd,rfl,q1,q2⟩:=Zhs e;obtain⟨b,ws,rfl,nb,hb,rb⟩:=jc.mp r1;obtain⟨v1,v2,rfl,rk,rv⟩:=jp rb;obtain⟨c,cs,rfl,nc,hcx,rc⟩:=jc.mp rk;have ec:=UP q1 rc;subst ec;have ev:=Zbn q2 rv;subst ev;have hb':=e1 _ _ nb hb;have hc':=e1 _ _ nc hcx;have ll:=Up jP k v2;have hl':jP.length+(ds.length+1)<=xg:=by simpa using hl
   refine .cons (by rw[Zr (Z1 hb' hp)];exact hb') (WG.t (k:=k) ZI (by rw[Zr (Z1 hc' hp)];exact hc') (by omega)) ?_;rw[Ze9];exact Zhu e1 hp r2 h (by omega)
def Zk8 {Hf H:Hp}{p:Addr}(e1:ZB G Hf H)(hp:H p=none):∀{ds:List D} {vs:List V} {jP res:List (Zt×V)},Zk G Hf ds vs->Wg jP ds=some res->jP.length+ds.length<=xg->Puts p (Zi H p (.dK jP)) vs (Zi H p (.dK res))
 | [],vs,jP,res,r,h,_=>by
  rw[Zk.nil_iff.mp r]
  cases h
  exact .nil
 | d::ds,vs,jP,res,r,h,hl=>by
  obtain⟨v,rr,rfl,r1,r2⟩:=jd.mp r;unfold Wg at h
  cases e:ZiB d with
  | none=>rw[e]at h;cases h
  | some kv=>
   obtain⟨k,w⟩:=kv;rw[e]at h;have h:Wg (Z9 jP k w) ds=some res:=h;obtain⟨ks,wd,rfl,q1,q2⟩:=Zht e;obtain⟨b,ws,rfl,nb,hb,rb⟩:=jc.mp r1;obtain⟨v1,v2,rfl,rk,rv⟩:=jp rb;have ek:=Jn q1 rk;subst ek;have ev:=Zbn q2 rv;subst ev;have hb':=e1 _ _ nb hb;have ll:=Up jP k v2;have hl':jP.length+(ds.length+1)<=xg:=by simpa using hl
   refine .cons (by rw[Zr (Z1 hb' hp)];exact hb') (WG.k (k:=k) ZI (by omega)) ?_;rw[Ze9];exact Zk8 e1 hp r2 h (by omega)
def Zk9:List D->Option D
 | [.lst ds]=>if ds.length<=xg then (WE [] ds).map .dt else none
 | _=>none
def JD:List D->Option D
 | [.lst ds]=>if ds.length<=xg then (Wg [] ds).map .dk else none
 | _=>none
def Zhv (hc:X.calm=true)(hu:X.A.units+64<cLine):XB X (.type "dict") (λxs H Q=>∃l vs,xs=[.ref l]/\H l=some (.lst vs)/\∀p,H p=none->∃kvs,Puts p (Zi H p (.dT [])) vs (Zi H p (.dT kvs))/\∀o,Q (.ref p) (Zi H p (.frz o (.dT kvs)))):=by
 intro jJ s σ H xs us Q I r h;obtain⟨l,vs,ex,hl,hp⟩:=h;refine ZL (ZbG hc hu true jJ s σ H xs us (λv H'=>∃p kvs,v=.ref p/\H'=Zi H p (.dT kvs)/\∀o,Q (.ref p) (Zi H p (.frz o (.dT kvs)))) I r ⟨l,vs,ex,hl,λp hn=>?_⟩) λu s1 ⟨v,H1,I1,r1,p,kvs,ev,eH,q⟩=>?_
 ·obtain⟨kvs,pu,q⟩:=hp p hn
  exact⟨_,pu,p,kvs,rfl,rfl,q⟩
 ·subst ev eH
  have ok:=I1.hok p (.dT kvs) ZI;obtain⟨_,_,xs',_,o,es,ep,h1,_⟩:=(show Yz X.prog X.w _ s1.heap p (.dT kvs)from ok);have I2:=I1.write (x:=p) (e:=p) (o:=.frz o (.dT kvs)) (h':=s1.heap) (t':=s1.toks) (by rw[ZI];trivial) (.inl rfl) (λ_ _ _ e=>e) ⟨o,h1⟩ ⟨h1,ok.stay (λ_ _ _ e=>e) (λb e=>?_) λb xs e=>?_⟩
  ·rw[Ze9]at I2
   exact⟨.ref p,_,I2,r1,q o⟩
  ·have:b≠p:=λz=>by rw[z,ZI]at e;cases e
   rw[Zr this];exact e
  ·have:b≠p:=λz=>by rw[z,ZI]at e;cases e
   rw[Zr this];exact e
def Zhw (hc:X.calm=true)(hu:X.A.units+64<cLine):X2 X G (.type "dict") Zk9:=
 ⟨_,Zhv hc hu,λHf H s xs ds c Q e1 st r q k=>by
  match ds,q,r with
  | [.lst es],q,r=>
   have q:(if es.length<=xg then (WE [] es).map D.dt else none)=some c:=q;split at q
   ·rename_i hz
    cases e:WE [] es with
    | none=>rw[e]at q;cases q
    | some res=>
     rw[e]at q
     cases q
     obtain⟨v,rfl,rv⟩:=jh r;obtain⟨l,vs,rfl,nl,hl,rl⟩:=jb.mp rv;refine⟨l,vs,rfl,e1 _ _ nl hl,λp hp=>⟨_,Zhu e1 hp rl e (by simpa using hz),λo=>?_⟩⟩;have nf:=Gh.nofp st hp;have g2:=Gr.new (o:=.frz o (.dT res)) e1 hp nf;exact k (.ref p) _ _ g2 (Gh.grow st hp) (jk.mpr ⟨p,o,rfl,nf,ZI⟩) λa ea _=>by cases ea;exact⟨hp,λds ed=>by cases ed⟩
   ·cases q⟩
def Zdj (hc:X.calm=true)(hu:X.A.units+64<cLine):X2 X G (.type "dict") JD:=
 ⟨_,ZbG hc hu false,λHf H s xs ds c Q e1 st r q k=>by
  match ds,q,r with
  | [.lst es],q,r=>
   have q:(if es.length<=xg then (Wg [] es).map D.dk else none)=some c:=q;split at q
   ·rename_i hz
    cases e:Wg [] es with
    | none=>rw[e]at q;cases q
    | some res=>
     rw[e]at q
     cases q
     obtain⟨v,rfl,rv⟩:=jh r;obtain⟨l,vs,rfl,nl,hl,rl⟩:=jb.mp rv;refine⟨l,vs,rfl,e1 _ _ nl hl,λp hp=>⟨_,Zk8 e1 hp rl e (by simpa using hz),?_⟩⟩;have nf:=Gh.nofp st hp;have g2:=Gr.new (o:=.dK res) e1 hp nf;exact k (.ref p) _ _ g2 (Gh.grow st hp) (jj.mpr ⟨p,rfl,nf,ZI⟩) λa ea _=>by cases ea;exact⟨hp,λds ed=>by cases ed⟩
   ·cases q⟩
def Zo7 (hu:X.A.units+1<cLine):Yp X (xk .In) (λx y H Q=>∃a o,y=.ref a/\Xw H a x o/\Q (.bl o.isSome) H):=by
 intro jJ s σ H x y v u Q I rx ry h;obtain⟨a,o,rfl,g,q⟩:=h
 cases (show u=qQ a from ry)
 exact d_in hu I g rx λs' I'=>⟨.bl _,H,I',rfl,q⟩
def ZjB (hu:X.A.units+1<cLine):Yp X (xk .NotIn) (λx y H Q=>∃a o,y=.ref a/\Xw H a x o/\Q (.bl (!o.isSome)) H):=by
 intro jJ s σ H x y v u Q I rx ry h;obtain⟨a,o,rfl,g,q⟩:=h
 cases (show u=qQ a from ry)
 exact ZmS hu I g rx λs' I'=>⟨.bl _,H,I',rfl,q⟩
def UG:D->D->Option Bool
 | x,.lst ds=>if VB x ds=true then some (VG x ds)else none
 | x,.tup ds=>if VB x ds=true then some (VG x ds)else none
 | .tup ks,.dt kvs=>(Xt ks).map λk=>(ZY kvs k).isSome
 | .tup ks,.du kvs=>(Xt ks).map λk=>(ZY kvs k).isSome
 | x,.dk kvs=>(XJ x).map λk=>(ZY kvs k).isSome
 | _,_=>none
def YI (x y:D):Option D:=(UG x y).map .bl
def Wa (x y:D):Option D:=(UG x y).map λb=>.bl (!b)
def ZeD {Hf H:Hp}{x y:V}{d e:D}{b:Bool}(e1:ZB G Hf H)(rx:Zm G Hf d x)(ry:Zm G Hf e y)(h:UG d e=some b) :
  (∃ds,VB d ds=true/\(Zm G Hf (.lst ds) y∨Zm G Hf (.tup ds) y)/\b=VG d ds)∨∃a o,y=.ref a/\Xw H a x o/\b=o.isSome:=by
 cases e with
 | lst ds=>
  have h:(if VB d ds=true then some (VG d ds)else none)=some b:=by cases d <;> exact h
  split at h
  ·rename_i ok;cases h;exact .inl ⟨ds,ok,.inl ry,rfl⟩
  ·cases h
 | tup ds=>
  have h:(if VB d ds=true then some (VG d ds)else none)=some b:=by cases d <;> exact h
  split at h
  ·rename_i ok;cases h;exact .inl ⟨ds,ok,.inr ry,rfl⟩
  ·cases h
 | dt kvs=>
  obtain⟨a,o,rfl,na,ha⟩:=jk.mp ry
  cases d with
  | tup ks=>
   have h:(Xt ks).map (λk=>(ZY kvs k).isSome)=some b:=h
   cases q:Xt ks with
   | none=>rw[q]at h;cases h
   | some k=>
    rw[q]at h;cases h;obtain⟨c,cs,rfl,nc,hcx,rc⟩:=jc.mp rx;have ec:=UP q rc;subst ec;exact .inr ⟨a,_,rfl,.inr ⟨kvs,k,c,.inr ⟨o,e1 _ _ na ha⟩,rfl,e1 _ _ nc hcx,rfl⟩,rfl⟩
  | _=>cases h
 | du kvs=>
  obtain⟨a,rfl,na,ha⟩:=jl.mp ry
  cases d with
  | tup ks=>
   have h:(Xt ks).map (λk=>(ZY kvs k).isSome)=some b:=h
   cases q:Xt ks with
   | none=>rw[q]at h;cases h
   | some k=>
    rw[q]at h;cases h;obtain⟨c,cs,rfl,nc,hcx,rc⟩:=jc.mp rx;have ec:=UP q rc;subst ec;exact .inr ⟨a,_,rfl,Xw.t (e1 _ _ na ha) (e1 _ _ nc hcx),rfl⟩
  | _=>cases h
 | dk kvs=>
  obtain⟨a,rfl,na,ha⟩:=jj.mp ry;have h:(XJ d).map (λk=>(ZY kvs k).isSome)=some b:=by cases d <;> exact h
  cases q:XJ d with
  | none=>rw[q]at h;cases h
  | some k=>
   rw[q]at h;cases h;have ek:=Jn q rx;subst ek;exact .inr ⟨a,_,rfl,Xw.k (e1 _ _ na ha),rfl⟩
 | _=>cases d <;> cases h
def VO (hu:X.A.units+64<cLine):XE X G (xk .In) YI:=
 ⟨_,(Zo6 (G:=G) hu).or (Zo7 (by omega)),λHf H s x y d e c Q e1 st rx ry q k=>by
  unfold YI at q
  cases h:UG d e with
  | none=>rw[h]at q;cases q
  | some b=>
   rw[h]at q;cases q;have kk:=k (.bl b) Hf H (.refl e1) st (je.mpr rfl) (.scal λz=>z);rcases ZeD e1 rx ry h with⟨ds,ok,hl,rfl⟩ | ⟨a,o,ey,g,rfl⟩
   ·exact .inl ⟨Hf,d,ds,e1,ok,rx,hl,kk⟩
   ·exact .inr ⟨a,o,ey,g,kk⟩⟩
def Zbo (hu:X.A.units+64<cLine):XE X G (xk .NotIn) Wa:=
 ⟨_,(Zjy (G:=G) hu).or (ZjB (by omega)),λHf H s x y d e c Q e1 st rx ry q k=>by
  unfold Wa at q
  cases h:UG d e with
  | none=>rw[h]at q;cases q
  | some b=>
   rw[h]at q;cases q;have kk:=k (.bl (!b)) Hf H (.refl e1) st (je.mpr rfl) (.scal λz=>z);rcases ZeD e1 rx ry h with⟨ds,ok,hl,rfl⟩ | ⟨a,o,ey,g,rfl⟩
   ·exact .inl ⟨Hf,d,ds,e1,ok,rx,hl,kk⟩
   ·exact .inr ⟨a,o,ey,g,kk⟩⟩
end
section
variable {X:Cx}{G:Gh}{own ob:List Nat}{fr:Bool}{f:Zb->M D}
def ZiC (ta:TA):TE:=fun σ H Q=>ta σ H λvs H1=>∃j:Int,vs=[.int j]/\∀p,H1 p=none->Q (.ref p) (Zi H1 p (.rng 0 j))
def Zcg {a:Expr}{ta:TA}{p pos:Pos}(hg:Gl X "range")(hm:X.mg "range" = none)(ha:PA X [a] ta)(hs:xh [a] X.env=[(false,eval a X.env)]:=by rfl):PE X (.Call (.Name "range" p) [a] [] pos) (ZiC ta):=by
 intro jJ s σ H Q I h;refine Call_ (Ub I hg hm boot_range (yo (ZL (ha pos jJ s σ H _ I h) λus s1 ⟨vs,H1,I1,r1,q1⟩=>?_) hs rfl));obtain⟨j,e,q⟩:=q1;subst e
 cases r1 with
 | cons r rr=>
  cases rr
  obtain⟨t,rfl⟩:=r;refine call_range_1 ⟨.ref s1.heap.objs.size,Zi H1 s1.heap.objs.size (.rng 0 j),I1.laid (t':=s1.toks+1+1) (λb o e=>qh _ e) (qq _) ?_,rfl,q _ (I1.hok.fresh (qq _))⟩;exact⟨_,_,_,qz _ rfl⟩
def ZbH:∀(ys:List Value) (lo:Int),(∀(j:Nat) v,ys[j]?=some v->∃t,v=.int (lo+j) t)->Zz ((qk ys.length).map λ(i:Nat)=>V.int (lo+i)) ys
 | [],lo,_=>.nil
 | y::ys,lo,h=>by
  obtain⟨t,e⟩:=h 0 y rfl;rw[qN,qaf,zh,qE];refine .cons ⟨t,by rw[e]⟩ ?_;have q:=ZbH ys (lo+1) λj v hv=>by
   obtain⟨t,e⟩:=h (j+1) v (by simpa using hv);exact⟨t,by rw[e];congr 1;push_cast;omega⟩
  have ee:((λ(i:Nat)=>V.int (lo+i))∘Nat.succ)=λ(i:Nat)=>V.int (lo+1+i):=by
   funext i;show V.int (lo+(Nat.succ i:Nat))=V.int (lo+1+i);congr 1;push_cast;omega
  rw[ee];exact q
def ZbN (hc:X.calm=true):XB X (.type "list") (λxs H Q=>∃r j,xs=[.ref r]/\H r=some (.rng 0 j)/\-(2 ^ 62)<=j/\j<=2 ^ 24/\∀l,H l=none->Q (.ref l) (Zi H l (.lst ((qk j.toNat).map λ(i:Nat)=>V.int (0+i))))):=by
 intro jJ s σ H xs us Q I r h;obtain⟨rr,j,rfl,hr,h1,h2,q⟩:=h;obtain⟨u,rfl,ru⟩:=XI r
 cases (show u=qQ rr from ru)
 obtain⟨t,u',v',hro⟩:=(show Yz X.prog X.w H s.heap rr (.rng 0 j)from I.hok rr _ hr);have hn:qaa 0 j 1=((j.toNat:Nat):Int):=by rw[rangeSize_one];split <;> omega
 refine call_list_range (I.ok.hd hc) (show IsRange s.heap rr 0 j 1 t u' v' from hro) (small_one (by omega) (by omega) h1 (by omega)) hn (by omega) λh' tk acc' c' hk hS hacc=>?_;obtain⟨sz,hit⟩:=hacc;have rv:=ZbH acc'.toList 0 λi v hv=>by
  obtain⟨t,e⟩:=hit i v (by simpa using hv);exact⟨t,by rw[e];simp⟩
 have el:acc'.toList.length=j.toNat:=by simpa using sz
 rw[el]at rv;refine⟨.ref s.heap.objs.size,Zi H s.heap.objs.size (.lst ((qk j.toNat).map λ(i:Nat)=>V.int (0+i))),I.laid hk (qq _) ?_,rfl,q _ (I.hok.fresh (qq _))⟩;refine⟨?_,acc'.toList,c',rv,?_⟩
 ·rw[qd,qG]
  show j.toNat<=2 ^ 24;omega
 ·rw[Array.toArray_toList]
  exact hS
def Vj (f:Zb->M D):Zb->M D:=fun ρ=>Zq (f ρ) λd=>match d with | .int j=>if -(2 ^ 62)<=j/\j<=2 ^ 24 then ZA (.lst (Yb 0 j.toNat))else Zv | _=>Zv
def Zdk {Hf:Hp}(lo:Int):∀(l:List Nat),Zk G Hf (l.map λ(i:Nat)=>D.int (lo+i)) (l.map λ(i:Nat)=>V.int (lo+i))
 | []=>Zk.nil_iff.mpr rfl
 | i::l=>Zk.cons (ja.mpr rfl) (Zdk lo l)
def Zar {a:Expr}{p1 p2 pos1 pos:Pos}{r1:Bool}(hc:X.calm=true)(hg:Gl X "range")(hm:X.mg "range" = none)(hg2:Gl X "list")(hm2:X.mg "list" = none)(hv2:xj "list" = some (.type "list"))(ha:PD X G r1 a f)
  (hs:xh [a] X.env=[(false,eval a X.env)]:=by rfl)
  (he:xh [.Call (.Name "range" p1) [a] [] pos1] X.env=(false,eval (.Call (.Name "range" p1) [a] [] pos1) X.env)::xh [] X.env:=by rfl):PD X G true (.Call (.Name "list" p2) [.Call (.Name "range" p1) [a] [] pos1] [] pos) (Vj f):=by
 obtain⟨t,pa,qa⟩:=ha.drop;refine⟨_,Zbl (ZbN hc) hg2 hm2 hv2 (YN (Zcg hg hm (YN pa Y3 (by rw[hs];rfl)) hs) Y3 he) (by decide) (by decide) he rfl,fun σ Hf H ρ s d s' Q e1 e2 e3 e4 k=>?_⟩;obtain⟨dj,s1,a1,a2⟩:=ZC e4
 cases dj with
 | int j=>
  obtain⟨c,a3⟩:=Xf a2;obtain⟨rfl,rfl⟩:=ZO a3;refine qa σ Hf H ρ s _ _ _ e1 e2 e3 a1 λv jV H1 g st r=>?_;rw[ja.mp r];refine⟨j,rfl,λp hp=>⟨p,j,rfl,ZI,c.1,c.2,λl hl=>?_⟩⟩;have hlp:l≠p:=λz=>by rw[z,ZI]at hl;cases hl
  have hl1:H1 l=none:=by rw[Zr hlp]at hl;exact hl
  have j6:G.st s' (Zi H1 p (.rng 0 j)):=Gh.grow st hp;have nf:=Gh.nofp j6 hl;have fp:jV p=none:=by
   cases q:jV p with
   | none=>rfl
   | some o=>rw[g.fh p o (Gh.nofp st hp) q]at hp;cases hp
  have gA:Gr G jV H1 jV (Zi H1 p (.rng 0 j)):=⟨λb o n q=>by rw[Zr (Z1 q hp)];exact q,.refl _ _,λb o n q=>by rw[Zr (Z1 q fp)];exact g.fh b o n q,λb n h1 h2=>h1⟩;have gB:=Gr.new (o:=.lst ((qk j.toNat).map λ(i:Nat)=>V.int (0+i))) gA.fh hl nf;have rr:Zk G jV (Yb 0 j.toNat) ((qk j.toNat).map λ(i:Nat)=>V.int (0+i)):=Zdk 0 _;refine k (.ref l) _ _ ((g.trans gA).trans gB) (Gh.grow j6 hl) (jb.mpr ⟨l,_,rfl,nf,ZI,rr.ext gB.ff⟩) λ_=>?_;exact jn (g.trans gA).hh (λa ea _=>by cases ea;exact nf) (YC.mk gA.fh hl nf rr)
 | _=>cases a2
def UH (i:Nat)(f:Zb->M D):Zb->M Out:=fun ρ=>Zq (f ρ) λd=>match d,(ρ[i]?).bind id with
 | .lst es,some (.lst ds)=>if ds.length+es.length<=xg then ZA (.nx (ρ.set i (some (.lst (ds++es)))))else Zv
 | _,_=>Zv
def ZiD {i:Nat}{te:TE}{r1:Bool}(hi:i∈own)(hy:WP G own r1 te f):J7 G ob own own fr (VQ (VE X.K "list" ZcQ (Z7 i) (Y9 te Xq))) (UH i f):=λkn jR H0 σ H ρ s out s' E ⟨Hf,j⟩ st e po=>by
 obtain⟨d,s1,a1,a2⟩:=ZC e
 match d,hb:(ρ[i]?).bind id,a2 with
 | .lst es,some (.lst ds),a2=>
  have a2':(if ds.length+es.length<=xg then ZA (.nx (ρ.set i (some (.lst (ds++es)))))else Zv) s1=some (out,s'):=a2;obtain⟨c2,a3⟩:=Xf a2';obtain⟨rfl,rfl⟩:=ZO a3;have ei:=Jv hb;obtain⟨a,vs,h1,h2,h3,h4⟩:=Ju j hi ei;refine⟨_,h1,.inl ⟨rfl,vs,ZF.of h3⟩,?_⟩;refine hy kn jR H0 σ Hf H ρ s _ s' _ j st a1 λv Hf' H' j' e1 e2 st' r fz=>?_;obtain⟨a',vs',h1',h2',h3',h4'⟩:=Ju j' hi ei;rw[h1]at h1';cases h1';obtain⟨b,ws,rfl,nb,hb2,rb⟩:=jb.mp r;refine⟨a,b,vs',ws,rfl,rfl,h3',j'.gr.fh _ _ nb hb2,by rw[<-h4'.length,<-rb.length];exact c2,?_⟩;exact po σ _ ⟨Hf',j'.put hi ei h1 ⟨vs'++ws,ZI,h4'.append rb⟩⟩ (js st' h2)
 | .lst _,none,a2=>cases a2
 | .lst _,some .non,a2=>cases a2
 | .lst _,some (.bl _),a2=>cases a2
 | .lst _,some (.int _),a2=>cases a2
 | .lst _,some (.str _),a2=>cases a2
 | .lst _,some (.tup _),a2=>cases a2
 | .lst _,some (.dk _),a2=>cases a2
 | .lst _,some (.dt _),a2=>cases a2
 | .lst _,some (.du _),a2=>cases a2
 | .lst _,some (.df _),a2=>cases a2
 | .lst _,some .pen,a2=>cases a2
 | .lst _,some (.ty _),a2=>cases a2
 | .lst _,some (.clo _ _),a2=>cases a2
def ZeE {i:Nat}{x:Str}{e:Expr}{pos p1 p2 p3:Pos}{te:TE}(hv:PE X (.Name x p1) (Z7 i))(p:PE X e te)
  (hbase:xq (.Name x p1) "extend" X.env (eval (.Name x p1) X.env)=eval (.Name x p1) X.env:=by rfl)
  (hfew:((backTo p3 (xh [e] X.env)).all (λx=>!x.1)&&(xp p3 (xi [] X.env)).all (λx=>x.1.isSome)
   && decide ([e].length+([]:List Keyword).length+(if ([]:List Keyword).isEmpty then 0 else 1)<30))=true:=by rfl)
  (hline:(p2.endLine==p3.line)=true:=by rfl) (hs:xh [e] X.env=(false,eval e X.env)::xh [] X.env:=by rfl)
  (hsw:xr (.Call (.Attribute (.Name x p1) "extend" p2) [e] [] p3) none pos.line X.env=pure false:=by rfl) :
  PS X (.Expr (.Call (.Attribute (.Name x p1) "extend" p2) [e] [] p3) pos) (VQ (VE X.K "list" ZcQ (Z7 i) (Y9 te Xq))):=
 ZcO (JO yn PySem.F.slot_list_extend PySem.F.type_list_extend Zjm hv (YN p Y3 hs) hbase hfew hline hs rfl) hsw
def Zla {i:Nat}{e:Expr}{r1:Bool}{st:Stmt}(hi:i∈own)(he:PD X G r1 e f)(hp:∀te,PE X e te->PS X st (VQ (VE X.K "list" ZcQ (Z7 i) (Y9 te Xq)))):YE X G ob own own fr st (UH i (fun ρ=>f (Yq own ρ))):=by
 obtain⟨t,p,q⟩:=he;exact⟨_,hp t p,ZiD hi (XR.a q)⟩
end
structure BlkS (X:Cx)(XN:List Str)(NS:List (Str×NameKind))(N':List Str)(src:List (Option Nat))(scope:Scope):Prop where
 xn:X.N=XN
 ns:X.env.scope.names=NS
 nocell:∀y∈scope.names,y.2≠.cell
 kind:scope.kind=.function
 names:∀y∈scope.names,y.2=.local->scope.names.lookup y.1=some .local
 len:src.length=N'.length
 free:∀y∈scope.names,y.2=.free->NS.lookup y.1=some .cell∨NS.lookup y.1=some .free
 from_:(src.zip N').all (λp=>match p.1 with | some j=>decide (XN[j]?=some p.2)&&(decide (NS.lookup p.2=some .cell)||decide (NS.lookup p.2=some .free))&&decide (scope.names.lookup p.2=some .free) | none=>true)=true
def Zao {env:Env}:∀{names:List (Str×NameKind)} {x:Str},names.lookup x=some .free->
  (names.map λ(n,k)=>if (k==zV&&env.scope.kind == .function&&env.kindOf n==some .cell)then (n,qap)else (n,k)).lookup x=some .cell∨
  (names.map λ(n,k)=>if (k==zV&&env.scope.kind == .function&&env.kindOf n==some .cell)then (n,qap)else (n,k)).lookup x=some .free
 | [],_,h=>by simp at h
 | (n,k)::r,x,h=>by
  have ih:=@Zao env r x;show qcw x ((if (k==zV&&env.scope.kind == .function&&env.kindOf n==some .cell)=true then (n,qap)else (n,k))::_)=_∨qcw x ((if (k==zV&&env.scope.kind == .function&&env.kindOf n==some .cell)=true then (n,qap)else (n,k))::_)=_
  cases hx:x==n with
  | true=>
   simp only[zi,hx]at h
   cases h
   by_cases hc:(zV==zV&&env.scope.kind == .function&&env.kindOf n==some .cell)=true
   ·rw[if_pos hc];left;simp[zi,hx]
   ·rw[if_neg hc];right;simp[zi,hx]
  | false=>
   simp only[zi,hx]at h;by_cases hc:(k==zV&&env.scope.kind == .function&&env.kindOf n==some .cell)=true
   ·rw[if_pos hc];simp only[zi,hx];exact ih h
   ·rw[if_neg hc];simp only[zi,hx];exact ih h
def Zab {env:Env}:∀{names:List (Str×NameKind)} {x:Str} {k':NameKind},(∀y∈names,y.2≠.cell)->(k'=.cell∨k'=.free)->
  (names.map λ(n,k)=>if (k==zV&&env.scope.kind == .function&&env.kindOf n==some .cell)then (n,qap)else (n,k)).lookup x=some k'->names.lookup x=some .free
 | [],_,_,_,_,h=>by simp at h
 | (n,k)::r,x,k',nc,hk,h=>by
  have ih:=@Zab env r x k' (λy hy=>nc y (qO _ hy)) hk;have h:qcw x ((if (k==zV&&env.scope.kind == .function&&env.kindOf n==some .cell)=true then (n,qap)else (n,k))::_)=_:=h
  cases hx:x==n with
  | true=>
   by_cases hc:(k==zV&&env.scope.kind == .function&&env.kindOf n==some .cell)=true
   ·have:k=.free:=by
     simp only[qV,beq_iff_eq]at hc;exact hc.1.1
    subst this;simp[zi,hx]
   ·rw[if_neg hc]at h
    simp only[zi,hx]at h⊢
    cases h
    rcases hk with rfl | rfl
    ·exact absurd rfl (nc _ zI)
    ·rfl
  | false=>
   by_cases hc:(k==zV&&env.scope.kind == .function&&env.kindOf n==some .cell)=true
   ·rw[if_pos hc]at h;simp only[zi,hx]at h⊢;exact ih h
   ·rw[if_neg hc]at h;simp only[zi,hx]at h⊢;exact ih h
def Zas {env:Env}:∀(names:List (Str×NameKind)) (jP:List (Str×Addr)),(∀y∈names,y.2=.free->∃c,env.cells.lookup y.1=some c)->
  (∀x c,jP.lookup x=some c->env.cells.lookup x=some c)->
  ∃cl,(forIn names jP λ(p:Str×NameKind) (cs:List (Str×Addr))=>(if (p.2==zV)=true then do let a<-cellOf env p.1;pure (qae ((p.1,a)::cs))else pure (qae cs):Sem (ForInStep (List (Str×Addr)))))=pure cl/\
   (∀x c,cl.lookup x=some c->env.cells.lookup x=some c)/\(∀x c,jP.lookup x=some c->∃c',cl.lookup x=some c')/\∀y∈names,y.2=.free->∃c,cl.lookup y.1=some c
 | [],jP,_,h2=>⟨jP,by simp,h2,λx c h=>⟨c,h⟩,λy hy=>by simp at hy⟩
 | (n,k)::r,jP,h1,h2=>by
  by_cases hk:k=.free
  ·subst hk
   obtain⟨c,hc⟩:=h1 (n,.free) zI rfl;have hcell:cellOf env n=pure c:=by unfold cellOf;rw[hc]
   obtain⟨cl,q1,q2,q3,q4⟩:=Zas (env:=env) r ((n,c)::jP) (λy hy=>h1 y (qO _ hy)) λx c' h=>by
    cases hx:x==n with
    | true=>
     simp only[zi,hx]at h
     cases h
     have:x=n:=by simpa using hx
     rw[this];exact hc
    | false=>simp only[zi,hx]at h;exact h2 x c' h
   refine⟨cl,?_,q2,λx c' h=>?_,λy hy hf=>?_⟩
   ·rw[qbS]
    simp only[beq_self_eq_true,if_true,hcell,pure_bind];exact q1
   ·cases hx:x==n with
    | true=>exact q3 x c (by simp[zi,hx])
    | false=>exact q3 x c' (by simp only[zi,hx];exact h)
   ·rcases qm.mp hy with e | hy
    ·subst e;exact q3 n c (by simp[zi])
    ·exact q4 y hy hf
  ·obtain⟨cl,q1,q2,q3,q4⟩:=Zas (env:=env) r jP (λy hy=>h1 y (qO _ hy)) h2
   refine⟨cl,?_,q2,q3,λy hy hf=>?_⟩
   ·rw[qbS]
    have:(k==zV)=false:=by simpa using hk
    simp only[this,yh,if_false,pure_bind];exact q1
   ·rcases qm.mp hy with e | hy
    ·subst e;exact absurd hf hk
    ·exact q4 y hy hf
def BlkS.ok {X:Cx}{XN:List Str}{NS:List (Str×NameKind)}{N':List Str}{src:List (Option Nat)}{scope:Scope}(B:BlkS X XN NS N' src scope)(ok:X.Ok):∃cl,BlkOk X N' src scope cl:=by
 have hcells:∀y∈scope.names,y.2=.free->∃c,X.env.cells.lookup y.1=some c:=λy hy hf=>ok.has y.1 (by
  have:=B.free y hy hf;rw[<-B.ns]at this;exact this)
 obtain⟨cl,q1,q2,q3,q4⟩:=Zas (env:=X.env) scope.names [] hcells (λx c h=>by simp at h);refine⟨cl,?_,B.nocell,B.kind,B.names,B.len,q2,λx hx=>?_,λi j x e1 e2=>?_⟩
 ·unfold closureFor
  show(forIn scope.names [] _ >>= _)=_;rw[show(forIn scope.names ([]:List (Str×Addr)) λ(x:Str×NameKind) (r:List (Str×Addr))=>_)=_ from q1];rfl
 ·have hf:scope.names.lookup x=some .free:=by
   rcases hx with h | h
   ·exact Zab B.nocell (.inl rfl) h
   ·exact Zab B.nocell (.inr rfl) h
  exact q4 (x,.free) (zN hf) rfl
 ·have hm:(some j,x)∈src.zip N':=by
   have:(src.zip N')[i]?=some (some j,x):=by
    rw[qau];exact⟨e1,e2⟩
   exact z9 this
  have q:=zj.mp B.from_ _ hm;simp only[qV,qat,decide_eq_true_eq]at q;obtain⟨⟨p1,p2⟩,p3⟩:=q;refine⟨by rw[B.xn];exact p1,?_,Zao p3⟩;show X.env.scope.names.lookup x=_∨X.env.scope.names.lookup x=_;rw[B.ns];exact p2
section
variable {X:Cx}{G:Gh}{elt tg iter:Expr}{ifs:List Expr}{scope:Scope}{pos pos' spos:Pos}{XN:List Str}{NS:List (Str×NameKind)}{N':List Str}{src:List (Option Nat)}{fi:Zb->M (List D)}{τ:D->Zb->Option Zb}{ft:Zb->M Bool}{fe:Zb->M D}{r1:Bool}{i:Nat}{x:Str}
def Zlb (hc:X.calm=true)(B:BlkS X XN NS N' src scope)(hi:WS X G tg iter fi)
  (hg:∀cl jJ C s H fp,Vh (blk X jJ N' scope cl C s H fp) G tg (λi=>src[i]?=some none) τ) (ht:∀cl jJ C s H fp,Vz (blk X jJ N' scope cl C s H fp) ifs (U4 G ft)) (he:∀cl jJ C s H fp,PD (blk X jJ N' scope cl C s H fp) G r1 elt fe)
  (hs:∀x,foldedSetIterable iter X.env x=pure x:=by intro _;rfl):PD X G true (.ListComp elt [⟨tg,iter,ifs,0⟩] scope pos) (ZR src fi τ ft fe):=by
 obtain⟨wi,pi,qi⟩:=hi;refine⟨_,λjJ s σ H Q I h=>?_,Zf7 (r1:=r1) qi⟩;obtain⟨cl,B'⟩:=B.ok I.ok;exact Ziu hc B' pi (λjJ C s H fp=>(hg cl jJ C s H fp).canon) (ht cl) (λjJ C s H fp=>(he cl jJ C s H fp).canon) hs jJ s σ H Q I h
def Jl (hN:X.N.Nodup)(hi':X.N[i]?=some x)(hx:WR X.env.scope x)
  (hc:X.calm=true) (B:BlkS X XN NS N' src scope) (hi:WS X G tg iter fi)
  (hg:∀cl jJ C s H fp,Vh (blk X jJ N' scope cl C s H fp) G tg (λi=>src[i]?=some none) τ) (ht:∀cl jJ C s H fp,Vz (blk X jJ N' scope cl C s H fp) ifs (U4 G ft)) (he:∀cl jJ C s H fp,PD (blk X jJ N' scope cl C s H fp) G r1 elt fe)
  (hsw:xr (.ListComp elt [⟨tg,iter,ifs,0⟩] scope pos) (some (.Name x pos')) spos.line X.env=pure true:=by rfl)
  (hs:∀x,foldedSetIterable iter X.env x=pure x:=by intro _;rfl)
  (hf:X.fn x=true∨X.env.scope.names.lookup x=some .local:=by first | exact .inl rfl | exact .inr rfl | assumption) :
  JW X G true i (.Assign [.Name x pos'] (.ListComp elt [⟨tg,iter,ifs,0⟩] scope pos) spos) (ZR src fi τ ft fe):=by
 obtain⟨wi,pi,qi⟩:=hi;refine⟨_,λjJ s σ H D I h=>?_,Zf7 (r1:=r1) qi⟩;obtain⟨cl,B'⟩:=B.ok I.ok;exact ZmX hN hi' hx hc B' pi (λjJ C s H fp=>(hg cl jJ C s H fp).canon) (ht cl) (λjJ C s H fp=>(he cl jJ C s H fp).canon) hsw hs hf jJ s σ H D I h
end
def ZD (P:xE)(w:World)(K:ql)(mg:Str->Option Value)(base:Heap)(k:Nat)(x:Str)(n:Nat)(fr:Bool)(GG:Gh->Prop)(F:List D->M D):Prop:=
 ∃f fd ps,FnOk P w K mg base ZQ k f fd ps (Yf n fr GG F)/\mg x=some (.ref f)/\ym K (.ref f)=true/\Wr K fd ps []
def ZD.mono {P:xE}{w:World}{K:ql}{mg:Str->Option Value}{base:Heap}{j k:Nat}{x:Str}{n:Nat}{fr:Bool}{GG:Gh->Prop}{F:List D->M D}(c:ZD P w K mg base j x n fr GG F)(h:j<=k:=by decide):ZD P w K mg base k x n fr GG F:=
 let ⟨f,fd,ps,a,b,c,d⟩:=c
 ⟨f,fd,ps,a.mono h,b,c,d⟩
def Zo8 {X:Cx}{G:Gh}{k:Nat}{x:Str}{n:Nat}{fr:Bool}{GG:Gh->Prop}{F:List D->M D}{p pos:Pos}{e:Expr}{es:List Expr}{fs:Zb->M (List D)}(c:ZD X.prog X.w X.K X.mg X.base k x n fr GG F)(hG:GG G)(hr:Room k X.A)(hg:Gl X x)
  (ha:Vg X G (e::es) fs) (hal:∀ρ s ds s',fs ρ s=some (ds,s')->ds.length=(e::es).length) (jT:(e::es).length=n:=by rfl)
  (hdb:(x==("__debug__" : Str))=false:=by decide) (he:xh (e::es) X.env=(false,eval e X.env)::xh es X.env:=by rfl) (hpl:(backTo pos (xh es X.env)).any (·.1)=false:=by rfl) :
  PD X G fr (.Call (.Name x p) (e::es) [] pos) (Zn F fs):=by
 obtain⟨f,fd,ps,a,b,c,d⟩:=c;exact ZmY a hG hr hg b c d Zis ha jT hal hdb he hpl
def VC (h base:Heap)(as:List Addr):Heap:=PySem.W.hideAll h ((qk h.objs.size).filter λa=>!((base.get? a).isSome||decide (a∈as)))
def ZjC {h base:Heap}{as:List Addr}:(VC h base as).objs.size=h.objs.size:=qcc _ _
def Zgd {h base:Heap}{as:List Addr}{b:Addr}{o:Obj}(e:h.get? b=some o)(n:(∃u,base.get? b=some u)∨b∈as):(VC h base as).get? b=some o:=
 qcm _ e λhm=>by
  have q:=(qA.mp hm).2;rcases n with⟨u,n⟩ | n
  ·simp[n]at q
  ·simp[n]at q
def ZiE {h base:Heap}{as:List Addr}{b:Addr}{o:Obj}(e:(VC h base as).get? b=some o):h.get? b=some o/\((∃u,base.get? b=some u)∨b∈as):=by
 have e':h.get? b=some o:=PySem.W.of_hideAll _ e;refine⟨e',?_⟩;by_cases c:((base.get? b).isSome||decide (b∈as))=true
 ·rcases qcn.mp c with c | c
  ·exact .inl (zL.mp c)
  ·exact .inr (of_decide_eq_true c)
 ·have z:(VC h base as).get? b=none:=qcd _ (qA.mpr ⟨qB.mpr (qD e'),by simpa using c⟩)
  rw[z]at e;cases e
def jD {P:xE}{w:World}{K:ql}{mg:Str->Option Value}{base:Heap}{A:xF}{outer:List Env}{s:Shared}{H:Hp}{as:List Addr}(e:Env0 P w K mg base A outer s H)(ha:∀b∈as,H b=none)(hf:∀b∈as,b∉Wl outer) :
  Env0 P w K mg (VC s.heap base as) A outer s H:=by
 have up:∀b o,base.get? b=some o->(VC s.heap base as).get? b=some o:=λb o q=>Zgd (e.bs b o q).1 (.inl ⟨o,q⟩);refine⟨e.frames,⟨e.mod.kin.keeps up,e.mod.glob.keeps up,let ⟨mb,h1,h2⟩:=e.mod.blt;⟨mb,h1.keeps up,h2⟩,e.mod.nolimit.keeps up⟩,λb o q=>?_,qct ZjC,?_,e.frf,e.hok,e.bare⟩
 ·obtain⟨q1,q2⟩:=ZiE q
  refine⟨q1,?_⟩;rcases q2 with⟨u,q2⟩ | q2
  ·exact(e.bs b u q2).2
  ·exact ha b q2
 ·have all:∀l:List Env,(∀b∈Wl l,b∈Wl outer)->s.heap.FunFrames base l->s.heap.FunFrames (VC s.heap base as) l:=by
   intro l
   induction l with
   | nil=>intro _ _;trivial
   | cons env r ih=>
    intro hs hl;obtain⟨hk,⟨L,o,hf',hn,ho,hd⟩,hr⟩:=hl;have hL:L∈Wl outer:=hs L (by unfold Wl;rw[yr,hf'];exact zI);refine⟨hk,⟨L,o,hf',?_,ho,hd⟩,ih (λb hb=>hs b (by unfold Wl;rw[yr,hf'];exact qO _ hb)) hr⟩
    cases q:(VC s.heap base as).get? L with
    | none=>rfl
    | some u=>
     rcases (ZiE q).2 with⟨u',q'⟩ | q'
     ·rw[hn]at q';cases q'
     ·exact absurd hL (hf L q')
  exact all outer (λ_ h=>h) e.funs
def fnφ (p:Addr)(fd:xD):Heap->Prop:=λh=>∃oc od sl,h.get? p=some ⟨oc,od,.func fd,sl⟩
def codeφ (c:Addr)(q:Str):Heap->Prop:=λh=>h.CodeRec (.ref c) q
def fnφ_at {P:xE}{w:World}{H:Hp}{h:Heap}{p:Addr}{fd:xD}(ok:YA P w H h)(e:H p=some (.ext (fnφ p fd))):fnφ p fd h:=(ok p _ e).1
def codeφ_at {P:xE}{w:World}{H:Hp}{h:Heap}{c:Addr}{q:Str}(ok:YA P w H h)(e:H c=some (.ext (codeφ c q))):h.CodeRec (.ref c) q:=(ok c _ e).1
structure CloScope (N ps:List Str)(sc:Scope):Prop where
 kind:sc.kind=.function
 co:sc.isCoroutine=false
 gen:sc.isGenerator=false
 nd:N.Nodup
 pre:N.take ps.length=ps
 par:∀x∈ps,sc.names.lookup x=some .local
 nocell:∀y∈sc.names,y.2≠.cell
def UL (CX:Wm)(P:xE)(w:World)(K:ql)(mg:Str->Option Value)(base:Heap)(N:List Str)(qual:Str)(scope:Scope)(f:Addr)(cd:Value)(cl:List (Str×Addr))(A:xF)(outer:List Env)(s:Shared)(H:Hp)(E:XK):Cx where
 prog:=P
 w:=w
 K:=K
 mg:=mg
 base:=base
 A:=A.deeper (yi qual scope s.heap.objs.size f cd cl)
 N:=N
 s₀:=s
 H₀:=H
 env:=yi qual scope s.heap.objs.size f cd cl
 outer:=outer
 stack:=yi qual scope s.heap.objs.size f cd cl::outer
 ex:=[]
 calm:=true
 fn:=λ_=>false
 pn:=[]
 xe:=λe s'=>xf (xC P w) (A.deeper (yi qual scope s.heap.objs.size f cd cl)) (leaving (yi qual scope s.heap.objs.size f cd cl) e) (λ_ s''=>CX outer H s E e s'') (λe' s''=>CX outer H s E e' s'') s'
structure CloAt (base:Heap)(cl:List (Str×Addr))(sc:Scope)(N ps:List Str)(cvs:List V):Prop where
 inj:∀x y c,cl.lookup x=some c->cl.lookup y=some c->x=y
 cell:∀x c,cl.lookup x=some c->∃v,base.IsCell c v
 has:∀x,sc.names.lookup x=some .free->∃c,cl.lookup x=some c
 cap:∀(i:Nat) (x:Str) (v:V),N[ps.length+i]?=some x->cvs[i]?=some v->sc.names.lookup x=some .free/\∃c u,cl.lookup x=some c/\base.IsCell c (some u)/\ZJ v u
 len:N.length=ps.length+cvs.length
def ZbO {α:Type}:∀{l:List (Str×α)} {x:Str} {u:α},(l.map (·.1)).Nodup->(x,u)∈l->l.lookup x=some u
 | [],_,_,_,h=>by simp at h
 | (y,w)::l,x,u,nd,h=>by
  rw[zh,zC]at nd;rcases qm.mp h with e | hm
  ·cases e;simp[zi]
  ·have hne:(x==y)=false:=by
    simp only[beq_eq_false_iff_ne];rintro rfl;exact nd.1 (y6 (f:=(·.1)) hm)
   rw[zi,hne];exact ZbO nd.2 hm
def Zcv:∀(ps:List Str) (us:List Value),((ps.zip us).map (·.1)).Sublist ps
 | [],_=>by simp
 | _::_,[]=>by simp
 | p::ps,u::us=>by simpa using Zcv ps us
def Zdl {ps:List Str}{us:List Value}{i:Nat}{x:Str}{u:Value}(nd:ps.Nodup)(h1:ps[i]?=some x)(h2:us[i]?=some u):(ps.zip us).reverse.lookup x=some u:=by
 refine ZbO ?_ ?_
 ·rw[List.map_reverse]
  refine qa1.mpr ?_;exact(nd.sublist (Zcv _ _)).imp zg
 ·rw[yJ]
  exact z9 (i:=i) (qau.mpr ⟨h1,h2⟩)
def Zm3 {CX:Wm}{P:xE}{w:World}{K:ql}{mg:Str->Option Value}{base:Heap}{N ps:List Str}{qual:Str}{scope:Scope}{f:Addr}{cd:Value}{cl:List (Str×Addr)}{A:xF}{outer:List Env}{s:Shared}{H:Hp}{E:XK}{us:List Value}{vs cvs:List V}{h':Heap}{tk:Nat}
  (S:CloScope N ps scope) (C:CloAt base cl scope N ps cvs) (hd:A.handled=none) (e0:Env0 P w K mg base A outer s H) (hl:vs.length=ps.length) (r:Zz vs us)
  (hns:h'.Ns s.heap.objs.size (λx=>(ps.zip us).reverse.lookup x)) (hk:∀b o,s.heap.get? b=some o->h'.get? b=some o) :
  Inv (UL CX P w K mg base N qual scope f cd cl A outer s H E) [] (vs.map some++cvs.map some) H { s with heap:=h',toks:=tk }:=by
 have noA:∀b:Addr,b∉(UL CX P w K mg base N qual scope f cd cl A outer s H E).ex:=λb z=>absurd (show b∈([]:List Addr)from z) (by simp);have up:∀b o,base.get? b=some o->h'.get? b=some o:=λb o q=>hk b o (e0.bs b o q).1;have cellAt:∀x c,cl.lookup x=some c->∃v,base.IsCell c v:=C.cell;refine⟨⟨e0.mod,S.kind,rfl,rfl,qq _,λy z c h1 h2=>C.inj y z c h1 h2,λy hy=>?_,λy c z _=>(by cases z),λ_=>hd,qce e0.frames,.inr ⟨rfl,rfl⟩,λb z=>absurd z (noA b),e0.bs,e0.bsz,λb _ _=>noA b,λb z=>absurd z (noA b),e0.funs,e0.frf⟩,
  rfl,e0.bare,Un.kept hk,⟨_,hns,λi y v h1 h2 h3=>?_⟩,λy c h=>?_,e0.hok.fresh (qq _),λy c h=>?_,λp hp=>absurd (show p∈([]:Qb)from hp) (by simp),e0.hok.kept hk,?_⟩
 ·have hy:scope.names.lookup y=some .cell∨scope.names.lookup y=some .free:=hy
  rcases hy with hy | hy
  ·exact absurd rfl (S.nocell _ (zN hy))
  ·exact C.has y hy
 ·have h1:N[i]?=some y:=h1
  by_cases hi:i<vs.length
  ·have ha:vs[i]?=some v:=by
    rw[zH (by simpa using hi),qt]at h2
    cases e:vs[i]? with
    | none=>rw[e]at h2;cases h2
    | some a=>rw[e]at h2;cases h2;rfl
   obtain⟨u,hu,rv⟩:=r.get ha;have hp:ps[i]?=some y:=by
    rw[<-S.pre,yU (by omega)];exact h1
   have ndP:ps.Nodup:=by rw[<-S.pre];exact S.nd.sublist (qaJ _ _)
   exact⟨u,rv,.inl ⟨S.par y (z9 hp),Zdl ndP hp hu⟩⟩
  ·rw[yb (by simpa using hi),qt,qd]at h2
   have hc:cvs[i-vs.length]?=some v:=by
    cases e:cvs[i-vs.length]? with
    | none=>rw[e]at h2;cases h2
    | some a=>rw[e]at h2;cases h2;rfl
   obtain⟨q1,c,u,q2,q3,q4⟩:=C.cap (i-vs.length) y v (by rw[show ps.length+(i-vs.length)=i by omega];exact h1) hc;exact⟨u,q4,.inr ⟨.inr q1,c,q2,q3.keeps up⟩⟩
 ·obtain⟨v,q⟩:=C.cell y c h
  exact⟨v,q.keeps up⟩
 ·obtain⟨v,o,q,_⟩:=C.cell y c h
  exact(e0.bs c o q).2
 ·show _=N.length
  rw[C.len];simp[hl]
def Zm4 {CX:Wm}{P:xE}{w:World}{K:ql}{mg:Str->Option Value}{base:Heap}{k:Nat}{f:Addr}{name qual:Str}{params:Arguments}{body:Expr}{scope:Scope}{cl:List (Str×Addr)}{pm ct:Value}{c':Addr}{N ps:List Str}{cvs:List V}{sp:Sp}
  (S:CloScope N ps scope) (C:CloAt base cl scope N ps cvs) (len:∀vs H Q E,sp vs H Q E->vs.length=ps.length)
  (at_:∀vs H Q E,sp vs H Q E->H f=some (.ext (fnφ f (zr name qual params body scope cl pm (.ref c') ct)))/\H c'=some (.ext (codeφ c' qual)))
  (hbody:∀(A:xF) (outer:List Env) (s:Shared) (H:Hp) (vs:List V) (Q:VK) (E:XK),Room k (A.deeper (yi qual scope s.heap.objs.size f (.ref c') cl))->sp vs H Q E->
   ∃t,PE (UL CX P w K mg base N qual scope f (.ref c') cl A outer s H E) body t/\t (vs.map some++cvs.map some) H Q) :
  FnOk P w K mg base CX (k+1) f (zr name qual params body scope cl pm (.ref c') ct) ps sp:=by
 refine⟨len,λA outer s H args us vs Q E hr e0 hb r hsp=>?_⟩;have hl:=len _ _ _ _ hsp;obtain⟨a1,a2⟩:=at_ _ _ _ _ hsp;obtain⟨oc,od,sl,ho⟩:=fnφ_at e0.hok a1;have lim:s.heap.NoLimit:=e0.mod.nolimit.keeps λb o e=>(e0.bs b o e).1;have hkind:∀y∈ps.zip us,scope.names.lookup y.1=some .local:=λ⟨n,v⟩ hy=>S.par n (qa3 hy).1;refine PySem.W.kla_callFunE hr.depth ho rfl S.co S.gen rfl (codeφ_at e0.hok a2) (hb _ _ _ _ ?_);refine wpAny_newFunctionEnv S.nocell hkind (λh' hns hsb=>?_) S.kind;have hk:∀b o,s.heap.get? b=some o->h'.get? b=some o:=λb o e=>hsb.extBut b o (qH (qD e)) (qh _ e);refine⟨lim.keeps hk,?_⟩;show xo _ _ (.expr body (yi qual scope s.heap.objs.size f (.ref c') cl)) _ _;obtain⟨t,ht,hq⟩:=hbody A outer s H vs Q E (hr.deeper _) hsp;refine PySem.W.kla_codeExpr (xc (ht [] _ _ H Q (Zm3 S C hr.hd e0 hl r hns hk) hq) (λu s' hs=>?_) λe s' hs=>hs);obtain⟨v,H',J,rv,q⟩:=hs;exact⟨v,H',J.os,J.bare,J.base,J.hok,rv,q⟩
structure Mk0 (X:Cx)(c P:Addr):Prop where
 code:X.env.code=.ref c
 hd:zJ X.base c P
 bm:∃bm o,X.mg "__builtins__" = some (.ref bm)/\bm≠builtinsNs/\bm≠mainGlobals/\X.base.get? bm=some o/\o.cls=.type "module"/\o.dict=some builtinsNs/\o.data=.plain
def Slot (P:Addr)(q:Str)(lpos:Pos)(ps:Array Value)(H Hm:Hp)(c':Addr):Prop:=
 (Hm=H/\codeAmong lpos ps.toList=some (.ref c')/\H c'=some (.ext (codeφ c' q)))∨(codeAmong lpos ps.toList=none/\H c'=none/\c'≠P/\Hm=Zi (Zi H P (.tbl (ps ++ #[rawInt lpos.line,rawInt lpos.col,.ref c']))) c' (.ext (codeφ c' q)))
def Zlc (P:Addr)(q:Str)(lpos:Pos)(isFd:xD->Addr->Prop)(H:Hp)(R:Addr->Addr->xD->Hp->Prop):Prop:=
 ∃ps,H P=some (.tbl ps)/\TriplesOk ps.toList/\(∀cv,codeAmong lpos ps.toList=some cv->∃c',cv=.ref c'/\H c'=some (.ext (codeφ c' q)))/\
  ∀p c' fd Hm,isFd fd c'->Slot P q lpos ps H Hm c'->Hm p=none->R p c' fd (Zi Hm p (.ext (fnφ p fd)))
section
variable {X:Cx}{jJ:Qb}{σ:St}{H:Hp}{s:Shared}{c P:Addr}{ps:Array Value}
def Mk0.bat (M:Mk0 X c P)(I:Inv X jJ σ H s)(hP:H P=some (.tbl ps)):s.heap.BuiltinsAt X.mg P:=by
 obtain⟨bm,o,e1,e2,e3,e4,e5⟩:=M.bm;refine⟨bm,o,e1,e2,e3,λz=>?_,I.bk _ _ e4,e5⟩;have:=(I.bs _ _ e4).2;rw[z,hP]at this;cases this
def gne (I:Inv X jJ σ H s)(hP:H P=some (.tbl ps)):mainGlobals≠P:=λz=>by
 obtain⟨o,es,ep,e,_⟩:=I.mod.glob;have:=(I.bs _ _ e).2;rw[z,hP]at this;cases this
def Zhx {P0:xE}{w:World}{H':Hp}{h:Heap}{a:Addr}{φ:Heap->Prop}(h1:φ h)(h2:∃o,h.get? a=some o)(h3:∀h1 h2:Heap,φ h1->(∀o,h1.get? a=some o->h2.get? a=some o)->φ h2):Yz P0 w H' h a (.ext φ):=⟨h1,h2,h3⟩
def fnφ_keep {p:Addr}{fd:xD}:∀h1 h2:Heap,fnφ p fd h1->(∀o,h1.get? p=some o->h2.get? p=some o)->fnφ p fd h2:=λh1 h2 ⟨oc,od,sl,e⟩ k=>⟨oc,od,sl,k _ e⟩
def codeφ_keep {p:Addr}{q:Str}:∀h1 h2:Heap,codeφ p q h1->(∀o,h1.get? p=some o->h2.get? p=some o)->codeφ p q h2:=λh1 h2 ⟨a,o,vs,t,e,e1,r⟩ k=>by
 cases e
 exact⟨p,o,vs,t,rfl,k _ e1,r⟩
def codeφ_there {p:Addr}{q:Str}{h:Heap}(x:codeφ p q h):∃o,h.get? p=some o:=by
 obtain⟨a,o,vs,t,e,e1,r⟩:=x
 cases e
 exact⟨o,e1⟩
def Zm5 {h':Heap}{tk:Nat}{c':Addr}{more:Array Value}{q:Str}(I:Inv X jJ σ H s)(hP:H P=some (.tbl ps))(hx:qaS P s.heap h')(hge:s.heap.objs.size<=c')(hc:h'.CodeRec (.ref c') q)(ht:h'.get? P=some (qaD (ps++more))) :
  Inv X jJ σ (Zi (Zi H P (.tbl (ps++more))) c' (.ext (codeφ c' q))) { s with heap:=h',toks:=tk }/\H c'=none/\c'≠P:=by
 have hc0:H c'=none:=I.hok.fresh hge;have hcP:c'≠P:=λz=>by rw[z,hP]at hc0;cases hc0
 have old:∀{b:Addr} {u:HO},H b=some u->b≠c':=λe z=>by rw[z,hc0]at e;cases e
 have get:∀{b:Addr} {u:HO},H b=some u->b≠P->Zi (Zi H P (.tbl (ps++more))) c' (.ext (codeφ c' q)) b=some u:=λ{b u} e n=>by rw[Zr (old e),Zr n];exact e
 refine⟨I.call (g':=s.gens) (d':=s.drawn) (ch:=[]) ?_ ?_ I.bare (λb hb=>absurd hb (by simp)),hc0,hcP⟩
 ·refine⟨λb o e n _ _=>hx b o (λz=>by rw[z,hP]at n;cases n) e,λb o e n _ _=>⟨o.slots,hx b o (λz=>by rw[z,hP]at n;cases n) e⟩,λb o e n _=>?_,λb o e _=>?_,λb xs e=>get e (λz=>by rw[z,hP]at e;cases e),λb o u e=>get e (λz=>by rw[z,hP]at e;cases e),λb ps' e=>?_⟩
  ·rw[Zr (qH (qS (qD e) hge)),Zr (λz=>by rw[z,hP]at n;cases n)];exact n
  ·by_cases hb:b=P
   ·exact⟨_,hb▸ht⟩
   ·exact⟨o,hx b o hb e⟩
  ·by_cases hb:b=P
   ·subst hb
    rw[hP]at e;cases e;exact⟨more,by rw[Zr (old hP),ZI]⟩
   ·exact⟨#[],by rw[get e hb];simp⟩
 ·intro a o e
  by_cases ha:a=c'
  ·subst ha
   rw[ZI]at e;cases e;exact Zhx hc (codeφ_there hc) codeφ_keep
  ·rw[Zr ha]at e
   by_cases hb:a=P
   ·subst hb
    rw[ZI]at e;cases e;exact ht
   ·rw[Zr hb]at e
    refine(I.hok a o e).stay (λb u hb' r=>hx b u ?_ r) (λb r=>get r (λz=>by rw[z,hP]at r;cases r)) λb xs r=>get r (λz=>by rw[z,hP]at r;cases r);rcases hb' with rfl | hb'
    ·exact hb
    ·intro z;rw[z,hP]at hb';cases hb'
structure CloOf (X:Cx)(scope:Scope)(cl:List (Str×Addr)):Prop where
 of:∀x c,cl.lookup x=some c->X.env.cells.lookup x=some c
 has:∀y∈scope.names,y.2=.free->∃c,cl.lookup y.1=some c
def Zm6 {scope:Scope}(ok:X.Ok)(hfree:∀y∈scope.names,y.2=.free->X.env.kindOf y.1=some .cell∨X.env.kindOf y.1=some .free):∃cl,closureFor scope X.env=pure cl/\CloOf X scope cl:=by
 obtain⟨cl,q1,q2,q3,q4⟩:=Zas (env:=X.env) scope.names [] (λy hy hf=>ok.has y.1 (hfree y hy hf)) (λx c h=>by simp at h);refine⟨cl,?_,q2,q4⟩;unfold closureFor;show(forIn scope.names [] _ >>= _)=_;rw[show(forIn scope.names ([]:List (Str×Addr)) λ(x:Str×NameKind) (r:List (Str×Addr))=>_)=_ from q1];rfl
def Zhy {params:Arguments}{body:Expr}{scope:Scope}{lpos:Pos}{q:Str}(M:Mk0 X c P)(hq:X.env.qual ++ "<lambda>" = q)(hfree:∀y∈scope.names,y.2=.free->X.env.kindOf y.1=some .cell∨X.env.kindOf y.1=some .free)(hdef:defaultsOf params X.env=([],[]):=by rfl) :
  PE X (.Lambda params body scope lpos) (fun σ H Q=>Zlc P q lpos (λfd c'=>∃cl pm ctv,CloOf X scope cl/\fd=zr "<lambda>" q params body scope cl pm (.ref c') ctv) H λp _ _ H'=>Q (.ref p) H'):=by
 intro jJ s σ H Q I ⟨ps,hP,ht,hhit,h⟩;obtain⟨cl,hcl,co⟩:=Zm6 I.ok hfree;have hP':s.heap.get? P=some (qaD ps):=I.hok P _ hP;have hg:s.heap.Ns mainGlobals X.mg:=I.mod.glob.keeps I.bk;have hb:=M.bat I hP;refine PySem.W.kla_eval hdef ?_;rw[hq]
 cases hc:codeAmong lpos ps.toList with
 | some cv=>
  obtain⟨c',rfl,hc'⟩:=hhit cv hc;refine PySem.W.kla_makeFunctionHit hcl I.ok.glob hg M.code (M.hd.keeps I.bk) hP' ht hc hb λctv h' tk hk hsz=>?_;refine⟨.ref h'.objs.size,Zi H h'.objs.size (.ext (fnφ _ _)),I.laid (t':=tk) (λb u e=>qh _ (hk b u e)) hsz (Zhx ⟨_,_,_,qz _ rfl⟩ ⟨_,qz _ rfl⟩ fnφ_keep),rfl,h _ c' _ H ⟨cl,_,_,co,rfl⟩ (.inl ⟨rfl,hc,hc'⟩) (I.hok.fresh hsz)⟩
 | none=>
  refine PySem.W.kla_makeFunction hcl I.ok.glob hg M.code (M.hd.keeps I.bk) hP' ht hc (gne I hP) hb λc' ctv h' tk hx hge hlt hrec htb=>?_;obtain⟨I1,hc0,hcP⟩:=Zm5 (tk:=tk) I hP hx hge hrec htb;refine⟨.ref h'.objs.size,Zi _ h'.objs.size (.ext (fnφ _ _)),I1.laid (t':=tk) (λb u e=>qh _ e) (qq _) (Zhx ⟨_,_,_,qz _ rfl⟩ ⟨_,qz _ rfl⟩ fnφ_keep),rfl,h _ c' _ _ ⟨cl,_,_,co,rfl⟩ (.inr ⟨hc,hc0,hcP,rfl⟩) (I1.hok.fresh (qq _))⟩
end
structure Cells (X:Cx)(σ:St)(base':Heap):Prop where
 inj:∀x y c,X.env.cells.lookup x=some c->X.env.cells.lookup y=some c->x=y
 cell:∀x c,X.env.cells.lookup x=some c->∃v,base'.IsCell c v
 has:∀x,(X.env.kindOf x=some .cell∨X.env.kindOf x=some .free)->∃c,X.env.cells.lookup x=some c
 val:∀(i:Nat) (x:Str) (v:V),X.N[i]?=some x->σ[i]?=some (some v)->X.env.kindOf x=some .cell->∃c u,X.env.cells.lookup x=some c/\base'.IsCell c (some u)/\ZJ v u
section
variable {X:Cx}{jJ:Qb}{σ:St}{H:Hp}{s:Shared}
def BT (X:Cx):List Addr:=X.env.cells.filterMap λp=>X.env.cells.lookup p.1
def ZjD {x:Str}{c:Addr}(e:X.env.cells.lookup x=some c):c∈BT X:=qav.mpr ⟨(x,c),zN e,e⟩
def Zge {c:Addr}(h:c∈BT X):∃x,X.env.cells.lookup x=some c:=by
 obtain⟨p,_,e⟩:=qav.mp h;exact⟨p.1,e⟩
def ZeF (I:Inv X jJ σ H s)(hfn:∀x,X.fn x=true):Env0 X.prog X.w X.K X.mg (VC s.heap X.base (BT X)) X.A X.stack s H/\Cells X σ (VC s.heap X.base (BT X)):=by
 have cellK:∀x c v,X.env.cells.lookup x=some c->s.heap.IsCell c v->(VC s.heap X.base (BT X)).IsCell c v:=λx c v e ⟨o,ho,hd⟩=>⟨o,Zgd ho (.inr (ZjD e)),hd⟩;refine⟨jD I.env0 (λb hb=>?_) λb hb hf=>?_,⟨I.ok.inj,λx c e=>?_,I.ok.has,λi x v h1 h2 h3=>?_⟩⟩
 ·obtain⟨x,e⟩:=Zge hb
  exact I.freeC x b e
 ·obtain⟨x,e⟩:=Zge hb
  rcases qm.mp (I.stkSub b hf)with z | z
  ·exact I.cne x b e z
  ·obtain⟨_,o,ho,_⟩:=I.ok.funs.mem z
   exact absurd (qS (qD ho) (I.ok.cab x b (hfn x) e)) (yk _)
 ·obtain⟨v,q⟩:=I.cell x c e
  exact⟨v,cellK x c v e q⟩
 ·obtain⟨m,_,hl⟩:=I.loc
  obtain⟨u,r,l⟩:=hl i x v h1 h2 (.inr (.inl h3));rcases l with⟨hk,_⟩ | ⟨_,c,hc,hcell⟩
  ·rw[h3]at hk;cases hk
  ·exact⟨c,u,hc,cellK x c _ hc hcell,r⟩
def Zld {x:Str}{p pos:Pos}{e:Expr}{es:List Expr}{t:TA}{k:Nat}{f:Addr}{fd:xD}{ps:List Str}{sp:Heap->Sp}(F:∀base,FnOk X.prog X.w X.K X.mg base ZQ k f fd ps (sp base))(hfn:∀x,X.fn x=true)(hr:Room k X.A)(hg:Gl X x)(hm:X.mg x=some (.ref f))(hk:ym X.K (.ref f)=true)(hb:Wr X.K fd ps [])
  (ha:PA X (e::es) t) (hdb:(x==("__debug__" : Str))=false:=by decide) (he:xh (e::es) X.env=(false,eval e X.env)::xh es X.env:=by rfl) (hpl:(backTo pos (xh es X.env)).any (·.1)=false:=by rfl) :
  PE X (.Call (.Name x p) (e::es) [] pos) (fun σ H Q=>t σ H λvs H1=>∀base',Cells X σ base'->sp base' vs H1 Q E0):=by
 intro jJ s σ H Q I h;refine wpAny_Call_Name_kw (Zii I hg hm ?_ hdb);refine PySem.W.callWith_K (h₀:=X.base) I.ok.mod.kin hk (ZL (ha pos jJ s σ H _ I h) λus s1 ⟨vs,H1,I1,r,q⟩=>⟨I1.kIn,?_⟩) he hpl;obtain⟨e0,cs⟩:=ZeF I1 hfn;have q':=q _ cs;have hl:(us ++ []).length=ps.length:=by rw[zp,<-r.length];exact(F _).len _ _ _ _ q'
 refine xB (codeAny_mono ((F _).run X.A X.stack s1 H1 ⟨us,[]⟩ us vs Q E0 hr e0 (by have:=hb s1 us I1.kIn hl;rw[zp]at this;exact this) r q') λr s' hq=>?_)
 cases r with
 | error e=>exact hq.elim
 | ok fl=>
  cases fl with
  | ret u=>exact I1.after hq
  | next=>exact zU hq
  | brk=>exact zU hq
  | cont=>exact zU hq
def Zle {x:Str}{p pos:Pos}{e:Expr}{es:List Expr}{t:TA}{k i:Nat}(hf:PE X (.Name x p) (Z7 i))(hr:Room k X.A)(ha:PA X (e::es) t)
  (he:xh (e::es) X.env=(false,eval e X.env)::xh es X.env:=by rfl) (hpl:(backTo pos (xh es X.env)).any (·.1)=false:=by rfl) :
  PE X (.Call (.Name x p) (e::es) [] pos) (fun σ H Q=>∃f fd ps sp,σ[i]?=some (some (.ref f))/\Wr X.K fd ps []/\FnOk X.prog X.w X.K X.mg X.base ZQ k f fd ps sp/\(∀h:Heap,YA X.prog X.w H h->X.K.In h->fnφ f fd h)/\
   t σ H λvs H1=>(∀h:Heap,YA X.prog X.w H1 h->X.K.In h->fnφ f fd h)/\sp vs H1 Q E0):=by
 intro jJ s σ H Q I ⟨f,fd,ps,sp,e,hb,F,h0,h⟩;refine wpAny_Call_Name_kw (ZL (hf jJ s σ H (λv H'=>v=.ref f/\H'=H) I ⟨_,e,rfl,rfl⟩) λu s1 ⟨v,H1,I1,rv,ev,eH⟩=>?_);subst ev eH
 cases (show u=qQ f from rv)
 have at1:∀{jJ σ H s},Inv X jJ σ H s->(∀h:Heap,YA X.prog X.w H h->X.K.In h->fnφ f fd h)->PySem.W.FnAt f s.heap:=λI z=>by
  obtain⟨oc,od,sl,q⟩:=z _ I.hok I.kIn;exact⟨oc,od,fd,sl,q⟩
 refine PySem.W.callWith_F (at1 I1 h0) (ZL (ha pos jJ s1 σ _ _ I1 h) λus s2 ⟨vs,H2,I2,r,h2,q⟩=>⟨at1 I2 h2,?_⟩) he hpl;exact ZkO F hr hb .nil Zis I2 r (by rw[zp];exact q)
end
mutual
def YH:D->Bool
 | .tup ds=>YV ds
 | .lst ds=>YV ds
 | .clo _ _=>false
 | _=>true
def YV:List D->Bool
 | []=>true
 | d::ds=>YH d&&YV ds
end
mutual
def Zm.re {G G':Gh}{H:Hp}(hf:G'.fp=G.fp)(hp:G'.pen=G.pen):∀{d:D} {v:V},YH d=true->Zm G H d v->Zm G' H d v
 | .non,_,_,h=>jg.mpr (jg.mp h)
 | .bl _,_,_,h=>je.mpr (je.mp h)
 | .int _,_,_,h=>ja.mpr (ja.mp h)
 | .str _,_,_,h=>ji.mpr (ji.mp h)
 | .tup ds,v,n,h=>by
  obtain⟨a,vs,e1,nf,e2,r⟩:=jc.mp h;exact jc.mpr ⟨a,vs,e1,by rw[hf];exact nf,e2,Zk.re hf hp (by simpa[YH]using n) r⟩
 | .lst ds,v,n,h=>by
  obtain⟨a,vs,e1,nf,e2,r⟩:=jb.mp h;exact jb.mpr ⟨a,vs,e1,by rw[hf];exact nf,e2,Zk.re hf hp (by simpa[YH]using n) r⟩
 | .dk _,_,_,h=>by
  obtain⟨a,e1,nf,e2⟩:=jj.mp h;exact jj.mpr ⟨a,e1,by rw[hf];exact nf,e2⟩
 | .dt _,_,_,h=>by
  obtain⟨a,o,e1,nf,e2⟩:=jk.mp h;exact jk.mpr ⟨a,o,e1,by rw[hf];exact nf,e2⟩
 | .du _,_,_,h=>by
  obtain⟨a,e1,nf,e2⟩:=jl.mp h;exact jl.mpr ⟨a,e1,by rw[hf];exact nf,e2⟩
 | .df _,_,_,h=>by
  obtain⟨a,o,e1,nf,e2⟩:=jq.mp h;exact jq.mpr ⟨a,o,e1,by rw[hf];exact nf,e2⟩
 | .pen,_,_,h=>jo.mpr ((jo.mp h).trans hp.symm)
 | .ty _,_,_,h=>jr.mpr (jr.mp h)
 | .clo _ _,_,n,_=>by simp[YH]at n
def Zk.re {G G':Gh}{H:Hp}(hf:G'.fp=G.fp)(hp:G'.pen=G.pen):∀{ds:List D} {vs:List V},YV ds=true->Zk G H ds vs->Zk G' H ds vs
 | [],_,_,h=>Zk.nil_iff.mpr (Zk.nil_iff.mp h)
 | d::ds,vs,n,h=>by
  obtain⟨v,r,e,h1,h2⟩:=jd.mp h;have n':YH d=true/\YV ds=true:=by simpa[YV]using n
  exact jd.mpr ⟨v,r,e,Zm.re hf hp n'.1 h1,Zk.re hf hp n'.2 h2⟩
end
def Gr.re {G G':Gh}{Hf H Hf' H':Hp}(hf:G'.fp=G.fp)(g:Gr G Hf H Hf' H'):Gr G' Hf H Hf' H':=
 ⟨λb o n=>g.hh b o (by rw[<-hf];exact n),λb o n=>g.ff b o (by rw[<-hf];exact n),λb o n=>g.fh b o (by rw[<-hf];exact n),λb n=>g.nw b (by rw[<-hf];exact n)⟩
def ZB.re {G G':Gh}{H H':Hp}(hf:G'.fp=G.fp)(g:ZB G H H'):ZB G' H H':=λb o n=>g b o (by rw[<-hf];exact n)
def YC.re {G G':Gh}{H Hf':Hp}{d:D}{v:V}(hf:G'.fp=G.fp)(hp:G'.pen=G.pen)(n:YH d=true)(h:YC G H Hf' d v):YC G' H Hf' d v:=λa e m=>by
 obtain⟨h1,h2⟩:=h a e m;refine⟨h1,λds ed=>?_⟩;obtain⟨vs,Hm,q1,q2,q3,q4⟩:=h2 ds ed;subst ed;exact⟨vs,Hm,q1,q2,q3.re hf,q4.re hf hp (by simpa[YH]using n)⟩
def B6 (n:Nat)(G:Gh)(cvs:List V)(F:List D->M D):Sp:=λus H Q _=>∃(Hf:Hp) (ds cds:List D) (s:Pn) (d:D) (s':Pn),us.length=n/\ZB G Hf H/\Zk G Hf ds us/\Zk G Hf cds cvs/\G.st s H/\F (ds++cds) s=some (d,s')/\
 ∀v Hf' H',Gr G Hf H Hf' H'->G.st s' H'->Zm G Hf' d v->Q v H'
def UI (P:xE)(w:World)(K:ql)(mg:Str->Option Value)(k n:Nat)(T:Nat->List D->M D)(base:Heap)(G:Gh):Prop:=
 ∀t v cvs,G.clo t v cvs->∃f fd ps,v=.ref f/\ps.length=n/\Wr K fd ps []/\(∀s H,G.st s H->∀h:Heap,YA P w H h->K.In h->fnφ f fd h)/\FnOk P w K mg base ZQ k f fd ps (B6 n G cvs (T t))
def BZ (T:Nat->List D->M D)(i:Nat)(fs:Zb->M (List D)):Zb->M D:=fun ρ=>Zq (Za i ρ) λc=>Zq (fs ρ) λds=>match c with | .clo t cds=>T t (ds++cds) | _=>Zv
def ZjE {i:Nat}{ρ:Zb}{s s':Pn}{d:D}(h:Za i ρ s=some (d,s')):ρ[i]?=some (some d)/\s'=s:=by
 obtain⟨e,rfl⟩:=WL h;refine⟨?_,rfl⟩
 cases q:ρ[i]? with
 | none=>rw[q]at e;cases e
 | some o=>rw[q]at e;simp at e;rw[e]
section
variable {X:Cx}{G:Gh}
def Zlf {T:Nat->List D->M D}{k n i:Nat}{x:Str}{p pos:Pos}{e:Expr}{es:List Expr}{fs:Zb->M (List D)}(hG:UI X.prog X.w X.K X.mg k n T X.base G)(hr:Room k X.A)(hf:PE X (.Name x p) (Z7 i))(ha:Vg X G (e::es) fs)
  (hal:∀ρ s ds s',fs ρ s=some (ds,s')->ds.length=(e::es).length) (jT:(e::es).length=n:=by rfl)
  (he:xh (e::es) X.env=(false,eval e X.env)::xh es X.env:=by rfl) (hpl:(backTo pos (xh es X.env)).any (·.1)=false:=by rfl) :
  PD X G false (.Call (.Name x p) (e::es) [] pos) (BZ T i fs):=by
 obtain⟨t,pa,qa⟩:=ha;refine⟨_,Zle hf hr pa he hpl,fun σ Hf H ρ s d s' Q e1 e2 e3 e4 k=>?_⟩;obtain⟨c,s0,b0,b1⟩:=ZC e4;obtain⟨a0,rfl⟩:=ZjE b0;obtain⟨ds,s1,a1,a2⟩:=ZC b1
 cases c with
 | clo t cds=>
  obtain⟨v,hσ,r⟩:=e2 i _ a0;obtain⟨cvs,hc,rc⟩:=jz.mp r;obtain⟨f,fd,ps,rfl,hl,hb,hat,F⟩:=hG t v cvs hc;refine⟨f,fd,ps,_,hσ,hb,F,hat _ H e3,qa σ Hf H ρ _ ds s1 _ e1 e2 e3 a1 λvs jV H1 g1 kb r1=>⟨hat _ H1 kb,jV,ds,cds,s1,d,s',?_,g1.fh,r1,rc.ext g1.ff,kb,a2,λv kc H2 g2 j6 r2=>k v kc H2 (g1.trans g2) j6 r2 (λz=>by cases z)⟩⟩;rw[<-r1.length,hal _ _ _ _ a1];exact jT
 | _=>cases a2
end
def Xd (n:Nat)(f:Zb->M D):List D->M D:=λds=>if ds.length=n then f (ds.map some)else Zv
def Zm7 {G:Gh}{Hf:Hp}{ds:List D}{vs:List V}(r:Zk G Hf ds vs):YY G Hf (vs.map some) (ds.map some):=λi d e=>by
 rw[qt]at e
 cases q:ds[i]? with
 | none=>rw[q]at e;cases e
 | some d'=>
  rw[q]at e;cases e;obtain⟨v,h1,h2⟩:=r.get q;exact⟨v,by rw[qt,h1];rfl,h2⟩
def fnKE {P:xE}{w:World}{K:ql}{mg:Str->Option Value}{base:Heap}{k:Nat}{f:Addr}{name qual:Str}{params:Arguments}{body:Expr}{scope:Scope}{cl:List (Str×Addr)}{pm ct:Value}{c':Addr}{N ps:List Str}{cvs:List V}{G:Gh}{fr:Bool}{fe:Zb->M D}
  (S:CloScope N ps scope) (C:CloAt base cl scope N ps cvs) (hG:∀s H,G.st s H->H f=some (.ext (fnφ f (zr name qual params body scope cl pm (.ref c') ct)))/\H c'=some (.ext (codeφ c' qual)))
  (hb:∀(A:xF) (outer:List Env) (s:Shared) (H:Hp) (E:XK),Room k (A.deeper (yi qual scope s.heap.objs.size f (.ref c') cl))->PD (UL ZQ P w K mg base N qual scope f (.ref c') cl A outer s H E).nox G fr body fe) :
  FnOk P w K mg base ZQ (k+1) f (zr name qual params body scope cl pm (.ref c') ct) ps (B6 ps.length G cvs (Xd N.length fe)):=by
 refine Zm4 (cvs:=cvs) S C (λvs H Q E ⟨_,_,_,_,_,_,h,_⟩=>h) (λvs H Q E ⟨_,_,_,s,_,_,_,_,_,_,st,_⟩=>hG s H st) λA outer s H vs Q E hr h=>?_;obtain⟨Hf,ds,cds,pn,d,pn',el,e1,r1,r2,st,eF,k'⟩:=h;obtain⟨t,p,q⟩:=hb A outer s H E hr;refine⟨t,p.nox,?_⟩;obtain⟨hl,a0⟩:=Xf eF;have env:=Zm7 (r1.append r2);rw[zK]at env;exact q _ Hf H _ pn d pn' Q e1 env st a0 λv Hf' H' g st' r _=>k' v Hf' H' g st' r
structure TabG (P:Addr)(q:Str)(G:Gh):Prop where
 get:∀s H,G.st s H->∃ps,H P=some (.tbl ps)/\TriplesOk ps.toList/\∀pos cv,codeAmong pos ps.toList=some cv->∃c',cv=.ref c'/\H c'=some (.ext (codeφ c' q))/\¬G.fp c'
 fp:G.fp P
 put:∀s H ps (pos:Pos) c',G.st s H->H P=some (.tbl ps)->H c'=none->codeAmong pos ps.toList=none->G.st s (Zi (Zi H P (.tbl (ps ++ #[rawInt pos.line,rawInt pos.col,.ref c']))) c' (.ext (codeφ c' q)))
def Wv (G:Gh)(t:Nat)(p c':Addr)(fd:xD)(q:Str)(cvs:List V):Gh where
 fp:=G.fp
 rd:=G.rd
 pen:=G.pen
 st:=λs H=>G.st s H/\H p=some (.ext (fnφ p fd))/\H c'=some (.ext (codeφ c' q))
 mono:=λs H H' ⟨h1,h2,h3⟩ k1 k2=>⟨G.mono s H H' h1 k1 k2,k2 _ _ h2,k2 _ _ h3⟩
 sub:=G.sub
 dom:=λs H b h=>G.dom s H b h.1
 ntp:=λs H b vs h=>G.ntp s H b vs h.1
 clo:=λt' v cs=>t'=t/\v=.ref p/\cs=cvs
def UJ (P:xE)(w:World)(K:ql)(mg:Str->Option Value)(k:Nat)(x:Str)(n:Nat)(fr:Bool)(GG:Heap->Gh->Prop)(F:List D->M D):Prop:=
 ∃f fd ps,(∀base,FnOk P w K mg base ZQ k f fd ps (Yf n fr (GG base) F))/\mg x=some (.ref f)/\ym K (.ref f)=true/\Wr K fd ps []
def UJ.mono {P:xE}{w:World}{K:ql}{mg:Str->Option Value}{j k:Nat}{x:Str}{n:Nat}{fr:Bool}{GG:Heap->Gh->Prop}{F:List D->M D}(c:UJ P w K mg j x n fr GG F)(h:j<=k:=by decide):UJ P w K mg k x n fr GG F:=
 let ⟨f,fd,ps,a,b,c,d⟩:=c
 ⟨f,fd,ps,λbase=>(a base).mono h,b,c,d⟩
structure CapS (X:Cx)(XN:List Str)(NS:List (Str×NameKind))(N ps:List Str)(cix:List Nat)(scope:Scope):Prop where
 xn:X.N=XN
 ns:X.env.scope.names=NS
 len:N.length=ps.length+cix.length
 at_:(cix.zip (N.drop ps.length)).all (λp=>decide (XN[p.1]?=some p.2)&&decide (NS.lookup p.2=some .cell)&&decide (scope.names.lookup p.2=some .free))=true
 free:∀y∈scope.names,y.2=.free->NS.lookup y.1=some .cell∨NS.lookup y.1=some .free
def CapS.hfree {X:Cx}{XN:List Str}{NS:List (Str×NameKind)}{N ps:List Str}{cix:List Nat}{scope:Scope}(B:CapS X XN NS N ps cix scope):∀y∈scope.names,y.2=.free->X.env.kindOf y.1=some .cell∨X.env.kindOf y.1=some .free:=λy hy hf=>by
 have:=B.free y hy hf;rw[<-B.ns]at this;exact this
def CapS.cloAt {X:Cx}{XN:List Str}{NS:List (Str×NameKind)}{N ps:List Str}{cix:List Nat}{scope:Scope}{σ:St}{base':Heap}{cl:List (Str×Addr)}{cvs:List V}(B:CapS X XN NS N ps cix scope)(cs:Cells X σ base')(co:CloOf X scope cl)(hl:cvs.length=cix.length)
  (hv:∀(i j:Nat) (v:V),cix[i]?=some j->cvs[i]?=some v->σ[j]?=some (some v)):CloAt base' cl scope N ps cvs:=by
 refine⟨λx y c h1 h2=>cs.inj x y c (co.of x c h1) (co.of y c h2),λx c h=>cs.cell x c (co.of x c h),λx h=>co.has (x,.free) (zN h) rfl,λi x v h1 h2=>?_,by rw[B.len,hl]⟩;have hi:i<cix.length:=by rw[<-hl];exact(qM.mp h2).1
 have hj:cix[i]?=some cix[i]:=qj hi;have hx:(N.drop ps.length)[i]?=some x:=by rw[List.getElem?_drop];exact h1
 have q:=zj.mp B.at_ (cix[i],x) (z9 (i:=i) (qau.mpr ⟨hj,hx⟩));simp only[qV,decide_eq_true_eq]at q;obtain⟨⟨q1,q2⟩,q3⟩:=q;refine⟨q3,?_⟩;obtain⟨c,u,e1,e2,e3⟩:=cs.val cix[i] x v (by rw[B.xn];exact q1) (hv i _ v hj h2) (by show X.env.scope.names.lookup x=_;rw[B.ns];exact q2);obtain⟨c2,e4⟩:=co.has (x,.free) (zN q3) rfl;have e5:=co.of x c2 e4;rw[e1]at e5;cases e5;exact⟨c,u,e4,e2,e3⟩
def Vs (ρ:Zb):List Nat->Option (List D)
 | []=>some []
 | i::r=>((ρ[i]?).bind id).bind λd=>(Vs ρ r).map (d :: ·)
def Zdm {G:Gh}{Hf:Hp}{σ:St}{ρ:Zb}(e:YY G Hf σ ρ):∀{cix:List Nat} {cds:List D},Vs ρ cix=some cds->∃cvs,cvs.length=cix.length/\Zk G Hf cds cvs/\∀(i j:Nat) (v:V),cix[i]?=some j->cvs[i]?=some v->σ[j]?=some (some v)
 | [],cds,h=>by cases h;exact⟨[],rfl,Zk.nil_iff.mpr rfl,λi j v h1=>by simp at h1⟩
 | a::r,cds,h=>by
  unfold Vs at h
  cases q:(ρ[a]?).bind id with
  | none=>rw[q]at h;cases h
  | some d=>
   rw[q]at h
   cases q2:Vs ρ r with
   | none=>rw[q2]at h;cases h
   | some ds=>
    rw[q2]at h;cases h;obtain⟨v,h1,h2⟩:=e a d (by
     cases q3:ρ[a]? with
     | none=>rw[q3]at q;cases q
     | some o=>rw[q3]at q;simp at q;rw[q])
    obtain⟨cvs,l1,l2,l3⟩:=Zdm e q2;refine⟨v::cvs,by simp[l1],Zk.cons h2 l2,λi j u e1 e2=>?_⟩
    cases i with
    | zero=>simp at e1 e2;subst e1;subst e2;exact h1
    | succ i=>exact l3 i j u (by simpa using e1) (by simpa using e2)
def U6 (F:List D->M D)(t:Nat)(cix:List Nat)(f:Zb->M D):Zb->M D:=fun ρ=>Zq (f ρ) λd=>Zq (YQ (Vs ρ cix)) λcds=>if (YH d&&YV cds)=true then Zq (F [d,.clo t cds]) λc=>if YH c=true then ZA c else Zv else Zv
section
variable {X:Cx}{G:Gh}{P c:Addr}{q:Str}
def ZiF {lpos:Pos}{ps:Array Value}{H Hm:Hp}{c':Addr}{s:Pn}(TG:TabG P q G)(st:G.st s H)(hP:H P=some (.tbl ps))(sl:Slot P q lpos ps H Hm c'):G.st s Hm/\Hm c'=some (.ext (codeφ c' q))/\ZB G H Hm:=by
 rcases sl with⟨rfl,h1,h2⟩ | ⟨h1,h2,h3,rfl⟩
 ·exact⟨st,h2,.refl _ _⟩
 ·refine⟨TG.put s H ps lpos c' st hP h2 h1,ZI,λb o n e=>?_⟩
  rw[Zr (Z1 e h2),Zr (λz=>n (by rw[z];exact TG.fp))];exact e
def ZiG {Hf H Hm:Hp}{p:Addr}{o:HO}(e1:ZB G Hf H)(ex:ZB G H Hm)(hp:Hm p=none):Gr G Hf H Hf (Zi Hm p o):=by
 have hh:ZB G H (Zi Hm p o):=λb u n e=>by
  have:=ex b u n e;rw[Zr (Z1 this hp)];exact this
 exact⟨hh,.refl _ _,e1.trans hh,λ_ _ h _=>h⟩
def Zo9 {base':Heap}{k:Nat}{T:Nat->List D->M D}{t:Nat}{p c':Addr}{fd:xD}{cvs:List V}{ps:List Str}{F:List D->M D}(hb:Wr X.K fd ps [])(hF:FnOk X.prog X.w X.K X.mg base' ZQ k p fd ps (B6 ps.length (Wv G t p c' fd q cvs) cvs F))(hT:T t=F) :
  UI X.prog X.w X.K X.mg k ps.length T base' (Wv G t p c' fd q cvs):=by
 rintro t' v cs ⟨rfl,rfl,rfl⟩;exact⟨p,fd,ps,rfl,rfl,hb,λs H st h ok _=>fnφ_at ok st.2.1,by rw[hT];exact hF⟩
variable {k kl:Nat}{x:Str}{fr frb:Bool}{F:List D->M D}{T:Nat->List D->M D}{t:Nat}{e1:Expr}{f1:Zb->M D}{r1:Bool}{params:Arguments}{scope:Scope}{lpos ppos pos:Pos}{XN N ps:List Str}{NS:List (Str×NameKind)}{cix:List Nat}
def ofC {t:Nat}{p c':Addr}{fd:xD}{cvs:List V}{H:Hp}{d:D}{v:V}(n:YH d=true)(r:Zm (Wv G t p c' fd q cvs) H d v):Zm G H d v:=Zm.re (G:=Wv G t p c' fd q cvs) (G':=G) rfl rfl n r
def toC {t:Nat}{p c':Addr}{fd:xD}{cvs:List V}{H:Hp}{d:D}{v:V}(n:YH d=true)(r:Zm G H d v):Zm (Wv G t p c' fd q cvs) H d v:=Zm.re (G:=G) (G':=Wv G t p c' fd q cvs) rfl rfl n r
def toCL {t:Nat}{p c':Addr}{fd:xD}{cvs:List V}{H:Hp}{d:List D}{v:List V}(n:YV d=true)(r:Zk G H d v):Zk (Wv G t p c' fd q cvs) H d v:=Zk.re (G:=G) (G':=Wv G t p c' fd q cvs) rfl rfl n r
def grC {t:Nat}{p c':Addr}{fd:xD}{cvs:List V}{Hf H Hf' H':Hp}(g:Gr (Wv G t p c' fd q cvs) Hf H Hf' H'):Gr G Hf H Hf' H':=Gr.re (G:=Wv G t p c' fd q cvs) (G':=G) rfl g
def frC {t:Nat}{p c':Addr}{fd:xD}{cvs:List V}{H Hf':Hp}{d:D}{v:V}(n:YH d=true)(h:YC (Wv G t p c' fd q cvs) H Hf' d v):YC G H Hf' d v:=YC.re (G:=Wv G t p c' fd q cvs) (G':=G) rfl rfl n h
def ZbI {body:Expr}{fe:Zb->M D}(M:Mk0 X c P)(TG:TabG P q G)(hW:UJ X.prog X.w X.K X.mg k x 2 fr (UI X.prog X.w X.K X.mg (kl+1) ps.length T) F)(hfn:∀x,X.fn x=true)(hr:Room k X.A)(hg:Gl X x)(h1:PD X G r1 e1 f1)
  (hq:X.env.qual ++ "<lambda>" = q) (S:CloScope N ps scope) (B:CapS X XN NS N ps cix scope) (hT:T t=Xd N.length fe)
  (hbind:∀(cl:List (Str×Addr)) (pm cd ct:Value) (us:List Value),us.length=ps.length->bindArgs (zr "<lambda>" q params body scope cl pm cd ct) ⟨us,[]⟩=pure (ps.zip us))
  (hb:∀(base:Heap) (f c':Addr) (cl:List (Str×Addr)) (G:Gh) (A:xF) (outer:List Env) (s:Shared) (H:Hp) (E:XK),Room kl (A.deeper (yi q scope s.heap.objs.size f (.ref c') cl))->PD (UL ZQ X.prog X.w X.K X.mg base N q scope f (.ref c') cl A outer s H E).nox G frb body fe)
  (hdef:defaultsOf params X.env=([],[]):=by rfl) (hdb:(x==("__debug__" : Str))=false:=by decide)
  (he:xh [e1,.Lambda params body scope lpos] X.env=(false,eval e1 X.env)::xh [.Lambda params body scope lpos] X.env:=by rfl) (he2:xh [Expr.Lambda params body scope lpos] X.env=(false,eval (.Lambda params body scope lpos) X.env)::xh [] X.env:=by rfl)
  (hpl:(backTo pos (xh [Expr.Lambda params body scope lpos] X.env)).any (·.1)=false:=by rfl) :
  PD X G fr (.Call (.Name x ppos) [e1,.Lambda params body scope lpos] [] pos) (U6 F t cix f1):=by
 obtain⟨t1,p1,q1⟩:=h1.drop;obtain⟨f,fd0,ps0,FN,hm,hk,hbd⟩:=hW;refine⟨_,Zld FN hfn hr hg hm hk hbd (YN p1 (YN (Zhy M hq B.hfree hdef) Y3 he2) he) hdb he hpl,fun σ Hf H ρ s d s' Q x1 x2 x3 x4 k=>?_⟩;obtain⟨d1,s1,a1,a2⟩:=ZC x4;obtain⟨cds,s2,b3,a4⟩:=ZC a2;obtain⟨a3,rfl⟩:=WL b3;obtain⟨hn,a5⟩:=Xf a4;obtain⟨cc,s3,a6,a7⟩:=ZC a5;obtain⟨hn2,a8⟩:=Xf a7;obtain⟨rfl,rfl⟩:=ZO a8;obtain⟨hn0,hn1⟩:=yQ.mp hn;refine q1 σ Hf H ρ s d1 _ _ x1 x2 x3 a1 λv1 jV H1 g1 kb rv1=>?_;obtain⟨tp,hP,htr,hhit⟩:=TG.get _ H1 kb;refine⟨tp,hP,htr,λcv h=>let ⟨c',z1,z2,_⟩:=hhit lpos cv h;⟨c',z1,z2⟩,λp c' fd Hm ⟨cl,pm,ctv,co,efd⟩ sl hp=>?_⟩;subst efd;obtain⟨stm,hc',ex⟩:=ZiF TG kb hP sl;have gr:=ZiG (o:=.ext (fnφ p (zr "<lambda>" q params body scope cl pm (.ref c') ctv))) g1.fh ex hp;have hcp:c'≠p:=λz=>by rw[z,hp]at hc';cases hc'
 obtain⟨cvs,l1,l2,l3⟩:=Zdm (x2.ext g1.ff) a3;intro base' cs;have C:CloAt base' cl scope N ps cvs:=B.cloAt cs co l1 l3;refine⟨Wv G t p c' (zr "<lambda>" q params body scope cl pm (.ref c') ctv) q cvs,jV,[d1,.clo t cds],_,d,_,Zo9 (X:=X) (.all (hbind cl pm (.ref c') ctv)) (fnKE S C (λs H st=>st.2) λA outer s H E hr=>hb base' p c' cl _ A outer s H E hr) hT,rfl,gr.fh,?_,⟨Gh.grow stm hp,ZI,by rw[Zr hcp];exact hc'⟩,a6,λv Hf3 H3 g3 st3 r3 fz=>?_⟩
 ·refine .cons (toC hn0 rv1) (.one (jz.mpr ⟨cvs,⟨rfl,rfl,rfl⟩,toCL hn1 l2⟩))
 ·have g3':Gr G jV _ Hf3 H3:=grC g3
  have gg:=(g1.trans gr).trans g3';have rr:Zm G Hf3 d v:=ofC hn2 r3;refine k v Hf3 H3 gg st3.1 rr λz=>?_;exact jn (g1.hh.trans gr.hh) rr.nofp (frC hn2 (fz z))
end
def boot_len:xj "len" = some (.builtin "len"):=by decide +kernel
def boot_isinstance:xj "isinstance" = some (.builtin "isinstance"):=by decide +kernel
def boot_all:xj "all" = some (.builtin "all"):=by decide +kernel
def boot_any:xj "any" = some (.builtin "any"):=by decide +kernel
def boot_max:xj "max" = some (.builtin "max"):=by decide +kernel
def boot_min:xj "min" = some (.builtin "min"):=by decide +kernel
def boot_set:xj "set" = some (.type "set"):=by decide +kernel
def boot_sorted:xj "sorted" = some (.builtin "sorted"):=by decide +kernel
def boot_tuple:xj "tuple" = some (.type "tuple"):=by decide +kernel
def boot_list:xj "list" = some (.type "list"):=by decide +kernel
def boot_int:xj "int" = some (.type "int"):=by decide +kernel
def boot_bool:xj "bool" = some (.type "bool"):=by decide +kernel
def boot_dict:xj "dict" = some (.type "dict"):=by decide +kernel
abbrev ZU:Gh->Prop:=λ_=>True
def Zoa (G:Gh)(ob own own':List Nat)(fr:Bool)(g:Zb->M Out):TS:=λE σ H=>∃kn jR H0 ρ s out s',J G own kn jR H0 σ H ρ/\G.st s H/\g ρ s=some (out,s')/\Post G ob own' kn jR H0 fr out s' E
def Ok {α:Type}(m:M α)(s:Pn)(Q:α->Pn->Prop):Prop:=∃a s',m s=some (a,s')/\Q a s'
def Ok.bind {α β:Type}{m:M α}{k:α->M β}{s:Pn}{Q:β->Pn->Prop}(h:Ok m s λa s1=>Ok (k a) s1 Q):Ok (Zq m k) s Q:=by
 obtain⟨a,s1,e,b,s2,e2,q⟩:=h;exact⟨b,s2,by unfold Zq;rw[e];exact e2,q⟩
def Ok.ret {α:Type}{a:α}{s:Pn}{Q:α->Pn->Prop}(h:Q a s):Ok (ZA a) s Q:=⟨a,s,rfl,h⟩
def Ok.eq {α:Type}{m:M α}{s s':Pn}{a:α}{Q:α->Pn->Prop}(e:m s=some (a,s'))(h:Q a s'):Ok m s Q:=⟨a,s',e,h⟩
def Ok.mono {α:Type}{m:M α}{s:Pn}{Q Q':α->Pn->Prop}(h:Ok m s Q)(k:∀a s',Q a s'->Q' a s'):Ok m s Q':=let ⟨a,s',e,q⟩:=h;⟨a,s',e,k a s' q⟩
def Ok.of {α:Type}{o:Option α}{a:α}{s:Pn}{Q:α->Pn->Prop}(e:o=some a)(h:Q a s):Ok (YQ o) s Q:=⟨a,s,by unfold YQ;rw[e],h⟩
def Ok.ite {α:Type}{c:Prop}[Decidable c]{m:M α}{s:Pn}{Q:α->Pn->Prop}(hc:c)(h:Ok m s Q):Ok (if c then m else Zv) s Q:=by rw[if_pos hc];exact h
section
variable {ρ:Zb}{s:Pn}{Q:Out->Pn->Prop}{f:Zb->M D}{g1 g2:Zb->M Out}
def Ok.seq (h:Ok (g1 ρ) s λo s1=>match o with | .nx ρ'=>Ok (g2 ρ') s1 Q | .rt d=>Q (.rt d) s1 | .bk ρ'=>Q (.bk ρ') s1 | .ct ρ'=>Q (.ct ρ') s1):Ok (Zg g1 g2 ρ) s Q:=by
 refine Ok.bind (h.mono λo s1 q=>?_)
 cases o with
 | nx ρ'=>exact q
 | rt d=>exact .ret q
 | bk ρ'=>exact .ret q
 | ct ρ'=>exact .ret q
def Ok.next (h:Q (.nx ρ) s):Ok (Zo ρ) s Q:=.ret h
def Ok.sset {i:Nat}(h:Ok (f ρ) s λd s1=>Q (.nx (ρ.set i (some d))) s1):Ok (ZT i f ρ) s Q:=.bind (h.mono λ_ _ q=>.ret q)
def Ok.sown {i:Nat}(h:Ok (f ρ) s λd s1=>BL d=true/\Q (.nx (ρ.set i (some d))) s1):Ok (WI i f ρ) s Q:=.bind (h.mono λ_ _ q=>.ite q.1 (.ret q.2))
def Ok.sret (h:Ok (f ρ) s λd s1=>Q (.rt d) s1):Ok (ZK f ρ) s Q:=.bind (h.mono λ_ _ q=>.ret q)
def Ok.sif {c:Zb->M Bool}(h:Ok (c ρ) s λb s1=>if b=true then Ok (g1 ρ) s1 Q else Ok (g2 ρ) s1 Q):Ok (YF c g1 g2 ρ) s Q:=by
 refine .bind (h.mono λb s1 q=>?_)
 cases b with
 | true=>simpa using q
 | false=>simpa using q
def Ok.sapp {i:Nat}{ds:List D}(hi:(ρ[i]?).bind id=some (.lst ds))(hl:ds.length<xg)(h:Ok (f ρ) s λd s1=>Q (.nx (ρ.set i (some (.lst (ds ++ [d]))))) s1):Ok (VY i f ρ) s Q:=by
 refine .bind (h.mono λd s1 q=>?_);simp only[hi];exact .ite hl (.ret q)
def Ok.sext {i:Nat}{ds:List D}(hi:(ρ[i]?).bind id=some (.lst ds))(h:Ok (f ρ) s λd s1=>∃es,d=.lst es/\ds.length+es.length<=xg/\Q (.nx (ρ.set i (some (.lst (ds++es))))) s1):Ok (UH i f ρ) s Q:=by
 refine .bind (h.mono λd s1 q=>?_);obtain⟨es,rfl,hl,q⟩:=q;simp only[hi];exact .ite hl (.ret q)
def Ok.loop {τ:D->Zb->Option Zb}{body:Zb->M Out}(I:Nat->Zb->Pn->Prop):∀(ds:List D) (k:Nat) (ρ:Zb) (s:Pn),I k ρ s->
  (∀i d ρ s,ds[i]?=some d->I (k+i) ρ s->∃ρ1,τ d ρ=some ρ1/\Ok (body ρ1) s λo s'=>∃ρ',o=.nx ρ'/\I (k+i+1) ρ' s')->Ok (WQ τ body ds ρ) s λo s'=>∃ρ',o=.nx ρ'/\I (k+ds.length) ρ' s'
 | [],k,ρ,s,h0,_=>.ret ⟨ρ,rfl,h0⟩
 | d::ds,k,ρ,s,h0,h=>by
  obtain⟨ρ1,e1,ok⟩:=h 0 d ρ s rfl h0;refine Ok.bind (.of e1 (.bind (ok.mono λo s' q=>?_)));obtain⟨ρ',rfl,q⟩:=q;refine(Ok.loop I ds (k+1) ρ' s' q λi d' ρ2 s2 e2 q2=>?_).mono λo s2 q2=>?_
  ·have:=h (i+1) d' ρ2 s2 (by simpa using e2) (by rw[show k+(i+1)=k+1+i by omega];exact q2)
   rw[show k+(i+1)+1=k+1+i+1 by omega]at this;exact this
  ·rw[show k+(d::ds).length=k+1+ds.length by simp;omega]
   exact q2
def Ok.sfor {fi:Zb->M (List D)}{τ:D->Zb->Option Zb}{body:Zb->M Out}(I:Nat->Zb->Pn->Prop)(h:Ok (fi ρ) s λds s1=>I 0 ρ s1/\(∀i d ρ s,ds[i]?=some d->I i ρ s->∃ρ1,τ d ρ=some ρ1/\Ok (body ρ1) s λo s'=>∃ρ',o=.nx ρ'/\I (i+1) ρ' s')/\
  ∀ρ' s',I ds.length ρ' s'->Q (.nx ρ') s'):Ok (YZ fi τ body ρ) s Q:=by
 refine .bind (h.mono λds s1 q=>?_);obtain⟨q0,q1,q2⟩:=q;refine(Ok.loop I ds 0 ρ s1 q0 λi d ρ s e=>?_).mono λo s' q=>?_
 ·rw[qak];exact q1 i d ρ s e
 ·obtain⟨ρ',rfl,q⟩:=q
  rw[qak]at q;exact q2 ρ' s' q
end
section
variable {ρ ρ':Zb}{s s1 s2:Pn}{f f2:Zb->M D}{g1 g2:Zb->M Out}{d e c:D}{r:Option (Out×Pn)}
def YS {n k:Nat}{g:Zb->M Out}{ds:List D}(hl:ds.length=k)(h:g (ds.map some++qw (n-k) none) s=some (.rt d,s1)):runB n k g ds s=some (d,s1):=by
 unfold runB;rw[if_pos hl];unfold Zq;rw[h];rfl
def YO (h:f ρ s=some (d,s1)):ZK f ρ s=some (.rt d,s1):=by unfold ZK Zq;rw[h];rfl
def Ye (h:g1 ρ s=some (.rt d,s1)):Zg g1 g2 ρ s=some (.rt d,s1):=by unfold Zg Zq;rw[h];rfl
def YT (h:g1 ρ s=some (.nx ρ',s1))(h2:g2 ρ' s1=r):Zg g1 g2 ρ s=r:=by unfold Zg Zq;rw[h];exact h2
def X9 {i:Nat}(h:f ρ s=some (d,s1)):ZT i f ρ s=some (.nx (ρ.set i (some d)),s1):=by unfold ZT Zq;rw[h];rfl
def Zu {g:D->D->Option D}(h1:f ρ s=some (d,s1))(h2:f2 ρ s1=some (e,s2))(h:g d e=some c):Ze g f f2 ρ s=some (c,s2):=by
 unfold Ze Zq;rw[h1];simp only;rw[h2];simp only;unfold YQ;rw[h]
def Yi {g:List D->Option D}{fs:Zb->M (List D)}{ds:List D}(h1:fs ρ s=some (ds,s1))(h:g ds=some c):ZE g fs ρ s=some (c,s1):=by
 unfold ZE Zq;rw[h1];simp only;unfold YQ;rw[h]
def Z0 {F:List D->M D}{fs:Zb->M (List D)}{ds:List D}{q:Option (D×Pn)}(h1:fs ρ s=some (ds,s1))(h:F ds s1=q):Zn F fs ρ s=q:=by
 unfold Zn Zq;rw[h1];exact h
def Zh {fs:Zb->M (List D)}{ds:List D}(h1:f ρ s=some (d,s1))(h2:fs ρ s1=some (ds,s2)):Zc f fs ρ s=some (d::ds,s2):=by
 unfold Zc Zq;rw[h1];simp only;rw[h2];rfl
def Wc {fs:Zb->M (List D)}{ds:List D}(h1:fs ρ s=some (ds,s1))(hl:ds.length<=xg):ZW fs ρ s=some (.tup ds,s1):=by
 unfold ZW Zq;rw[h1];simp only;rw[if_pos hl];rfl
def JE {fs:Zb->M (List D)}{ds:List D}(h1:fs ρ s=some (ds,s1))(hl:ds.length<=xg):XC fs ρ s=some (.lst ds,s1):=by
 unfold XC Zq;rw[h1];simp only;rw[if_pos hl];rfl
def Yc {b:Bool}(h:f ρ s=some (.bl b,s1)):asB f ρ s=some (b,s1):=by unfold asB Zq;rw[h];rfl
def BE {fb:Zb->M Bool}{b:Bool}(h:fb ρ s=some (b,s1)):Wu fb ρ s=some (!b,s1):=by unfold Wu Zq;rw[h];rfl
end
def ZeG {τ:D->Zb->Option Zb}{ft:Zb->M Bool}{fe:Zb->M D}{ρ:Zb}{s:Pn}(r:D->Zb)(b:D->Bool)(c:D->D):∀(ds:List D),(∀d∈ds,τ d ρ=some (r d)/\ft (r d) s=some (b d,s)/\(b d=true->fe (r d) s=some (c d,s)))->
  UB τ ft fe ρ ds s=some ((ds.filter b).map c,s)
 | [],_=>rfl
 | d::ds,h=>by
  obtain⟨h1,h2,h3⟩:=h d (by simp);have ih:=ZeG r b c ds λd' m=>h d' (by simp[m]);unfold UB;simp only[Zq,YQ,h1,h2]
  cases hb:b d with
  | true=>simp[Zq,h3 hb,ih,hb,ZA]
  | false=>simp[ih,hb]
end TF
namespace TP
open L2 TF
def Zhz:Zb->M Out:=(Zg (WI 1 (XC Zd))
 (Zg (YZ (Z8 (ZE Yw (Zc (Za 0) Zd))) (Zw 2)
 (Zg (YZ (ZcR (Ze Y5 (Za 2) (dC (.int 1))) (ZE Yw (Zc (Za 0) Zd))) (Zw 3)
 (Zg (VY 1 (fun ρ=>(ZW (Zc (Ze Zl (Za 0) (Za 2)) (Zc (Ze Zl (Za 0) (Za 3)) Zd))) (Yq [1] ρ)))
 Zo))
 Zo))
 (Zg (ZK (Za 1))
 Zo)))
def V5:List D->M D:=runB 4 1 Zhz
def Zdn:Zb->M Out:=(Zg (ZK (Ze YI (ZW (Zc (ZE U1 (Zc (Za 1) (Zc (Za 2) Zd))) (Zc (ZE Zk2 (Zc (Za 1) (Zc (Za 2) Zd))) Zd))) (Za 0)))
 Zo)
def W9:List D->M D:=runB 3 3 Zdn
def Zpa:Zb->M Out:=(Zg (ZK (ZR [none,some 0,some 1] (Z8 (Ze Zl (Za 0) (dC (.int 0)))) (Zw 0) (asB (Zn W9 (Zc (Ze Zl (Za 1) (dC (.int 1))) (Zc (Za 2) (Zc (Za 0) Zd))))) (Za 0)))
 Zo)
def JF:List D->M D:=runB 2 2 Zpa
def Zeb:Zb->M Out:=(Zg (ZK (ZE Zk9 (Zc (ZR [none] (WN (Ze Zl (Za 0) (dC (.int 1)))) (Zw 0) Z3 (ZW (Zc (Za 0) (Zc (dC (.bl true)) Zd)))) Zd)))
 Zo)
def Vi:List D->M D:=runB 1 1 Zeb
def Zec:Zb->M Out:=(Zg (ZK (WH (ZE Uj (Zc (Za 0) (Zc (dC (.ty "tuple")) Zd))) (Ze Xc (ZE Yw (Zc (Za 0) Zd)) (Za 1))))
 Zo)
def Jg:List D->M D:=runB 2 2 Zec
def ZhA:Zb->M Out:=(Zg (ZK (WH (ZE Uj (Zc (Za 0) (Zc (dC (.ty "int")) Zd))) (JV (ZE Uj (Zc (Za 0) (Zc (dC (.ty "bool")) Zd))))))
 Zo)
def Bl:List D->M D:=runB 1 1 ZhA
def ZhB:Zb->M Out:=(Zg (ZK (WH (Zn Bl (Zc (Za 1) Zd)) (WH (Ze Jb (dC (.int 0)) (Za 1)) (Ze WT (Za 1) (Za 0)))))
 Zo)
def V6:List D->M D:=runB 2 2 ZhB
def Zm8:Zb->M Out:=(Zg (ZK (ZE VZ (Zc (ZR [none,some 0] (Z8 (Ze JX (ZE Yw (Zc (Za 0) Zd)) (dC (.int 1)))) (Zw 0) Z3 (Ze WT (Ze Zl (Za 1) (Za 0)) (Ze Zl (Za 1) (Ze Y5 (Za 0) (dC (.int 1)))))) Zd)))
 Zo)
def BF:List D->M D:=runB 1 1 Zm8
local macro_rules | `(tactic| walk_at "ev")=>`(tactic| simp[runB,Zg,ZK,ZT,Zo,YF,asB,Ze,ZE,Zc,Zd,ZW,XC,Za,dC,Zn,Zq,ZA,YQ,Y5,JX,dI,Yq,X1,J5,WH,JV,XX,VF,Wu])
def Zp (p:Nat×Nat):D:=.tup [.int p.1,.int p.2]
def ZH (n:Nat)(jK:Qa):D:=.tup [.int n,.tup (jK.map Zp)]
def tied (jK:Qa)(a b:Nat):Bool:=decide ((min a b,max a b)∈jK)
def plain_pairs:∀jK:Qa,YG (jK.map Zp)=true
 | []=>by simp[YG]
 | t::ts=>by simp[YG,Zp,Zs,plain_pairs ts]
def Zdo:∀jK:Qa,Xx (jK.map Zp)<=1
 | []=>by simp[Xx]
 | t::ts=>by
  have:=Zdo ts;simp only[zh,Xx,Zp,Yl];omega
def Ug {α:Type}(x:α)(xs:List α):XY (x::xs) 0=some x:=X8 (j:=0) rfl
def JQ {α:Type}(x y:α)(xs:List α):XY (x::y::xs) 1=some y:=X8 (j:=1) rfl
def two_le:2<=xg:=by decide
def ZhC (a b:Nat):D.tup [.int (if b<a then (b:Int)else a),.int (if a<b then (b:Int)else a)]=Zp (min a b,max a b):=by
 unfold Zp;congr 2
 ·congr 1;split <;> omega
 ·congr 2;split <;> omega
def YU {src:List (Option Nat)}{fi:Zb->M (List D)}{τ:D->Zb->Option Zb}{ft:Zb->M Bool}{fe:Zb->M D}{ρ:Zb}{s:Pn}{ds:List D}(r:D->Zb)(b:D->Bool)(c:D->D)(hi:fi ρ s=some (ds,s))(hl:ds.length<=xg)
  (h:∀d∈ds,τ d (X1 src ρ)=some (r d)/\ft (r d) s=some (b d,s)/\(b d=true->fe (r d) s=some (c d,s))):ZR src fi τ ft fe ρ s=some (.lst ((ds.filter b).map c),s):=by
 unfold ZR;simp only[Zq,hi,hl,if_true,ZeG r b c ds h,ZA]
def small_int (n:Nat)(h:n<=100000):-(2 ^ 62)<=(n:Int)/\(n:Int)<2 ^ 62:=by omega
def Yd:xg=16777216:=by decide
def XG {f:Zb->M D}{ρ:Zb}{s:Pn}{n:Nat}(h:f ρ s=some (.int n,s))(hn:n<=100000):Z8 f ρ s=some (Yb 0 n,s):=by
 unfold Z8;simp only[Zq,h];show(if -(2 ^ 62)<=(n:Int)/\(n:Int)<2 ^ 62 then ZA (Yb 0 (n:Int).toNat)else Zv) s=_;rw[if_pos (small_int n hn)];rfl
def ZjF {f g:Zb->M D}{ρ:Zb}{s:Pn}{a n:Nat}(h:f ρ s=some (.int a,s))(h2:g ρ s=some (.int n,s))(ha:a<=100000)(hn:n<=100000):ZcR f g ρ s=some (Yb a (n-a),s):=by
 unfold ZcR;simp only[Zq,h,h2];show(if -(2 ^ 62)<=(a:Int)/\(a:Int)<2 ^ 62/\-(2 ^ 62)<=(n:Int)/\(n:Int)<2 ^ 62 then ZA (Yb a ((n:Int)-a).toNat)else Zv) s=_;rw[if_pos (by omega),show((n:Int)-(a:Int)).toNat=n-a by omega];rfl
def Xm (lo:Int)(n:Nat):(Yb lo n).length=n:=by simp[Yb]
def ZbJ {lo n i:Nat}{d:D}(h:(Yb lo n)[i]?=some d):i<n/\d=.int ((lo+i:Nat):Int):=by
 have hi:i<n:=by
  have:=(qM.mp h).1;simpa[Yb]using this
 refine⟨hi,?_⟩;unfold Yb at h;rw[qt,zT hi]at h;simp at h;rw[<-h];simp
def V7 {n:Nat}{d:D}(h:d∈Yb 0 n):∃i:Nat,i<n/\d=.int (i:Int):=by
 unfold Yb at h;obtain⟨i,hi,e⟩:=qu.mp h;exact⟨i,by simpa using hi,by rw[<-e];simp⟩
def VN (n:Nat):Yb 0 n=(qk n).map λ(i:Nat)=>D.int (i:Int):=by
 unfold Yb;simp
def Yo:D->Nat
 | .int i=>i.toNat
 | _=>0
def Zaz (n:Nat)(p:Nat->Bool):((Yb 0 n).filter λd=>p (Yo d)).map (λd=>d)=((qk n).filter p).map λ(i:Nat)=>D.int (i:Int):=by
 rw[VN,yp];simp only[qbE];congr 1
def jy {α:Type}{m:M α}{s s':Pn}{a:α}(h:Ok m s λb t=>b=a/\t=s'):m s=some (a,s'):=by
 obtain⟨b,t,e,rfl,rfl⟩:=h;exact e
def Zfm {n:Nat}(hn:n<=100000):(Yb 0 n).length<=xg:=by rw[Xm,Yd];omega
def JZ (row:D)(ds:List D):Prop:=row=.lst ds∨row=.tup ds
def JZ.len {row:D}{ds:List D}(h:JZ row ds):Yw [row]=some (.int ds.length):=by
 rcases h with rfl | rfl <;> rfl
def JZ.ix {row:D}{ds:List D}(h:JZ row ds){i:Nat}(hi:i<ds.length):Zl row (.int (i:Int))=some (ds.getD i .non):=by
 have e:ds[i]?=some (ds.getD i .non):=by simp[qbh,hi]
 rcases h with rfl | rfl <;> exact X8 e
def W3 (n i:Nat):Qa:=(qk i).flatMap λa=>(qk (n-(a+1))).map λk=>(a,a+1+k)
def Xk (n:Nat):Qa:=W3 n n
def ZeH (n i:Nat):W3 n (i+1)=W3 n i++(qk (n-(i+1))).map λk=>(i,i+1+k):=by
 unfold W3;rw[qa7,List.flatMap_append];simp
def ZbP (n:Nat):∀i,(W3 n i).length<=i*n
 | 0=>by simp[W3]
 | i+1=>by
  have:=ZbP n i;rw[ZeH,qJ,qd,qG];have e:(i+1)*n=i*n+n:=Nat.succ_mul i n;omega
def W5 (ds:List D)(p:Nat×Nat):D:=.tup [ds.getD p.1 .non,ds.getD p.2 .non]
def Zm9 (n i j:Nat)(hn:n<=1000)(hi:i<n)(hj:j<=n):(W3 n i).length+j<xg:=by
 have h1:=ZbP n i;have h2:i*n<=1000*1000:=qb2 (by omega) hn;rw[Yd];omega
def Zcw (row:D)(ds:List D)(h:JZ row ds)(hn:ds.length<=1000)(s:Pn):V5 [row] s=some (.lst ((Xk ds.length).map (W5 ds)),s):=by
 refine YS rfl (jy ?_);refine Ok.seq (.sown (.eq (a:=.lst []) rfl ⟨rfl,?_⟩));show Ok _ s _;refine Ok.seq (.sfor (λi ρ s'=>s=s'/\∃o2 o3,ρ=[some row,some (.lst ((W3 ds.length i).map (W5 ds))),o2,o3]) (.eq (XG (Yi (Zh rfl rfl) h.len) (by omega)) ⟨⟨rfl,none,none,rfl⟩,λi d ρ s' hd hI=>?_,fun ρ' s' hI=>?_⟩))
 ·obtain⟨rfl,o2,o3,rfl⟩:=hI
  obtain⟨hi,rfl⟩:=ZbJ hd;refine⟨_,rfl,?_⟩;refine Ok.seq (.sfor (λj ρ s'=>s=s'/\∃o3,ρ=[some row,some (.lst ((W3 ds.length i).map (W5 ds)++(qk j).map λk=>W5 ds (i,i+1+k))),some (.int ((0+i:Nat):Int)),o3]) (.eq (ZjF (a:=i+1) (Zu (d:=.int ((0+i:Nat):Int)) (e:=.int 1) (c:=.int ((i+1:Nat):Int)) rfl rfl (by simp[Y5])) (Yi (Zh rfl rfl) h.len) (by omega) (by omega)) ⟨⟨rfl,o3,by simp⟩,λj d ρ s' hd hJ=>?_,fun ρ' s' hJ=>?_⟩))
  ·obtain⟨rfl,o3,rfl⟩:=hJ
   obtain⟨hj,rfl⟩:=ZbJ hd;refine⟨_,rfl,?_⟩;refine Ok.seq (.sapp (ds:=(W3 ds.length i).map (W5 ds)++(qk j).map λk=>W5 ds (i,i+1+k)) rfl (by simp only[qJ,qd,qG];exact Zm9 _ _ _ hn hi (by omega)) (.eq (Wc (Zh (Zu (d:=row) (e:=.int ((0+i:Nat):Int)) rfl rfl (by rw[qak];exact h.ix hi)) (Zh (Zu (d:=row) (e:=.int ((i+1+j:Nat):Int)) rfl rfl (h.ix (by omega))) rfl)) two_le) ?_));refine Ok.next ⟨_,rfl,rfl,some (.int ((i+1+j:Nat):Int)),?_⟩;rw[qa7,zK,<-yO];rfl
  ·obtain⟨rfl,o3',rfl⟩:=hJ
   refine Ok.next ⟨_,rfl,rfl,some (.int ((0+i:Nat):Int)),o3',?_⟩;rw[ZeH,zK,qE,Xm];rfl
 ·obtain⟨rfl,o2,o3,rfl⟩:=hI
  refine Ok.seq (.sret (.eq rfl ⟨?_,rfl⟩));rw[Xm];rfl
def Wi (p:Nat×Nat):List Zt:=[.inl (p.1:Int),.inl (p.2:Int)]
def Zlg {p q:Nat×Nat}(h:Wi p=Wi q):p=q:=by
 simp only[Wi,List.cons.injEq,zb.injEq,and_true]at h;obtain⟨a,b⟩:=p;obtain⟨c,d⟩:=q;simp only at h;have h1:a=c:=by omega
 have h2:b=d:=by omega
 rw[h1,h2]
def ZZ (jP:List (List Zt×V))(jK:Qa):List (List Zt×V):=jK.foldl (λjP p=>Z9 jP (Wi p) (.bl true)) jP
def Zna (p:Nat×Nat):ZiA (.tup [Zp p,.bl true])=some (Wi p,.bl true):=rfl
def Zch:∀(jK:Qa) (jP:List (List Zt×V)),WE jP (jK.map λp=>D.tup [Zp p,.bl true])=some (ZZ jP jK)
 | [],jP=>rfl
 | t::ts,jP=>by
  rw[zh];unfold WE;rw[Zna];exact Zch ts _
def Zgf (p:Nat×Nat):∀(jK:Qa) (jP:List (List Zt×V)),(ZY (ZZ jP jK) (Wi p)).isSome=(decide (p∈jK)||(ZY jP (Wi p)).isSome)
 | [],jP=>by simp[ZZ]
 | t::ts,jP=>by
  have ih:=Zgf p ts (Z9 jP (Wi t) (.bl true));have e:ZZ jP (t::ts)=ZZ (Z9 jP (Wi t) (.bl true)) ts:=rfl;rw[e,ih,Zc8];by_cases h:p=t
  ·subst h;simp
  ·have hk:¬Wi p=Wi t:=λz=>h (Zlg z)
   rw[if_neg hk];simp[h]
def Zbp (n:Nat)(jK:Qa)(s:Pn)(hl:jK.length<=100000):Vi [ZH n jK] s=some (.dt (ZZ [] jK),s):=by
 have hc:ZR [none] (WN (Ze Zl (Za 0) (dC (.int 1)))) (Zw 0) Z3 (ZW (Zc (Za 0) (Zc (dC (.bl true)) Zd))) [some (ZH n jK)] s=some (.lst ((jK.map Zp).map λd=>D.tup [d,.bl true]),s):=by
  have q:=YU (src:=[none]) (fi:=WN (Ze Zl (Za 0) (dC (.int 1)))) (τ:=Zw 0) (ft:=Z3) (fe:=ZW (Zc (Za 0) (Zc (dC (.bl true)) Zd))) (ρ:=[some (ZH n jK)]) (s:=s) (ds:=jK.map Zp) (λd=>[some d]) (λ_=>true) (λd=>D.tup [d,.bl true])
   (by unfold WN Zq;rw[Zu (d:=ZH n jK) (e:=.int 1) (c:=.tup (jK.map Zp)) rfl rfl (by unfold ZH;exact JQ _ _ _)];rfl) (by rw[qd,Yd];omega)
   (λd hd=>⟨rfl,rfl,λ_=>Wc (Zh rfl (Zh rfl rfl)) two_le⟩)
  have q2:(jK.map Zp).filter (λ_=>true)=jK.map Zp:=yG.mpr (by simp);rw[q,q2]
 refine YS rfl (Ye (YO (Yi (Zh hc rfl) ?_)));rw[qE];show(if ((jK.map ((λd=>D.tup [d,.bl true])∘Zp)).length<=xg)then (WE [] _).map D.dt else none)=_;rw[if_pos (by rw[qd,Yd];omega)];have e:=Zch jK [];show(WE [] (jK.map λp=>D.tup [Zp p,.bl true])).map D.dt=_;rw[e];rfl
def Zgg {n i:Nat}{p:Nat×Nat}(h:p∈W3 n i):p.1<i/\p.1<p.2/\p.2<n:=by
 unfold W3 at h;obtain⟨a,ha,h⟩:=List.mem_flatMap.mp h;obtain⟨k,hk,rfl⟩:=qu.mp h;simp at ha hk;exact⟨ha,by simp;omega,by simp;omega⟩
def ZjG {n:Nat}{p:Nat×Nat}(h:p∈Xk n):W5 (Yb 0 n) p=Zp p:=by
 obtain⟨h1,h2,h3⟩:=Zgg h;have g:∀i,i<n->(Yb 0 n).getD i .non=.int (i:Int):=λi hi=>by
  rw[VN];simp[qbh,hi]
 unfold W5 Zp;rw[g _ h1,g _ h3]
def Zgh {n:Nat}(s:Pn)(hn:n<=1000):V5 [.lst (Yb 0 n)] s=some (.lst ((Xk n).map Zp),s):=by
 rw[Zcw _ _ (.inl rfl) (by rw[Xm];exact hn) s,Xm];congr 3;exact zt λp hp=>ZjG hp
def ZaS {f:Zb->M D}{ρ:Zb}{s:Pn}{n:Nat}(h:f ρ s=some (.int n,s))(hn:n<=1000):Vj f ρ s=some (.lst (Yb 0 n),s):=by
 unfold Vj Zq;rw[h];show(if -(2 ^ 62)<=(n:Int)/\(n:Int)<=2 ^ 24 then ZA (D.lst (Yb 0 (n:Int).toNat))else Zv) s=_;rw[if_pos (by omega)];rfl
def Zgi (n:Nat)(hn:n<=1000):(Xk n).length<=1000000:=by
 have h1:=ZbP n n;have h2:n*n<=1000*1000:=qb2 hn hn;unfold Xk;omega
def Zfn (l:Qa)(b:D->Bool)(q:Nat×Nat->Bool)(h:∀p,b (Zp p)=q p):((l.map Zp).filter b).map (λd=>d)=(l.filter q).map Zp:=by
 rw[yp,qbE];congr 1;exact yP λp _=>h p
def Y0:D->Nat×Nat
 | .tup [a,b]=>(Yo a,Yo b)
 | _=>(0,0)
def VJ (p:Nat×Nat):Y0 (Zp p)=p:=rfl
end TP
namespace TF
open L2
def Ok.runB {n k:Nat}{g:Zb->M Out}{ds:List D}{s:Pn}{Q:D->Pn->Prop}(hl:ds.length=k)(h:Ok (g (ds.map some++qw (n-k) none)) s λo s'=>match o with | .rt d=>Q d s' | .nx _=>Q .non s' | _=>False):Ok (runB n k g ds) s Q:=by
 unfold TF.runB;rw[if_pos hl];refine .bind (h.mono λo s' q=>?_)
 cases o with
 | rt d=>exact .ret q
 | nx ρ=>exact .ret q
 | bk ρ=>exact q.elim
 | ct ρ=>exact q.elim
def Ok.bor {f g:Zb->M Bool}{ρ:Zb}{s:Pn}{Q:Bool->Pn->Prop}(h:Ok (f ρ) s λb s1=>if b=true then Q true s1 else Ok (g ρ) s1 Q):Ok (VF f g ρ) s Q:=by
 refine .bind (h.mono λb s1 q=>?_)
 cases b with
 | true=>exact .ret (by simpa using q)
 | false=>simpa using q
def Ok.fn {F:List D->M D}{fs:Zb->M (List D)}{ρ:Zb}{s s1:Pn}{ds:List D}{Q:D->Pn->Prop}(h1:fs ρ s=some (ds,s1))(h:Ok (F ds) s1 Q):Ok (Zn F fs ρ) s Q:=by
 obtain⟨a,s',e,q⟩:=h;exact⟨a,s',Z0 h1 e,q⟩
def Ok.op {g:D->D->Option D}{f f2:Zb->M D}{ρ:Zb}{s:Pn}{Q:D->Pn->Prop}(h:Ok (f ρ) s λd s1=>Ok (f2 ρ) s1 λe s2=>∃c,g d e=some c/\Q c s2):Ok (Ze g f f2 ρ) s Q:=
 .bind (h.mono λd s1 q=>.bind (q.mono λe s2 q=>let ⟨c,e1,q⟩:=q;.of e1 q))
def Ok.asB {f:Zb->M D}{ρ:Zb}{s:Pn}{Q:Bool->Pn->Prop}(h:Ok (f ρ) s λd s1=>∃b,d=.bl b/\Q b s1):Ok (asB f ρ) s Q:=
 .bind (h.mono λd s1 q=>by obtain⟨b,rfl,q⟩:=q;exact .ret q)
def Ok.bnot {f:Zb->M Bool}{ρ:Zb}{s:Pn}{Q:Bool->Pn->Prop}(h:Ok (f ρ) s λb s1=>Q (!b) s1):Ok (Wu f ρ) s Q:=.bind (h.mono λ_ _ q=>.ret q)
end TF
namespace TP
open L2 TF
def WX {n:Nat}{p:Nat×Nat}:p∈Xk n↔p.1<p.2/\p.2<n:=by
 constructor
 ·intro h;exact(Zgg h).2
 ·intro ⟨h1,h2⟩
  unfold Xk W3;refine List.mem_flatMap.mpr ⟨p.1,by simp;omega,qu.mpr ⟨p.2-(p.1+1),by simp;omega,?_⟩⟩;obtain⟨a,b⟩:=p;simp only at h1 h2⊢;rw[show a+1+(b-(a+1))=b by omega]
def Uq {n i:Nat}{d:D}(h:(Yb 0 n)[i]?=some d):i<n/\d=.int (i:Int):=by
 have:=ZbJ (lo:=0) h;rw[qak]at this;exact this
def IsWeb (n:Nat)(jK:Qa):Prop:=jK.Sublist (Xk n)
def IsWeb.mem {n:Nat}{jK:Qa}(h:IsWeb n jK){p:Nat×Nat}(hp:p∈jK):p.1<p.2/\p.2<n:=WX.mp (h.subset hp)
def IsWeb.len {n:Nat}{jK:Qa}(h:IsWeb n jK)(hn:n<=24):jK.length<=576:=by
 have h1:=h.length_le;have h2:=ZbP n n;have h3:n*n<=24*24:=qb2 hn hn;unfold Xk at h1;omega
def IsWeb.filter {n:Nat}(f:Nat×Nat->Bool):IsWeb n ((Xk n).filter f):=zD
def Jx {jK:Qa}{a b:Nat}(h:a<b):tied jK a b=decide ((a,b)∈jK):=by
 unfold tied;rw[show min a b=a by omega,show max a b=b by omega]
def Us (jK:Qa)(a b:Nat):tied jK a b=tied jK b a:=by
 unfold tied;rw[show min a b=min b a by omega,show max a b=max b a by omega]
def ZiH (n:Nat)(jK:Qa):Yl (ZH n jK)<=3:=by
 have:=Zdo jK;simp only[ZH,Yl,Xx];omega
def Uk {n:Nat}{jK:Qa}:Zl (ZH n jK) (.int 0)=some (.int n):=by unfold ZH;exact Ug _ _
def web1 {n:Nat}{jK:Qa}:Zl (ZH n jK) (.int 1)=some (.tup (jK.map Zp)):=by unfold ZH;exact JQ _ _ _
end TP
namespace HT
section
variable {prog:xE}{w:World}{A:xF}{E:xG}{s:Shared}
end
end HT
namespace TF
open L2
section
variable {X:Cx}{G:Gh}
def sUnp (τ:D->Zb->Option Zb)(f:Zb->M D):Zb->M Out:=fun ρ=>Zq (f ρ) λd=>match τ d ρ with | some ρ'=>ZA (.nx ρ') | none=>Zv
def Znb {ob own:List Nat}{fr r1:Bool}{tg e:Expr}{pos:Pos}{τ:D->Zb->Option Zb}{f:Zb->M D}(he:PD X G r1 e f)(hg:Vh X G tg (λi=>i∉own) τ)(hs:swapsWithSole [tg] e pos.line X.env=pure false:=by rfl)(hw:swappedStores [tg] e X.env=pure none:=by rfl)
  (h1:(assignEach [tg] X.env).map (·.2)=[assign tg X.env]:=by rfl):YE X G ob own own fr (.Assign [tg] e pos) (sUnp τ (fun ρ=>f (Yq own ρ))):=by
 obtain⟨t,p,q⟩:=he;obtain⟨g,pg,qg⟩:=hg;have hy:XR G r1 t f:=q;refine⟨_,ZkG p pg hs hw h1,λkn jR H0 σ H ρ s out s' E ⟨Hf,j⟩ st e po=>?_⟩;obtain⟨d,s1,a1,a2⟩:=ZC e;refine hy.a kn jR H0 σ Hf H ρ s d s1 _ j st a1 λv Hf' H' j' e1 e2 st' r fz=>?_
 cases eq:τ d ρ with
 | none=>rw[eq]at a2;cases a2
 | some ρ'=>
  rw[eq]at a2;obtain⟨rfl,rfl⟩:=ZO a2;exact qg v σ Hf' H' d ρ ρ' _ j'.gr.fh r eq fun σ' hs'=>po σ' H' ⟨Hf',hs'.jf j'⟩ st'
def Zlh {ob:List Nat}{fr r1:Bool}{tg e:Expr}{pos:Pos}{τ:D->Zb->Option Zb}{f:Zb->M D}(he:PD X G r1 e f)(hg:Vh X G tg (λi=>i∉([]:List Nat)) τ)(hs:swapsWithSole [tg] e pos.line X.env=pure false:=by rfl)(hw:swappedStores [tg] e X.env=pure none:=by rfl)
  (h1:(assignEach [tg] X.env).map (·.2)=[assign tg X.env]:=by rfl):YE X G ob [] [] fr (.Assign [tg] e pos) (sUnp τ f):=by
 have h:=Znb (ob:=ob) (fr:=fr) he hg hs hw h1;have e:(fun ρ=>f (Yq [] ρ))=f:=by funext ρ;rw[Zdd]
 rw[e]at h;exact h
def ZD.none {P:xE}{w:World}{K:ql}{mg:Str->Option Value}{base:Heap}{k:Nat}{x:Str}{n:Nat}{fr:Bool}{GG:Gh->Prop}{f:Addr}{fd:xD}{ps:List Str}(hm:mg x=some (.ref f))(hk:ym K (.ref f)=true)(hb:Wr K fd ps []) :
  ZD P w K mg base k x n fr GG (λ_=>Zv):=by
 refine⟨f,fd,ps,⟨λvs H Q E h=>?_,λA outer s H args us vs Q E _ _ _ _ h=>?_⟩,hm,hk,hb⟩
 ·obtain⟨G,Hf,ds,s,d,s',_,_,_,_,_,h,_⟩:=h
  cases h
 ·obtain⟨G,Hf,ds,s,d,s',_,_,_,_,_,h,_⟩:=h
  cases h
end
open PySem.SeqAt
open AutoSeq1 (wpAny_loadPart')
def ZhD (l:Addr)(items:Array Value)(n:Nat)(dd:Option Addr)(sl:Array (Option Value))(x:Int)(u:Tok)(hc0:¬((x < -(2 ^ 63):Bool)||(x≥2 ^ 63:Bool))=true)(hc1:¬(items.isEmpty||x==1)=true)(hc2:¬((x<=0:Bool)||items.isEmpty)=true)
  (hc3:¬((items.size:Int)*x > (2 ^ 63-1) / 8)) (hc4:¬qbq ((items.size:Int)*x)=true) (hsz:(qa5 (λx1 x2=>x1++x2) #[] (qw x.toNat items)).size<=xg) :
  Meets (Builtin.«tuple.__mul__» ⟨[.ref l,.int x u],[]⟩) (λ_ R s=>s.heap.get? l=some { cls:=.type "tuple",dict:=dd,data:=.seq items n,slots:=sl }/\R (.ok (.ret (qQ s.heap.objs.size))) { s with heap:=s.heap.push { cls:=yf "tuple",data:=Data.seq (qa5 (λx1 x2=>x1++x2) #[] (qw x.toNat items)) },toks:=s.toks }):=
 .of_wp λprog w A R s h=>by
  obtain⟨hp,g,d,tk,os⟩:=s;obtain⟨hl,h⟩:=h;have f1:=qbF;have f2:=yV;have f3:=qaT;have f4:=qaF;have f5:=qaG;wp_walk using wpAny_loadPart' hl;rw[if_neg hc0];wp_walk using wpAny_loadPart' hl;rw[if_neg hc3];wp_walk using wpAny_loadPart' hl
  try (refine wpAny_ite_false (decide_eq_false (Nat.not_lt.mpr hsz)) ?_;wp_walk)
  exact⟨_,rfl,h⟩
def Zag:fillsNumberSlot (.type "tuple") "mul" = pure false:=
 PySem.fillsNumberSlot_seq (id:="tuple.__mul__") (r:=some (.builtin "tuple.__rmul__")) yK.lookup (by decide +kernel) qbM.lookup (by decide +kernel)
def ZaT:seqRepeat? (.type "tuple")=pure (some (.builtin "tuple.__mul__")):=by
 unfold seqRepeat?;rw[PySem.seqSlot_of (T:="tuple") (name:="__mul__") (id:="tuple.__mul__") yK.lookup (by decide +kernel),PySem.seqSlot_of (T:="tuple") (name:="__rmul__") (id:="tuple.__rmul__") qbM.lookup (by decide +kernel)];rfl
def Zaw (a:Int)(t:Tok)(l:Addr)(items:Array Value)(n:Nat)(dd:Option Addr)(sl:Array (Option Value)) :
  Meets (Builtin.«int.__rmul__» ⟨[.int a t,.ref l],[]⟩) (λ_ R s=>s.heap.get? l=some { cls:=.type "tuple",dict:=dd,data:=.seq items n,slots:=sl }/\R (.ok (.ret qcf)) s):=
 .of_wp λprog w A R s h=>by obtain⟨hp,g,d,tk,os⟩:=s;obtain⟨hl,h⟩:=h;wp_walk;exact⟨_,rfl,h⟩
section
variable {X:Cx}{G:Gh}
def ZpS (K:ql):R2:=λx y H Q=>∃l k xs,x=.ref l/\y=.int k/\ZS K H l xs/\xs≠[]/\2<=k/\k<2 ^ 62/\xs.length*k.toNat<=xg/\
 ∀p,H p=none->Q (.ref p) (Zi H p (.tup (qw k.toNat xs).flatten))
def Znc:Yp X (binaryOp .Mult) (ZpS X.K):=by
 intro jJ s σ H x y v u Q I rx ry h;obtain⟨l,k,xs,rfl,rfl,hH,hne,h1,h2,hz,q⟩:=h
 cases rx
 obtain⟨t,rfl⟩:=ry;obtain⟨jL,r,p1,_⟩:=I.tuple hH;obtain⟨⟨cls,dd,data,sl⟩,ho,hc,n,hd⟩:=id p1;simp only at hc hd;subst hc hd;have hl:=r.length;have hsz:jL.toArray.size=xs.length:=by rw[qy];exact hl.symm
 have hne':jL≠[]:=λz=>hne (r.nil_iff.mp z);have hemp:jL.toArray.isEmpty=false:=by cases jL with | nil=>exact absurd rfl hne' | cons a b=>rfl
 have e0:((k.toNat:Nat):Int)=k:=by omega
 have hcap:((jL.toArray.size:Int)*k)=((xs.length*k.toNat:Nat):Int):=by rw[hsz,Int.natCast_mul,e0]
 have sl2:(xg:Nat)=16777216:=sizeLine_eq;have hnew:qa5 (λx1 x2=>x1++x2) #[] (qw k.toNat jL.toArray)=(qw k.toNat jL).flatten.toArray:=by
  have:=Zcd jL k.toNat [];rw[qbR]at this;exact this
 have hfl:(qw k.toNat jL).flatten.length<=xg:=by rw[Zff,qcs,<-hl];exact hz
 refine wpAny_binaryOp_repeat_ref (T:="tuple") (U:="int") (by decide) ⟨_,ho,rfl⟩ (λs'=>typeIs_int s' k t) Zag qa6 yB ZaT qaY.lookup
  (call_meets yB (typeIs_int s k t) qaZ (qaK _ _) (Zaw k t l jL.toArray n dd sl)
   ⟨ho,rfl,⟨_,ho,rfl⟩,call_meets yK ⟨_,ho,rfl⟩ qaH (qay _ _) (ZhD l jL.toArray n dd sl k t ?_ ?_ ?_ ?_ ?_ ?_) ⟨ho,?_⟩⟩)
 ·simp;omega
 ·rw[hemp];simp;omega
 ·rw[hemp];simp;omega
 ·rw[hcap];omega
 ·unfold qbq
  rw[hcap,decide_eq_true_eq];omega
 ·rw[hnew,qy];exact hfl
 ·rw[hnew]
  exact⟨.ref s.heap.objs.size,_,I.laid (t':=s.toks) (o:=.tup (qw k.toNat xs).flatten) (λb ob q=>qh _ q) (qq _) ⟨by rw[Zff,qcs];exact hz,_,r.rep k.toNat,qcr _ _⟩,rfl,q _ (I.hok.fresh (qq _))⟩
def Zk.rep {Hf:Hp}{ds:List D}{vs:List V}(r:Zk G Hf ds vs):∀k:Nat,Zk G Hf (qw k ds).flatten (qw k vs).flatten
 | 0=>Zk.nil_iff.mpr rfl
 | k+1=>by
  rw[ye,ye,yN,yN];exact r.append (Zk.rep r k)
def JR:D->D->Option D
 | .int i,.int j=>if Zk1 i j=true then some (.int (i*j))else none
 | .tup ds,.int k=>if ds≠[]/\2<=k/\k<2 ^ 62/\ds.length*k.toNat<=xg then some (.tup (qw k.toNat ds).flatten)else none
 | .lst ds,.int k=>if -(2 ^ 63)<=k/\k<2 ^ 63/\ds.length*k.toNat<=xg then some (.lst (qw k.toNat ds).flatten)else none
 | _,_=>none
def Zli:XE X G (binaryOp .Mult) JR:=by
 obtain⟨r0,po,qo⟩:=Ziw (X:=X) (G:=G);refine⟨_,po.or (Znc.or ZoX),λHf H s x y d e c Q e1 st rx ry q k=>?_⟩
 match d,e,q,rx,ry with
 | .int i,.int j,q,rx,ry=>exact .inl (qo Hf H s x y _ _ c Q e1 st rx ry q k)
 | .tup ds,.int j,q,rx,ry=>
  have q:(if ds≠[]/\2<=j/\j<2 ^ 62/\ds.length*j.toNat<=xg then some (D.tup (qw j.toNat ds).flatten)else none)=some c:=q;split at q
  ·rename_i hz
   cases q
   obtain⟨p,vs,rfl,np,hp,rp⟩:=jc.mp rx;refine .inr (.inl ⟨p,j,vs,rfl,ja.mp ry,ZS.of (e1 _ _ np hp),λz=>hz.1 (zB.mp (by rw[rp.length,z];rfl)),hz.2.1,hz.2.2.1,by rw[<-rp.length];exact hz.2.2.2,λl hl=>?_⟩);have nf:=Gh.nofp st hl;have g2:=Gr.new (o:=.tup (qw j.toNat vs).flatten) e1 hl nf;exact k (.ref l) _ _ g2 (Gh.grow st hl) (jc.mpr ⟨l,_,rfl,nf,ZI,(rp.rep _).ext g2.ff⟩) (.scal λz=>z)
  ·cases q
 | .lst ds,.int j,q,rx,ry=>
  have q:(if -(2 ^ 63)<=j/\j<2 ^ 63/\ds.length*j.toNat<=xg then some (D.lst (qw j.toNat ds).flatten)else none)=some c:=q;split at q
  ·rename_i hz
   cases q
   obtain⟨p,vs,rfl,np,hp,rp⟩:=jb.mp rx;refine .inr (.inr ⟨p,j,vs,rfl,ja.mp ry,e1 _ _ np hp,hz.1,hz.2.1,by rw[<-rp.length];exact hz.2.2,λl hl=>?_⟩);have nf:=Gh.nofp st hl;have g2:=Gr.new (o:=.lst (qw j.toNat vs).flatten) e1 hl nf;exact k (.ref l) _ _ g2 (Gh.grow st hl) (jb.mpr ⟨l,_,rfl,nf,ZI,(rp.rep _).ext g2.ff⟩) (YC.mk e1 hl nf (rp.rep _))
  ·cases q
end
end TF
namespace TF
open L2
section
variable {X:Cx}{G:Gh}
def Zpb {i:Int}{j p pos}:PD X G true (.UnaryOp .USub (.Constant (.int i) j p) pos) (dC (.int (-i))):=by
 refine⟨_,ZnZ ZkL Y8,fun σ Hf H ρ s d s' Q e1 e2 e3 e4 k=>?_⟩;obtain⟨rfl,rfl⟩:=ZO e4;exact⟨i,rfl,k _ Hf H (.refl e1) e3 (ja.mpr rfl) λ_=>.scal λz=>z⟩
end
section
variable {f g:Zb->M D}{ρ:Zb}{s s1:Pn}{a b:Bool}{r:Option (D×Pn)}
def ZhE (h:f ρ s=some (.bl true,s1))(h2:g ρ s1=r):WH f g ρ s=r:=by unfold WH Zq;rw[h];exact h2
def ZhF (h:f ρ s=some (.bl false,s1)):WH f g ρ s=some (.bl false,s1):=by unfold WH Zq;rw[h];rfl
def ZiI (h:f ρ s=some (.bl a,s))(h2:a=true->g ρ s=some (.bl b,s)):WH f g ρ s=some (.bl (a&&b),s):=by
 cases a with
 | false=>exact ZhF h
 | true=>rw[qaq];exact ZhE h (h2 rfl)
def ZiJ (h:f ρ s=some (.bl a,s1)):JV f ρ s=some (.bl (!a),s1):=by unfold JV Zq;rw[h];rfl
end
section
variable {f g:Zb->M Bool}{ρ:Zb}{s s1:Pn}{a b:Bool}{r:Option (Bool×Pn)}
def Zpc (h:f ρ s=some (false,s1)):XX f g ρ s=some (false,s1):=by unfold XX Zq;rw[h];rfl
def Zpd (h:f ρ s=some (true,s1))(h2:g ρ s1=r):XX f g ρ s=r:=by unfold XX Zq;rw[h];exact h2
def ZpT (h:f ρ s=some (true,s1)):VF f g ρ s=some (true,s1):=by unfold VF Zq;rw[h];rfl
def Zob (h:f ρ s=some (false,s1))(h2:g ρ s1=r):VF f g ρ s=r:=by unfold VF Zq;rw[h];exact h2
def ZcV (h:f ρ s=some (a,s))(h2:a=true->g ρ s=some (b,s)):XX f g ρ s=some (a&&b,s):=by
 cases a with
 | false=>exact Zpc h
 | true=>rw[qaq];exact Zpd h (h2 rfl)
end
section
variable {c:Zb->M Bool}{g1 g2:Zb->M Out}{ρ:Zb}{s s1:Pn}{r:Option (Out×Pn)}
def Vt (h:c ρ s=some (true,s1))(h2:g1 ρ s1=r):YF c g1 g2 ρ s=r:=by unfold YF Zq;rw[h];exact h2
def VS (h:c ρ s=some (false,s1))(h2:g2 ρ s1=r):YF c g1 g2 ρ s=r:=by unfold YF Zq;rw[h];exact h2
end
section
variable {fa fb:Zb->M D}{f:D->Zb->M Bool}{g:D->D->Option D}{ρ:Zb}{s s1 s2:Pn}{d e:D}{k:Bool}{r:Option (Bool×Pn)}
end
def eqi (a b:Int):Xc (.int a) (.int b)=some (.bl (a==b)):=by
 unfold Xc;rw[if_pos (by simp[Vf,Zs,Yl])];simp[ZM]
def nei (a b:Int):Xj (.int a) (.int b)=some (.bl (!(a==b))):=by
 unfold Xj;rw[if_pos (by simp[Vf,Zs,Yl])];simp[ZM]
def Znd {ds:List D}{r:Nat}(h:r<ds.length):∃d∈ds,Zl (.lst ds) (.int (r:Int))=some d:=
 ⟨ds[r],zE h,X8 (qj h)⟩
def ZbQ {τ:D->Zb->Option Zb}{body:Zb->M Out}{d:D}{ds:List D}{ρ ρ1 ρ2:Zb}{s s1:Pn}{r:Option (Out×Pn)}(h:τ d ρ=some ρ1)(hb:body ρ1 s=some (.nx ρ2,s1))(h2:WQ τ body ds ρ2 s1=r):WQ τ body (d::ds) ρ s=r:=by
 unfold WQ Zq YQ;simp only[h,hb];exact h2
def Zfo {τ:D->Zb->Option Zb}{body:Zb->M Out}{d e:D}{ds:List D}{ρ ρ1:Zb}{s s1:Pn}(h:τ d ρ=some ρ1)(hb:body ρ1 s=some (.rt e,s1)):WQ τ body (d::ds) ρ s=some (.rt e,s1):=by
 unfold WQ Zq YQ;simp only[h,hb];rfl
def ZcW {fi:Zb->M (List D)}{τ:D->Zb->Option Zb}{body:Zb->M Out}{ds:List D}{ρ:Zb}{s s1:Pn}{r:Option (Out×Pn)}(h:fi ρ s=some (ds,s1))(h2:WQ τ body ds ρ s1=r):YZ fi τ body ρ s=r:=by
 unfold YZ Zq;rw[h];exact h2
def Zfp {f:Zb->M D}{ρ:Zb}{s s1:Pn}{ds:List D}(h:f ρ s=some (.tup ds,s1)):WN f ρ s=some (ds,s1):=by unfold WN Zq;rw[h];rfl
def XH {f:Zb->M D}{ρ:Zb}{s s1:Pn}{ds:List D}(h:f ρ s=some (.lst ds,s1)):ZV f ρ s=some (ds,s1):=by unfold ZV Zq;rw[h];rfl
end TF
namespace TP
open L2 TF
def VT:D->Bool
 | .non=>true | .bl _=>true | .int _=>true | .str _=>true | .tup _=>true | .lst _=>true | _=>false
def tupB:D->Bool | .tup _=>true | _=>false
def intB:D->Bool | .int _=>true | .bl _=>true | _=>false
def Zoc:D->Bool | .bl _=>true | _=>false
def Zlj:D->Bool | .int _=>true | _=>false
def ZjH {d:D}(h:VT d=true):Uj [d,.ty "tuple"]=some (.bl (tupB d)):=by
 cases d <;> first | rfl | cases h
def Zne {d:D}(h:VT d=true):Uj [d,.ty "int"]=some (.bl (intB d)):=by
 cases d <;> first | rfl | cases h
def Zlk {d:D}(h:VT d=true):Uj [d,.ty "bool"]=some (.bl (Zoc d)):=by
 cases d <;> first | rfl | cases h
def Zgj {d:D}(h:VT d=true)(s:Pn):Bl [d] s=some (.bl (Zlj d),s):=by
 refine YS rfl (Ye (YO ?_));have e:Zlj d=((intB d) && !(Zoc d)):=by cases d <;> rfl
 rw[e];exact ZiI (Yi (Zh rfl (Zh rfl rfl)) (Zne h)) λ_=>ZiJ (Yi (Zh rfl (Zh rfl rfl)) (Zlk h))
def WC (n:Int):D->Bool | .int i=>decide (0<=i)&&decide (i<n) | _=>false
def ZjI {n:Int}{d:D}(h:WC n d=true):∃i,d=.int i:=by
 cases d <;> first | exact⟨_,rfl⟩ | cases h
def Zcx {d:D}(h:VT d=true)(n:Int)(s:Pn):V6 [.int n,d] s=some (.bl (WC n d),s):=by
 refine YS rfl (Ye (YO ?_));have hw:=Z0 (ρ:=[some (D.int n),some d]) (F:=Bl) (fs:=Zc (Za 1) Zd) (s:=s) (Zh rfl rfl) (Zgj h s)
 cases d with
 | int i=>exact ZhE hw (ZiI (Zu (d:=.int 0) (e:=.int i) rfl rfl rfl) λ_=>Zu (d:=.int i) (e:=.int n) rfl rfl rfl)
 | pen=>cases h
 | ty _=>cases h
 | clo _ _=>cases h
 | dk _=>cases h
 | dt _=>cases h
 | _=>exact ZhF hw
def WV {α:Type}(l:List α):l.filter (λ_=>true)=l:=yG.mpr (by simp)
def p2:D->Int×Int | .tup [.int a,.int b]=>(a,b) | _=>(0,0)
end TP
namespace TF
open L2
section
variable {f:Zb->M D}{fs:Zb->M (List D)}{ρ:Zb}{s:Pn}
def Ok.sunp {τ:D->Zb->Option Zb}{Q:Out->Pn->Prop}(h:Ok (f ρ) s λd s1=>∃ρ',τ d ρ=some ρ'/\Q (.nx ρ') s1):Ok (sUnp τ f ρ) s Q:=
 .bind (h.mono λd s1 q=>by obtain⟨ρ',e,q⟩:=q;rw[e];exact .ret q)
def Ok.range1 {Q:List D->Pn->Prop}(h:Ok (f ρ) s λd s1=>∃n:Nat,d=.int (n:Int)/\n<=100000/\Q (Yb 0 n) s1):Ok (Z8 f ρ) s Q:=
 .bind (h.mono λd s1 q=>by
  obtain⟨n,rfl,hn,q⟩:=q;exact .ite (TP.small_int n hn) (.ret (by simpa using q)))
end
def Znf {f:Zb->M D}{ρ:Zb}{s:Pn}{x:D}(h1:f ρ s=some (x,s)):ZW (Zc f Zd) ρ s=some (.tup [x],s):=Wc (Zh h1 rfl) (by show 1<=xg;decide)
def Zfq {f g:Zb->M D}{ρ:Zb}{s:Pn}{x y:D}(h1:f ρ s=some (x,s))(h2:g ρ s=some (y,s)):ZW (Zc f (Zc g Zd)) ρ s=some (.tup [x,y],s):=Wc (Zh h1 (Zh h2 rfl)) TP.two_le
def Xh (m t:Int)(wa:Addr):List (Zt×V):=[(.inr (qC "mixed"),.int m),(.inr (qC "turn"),.int t),(.inr (qC "wide"),.ref wa)]
def k_mt:¬((yI (qC "mixed"):Zt)=yI (qC "turn")):=by decide
def k_mw:¬((yI (qC "mixed"):Zt)=yI (qC "wide")):=by decide
def k_tw:¬((yI (qC "turn"):Zt)=yI (qC "wide")):=by decide
def ZpU (m t:Int)(wa:Addr):ZY (Xh m t wa) (.inr (qC "mixed"))=some (.int m):=X5 rfl
def ZpV (m t:Int)(wa:Addr):ZY (Xh m t wa) (.inr (qC "turn"))=some (.int t):=(X6 k_mt).trans (X5 rfl)
def ZpW (m t:Int)(wa:Addr):ZY (Xh m t wa) (.inr (qC "wide"))=some (.ref wa):=(X6 k_mw).trans ((X6 k_tw).trans (X5 rfl))
def Zng (m t t':Int)(wa:Addr):Z9 (Xh m t wa) (.inr (qC "turn")) (.int t')=Xh m t' wa:=by
 have h2:¬((yI (qC "wide"):Zt)=yI (qC "turn")):=λz=>k_tw z.symm;unfold Z9 Xh;rw[if_pos (by simp)];have h3:¬(qC "mixed" = qC "turn"):=by decide
 have h4:¬(qC "wide" = qC "turn"):=by decide
 simp[h3,h4]
def B7 (p wa:Addr)(s:Pn)(H:Hp):Prop:=∃m t,s.1=[m,t]/\H p=some (.dK (Xh m t wa))/\H wa=some (.lst (s.2.map V.int))/\p≠wa
def Xl (p wa:Addr):Gh where
 fp:=λb=>b=p∨b=wa
 rd:=λb=>b=p∨b=wa
 pen:=.ref p
 st:=B7 p wa
 mono:=λs H H' ⟨m,t,e0,e1,e2,ne⟩ k _=>⟨m,t,e0,k p _ (.inl rfl) e1,k wa _ (.inr rfl) e2,ne⟩
 sub:=λb h=>h
 dom:=λs H b ⟨m,t,e0,e1,e2,ne⟩ hb=>by
  rcases hb with rfl | rfl
  ·exact⟨_,e1⟩
  ·exact⟨_,e2⟩
 ntp:=λs H b vs ⟨m,t,e0,e1,e2,ne⟩ hb z=>by
  rcases hb with r | r
  ·rw[r,e1]at z;cases z
  ·rw[r,e2]at z;cases z
def XO:Gh->Prop:=λG=>∃p wa,G=Xl p wa
def Zod (k:Int):List Int->List Int
 | c::r=>if c<k then r else c::r
 | []=>[]
def ZiK (m t:Int):Int:=
 let one:=(m+7919*t*t) % 2147483629
 let two:=(one*one+40692*t+3) % 998244353
 (two*two+one) % 2147483587 / 16
def VU (k m t:Int)(w:List Int):D×Pn:=match Zod k w with
 | c::r=>(.int (c % k),([m,t],(c / k)::r))
 | []=>(.int (ZiK m (t+1) % k),([m,t+1],[]))
def Yv:List D->M D:=λds s=>match ds,s with
 | [.pen,.int k],([m,t],w)=>if 0<k/\k<1073741824/\0<=t/\t<2 ^ 60 then some (VU k m t w)else none
 | _,_=>none
def Zdp {ds:List D}{s s':Pn}{d:D}(h:Yv ds s=some (d,s')):∃k m t w,ds=[.pen,.int k]/\s=([m,t],w)/\0<k/\k<1073741824/\0<=t/\t<2 ^ 60/\VU k m t w=(d,s'):=by
 unfold Yv at h;split at h
 ·split at h
  ·rename_i k m t w c
   exact⟨k,m,t,w,rfl,rfl,c.1,c.2.1,c.2.2.1,c.2.2.2,zo h⟩
  ·cases h
 ·cases h
def Xe (T:Nat)(s:Pn):Prop:=∃m t:Int,s.1=[m,t]/\0<=t/\t<=T
def Xe.mono {T T':Nat}{s:Pn}(h:Xe T s)(hT:T<=T'):Xe T' s:=by
 obtain⟨m,t,e,h1,h2⟩:=h;exact⟨m,t,e,h1,by omega⟩
def Zfr {T:Nat}{s:Pn}{k:Int}(ok:Xe T s)(hT:T<1000000000)(h1:0<k)(h2:k<1073741824):∃r s',Yv [.pen,.int k] s=some (.int r,s')/\0<=r/\r<k/\Xe (T+1) s':=by
 obtain⟨l,w⟩:=s;obtain⟨m,t,e,t0,tT⟩:=ok;simp only at e;subst e;have hd:Yv [.pen,.int k] ([m,t],w)=some (VU k m t w):=if_pos ⟨h1,h2,t0,by omega⟩;unfold VU at hd;split at hd
 ·exact⟨_,_,hd,qa8 _ (by omega),qaz _ h1,m,t,rfl,t0,by omega⟩
 ·exact⟨_,_,hd,qa8 _ (by omega),qaz _ h1,m,t+1,rfl,by omega,by omega⟩
def Ok.drawD {fs:Zb->M (List D)}{ρ:Zb}{s:Pn}{m T:Nat}{Q:D->Pn->Prop}(ok:Xe T s)(hT:T<1000000000)(h1:fs ρ s=some ([.pen,.int (m:Int)],s))(hm:0<m)(hm2:m<1073741824)(h:∀(r:Nat) s',r<m->Xe (T+1) s'->Q (.int (r:Int)) s'):Ok (Zn Yv fs ρ) s Q:=by
 obtain⟨r,s1,e,r0,r1,ok1⟩:=Zfr ok hT (show 0<(m:Int) by omega) (show(m:Int)<1073741824 by omega);obtain⟨n,rfl⟩:=qaI r0;exact .fn h1 (.eq e (h n s1 (by omega) ok1))
def Zll {X:Cx}{GG:Gh->Prop}{ob own own':List Nat}{fr:Bool}{sts:List Stmt}{g:Zb->M Out}(h:∀G,GG G->Wh X G ob own own' fr sts g):WJ X sts (λE σ H=>∃G,GG G/\Zoa G ob own own' fr g E σ H):=by
 intro jJ s σ H D I ⟨G,hG,kn,jR,H0,ρ,pn,out,pn',j,st,e,po⟩;obtain⟨t,p,q⟩:=h G hG;exact p jJ s σ H D I (q kn jR H0 σ H ρ pn out pn' D j st e po)
def Vp (ns:List Int):List Int:=ns.filter λc=>decide (10 ^ 15<=c)
def Zoe (K:ql):Sp:=λvs H Q _=>∃(a:Addr) (ns:List Int),vs=[.ref a]/\ZF K H a (ns.map V.int)/\ns.length<=63/\
 ∀(p wa:Addr) (m:Int) (H':Hp),B7 p wa ([m,0],Vp ns) H'->(∀b u,H b=some u->H' b=some u)->H p=none->H wa=none->Q (.ref p) H'
def tW:TE:=Zir (Z7 0) (tC (.str (qC "wide")))
def tTn:TE:=Zir (Z7 0) (tC (.str (qC "turn")))
def tMx:TE:=Zir (Z7 0) (tC (.str (qC "mixed")))
def Zof (K:ql):TE:=B4 (λxs H Q=>∃p ys,xs=[.ref p]/\(ZF K H p ys∨ZS K H p ys)/\Q (.int ys.length) H) (Y9 tW Xq)
def tW0 (K:ql):TE:=YK (rIxL K) tW (tC (.int 0))
def Zog:TS:=Vw (Zn7 (Z7 0) (tC (.str (qC "turn"))) (YK (XD λi j=>.int (i+j)) tTn (tC (.int 1))))
 (Vw (Uh (YK (rI (λ_ j=>0<j) λi j=>.int (i % j)) (YK (XD λi j=>.int (i+j)) tMx (YK (rI Ui λi j=>.int (i*j)) (YK (rI Ui λi j=>.int (i*j)) (tC (.int 7919)) tTn) tTn)) (tC (.int 2147483629))) (Wf 3))
 (Vw (Uh (YK (rI (λ_ j=>0<j) λi j=>.int (i % j)) (YK (XD λi j=>.int (i+j)) (YK (XD λi j=>.int (i+j)) (YK (rI Ui λi j=>.int (i*j)) (Z7 3) (Z7 3)) (YK (rI Ui λi j=>.int (i*j)) (tC (.int 40692)) tTn)) (tC (.int 3))) (tC (.int 998244353))) (Wf 4))
 (BX (YK (rI (λ_ j=>0<j) λi j=>.int (i % j)) (YK (rI CDiv λi j=>.int (i / j)) (YK (rI (λ_ j=>0<j) λi j=>.int (i % j)) (YK (XD λi j=>.int (i+j)) (YK (rI Ui λi j=>.int (i*j)) (Z7 4) (Z7 4)) (Z7 3)) (tC (.int 2147483587))) (tC (.int 16))) (Z7 1)))))
def Zlm (K : ql) : TS := Vw (tIfS (BP (YK (XD λi j => .bl (decide (j < i))) (Zof K) (tC (.int 0))))
    (Vw (Uh (YK (rI (λ_ j => 0 < j) λi j => .int (i % j)) (tW0 K) (Z7 1)) (Wf 2)) (Vw (Uh (YK (rI CDiv λi j => .int (i / j)) (tW0 K) (Z7 1)) (gSub tW (tC (.int 0)) Zn4)) (BX (Z7 2)))) ZkD) Zog
def Zln (K : ql) : TS := Vw (tIfS (tAnd (BP (YK (XD λi j => .bl (decide (j < i))) (Zof K) (tC (.int 0)))) (BP (YK (XD λi j => .bl (decide (i < j))) (tW0 K) (Z7 1))))
    (VQ (VE K "list" Zhh tW (Y9 (tC (.int 0)) Xq))) ZkD) (Zlm K)
def U7 {H:Hp}{p wa:Addr}{m t:Int}(h:H p=some (.dK (Xh m t wa))):Xw H p (.str (qC "wide")) (some (.ref wa)):=by have:=Xw.k (k:=.inr (qC "wide")) h;rwa[ZpW]at this
def dg_t {H:Hp}{p wa:Addr}{m t:Int}(h:H p=some (.dK (Xh m t wa))):Xw H p (.str (qC "turn")) (some (.int t)):=by have:=Xw.k (k:=.inr (qC "turn")) h;rwa[ZpV]at this
def dg_m {H:Hp}{p wa:Addr}{m t:Int}(h:H p=some (.dK (Xh m t wa))):Xw H p (.str (qC "mixed")) (some (.int m)):=by have:=Xw.k (k:=.inr (qC "mixed")) h;rwa[ZpU]at this
def dp_t {H:Hp}{p wa:Addr}{m t t':Int}(h:H p=some (.dK (Xh m t wa))):WG H p (.str (qC "turn")) (.int t') (Zi H p (.dK (Xh m t' wa))):=by
 have:=WG.k (k:=.inr (qC "turn")) (v:=.int t') h (by show 3<xg;decide)
 rwa[Zng]at this
def ZjJ {p wa:Addr}{m x t:Int}{Q:VK}{N:St->Hp->Prop}{H:Hp}{o2:Option V}(m0:0<m)(m1:m<1073741824)(t0:0<=t)(t1:t<2 ^ 60)(hp:H p=some (.dK (Xh x t wa)))
  (k:Q (.int (ZiK x (t+1) % m)) (Zi H p (.dK (Xh x (t+1) wa)))):Zog { nx:=N,rt:=Q } [some (.ref p),some (.int m),o2,none,none] H:=by
 have hp2:Zi H p (.dK (Xh x (t+1) wa)) p=some (.dK (Xh x (t+1) wa)):=ZI;generalize hT:t+1=T at hp2 k;have b1:∀z:Int,0<=z % 2147483629/\z % 2147483629<2147483629:=λz=>⟨qa8 _ (by decide),qaz _ (by decide)⟩;have b2:∀z:Int,0<=z % 998244353/\z % 998244353<998244353:=λz=>⟨qa8 _ (by decide),qaz _ (by decide)⟩;refine⟨.ref p,rfl,p,.int t,rfl,dg_t hp,t,1,rfl,rfl,.ref p,rfl,p,Zi H p (.dK (Xh x T wa)),rfl,by rw[<-hT];exact dp_t hp,?_⟩;refine⟨.ref p,rfl,p,.int x,rfl,dg_m hp2,.ref p,rfl,p,.int T,rfl,dg_t hp2,7919,T,rfl,rfl,.inl ⟨by decide,by decide⟩,.ref p,rfl,p,.int T,rfl,dg_t hp2,7919*T,T,rfl,rfl,.inr ⟨by omega,by omega⟩,x,7919*T*T,rfl,rfl,x+7919*T*T,2147483629,rfl,rfl,(by show(0:Int)<2147483629;decide),?_⟩;have h1:=b1 (x+7919*T*T);have h2:=b2 (((x+7919*T*T) % 2147483629)*((x+7919*T*T) % 2147483629)+40692*T+3);refine⟨.int ((x+7919*T*T) % 2147483629),rfl,.int ((x+7919*T*T) % 2147483629),rfl,((x+7919*T*T) % 2147483629),((x+7919*T*T) % 2147483629),rfl,rfl,.inl ⟨by omega,by omega⟩,.ref p,rfl,p,.int T,rfl,dg_t hp2,40692,T,rfl,rfl,.inl ⟨by decide,by decide⟩,((x+7919*T*T) % 2147483629)*((x+7919*T*T) % 2147483629),40692*T,rfl,rfl,((x+7919*T*T) % 2147483629)*((x+7919*T*T) % 2147483629)+40692*T,3,rfl,rfl,((x+7919*T*T) % 2147483629)*((x+7919*T*T) % 2147483629)+40692*T+3,998244353,rfl,rfl,(by show(0:Int)<998244353;decide),?_⟩;refine⟨.int ((((x+7919*T*T) % 2147483629)*((x+7919*T*T) % 2147483629)+40692*T+3) % 998244353),rfl,.int ((((x+7919*T*T) % 2147483629)*((x+7919*T*T) % 2147483629)+40692*T+3) % 998244353),rfl,((((x+7919*T*T) % 2147483629)*((x+7919*T*T) % 2147483629)+40692*T+3) % 998244353),((((x+7919*T*T) % 2147483629)*((x+7919*T*T) % 2147483629)+40692*T+3) % 998244353),rfl,rfl,.inl ⟨by omega,by omega⟩,.int ((x+7919*T*T) % 2147483629),rfl,((((x+7919*T*T) % 2147483629)*((x+7919*T*T) % 2147483629)+40692*T+3) % 998244353)*((((x+7919*T*T) % 2147483629)*((x+7919*T*T) % 2147483629)+40692*T+3) % 998244353),((x+7919*T*T) % 2147483629),rfl,rfl,((((x+7919*T*T) % 2147483629)*((x+7919*T*T) % 2147483629)+40692*T+3) % 998244353)*((((x+7919*T*T) % 2147483629)*((x+7919*T*T) % 2147483629)+40692*T+3) % 998244353)+((x+7919*T*T) % 2147483629),2147483587,rfl,rfl,(by show(0:Int)<2147483587;decide),(((((x+7919*T*T) % 2147483629)*((x+7919*T*T) % 2147483629)+40692*T+3) % 998244353)*((((x+7919*T*T) % 2147483629)*((x+7919*T*T) % 2147483629)+40692*T+3) % 998244353)+((x+7919*T*T) % 2147483629)) % 2147483587,16,rfl,rfl,(by show(0:Int)<16/\(16:Int)<1073741824;decide),.int m,rfl,(((((x+7919*T*T) % 2147483629)*((x+7919*T*T) % 2147483629)+40692*T+3) % 998244353)*((((x+7919*T*T) % 2147483629)*((x+7919*T*T) % 2147483629)+40692*T+3) % 998244353)+((x+7919*T*T) % 2147483629)) % 2147483587 / 16,m,rfl,rfl,m0,?_⟩;exact k
def ZaA (w:List Int):((w.map V.int).length:Int)=(w.length:Int):=by simp
def ix0 (c:Int)(r:List Int):V1 ((c::r).map V.int).length 0=some 0:=by
 unfold V1;rw[if_pos (by decide),if_pos (by rw[ZaA];simp)];rfl
def ZjK {K:ql}{p wa:Addr}{m x t:Int}{w1:List Int}{Q:VK}{N:St->Hp->Prop}{H:Hp}(m0:0<m)(m1:m<1073741824)(t0:0<=t)(t1:t<2 ^ 60)(hp:H p=some (.dK (Xh x t wa)))(hw:H wa=some (.lst (w1.map V.int)))(ne:p≠wa)
  (k1:∀c r,w1=c::r->Q (.int (c % m)) (Zi H wa (.lst (((c / m)::r).map V.int)))) (k2:w1=[]->Q (.int (ZiK x (t+1) % m)) (Zi H p (.dK (Xh x (t+1) wa)))) :
  Zlm K { nx:=N,rt:=Q } [some (.ref p),some (.int m),none,none,none] H:=by
 refine⟨.ref p,rfl,p,.ref wa,rfl,U7 hp,wa,w1.map V.int,rfl,.inl (ZF.of hw),_,0,rfl,rfl,_,rfl,?_⟩
 cases w1 with
 | nil=>
  refine Vx ?_;exact ZjJ m0 m1 t0 t1 hp (k2 rfl)
 | cons c r=>
  have e:decide ((0:Int)<(((c::r).map V.int).length:Int))=true:=by rw[decide_eq_true_eq,ZaA];simp
  rw[e];refine Vy ?_;have hi:XY ((c::r).map V.int) 0=some (.int c):=X8 (j:=0) rfl;refine⟨.ref p,rfl,p,.ref wa,rfl,U7 hp,wa,_,0,.int c,rfl,rfl,ZF.of hw,hi,.int m,rfl,c,m,rfl,rfl,m0,?_⟩;refine⟨.ref p,rfl,p,.ref wa,rfl,U7 hp,wa,_,0,.int c,rfl,rfl,ZF.of hw,hi,.int m,rfl,c,m,rfl,rfl,⟨m0,m1⟩,.ref p,rfl,p,.ref wa,rfl,U7 hp,wa,(c::r).map V.int,0,0,rfl,rfl,hw,ix0 c r,?_⟩;exact⟨_,rfl,k1 c r rfl⟩
def Zlo {K:ql}{p wa:Addr}{m x t:Int}{ww:List Int}{d:D}{pn':Pn}{Q:VK}{N:St->Hp->Prop}{H:Hp}(m0:0<m)(m1:m<1073741824)(t0:0<=t)(t1:t<2 ^ 60)(eS:VU m x t ww=(d,pn'))(hp:H p=some (.dK (Xh x t wa)))(hw:H wa=some (.lst (ww.map V.int)))(ne:p≠wa)
  (k:∀(i:Int) (H':Hp),d=.int i->(∀b,b≠p->b≠wa->H' b=H b)->B7 p wa pn' H'->Q (.int i) H') :
  Zln K { nx:=N,rt:=Q } [some (.ref p),some (.int m),none,none,none] H:=by
 have fin:∀(H1:Hp) (w1:List Int),w1=Zod m ww->H1 p=some (.dK (Xh x t wa))->H1 wa=some (.lst (w1.map V.int))->(∀b,b≠p->b≠wa->H1 b=H b)->Zlm K { nx:=N,rt:=Q } [some (.ref p),some (.int m),none,none,none] H1:=by
  intro H1 w1 e1 hp1 hw1 ag;refine ZjK m0 m1 t0 t1 hp1 hw1 ne (λc r ec=>?_) λec=>?_
  ·have:VU m x t ww=(.int (c % m),([x,t],(c / m)::r)):=by unfold VU;rw[<-e1,ec]
   rw[this]at eS
   cases eS
   refine k _ _ rfl (λb h1 h2=>by rw[Zr h2];exact ag b h1 h2) ⟨x,t,rfl,by rw[Zr ne];exact hp1,ZI,ne⟩
  ·have:VU m x t ww=(.int (ZiK x (t+1) % m),([x,t+1],[])):=by unfold VU;rw[<-e1,ec]
   rw[this]at eS
   cases eS
   subst ec;refine k _ _ rfl (λb h1 h2=>by rw[Zr h1];exact ag b h1 h2) ⟨x,t+1,rfl,ZI,by rw[Zr (zg ne)];exact hw1,ne⟩
 refine⟨.ref p,rfl,p,.ref wa,rfl,U7 hp,wa,ww.map V.int,rfl,.inl (ZF.of hw),_,0,rfl,rfl,_,rfl,?_⟩
 cases ww with
 | nil=>
  refine Vx ?_;refine Vx ?_;exact fin H [] rfl hp hw λ_ _ _=>rfl
 | cons c r=>
  have e:decide ((0:Int)<(((c::r).map V.int).length:Int))=true:=by rw[decide_eq_true_eq,ZaA];simp
  rw[e];refine Vy ?_;have hi:XY ((c::r).map V.int) 0=some (.int c):=X8 (j:=0) rfl;refine⟨.ref p,rfl,p,.ref wa,rfl,U7 hp,wa,_,0,.int c,rfl,rfl,ZF.of hw,hi,.int m,rfl,c,m,rfl,rfl,_,rfl,?_⟩;by_cases hc:c<m
  ·rw[decide_eq_true hc]
   refine Vy ?_;refine⟨.ref p,rfl,p,.ref wa,rfl,U7 hp,.inl ⟨rfl,_,ZF.of hw⟩,wa,(c::r).map V.int,0,0,.int c,rfl,rfl,hw,by decide,by decide,seqIndex_of (by decide) (by rw[ZaA];simp),rfl,?_⟩;refine fin _ r (by show r=if c<m then r else c::r;rw[if_pos hc]) (by rw[Zr ne];exact hp) (by rw[ZI];rfl) λb h1 h2=>by rw[Zr h2]
  ·rw[decide_eq_false hc]
   refine Vx ?_;exact fin H (c::r) (by show c::r=if c<m then r else c::r;rw[if_neg hc]) hp hw λ_ _ _=>rfl
def Zpe {p wa:Addr}{Hf H H':Hp}(e1:ZB (Xl p wa) Hf H)(ag:∀b,b≠p->b≠wa->H' b=H b):Gr (Xl p wa) Hf H Hf H':=
 have no:∀b,¬(Xl p wa).fp b->b≠p/\b≠wa:=λb n=>⟨λz=>n (.inl z),λz=>n (.inr z)⟩
 ⟨λb u n q=>by rw[ag b (no b n).1 (no b n).2];exact q,.refl _ _,λb u n q=>by rw[ag b (no b n).1 (no b n).2];exact e1 b u n q,λb n h1 h2=>h1⟩
def ZjL {K:ql}{vs:List V}{H:Hp}{Q:VK}{E:XK}{N:St->Hp->Prop}(h:Yf 2 true XO Yv vs H Q E):∃p m,vs=[.ref p,.int m]/\Zln K { nx:=N,rt:=Q } [some (.ref p),some (.int m),none,none,none] H:=by
 obtain⟨G,Hf,ds,pn,d,pn',hG,el,e1,r,st',eF,k'⟩:=h;obtain⟨p,wa,rfl⟩:=hG;obtain⟨m,x,t,ww,rfl,rfl,m0,m1,t0,t1,eS⟩:=Zdp eF;obtain⟨v1,v2,rfl,r1,r2⟩:=jp r
 cases (jo.mp r1)
 cases (ja.mp r2)
 obtain⟨x',t',ea,hp,hw,ne⟩:=st';simp only[List.cons.injEq,and_true]at ea;obtain⟨rfl,rfl⟩:=ea;refine⟨p,m,rfl,Zlo m0 m1 t0 t1 eS hp hw ne λi H' ed ag st=>?_⟩;exact k' _ Hf H' (Zpe e1 ag) st (by rw[ed];exact ja.mpr rfl) λ_=>.scal λz=>by rw[ed]at z;exact z
def Zgk {X:Cx}{XN:List Str}{NS:List (Str×NameKind)}{elt tg iter:Expr}{ifs:List Expr}{scope:Scope}{pos:Pos}{N':List Str}{src:List (Option Nat)}{wi:TI}{g:TG}{tt:TT}{te:TE}(hc:X.calm=true)(B:BlkS X XN NS N' src scope)(hi:PI X tg iter wi)
  (hg:∀cl jJ C s H fp,PG (L2.blk X jJ N' scope cl C s H fp) tg g) (ht:∀cl jJ C s H fp,Vz (L2.blk X jJ N' scope cl C s H fp) ifs tt) (he:∀cl jJ C s H fp,PE (L2.blk X jJ N' scope cl C s H fp) elt te)
  (hs:∀x,foldedSetIterable iter X.env x=pure x:=by intro _;rfl):PE X (.ListComp elt [⟨tg,iter,ifs,0⟩] scope pos) (JP src wi g tt te):=by
 intro jJ s σ H Q I h;obtain⟨cl,B'⟩:=B.ok I.ok;exact Ziu hc B' hi (hg cl) (ht cl) (he cl) hs jJ s σ H Q I h
def Zlp (K:ql):TE:=JP [none] (ZkJ K (Z7 0)) (Wf 0) (BP (YK (XD λi j=>.bl (decide (j<=i))) (Z7 0) (YK (rI CPow λi j=>.int (i ^ j.toNat)) (tC (.int 10)) (tC (.int 15))))) (Z7 0)
def ZpX (K:ql):TS:=Vw (Uh (tC (.int 7)) (Wf 1))
 (Vw (tFor (ZkJ K (Z7 0)) (Wf 2) (Uh (YK (rI (λ_ j=>0<j) λi j=>.int (i % j)) (YK (XD λi j=>.int (i+j)) (YK (XD λi j=>.int (i+j)) (YK (rI Ui λi j=>.int (i*j)) (Z7 1) (tC (.int 48271))) (YK (rI (λ_ j=>0<j) λi j=>.int (i % j)) (Z7 2) (tC (.int 1000000007)))) (tC (.int 11))) (tC (.int 2147483629))) (Wf 1)))
 (BX (Zn8 [(tC (.str (qC "mixed")),Z7 1),(tC (.str (qC "turn")),tC (.int 0)),(tC (.str (qC "wide")),Zlp K)])))
def Zlq {K:ql}{H:Hp}{a p:Addr}{xs:List V}{o:HO}(sq:ZF K H a xs)(hp:H p=none):ZF K (Zi H p o) a xs:=by
 have hne:∀u,H a=some u->a≠p:=λu e z=>by rw[z,hp]at e;cases e
 rcases sq with(q | ⟨o',q⟩) | q
 ·exact .inl (.inl (by rw[Zr (hne _ q)];exact q))
 ·exact .inl (.inr ⟨o',by rw[Zr (hne _ q)];exact q⟩)
 ·exact .inr q
def Zlr {H:Hp}{p:Addr}{o o':HO}:Zi (Zi H p o) p o'=Zi H p o':=by
 funext b;by_cases h:b=p
 ·subst h;rw[ZI,ZI]
 ·rw[Zr h,Zr h,Zr h]
def ZjM (m t:Int)(wa:Addr):Uz [] (Xh m t wa)=Xh m t wa:=by
 have h3:¬(qC "mixed" = qC "turn"):=by decide
 have h4:¬(qC "mixed" = qC "wide"):=by decide
 have h5:¬(qC "turn" = qC "wide"):=by decide
 simp[Uz,Xh,Z9,h3,h4,h5]
def ZjN (ns:List Int)(i:Nat)(c:Int)(h:ns[i]?=some c):Vp (ns.take (i+1))=Vp (ns.take i)++(if decide (10 ^ 15<=c)=true then [c]else []):=by
 unfold Vp;rw[List.take_succ,h,List.filter_append];congr 1;by_cases hc:(10:Int) ^ 15<=c
 ·rw[if_pos (decide_eq_true hc)]
  exact qab (decide_eq_true hc)
 ·rw[if_neg (by simpa using hc)]
  exact yF (by simpa using hc)
def Zls {K:ql}{a:Addr}{ns:List Int}{H:Hp}{Q:VK}{o1 o2:Option V}(sq:ZF K H a (ns.map V.int))(hl:ns.length<=63)(k:∀p,H p=none->Q (.ref p) (Zi H p (.lst ((Vp ns).map V.int)))):Zlp K [some (.ref a),o1,o2] H Q:=by
 refine⟨.ref a,rfl,a,rfl,⟨_,sq⟩,λp hp=>?_⟩;refine⟨λi n σ2 H2=>i<=ns.length/\n=ns.length-i/\(∃o,σ2=[o])/\H2=Zi H p (.lst ((Vp (ns.take i)).map V.int)),⟨ns.length,zl _,by omega,⟨none,rfl⟩,rfl⟩,λi n σ2 H2 ⟨hi,hn,⟨o,hσ⟩,hH⟩=>?_⟩;subst hσ hH;have sq2:ZF K (Zi H p (.lst ((Vp (ns.take i)).map V.int))) a (ns.map V.int):=Zlq sq hp;by_cases he:i=ns.length
 ·refine .inl ⟨⟨_,sq2,by rw[qd];omega⟩,?_⟩
  subst he;rw[yw];exact k p hp
 ·have hlt:i<ns.length:=by omega
  have gi:(ns.map V.int)[i]?=some (.int ns[i]):=by rw[qt,qj hlt];rfl
  refine .inr ⟨⟨_,_,sq2,gi⟩,λx H3 ⟨y1,y2⟩=>?_⟩;subst y1;have ex:=y2 _ sq2;rw[gi]at ex
  cases ex
  refine⟨.int ns[i],rfl,10,15,rfl,rfl,⟨by decide,by decide,by decide⟩,ns[i],10 ^ (15:Int).toNat,rfl,rfl,_,rfl,?_⟩;have ew:=ZjN ns i ns[i] (qj hlt);by_cases hc:(10:Int) ^ 15<=ns[i]
  ·have hd:decide ((10:Int) ^ (15:Int).toNat<=ns[i])=true:=decide_eq_true hc
   rw[hd];refine Vy ?_;refine⟨.int ns[i],rfl,(Vp (ns.take i)).map V.int,ZI,?_,n-1,by omega,by omega,by omega,⟨_,rfl⟩,?_⟩
   ·have:(Vp (ns.take i)).length<=(ns.take i).length:=qZ ..
    rw[qd,sizeLine_eq];have:=List.length_take_le i ns;omega
   ·rw[Zlr,ew,if_pos (decide_eq_true hc),zK]
    rfl
  ·have hd:decide ((10:Int) ^ (15:Int).toNat<=ns[i])=false:=decide_eq_false hc
   rw[hd];refine Vx ?_;refine⟨n-1,by omega,by omega,by omega,⟨_,rfl⟩,?_⟩;rw[ew,if_neg (by simpa using hc),zp]
def Znh {K:ql}{a:Addr}{ns:List Int}{H:Hp}{Q:VK}{N:St->Hp->Prop}(sq:ZF K H a (ns.map V.int))(hl:ns.length<=63)(k:∀(p wa:Addr) (m:Int) (H':Hp),B7 p wa ([m,0],Vp ns) H'->(∀b u,H b=some u->H' b=some u)->H p=none->H wa=none->Q (.ref p) H') :
  ZpX K { nx:=N,rt:=Q } [some (.ref a),none,none] H:=by
 refine⟨.ref a,rfl,a,rfl,⟨_,sq⟩,?_⟩;refine⟨λi n σ2 H2=>i<=ns.length/\n=ns.length-i/\(∃x o2,σ2=[some (.ref a),some (.int x),o2])/\H2=H,⟨ns.length,zl _,by omega,⟨7,none,rfl⟩,rfl⟩,λi n σ2 H2 ⟨hi,hn,⟨x,o2,hσ⟩,hH⟩=>?_⟩;subst hσ hH;by_cases he:i=ns.length
 ·refine .inl ⟨⟨_,sq,by rw[qd];omega⟩,?_⟩
  intro p hp;refine⟨.int x,rfl,?_⟩;have hp2:(Zi H2 p (.dK [])) p=some (.dK []):=ZI;show Zlp K [some (.ref a),some (.int x),o2] (Zi H2 p (.dK [])) (λy H3=>H3 p=some (.dK [])/\∃kvs:List (Zt×V),[(V.str (qC "mixed"),V.int x),(V.str (qC "turn"),V.int 0),(V.str (qC "wide"),y)]=kvs.map (λkv=>(kV kv.1,kv.2))/\kvs.length<=15/\Q (.ref p) (Zi H3 p (.dK (Uz [] kvs))));refine Zls (Zlq sq hp) hl λwa hwa=>?_;have ne:p≠wa:=λz=>by rw[<-z,ZI]at hwa;cases hwa
  refine⟨by rw[Zr ne];exact hp2,Xh x 0 wa,rfl,by show 3<=15;decide,?_⟩;rw[ZjM];have hwa0:H2 wa=none:=by rw[Zr (zg ne)]at hwa;exact hwa
  exact k p wa x _ ⟨x,0,rfl,ZI,by rw[Zr (zg ne)];exact ZI,ne⟩ (λb u e=>by rw[Zr (Z1 e hp),Zr (Z1 e hwa0),Zr (Z1 e hp)];exact e) hp hwa0
 ·have hlt:i<ns.length:=by omega
  have gi:(ns.map V.int)[i]?=some (.int ns[i]):=by rw[qt,qj hlt];rfl
  refine .inr ⟨⟨_,_,sq,gi⟩,fun σ' H'=>(∃x o2,σ'=[some (.ref a),some (.int x),o2])/\H'=H2,fun σ' H' h=>⟨n-1,by omega,by omega,by omega,h.1,h.2⟩,λx' H' ⟨y1,y2⟩=>?_⟩;subst y1;have ex:=y2 _ sq;rw[gi]at ex
  cases ex
  refine⟨.int x,rfl,x,48271,rfl,rfl,.inr ⟨by decide,by decide⟩,.int ns[i],rfl,ns[i],1000000007,rfl,rfl,(by show(0:Int)<1000000007;decide),x*48271,ns[i] % 1000000007,rfl,rfl,x*48271+ns[i] % 1000000007,11,rfl,rfl,x*48271+ns[i] % 1000000007+11,2147483629,rfl,rfl,(by show(0:Int)<2147483629;decide),⟨_,_,rfl⟩,rfl⟩
def XZ (L:List (Addr×Str))(b:Addr):Prop:=∃q,(b,q)∈L
def Zoh (G0:Gh)(L:List (Addr×Str))(P:Addr)(q:Str)(H:Hp):Prop:=∃ps,H P=some (.tbl ps)/\TriplesOk ps.toList/\∀pos cv,codeAmong pos ps.toList=some cv->∃c',cv=.ref c'/\H c'=some (.ext (codeφ c' q))/\¬G0.fp c'/\¬XZ L c'
def U2 (G0:Gh)(L:List (Addr×Str)):Gh where
 fp:=λb=>G0.fp b∨XZ L b
 rd:=λb=>G0.rd b∨XZ L b
 pen:=G0.pen
 st:=λs H=>G0.st s H/\∀P q,(P,q)∈L->Zoh G0 L P q H
 mono:=λs H H' ⟨h1,h2⟩ k1 k2=>⟨G0.mono s H H' h1 (λb o r=>k1 b o (.inl r)) k2,λP q m=>by
  obtain⟨ps,e,t,h⟩:=h2 P q m;refine⟨ps,k1 P _ (.inr ⟨q,m⟩) e,t,λpos cv hc=>?_⟩;obtain⟨c',z1,z2,z3⟩:=h pos cv hc;exact⟨c',z1,k2 _ _ z2,z3⟩⟩
 sub:=λb h=>h.elim (λz=>.inl (G0.sub b z)) .inr
 dom:=λs H b ⟨h1,h2⟩ hb=>by
  rcases hb with z | ⟨q,m⟩
  ·exact G0.dom s H b h1 z
  ·obtain⟨ps,e,_⟩:=h2 b q m
   exact⟨_,e⟩
 ntp:=λs H b vs ⟨h1,h2⟩ hb=>by
  rcases hb with z | ⟨q,m⟩
  ·exact G0.ntp s H b vs h1 z
  ·obtain⟨ps,e,_⟩:=h2 b q m
   rw[e];intro z;cases z
def Zed {pos pos':Pos}{c:Value}(l:List Value)(h:TriplesOk l){cv:Value}(hc:codeAmong pos' (l ++ [rawInt pos.line,rawInt pos.col,c])=some cv):codeAmong pos' l=some cv∨cv=c:=by
 fun_induction TriplesOk l with
 | case1=>
  simp only[qbR,rawInt,codeAmong]at hc;split at hc
  ·exact .inr (zo hc).symm
  ·cases hc
 | case2 a b d e f rest ih=>
  simp only[qbA,codeAmong]at hc⊢;split at hc
  ·rename_i h1;rw[if_pos h1];exact .inl hc
  ·rename_i h1;rw[if_neg h1];exact ih h hc
 | case3=>cases h
def Zgl {pos:Pos}{c:Value}(l:List Value)(h:TriplesOk l):TriplesOk (l ++ [rawInt pos.line,rawInt pos.col,c]):=by
 fun_induction TriplesOk l with
 | case1=>simp[TriplesOk,rawInt]
 | case2 a b d e f rest ih=>simp only[qbA,TriplesOk];exact ih h
 | case3=>cases h
def Wy (L:List (Addr×Str)):Prop:=∀P q q',(P,q)∈L->(P,q')∈L->q=q'
def Wj (GG0:Gh->Prop)(L:List (Addr×Str))(G:Gh):Prop:=∃G0,GG0 G0/\(∀b,XZ L b->¬G0.rd b)/\G=U2 G0 L
def Zni {G0:Gh}{L:List (Addr×Str)}{P:Addr}{q:Str}(lo:Wy L)(hrd:∀b,XZ L b->¬G0.rd b)(m:(P,q)∈L):TabG P q (U2 G0 L):=by
 refine⟨λs H st=>?_,.inr ⟨q,m⟩,λs H ps pos c' st hP hc hn=>?_⟩
 ·obtain⟨ps,e,t,h⟩:=st.2 P q m
  refine⟨ps,e,t,λpos cv hc=>?_⟩;obtain⟨c',z1,z2,z3,z4⟩:=h pos cv hc;exact⟨c',z1,z2,λz=>z.elim z3 z4⟩
 ·have hcP:c'≠P:=λz=>by rw[z,hP]at hc;cases hc
  have notL:¬XZ L c':=λ⟨q',m'⟩=>by
   obtain⟨_,e,_⟩:=st.2 c' q' m';rw[hc]at e;cases e
  have k2:∀b φ,H b=some (.ext φ)->Zi (Zi H P (.tbl (ps ++ #[rawInt pos.line,rawInt pos.col,.ref c']))) c' (.ext (codeφ c' q)) b=some (.ext φ):=λb φ e=>by
   rw[Zr (Z1 e hc),Zr (λz=>by rw[z,hP]at e;cases e)];exact e
  refine⟨G0.mono s H _ st.1 (λb o r e=>?_) k2,λP' q' m'=>?_⟩
  ·rw[Zr (Z1 e hc),Zr (λz=>hrd P ⟨q,m⟩ (by rw[<-z];exact r))];exact e
  ·by_cases hb:P'=P
   ·subst hb
    have:=lo P' q q' m m';subst this;obtain⟨ps',e,t,h⟩:=st.2 P' q m;rw[hP]at e;cases e;refine⟨_,by rw[Zr (zg hcP),ZI],?_,λpos' cv hcv=>?_⟩
    ·rw[qco];exact Zgl _ t
    ·rw[qco]at hcv
     rcases Zed (pos:=pos) _ t hcv with z | z
     ·obtain⟨c2,z1,z2,z3⟩:=h pos' cv z
      exact⟨c2,z1,k2 _ _ z2,z3⟩
     ·exact⟨c',z,ZI,Gh.nofp st.1 hc,notL⟩
   ·obtain⟨ps',e,t,h⟩:=st.2 P' q' m'
    refine⟨ps',by rw[Zr (Z1 e hc),Zr hb];exact e,t,λpos' cv hcv=>?_⟩;obtain⟨c2,z1,z2,z3⟩:=h pos' cv hcv;exact⟨c2,z1,k2 _ _ z2,z3⟩
def Ym (L:List (Addr×Str))(G:Gh):Prop:=∀P q,(P,q)∈L->TabG P q G
def jB {GG0:Gh->Prop}{L:List (Addr×Str)}{G:Gh}(lo:Wy L)(h:Wj GG0 L G):Ym L G:=by
 obtain⟨G0,_,hrd,rfl⟩:=h;exact λP q m=>Zni lo hrd m
mutual
def Zm.tr {G G':Gh}{H H':Hp}(h:∀a o,¬G.fp a->H a=some o->(∀ps,o≠.tbl ps)->¬G'.fp a/\H' a=some o)(hp:G'.pen=G.pen):∀{d:D} {v:V},YH d=true->Zm G H d v->Zm G' H' d v
 | .non,_,_,r=>jg.mpr (jg.mp r)
 | .bl _,_,_,r=>je.mpr (je.mp r)
 | .int _,_,_,r=>ja.mpr (ja.mp r)
 | .str _,_,_,r=>ji.mpr (ji.mp r)
 | .tup ds,v,n,r=>by
  obtain⟨a,vs,e1,nf,e2,r⟩:=jc.mp r;obtain⟨z1,z2⟩:=h a _ nf e2 (λ_ z=>by cases z);exact jc.mpr ⟨a,vs,e1,z1,z2,Zk.tr h hp (by simpa[YH]using n) r⟩
 | .lst ds,v,n,r=>by
  obtain⟨a,vs,e1,nf,e2,r⟩:=jb.mp r;obtain⟨z1,z2⟩:=h a _ nf e2 (λ_ z=>by cases z);exact jb.mpr ⟨a,vs,e1,z1,z2,Zk.tr h hp (by simpa[YH]using n) r⟩
 | .dk _,_,_,r=>by
  obtain⟨a,e1,nf,e2⟩:=jj.mp r;obtain⟨z1,z2⟩:=h a _ nf e2 (λ_ z=>by cases z);exact jj.mpr ⟨a,e1,z1,z2⟩
 | .dt _,_,_,r=>by
  obtain⟨a,o,e1,nf,e2⟩:=jk.mp r;obtain⟨z1,z2⟩:=h a _ nf e2 (λ_ z=>by cases z);exact jk.mpr ⟨a,o,e1,z1,z2⟩
 | .du _,_,_,r=>by
  obtain⟨a,e1,nf,e2⟩:=jl.mp r;obtain⟨z1,z2⟩:=h a _ nf e2 (λ_ z=>by cases z);exact jl.mpr ⟨a,e1,z1,z2⟩
 | .df _,_,_,r=>by
  obtain⟨a,o,e1,nf,e2⟩:=jq.mp r;obtain⟨z1,z2⟩:=h a _ nf e2 (λ_ z=>by cases z);exact jq.mpr ⟨a,o,e1,z1,z2⟩
 | .pen,_,_,r=>jo.mpr ((jo.mp r).trans hp.symm)
 | .ty _,_,_,r=>jr.mpr (jr.mp r)
 | .clo _ _,_,n,_=>by simp[YH]at n
def Zk.tr {G G':Gh}{H H':Hp}(h:∀a o,¬G.fp a->H a=some o->(∀ps,o≠.tbl ps)->¬G'.fp a/\H' a=some o)(hp:G'.pen=G.pen):∀{ds:List D} {vs:List V},YV ds=true->Zk G H ds vs->Zk G' H' ds vs
 | [],_,_,r=>Zk.nil_iff.mpr (Zk.nil_iff.mp r)
 | d::ds,vs,n,r=>by
  obtain⟨v,rr,e,h1,h2⟩:=jd.mp r;have n':YH d=true/\YV ds=true:=by simpa[YV]using n
  exact jd.mpr ⟨v,rr,e,Zm.tr h hp n'.1 h1,Zk.tr h hp n'.2 h2⟩
end
open Classical in
noncomputable def Ul (L:List (Addr×Str))(H H2:Hp):Hp:=λb=>if XZ L b then H2 b else H b
def Znj {L:List (Addr×Str)}{H H2:Hp}{b:Addr}(h:XZ L b):Ul L H H2 b=H2 b:=by unfold Ul;rw[if_pos h]
def Vb {L:List (Addr×Str)}{H H2:Hp}{b:Addr}(h:¬XZ L b):Ul L H H2 b=H b:=by unfold Ul;rw[if_neg h]
def Znk {P:xE}{w:World}{K:ql}{mg:Str->Option Value}{base:Heap}{k:Nat}{f:Addr}{fd:xD}{ps:List Str}{n:Nat}{fr:Bool}{GG0:Gh->Prop}{L:List (Addr×Str)}{F:List D->M D}(FN:FnOk P w K mg base ZQ k f fd ps (Yf n fr GG0 F))
  (hF:∀ds s d s',F ds s=some (d,s')->YV ds=true/\YH d=true):FnOk P w K mg base ZQ k f fd ps (Yf n fr (Wj GG0 L) F):=by
 refine FN.imp λvs H Q E h=>?_;obtain⟨G,Hf,ds,s,d,s',⟨G0,hG0,hrd,rfl⟩,hl,e1,r,st,eF,k⟩:=h;obtain⟨n1,n2⟩:=hF _ _ _ _ eF;have nfp:∀b,XZ L b->¬G0.fp b:=λb m z=>hrd b m (G0.sub b z);have e1':ZB G0 (Ul L Hf λ_=>none) H:=λb o nb q=>by
  by_cases m:XZ L b
  ·rw[Znj m]at q;cases q
  ·rw[Vb m]at q;exact e1 b o (λz=>z.elim nb m) q
 refine⟨G0,Ul L Hf λ_=>none,ds,s,d,s',hG0,hl,e1',Zk.tr (G:=U2 G0 L) (G':=G0) (λa o na q _=>?_) rfl n1 r,st.1,eF,λv Hf' H' g st' r' fz=>?_⟩
 ·have m:¬XZ L a:=λz=>na (.inr z)
  exact⟨λz=>na (.inl z),by rw[Vb m];exact q⟩
 ·have tab:∀b,XZ L b->∃ps,H' b=some (.tbl ps):=λb ⟨q,m⟩=>by
   obtain⟨ps,e,_⟩:=st.2 b q m;exact⟨ps,g.hh b _ (nfp b ⟨q,m⟩) e⟩
  have out:∀a o,¬G0.fp a->Hf' a=some o->(∀ps,o≠.tbl ps)->¬XZ L a:=λa o na q no m=>by
   obtain⟨ps,e⟩:=tab a m;rw[g.fh a o na q]at e;exact no ps (zo e)
  have tr:∀a o,¬G0.fp a->Hf' a=some o->(∀ps,o≠.tbl ps)->¬(U2 G0 L).fp a/\Ul L Hf' Hf a=some o:=λa o na q no=>by
   have m:=out a o na q no;exact⟨λz=>z.elim na m,by rw[Vb m];exact q⟩
  refine k v (Ul L Hf' Hf) H' ⟨λb o nb q=>g.hh b o (λz=>nb (.inl z)) q,λb o nb q=>?_,λb o nb q=>?_,λb nb q1 q2=>?_⟩ ⟨st',λP q m=>?_⟩ (Zm.tr (G:=G0) (G':=U2 G0 L) tr rfl n2 r') λz a ea mu=>?_
  ·have m:¬XZ L b:=λz=>nb (.inr z)
   rw[Vb m];exact g.ff b o (λz=>nb (.inl z)) (by rw[Vb m];exact q)
  ·have m:¬XZ L b:=λz=>nb (.inr z)
   rw[Vb m]at q;exact g.fh b o (λz=>nb (.inl z)) q
  ·have m:¬XZ L b:=λz=>nb (.inr z)
   rw[Vb m];exact g.nw b (λz=>nb (.inl z)) (by rw[Vb m];exact q1) q2
  ·obtain⟨ps,e,t,h⟩:=st.2 P q m
   refine⟨ps,g.hh P _ (nfp P ⟨q,m⟩) e,t,λpos cv hc=>?_⟩;obtain⟨c',z1,z2,z3,z4⟩:=h pos cv hc;exact⟨c',z1,g.hh c' _ z3 z2,z3,z4⟩
  ·obtain⟨h1,h2⟩:=fz z a ea mu
   refine⟨h1,λxs ed=>?_⟩;obtain⟨us,Hm,q1,q2,q3,q4⟩:=h2 xs ed;have na:¬XZ L a:=λm=>by
    obtain⟨q,m⟩:=m;obtain⟨ps,e,_⟩:=st.2 a q m;rw[h1]at e;cases e
   refine⟨us,Ul L Hm λ_=>none,by rw[Vb na];exact q1,by rw[Vb na];exact q2,λb o nb q=>?_,?_⟩
   ·have m:¬XZ L b:=λz=>nb (.inr z)
    rw[Vb m]at q⊢;exact q3 b o (λz=>nb (.inl z)) q
   ·subst ed
    refine Zk.tr (G:=G0) (G':=U2 G0 L) (λb o nb q no=>?_) rfl (by simpa[YH]using n2) q4;have m:=out b o nb (q3 b o nb q) no;exact⟨λz=>z.elim nb m,by rw[Vb m];exact q⟩
def Zgm {P:xE}{w:World}{K:ql}{mg:Str->Option Value}{base:Heap}{k:Nat}{x:Str}{n:Nat}{fr:Bool}{GG0:Gh->Prop}{L:List (Addr×Str)}{F:List D->M D}(c:ZD P w K mg base k x n fr GG0 F)(hF:∀ds s d s',F ds s=some (d,s')->YV ds=true/\YH d=true):ZD P w K mg base k x n fr (Wj GG0 L) F:=
 let ⟨f,fd,ps,a,b,c,d⟩:=c
 ⟨f,fd,ps,Znk a hF,b,c,d⟩
def Zlt:∀ds s d s',Yv ds s=some (d,s')->YV ds=true/\YH d=true:=λds s d s' h=>by
 obtain⟨k,m,t,w,rfl,rfl,_,_,_,_,e⟩:=Zdp h;refine⟨rfl,?_⟩;unfold VU at e;split at e <;> (cases e;rfl)
def Zlu {N ps:List Str}{own:List Nat}{fr:Bool}{G:Gh}{t:TS}{g:Zb->M Out}{vs:List V}{ds:List D}{Hf H:Hp}{pn pn':Pn}{d:D}{Q:VK}(hpl:ps.length<=N.length)(q:J7 G [] [] own fr t g)(e1:ZB G Hf H)(r:Zk G Hf ds vs)(st':G.st pn H)(eF:runB N.length ps.length g ds pn=some (d,pn'))
  (k':∀v Hf' H',Gr G Hf H Hf' H'->G.st pn' H'->Zm G Hf' d v->(fr=true->YC G H Hf' d v)->Q v H'):t { nx:=λ_ H'=>Q .non H',rt:=Q } (L2.start N vs) H:=by
 obtain⟨hl,a0⟩:=Xf eF;obtain⟨o,s1,a1,a2⟩:=ZC a0;have j0:Jf G [] Hf Hf H (L2.start N vs) Hf H (ds.map some++qw (N.length-ps.length) none):=by
  refine⟨?_,.refl _ _,.refl e1,λi d n e=>?_,λi d m e=>absurd m (by simp),λi j a di dj mi mj n e=>absurd mi (by simp)⟩
  ·have:=r.length
   unfold L2.start;simp;omega
  ·have hi:i<ds.length:=by
    by_cases hi:i<ds.length
    ·exact hi
    ·rw[yb (by simpa using hi),yE]at e
     split at e <;> cases e
   have e':ds[i]?=some d:=by
    rw[zH (by simpa using hi),qt]at e
    cases q:ds[i]? with
    | none=>rw[q]at e;cases e
    | some c=>rw[q]at e;simp at e;rw[e]
   obtain⟨v,h1,h2⟩:=r.get e';refine⟨v,?_,h2⟩;unfold L2.start;rw[zH (by simp;rw[<-r.length];exact hi),qt,h1];rfl
 refine q Hf Hf H (L2.start N vs) H _ pn o s1 _ ⟨Hf,j0⟩ st' a1 ?_
 cases o with
 | rt c=>
  obtain⟨rfl,rfl⟩:=ZO a2;exact λv Hf' H' g' j6 r2 fz=>k' v Hf' H' g' j6 r2 fz
 | nx ρ'=>
  obtain⟨rfl,rfl⟩:=ZO a2;exact fun σ' H' ⟨Hf',j'⟩ j6=>k' .non Hf' H' j'.gr j6 (jg.mpr rfl) λ_=>.scal λz=>z
 | bk ρ'=>cases a2
 | ct ρ'=>cases a2
def fnDC {P:xE}{w:World}{K:ql}{mg:Str->Option Value}{base:Heap}{x qual:Str}{st:Stmt}{f:Addr}{fd:xD}{N ps:List Str}{k:Nat}{own:List Nat}{fr:Bool}{GG:Gh->Prop}{g:Zb->M Out}
  (F:Fun K x qual st f fd) (S:FnScope N ps (Zy st))
  (hb:∀(A:xF) (outer:List Env) (s:Shared) (H:Hp) (E:XK),Room k (A.deeper (envOfC qual (Zy st) s.heap.objs.size f fd.code))->∀G,GG G->Wh (W2 ZQ P w K mg base N qual (Zy st) f fd.code A outer s H E).nox G [] [] own fr (WM st) g) :
  FnOk P w K mg base ZQ (k+1) f fd ps (Yf ps.length fr GG (runB N.length ps.length g)):=by
 obtain⟨oc,od,kV,doc,pm,an,cdv,ct,osl,rfl,lk,hcd⟩:=F.ex;refine Zn3 lk hcd S (λvs H Q E ⟨_,_,_,_,_,_,_,e,_⟩=>e) λA outer s H vs Q E hr h=>?_;obtain⟨G,Hf,ds,pn,d,pn',hG,el,e1,r,st',eF,k'⟩:=h;obtain⟨t,p,q⟩:=hb A outer s H E hr G hG;exact⟨t,p.nox,Zlu (by have:=congrArg qaQ S.pre;rw[z0]at this;omega) q e1 r st' eF k'⟩
section
variable {X:Cx}{G:Gh}{P c:Addr}{q:Str}{k kl n:Nat}{x:Str}{fr frb:Bool}{F:List D->M D}{T:Nat->List D->M D}{t:Nat}{e1:Expr}{f1:Zb->M D}{r1:Bool}{params:Arguments}{scope:Scope}{lpos ppos pos:Pos}{XN N ps:List Str}{NS:List (Str×NameKind)}{cix:List Nat}
end
def Uo (mg:Str->Option Value)(h:Heap):Prop:=∃bm o,mg "__builtins__" = some (.ref bm)/\bm≠builtinsNs/\bm≠mainGlobals/\h.get? bm=some o/\o.cls=.type "module"/\o.dict=some builtinsNs/\o.data=.plain
def ZjO {P:xE}{w:World}{K:ql}{mg mb:Str->Option Value}{CX:Wm}{k:Nat}{fa a:Addr}{fd:xD}{x:Str}{sp:Sp}{s₁:Shared}{vs:List Value}{ns:List Int}{tb:List (Addr×Addr)}
  (KX:K.In s₁.heap) (hns:s₁.heap.Ns mainGlobals mg) (hb:s₁.heap.Ns builtinsNs mb) (hbb:∀x:Str,x≠"__name__"->mb x=xj x) (hlim:s₁.heap.NoLimit) (hg:s₁.gens = #[])
  (hT:∀e∈tb,zJ s₁.heap e.1 e.2/\s₁.heap.get? e.2=some (qaD #[])) (hKt:PySem.W.noTabs K=true) (hbm:Uo mg s₁.heap)
  (ha:s₁.heap.get? a=some { cls:=.type "list",data:=.seq vs.toArray }) (hi:IntsAre vs ns) (hl:ns.length<=xg) (hr:Room k callerA)
  (F:∀base:Heap,K.In base->base.Ns mainGlobals mg->(∀e∈tb,zJ base e.1 e.2)->Uo mg base->FnOk P w K mg base CX k fa fd [x] sp) (hbind:∀(s:Shared) (u:Value),BindsTo s fd ⟨[u],[]⟩ [(x,u)])
  (hsp:∀H:Hp,ZF K H a (ns.map V.int)->(∀e∈tb,H e.2=some (.tbl #[]))->sp [.ref a] H (λv _=>v=.bl true) λ_ _ _=>False)
  (hCX:∀H e s',CX [] H s₁ (λ_ _ _=>False) e s'->False) :
  xo (xC P w) callerA (.call (.ref fa) ⟨[.ref a],[]⟩) (λr s'=>r=.ok (.ret (.bool true))/\OldK s₁.heap s'.heap/\s'.os=s₁.os/\AllBare s'.gens) s₁:=by
 have rv:=ZeA hi;have lenV:=hi.length;have tabne:∀e∈tb,e.2≠a:=λe he z=>by
  have:=(hT e he).2;rw[z,ha]at this;cases this
 have noK:∀e∈tb,K.lookup e.2=none:=λe he=>by
  cases q:K.lookup e.2 with
  | none=>rfl
  | some o=>
   have h2:=zj.mp hKt (e.2,o) (PySem.W.mem_of_lookupK q);have e1:=KX _ _ q;rw[(hT e he).2]at e1
   cases e1
   exact absurd (show false=true from h2) zZ
 have core:∀H:Hp,(∀b u,H b=some u->(b=a/\u=.frz { cls:=.type "list",data:=.seq vs.toArray } (.lst (ns.map V.int))/\K.lookup a=none)∨(u=.tbl #[]/\∃e∈tb,e.2=b))->ZF K H a (ns.map V.int)->(∀e∈tb,H e.2=some (.tbl #[]))->
   xo (xC P w) callerA (.call (.ref fa) ⟨[.ref a],[]⟩) (λr s'=>r=.ok (.ret (.bool true))/\OldK s₁.heap s'.heap/\s'.os=s₁.os/\AllBare s'.gens) s₁:=by
  intro H hO hS hTb;have hok:YA P w H s₁.heap:=λb u e=>by
   rcases hO b u e with⟨rfl,rfl,_⟩ | ⟨rfl,e',he,rfl⟩
   ·exact⟨ha,by rw[qd];exact hl,vs,_,rv,ha⟩
   ·exact(hT e' he).2
  have base_of:∀{b:Addr} {o:Obj},s₁.heap.get? b=some o->H b=none->(Vv s₁.heap H).get? b=some o:=λe n=>ZkA e n;have noA:∀{b:Addr} {o:Obj},s₁.heap.get? b=some o->(∀vs n,o.data≠.seq vs n)->(∀vs,o.data≠.fields vs∨o.cls≠.none)->H b=none:=λ{b o} e d1 d2=>by
   cases q:H b with
   | none=>rfl
   | some u=>
    rcases hO b u q with⟨rfl,_,_⟩ | ⟨_,e',he,rfl⟩
    ·rw[ha]at e;cases e;exact absurd rfl (d1 _ _)
    ·rw[(hT e' he).2]at e;cases e
     rcases d2 #[]with z | z
     ·exact absurd rfl z
     ·exact absurd rfl z
  have nsK:∀{b:Addr} {m:Str->Option Value},s₁.heap.Ns b m->(Vv s₁.heap H).Ns b m:=λ{b m} ⟨o,es,ep,e,d,r⟩=>⟨o,es,ep,base_of e (noA e (λ_ _ z=>by rw[d]at z;cases z) λ_=>.inl λz=>by rw[d]at z;cases z),d,r⟩;have hKb:K.In (Vv s₁.heap H):=λb o e=>base_of (KX b o e) (by
   cases q:H b with
   | none=>rfl
   | some u=>
    rcases hO b u q with⟨rfl,_,z⟩ | ⟨_,e',he,rfl⟩
    ·rw[z]at e;cases e
    ·rw[noK e' he]at e;cases e)
  have hM:Mod K mg (Vv s₁.heap H):=⟨hKb,nsK hns,⟨mb,nsK hb,hbb⟩,let ⟨mc,h1,h2⟩:=hlim;⟨mc,nsK h1,h2⟩⟩;have e0:Env0 P w K mg (Vv s₁.heap H) callerA [] s₁ H:=⟨rfl,hM,λb o e=>ZmM e,qct (Zjb _ _),trivial,λb hb=>absurd (show b∈([]:List Addr)from hb) (by simp),hok,.of_eq hg⟩;have hCd:∀e∈tb,zJ (Vv s₁.heap H) e.1 e.2:=λe he=>by
   obtain⟨o,vs',file,tf,flags,tg,inF,text,tt,e1,r1,r2,r3⟩:=(hT e he).1;exact⟨o,vs',file,tf,flags,tg,inF,text,tt,base_of e1 (noA e1 (λ_ _ z=>by rw[r2]at z;cases z) λ_=>.inr (by rw[r1];nofun)),r1,r2,r3⟩
  have hBm:Uo mg (Vv s₁.heap H):=by
   obtain⟨bm,o,e1,e2,e3,e4,e5,e6,e7⟩:=hbm;exact⟨bm,o,e1,e2,e3,base_of e4 (noA e4 (λ_ _ z=>by rw[e7]at z;cases z) λ_=>.inl λz=>by rw[e7]at z;cases z),e5,e6,e7⟩
  refine codeAny_mono ((F _ hKb (nsK hns) hCd hBm).run callerA [] s₁ H ⟨[.ref a],[]⟩ [.ref a] [.ref a] _ _ hr e0 (hbind s₁ (.ref a)) (.cons rfl .nil) (hsp H hS hTb)) λr s' h=>?_
  cases r with
  | error e=>exact(hCX H e s' h).elim
  | ok fl=>
   cases fl with
   | next=>exact zU h
   | brk=>exact zU h
   | cont=>exact zU h
   | ret u=>
    obtain⟨v,H',os,bare,un,hok',r',q⟩:=h;have q':v=.bl true:=q;subst q';obtain rfl:u=zQ true:=r';refine⟨rfl,⟨λb o e=>?_,λb o e=>un.there b o e (by simp)⟩,os,bare⟩
    cases q:H b with
    | none=>exact .inl (un.keep b o e q (by intro z;exact absurd (show b∈([]:List Addr)from z) (by simp)) (by simp))
    | some u=>
     rcases hO b u q with⟨rfl,rfl,_⟩ | ⟨rfl,e',he,rfl⟩
     ·have z2:=un.frzs b _ _ q
      obtain⟨e1,_⟩:=hok b _ q;obtain⟨e2,_⟩:=hok' b _ z2;rw[e]at e1;cases e1;exact .inl e2
     ·obtain⟨more,z⟩:=un.tbls _ _ q
      have z2:s'.heap.get? e'.2=some (qaD (#[]++more)):=hok' _ _ z;have e1:=(hT e' he).2;rw[e]at e1;cases e1;exact .inr (.inl ⟨((hT e' he).1.tab (hT e' he).2).isCodeTable,rfl,#[],more,rfl,z2⟩)
 cases hk:K.lookup a with
 | some o=>
  have e:=KX a o hk;rw[ha]at e
  cases e
  refine core (λb=>open Classical in if ∃e∈tb,e.2=b then some (.tbl #[])else none) (λb u z=>?_) (.inr ⟨_,vs.toArray,_,hk,rfl,rfl,rfl,by rw[qy,lenV];exact hl,by simpa using rv⟩) (λe he=>if_pos ⟨e,he,rfl⟩);by_cases h:∃e∈tb,e.2=b
  ·rw[if_pos h]at z;cases z;exact .inr ⟨rfl,h⟩
  ·rw[if_neg h]at z;cases z
 | none=>
  refine core (λb=>open Classical in if ∃e∈tb,e.2=b then some (.tbl #[])else if b=a then some (.frz { cls:=.type "list",data:=.seq vs.toArray } (.lst (ns.map V.int)))else none) (λb u z=>?_) (.inl (.inr ⟨{ cls:=.type "list",data:=.seq vs.toArray },?_⟩)) (λe he=>if_pos ⟨e,he,rfl⟩)
  ·by_cases h:∃e∈tb,e.2=b
   ·rw[if_pos h]at z;cases z;exact .inr ⟨rfl,h⟩
   ·rw[if_neg h]at z
    by_cases hb:b=a
    ·rw[if_pos hb]at z;cases z;exact .inl ⟨hb,rfl,hk⟩
    ·rw[if_neg hb]at z;cases z
  ·show(if ∃e∈tb,e.2=a then _ else _)=_
   rw[if_neg (λ⟨e,he,z⟩=>tabne e he z),if_pos rfl]
def Zlv {l : PySem.W.OpenLaw}{n k : Nat}{q : xE}{loose : List Str}{XP : (Str -> Option Value) -> Heap -> Prop}{YP : World -> Heap -> Prop}{d : DefRec}{K : Params -> ql}{CX : World -> Wm}{sp : World -> Sp}{x : Str}{tb : List (Str × Addr × Addr)}
    (hn : l.most = some n) (hn2 : n <= xg) (hdf : d.params.defaults = []) (hr : Room k callerA)
    (hY : ∀ (w : World) (h : Heap), YP w h -> (K w.params).In h)
    (hrec : ∀ e ∈ tb, ∃ d, (recsOf q).find? (λr => r.name == e.1) = some d) (htab : ∀ w : World, ∀ e ∈ tb, PySem.W.tabIn (K w.params) e.1 = some e.2) (hno : ∀ w : World, PySem.W.noTabs (K w.params) = true)
    (F : ∀ (w : World) (mg : Str -> Option Value) (fa : Addr) (h : Heap), (K w.params).In h -> h.Ns mainGlobals mg -> mg d.name = some (.ref fa) ->
      ∃ fd : xD, (∀ (s : Shared) (u : Value), BindsTo s fd ⟨[u], []⟩ [(x, u)]) /\
        ∀ base : Heap, (K w.params).In base -> base.Ns mainGlobals mg -> (∀ e ∈ tb, zJ base e.2.1 e.2.2) -> Uo mg base -> FnOk l.prog w (K w.params) mg base (CX w) k fa fd [x] (sp w))
    (hsp : ∀ (w : World) (H : Hp) (a : Addr) (ns : List Int), ns.length <= n -> ZF (K w.params) H a (ns.map V.int) -> (∀ e ∈ tb, H e.2.2 = some (.tbl #[])) -> sp w [.ref a] H (λv _ => v = .bl true) λ_ _ _ => False)
    (hCX : ∀ (w : World) (H : Hp) (s : Shared) (e : Value) (s' : Shared), CX w [] H s (λ_ _ _ => False) e s' -> False) :
    qcl q loose XP YP l.row.toRowW d [] (λf vs => qcg f vs) := by
  refine Att.attach_call hn hdf λw s₀ s₁ mg mb fa o pm cd doc a vs ns G Y ho hd hcd hmg hobj hints jT hg => ?_;have KX := hY w _ Y;obtain⟨fd, hb, hF⟩ := F w mg fa _ KX G.T.g hmg;have hT : ∀ e ∈ tb.map (·.2), zJ s₁.heap e.1 e.2 /\ s₁.heap.get? e.2 = some (qaD #[]) := λe he => by
    obtain⟨e', he', rfl⟩ := qu.mp he;obtain⟨d', hd'⟩ := hrec e' he';exact PySem.W.tab_of G.T KX hd' (htab w e' he')
  exact ZjO (tb := tb.map (·.2)) KX G.T.g G.T.b G.T.builtins G.T.nolimit hg hT (hno w) (let ⟨bm, ob, a, b, c, d, e, f⟩ := G.T.bmain; ⟨bm, ob, a, b, (λz => by
      obtain⟨o, es, ep, e', hd', _⟩ := G.T.g;rw[z, e'] at c; cases c; rw[hd'] at f; cases f), c, d, e, f⟩) hobj hints (ze jT hn2) hr
    (λbase h1 h2 h3 h4 => hF base h1 h2 (λe he => h3 e.2 (y6 (f := (·.2)) he)) h4) hb (λH hS hTb => hsp w H a ns jT hS λe he => hTb e.2 (y6 (f := (·.2)) he)) λH e s' => hCX w H s₁ e s'
end TF
namespace L2
section
variable {X:Cx}{jJ:Qb}{σ:St}{H:Hp}{s:Shared}{h':Heap}
def Inv.turnedN {t':Nat}{fp:List Addr}(I:Inv X jJ σ H s)(k:∀b o,b∉fp->s.heap.get? b=some o->h'.get? b=some o)(hf:∀b∈fp,WF X jJ H b):Inv X jJ σ H { s with heap:=h',toks:=t' }:=by
 have nit:∀b u,H b=some u->b∉fp:=λb u e z=>by rw[(hf b z).1]at e;cases e
 refine I.step (g':=s.gens) (d':=s.drawn) (ch:=fp) (λb hb=>?_) (λb o _ _ hc e _=>k b o hc e) (λb o _ _ hc e _=>⟨o.slots,k b o hc e⟩) (λ_ _ _ _ n=>n)
  (λb o hc e=>⟨o,k b o hc e⟩) (λ_ _ e=>e) (λ_ _ _ e=>e) (λb ps e=>⟨#[],by rw[e];simp⟩) (λm hm=>?_) (λb u e=>?_) I.bare
 ·obtain⟨f0,f1,f2,f3,f4,f5⟩:=hf b hb
  exact⟨f3,f1,f4,f5⟩
 ·obtain⟨o,es,ep,ho,r⟩:=hm
  exact⟨o,es,ep,k _ o (λz=>(hf _ z).2.1 rfl) ho,r⟩
 ·refine(I.hok b u e).stay (λc v hc q=>k c v ?_ q) (λ_ q=>q) λ_ _ q=>q
  rcases hc with z | z
  ·rw[z];exact nit b u e
  ·exact nit c _ z
def Inv.turnedT {t':Nat}{fp:List Addr}{T:Addr}{o:HO}(I:Inv X jJ σ H s)(k:∀b o,b∉fp->s.heap.get? b=some o->h'.get? b=some o)(hf:∀b∈fp,WF X jJ H b)(hT:s.heap.objs.size<=T)(new:Yz X.prog X.w (Zi H T o) h' T o):Inv X jJ σ (Zi H T o) { s with heap:=h',toks:=t' }:=by
 have hn:=I.hok.fresh hT;have nit:∀b u,H b=some u->b∉fp:=λb u e z=>by rw[(hf b z).1]at e;cases e
 refine I.step (g':=s.gens) (d':=s.drawn) (ch:=fp) (λb hb=>?_) (λb o _ _ hc e _=>k b o hc e) (λb o _ _ hc e _=>⟨o.slots,k b o hc e⟩) (λb u _ q n=>by rw[Zr (qH (qS (qD q) hT))];exact n)
  (λb o hc e=>⟨o,k b o hc e⟩) (λb xs q=>by rw[Zr (Z1 q hn)];exact q) (λb u xs q=>by rw[Zr (Z1 q hn)];exact q) (λb ps q=>⟨#[],by rw[Zr (Z1 q hn),q];simp⟩) (λm hm=>?_) (λb u e=>?_) I.bare
 ·obtain⟨f0,f1,f2,f3,f4,f5⟩:=hf b hb
  exact⟨f3,f1,f4,f5⟩
 ·obtain⟨o,es,ep,ho,r⟩:=hm
  exact⟨o,es,ep,k _ o (λz=>(hf _ z).2.1 rfl) ho,r⟩
 ·by_cases hb:b=T
  ·subst hb;rw[ZI]at e;cases e;exact new
  ·rw[Zr hb]at e
   refine(I.hok b u e).stay (λc v hc q=>k c v ?_ q) (λc q=>by rw[Zr (Z1 q hn)];exact q) λc xs q=>by rw[Zr (Z1 q hn)];exact q
   rcases hc with z | z
   ·rw[z];exact nit b u e
   ·exact nit c _ z
end
end L2
namespace TF
open L2
section
variable {X:Cx}{G:Gh}
end
section
variable {X:Cx}{G:Gh}
def U3:D->Option Bool
 | .non=>some true
 | .pen=>none
 | .ty _=>none
 | .clo _ _=>none
 | _=>some false
def dIsN (d e:D):Option D:=match e with | .non=>(U3 d).map .bl | _=>none
def ZeI {Hf:Hp}{d:D}{v:V}{b:Bool}(h:U3 d=some b)(r:Zm G Hf d v):decide (v=.non)=b:=by
 cases d with
 | non=>cases h;rw[jg.mp r];rfl
 | bl _=>cases h;rw[je.mp r];rfl
 | int _=>cases h;rw[ja.mp r];rfl
 | str _=>cases h;rw[ji.mp r];rfl
 | tup _=>cases h;obtain⟨p,vs,rfl,_⟩:=jc.mp r;rfl
 | lst _=>cases h;obtain⟨p,vs,rfl,_⟩:=jb.mp r;rfl
 | dk _=>cases h;obtain⟨p,rfl,_⟩:=jj.mp r;rfl
 | dt _=>cases h;obtain⟨p,_,rfl,_⟩:=jk.mp r;rfl
 | du _=>cases h;obtain⟨p,rfl,_⟩:=jl.mp r;rfl
 | df _=>cases h;obtain⟨p,_,rfl,_⟩:=jq.mp r;rfl
 | pen=>cases h
 | ty _=>cases h
 | clo _ _=>cases h
def Znl:XE X G (xk .Is) dIsN:=
 ⟨_,ZoQ,λHf H s x y d e c Q e1 st rx ry q k=>by
  cases e with
  | non=>
   have q:(U3 d).map D.bl=some c:=q
   cases hb:U3 d with
   | none=>rw[hb]at q;cases q
   | some b=>
    rw[hb]at q
    cases q
    refine⟨jg.mp ry,?_⟩;rw[ZeI hb rx];exact k _ Hf H (.refl e1) st (je.mpr rfl) (.scal λz=>z)
  | _=>cases q⟩
def maxI (n:Int)(r:List Int):Int:=r.foldl max n
def Znm (r:List Int):∀n,n<=maxI n r/\∀a∈r,a<=maxI n r:=by
 induction r with
 | nil=>intro n;exact⟨qcx _,by simp⟩
 | cons b r ih=>
  intro n;obtain⟨h1,h2⟩:=ih (max n b);refine⟨?_,λa ha=>?_⟩
  ·show n<=maxI (max n b) r;omega
  ·show a<=maxI (max n b) r
   rcases qm.mp ha with rfl | ha
   ·omega
   ·exact h2 a ha
def Zlw (r:List Int):∀n,maxI n r∈n::r:=by
 induction r with
 | nil=>intro n;simp[maxI]
 | cons b r ih=>
  intro n;have h:=ih (max n b);show maxI (max n b) r∈n::b::r;rcases qm.mp h with h | h
  ·rw[h]
   rcases Int.le_total n b with z | z
   ·rw[Int.max_eq_right z];simp
   ·rw[Int.max_eq_left z];simp
  ·exact qO _ (qO _ h)
def max_uniq {n M:Int}{r:List Int}(h1:M∈n::r)(h2:∀a∈n::r,a<=M):M=maxI n r:=by
 obtain⟨g1,g2⟩:=Znm r n;have g3:=h2 _ (Zlw r n);have g4:M<=maxI n r:=by
  rcases qm.mp h1 with h | h
  ·rw[h];exact g1
  ·exact g2 M h
 omega
def ZiL:List D->Option D
 | [.lst ds]=>match ZG ds with | some (n::r)=>some (.int (maxI n r)) | _=>none
 | _=>none
def ZjP (hc:X.calm=true):XB X (.builtin "max") (λxs H Q=>∃p n r,xs=[.ref p]/\ZF X.K H p ((n::r).map V.int)/\Q (.int (maxI n r)) H):=by
 intro jJ s σ H xs us Q I r h;obtain⟨p,n,rr,rfl,hp,q⟩:=h;obtain⟨u,rfl,ru⟩:=XI r
 cases ru
 obtain⟨jL,rv,pl,hz⟩:=I.list hp;have hi:IntsAre jL (n::rr):=W8 rv;obtain⟨xs,e⟩:=hi.allInts.items;have hns:n::rr=xs.toList.map (·.1):=by rw[<-hi.numsOf,<-nums_intItems,<-e]
 have hl:=pl.isList;rw[e]at hl;have hsz:0<xs.size:=by
  have h3:0<(n::rr).length:=by simp
  rw[hns,qd,qL]at h3;exact h3
 refine max_intList (I.ok.hd hc) hl hsz λv h' tk hv hk=>?_;obtain⟨t,rfl⟩:=intItems_at hv;obtain⟨h1,h2⟩:=argBest_gt (numAt xs) (xs.size-1);have e2:numAt xs (argBest (λi j=>decide (numAt xs i > numAt xs j)) (xs.size-1))=maxI n rr:=by
  refine max_uniq ?_ λa ha=>?_
  ·rw[hns,numAt_eq];exact getD_mem (by rw[qd,qL];omega)
  ·rw[hns]at ha
   obtain⟨j,hj,rfl⟩:=mem_getD ha;rw[qd,qL]at hj;rw[<-numAt_eq];exact h2 j (by omega)
 rw[e2];exact⟨.int (maxI n rr),H,I.kept (t':=tk) hk,⟨_,rfl⟩,q⟩
def ZhG (hc:X.calm=true):X2 X G (.builtin "max") ZiL:=
 ⟨_,ZjP hc,λHf H s xs ds c Q e1 st r q k=>by
  match ds,q,r with
  | [.lst es],q,r=>
   have q:(match ZG es with | some (n::r)=>some (D.int (maxI n r)) | _=>none)=some c:=q
   cases he:ZG es with
   | none=>rw[he]at q;cases q
   | some ns=>
    cases ns with
    | nil=>rw[he]at q;cases q
    | cons n rr=>
     rw[he]at q
     cases q
     obtain⟨v,rfl,rv⟩:=jh r;obtain⟨p,vs,rfl,np,hp,rp⟩:=jb.mp rv;rw[WA he]at rp;rw[jm rp]at hp;exact⟨p,n,rr,rfl,ZF.of (e1 _ _ np hp),k _ Hf H (.refl e1) st (ja.mpr rfl) (.scal λz=>z)⟩⟩
end
def Za5:∀{a b:List Int},a.Perm b->a.Pairwise (·<=·)->b.Pairwise (·<=·)->a=b
 | [],b,p,_,_=>(List.nil_perm.mp p).symm
 | x::a,[],p,_,_=>absurd p.length_eq (by simp)
 | x::a,y::b,p,ha,hb=>by
  have ha':=yj.mp ha;have hb':=yj.mp hb;have e:x=y:=by
   have h1:x∈y::b:=p.mem_iff.mp (by simp);have h2:y∈x::a:=p.mem_iff.mpr (by simp);rcases qm.mp h1 with h1 | h1
   ·exact h1
   ·rcases qm.mp h2 with h2 | h2
    ·exact h2.symm
    ·have:=hb'.1 x h1
     have:=ha'.1 y h2;omega
  subst e;rw[Za5 (qal.cons_inv p) ha'.2 hb'.2]
def YX (ns:List Int):List Int:=ns.mergeSort λa b=>decide (a<=b)
def Bm (ns:List Int):(YX ns).Perm ns:=List.mergeSort_perm ns _
def Zfs (ns:List Int):(YX ns).Pairwise (·<=·):=by
 have h:=List.pairwise_mergeSort (le:=λ(a b:Int)=>decide (a<=b)) (λa b c h1 h2=>by simp at h1 h2⊢;omega) (λa b=>by simp;omega) ns;exact h.imp λh=>by simpa using h
def ZaU {a ns:List Int}(p:a.Perm ns)(h:a.Pairwise (·<=·)):a=YX ns:=Za5 (p.trans (Bm ns).symm) h (Zfs ns)
section
variable {X:Cx}{G:Gh}
def ZaV:∀{vs:List Value} {ns:List Int},IntsAre vs ns->Zz (ns.map V.int) vs
 | _,_,.nil=>.nil
 | _,_,.cons n t r=>.cons ⟨t,rfl⟩ (ZaV r)
def ZhH:XB X (.builtin "sorted") (λxs H Q=>∃(p:Addr) (ns:List Int),xs=[.ref p]/\ZF X.K H p (ns.map V.int)/\ns.length<64/\∀l,H l=none->Q (.ref l) (Zi H l (.lst ((YX ns).map V.int)))):=by
 intro jJ s σ H xs us Q I r h;obtain⟨p,ns,rfl,hp,h64,q⟩:=h;obtain⟨u,rfl,ru⟩:=XI r
 cases ru
 obtain⟨jL,rv,pl,hz⟩:=I.list hp;have hi:IntsAre jL ns:=W8 rv;have hl:=rv.length;rw[qd]at hl;refine sorted_ints pl.isList hi (by omega) λout ns' a1 a2 a3=>?_;obtain⟨e,he⟩:=sortedAll_at s.heap jL out;have eo:out=out.toList.toArray:=by simp
 rw[eo]at he;have en:=ZaU a2 a3;subst en;have hle:s.heap.objs.size<=s.heap.objs.size+1:=qbf _;refine⟨.ref (s.heap.objs.size+1),_,I.laid (a:=s.heap.objs.size+1) (o:=.lst ((YX ns).map V.int)) (t':=s.toks) (λ_ _=>sortedAll_old) hle ⟨?_,out.toList,e,ZaV a1,he⟩,rfl,q _ (I.hok.fresh hle)⟩;rw[qd,(Bm ns).length_eq,sizeLine_eq];omega
def Jy:List D->Option D
 | [.lst ds]=>match ZG ds with | some ns=>if ns.length<64 then some (.lst ((YX ns).map .int))else none | none=>none
 | _=>none
def Ut {Hf:Hp}:∀ns:List Int,Zk G Hf (ns.map D.int) (ns.map V.int)
 | []=>Zk.nil_iff.mpr rfl
 | n::ns=>.cons (ja.mpr rfl) (Ut ns)
def ZbR:X2 X G (.builtin "sorted") Jy:=
 ⟨_,ZhH,λHf H s xs ds c Q e1 st r q k=>by
  match ds,q,r with
  | [.lst es],q,r=>
   have q:(match ZG es with | some ns=>if ns.length<64 then some (D.lst ((YX ns).map .int))else none | none=>none)=some c:=q
   cases he:ZG es with
   | none=>rw[he]at q;cases q
   | some ns=>
    rw[he]at q;have q:(if ns.length<64 then some (D.lst ((YX ns).map .int))else none)=some c:=q;split at q
    ·rename_i h64
     cases q
     obtain⟨v,rfl,rv⟩:=jh r;obtain⟨p,vs,rfl,np,hp,rp⟩:=jb.mp rv;rw[WA he]at rp;rw[jm rp]at hp;refine⟨p,ns,rfl,ZF.of (e1 _ _ np hp),h64,λl hl=>?_⟩;have nf:=Gh.nofp st hl;have g2:=Gr.new (o:=.lst ((YX ns).map V.int)) e1 hl nf;exact k (.ref l) _ _ g2 (Gh.grow st hl) (jb.mpr ⟨l,_,rfl,nf,ZI,Ut _⟩) (YC.mk e1 hl nf (Ut _))
    ·cases q⟩
def ZjQ {ob own own':List Nat}{fr:Bool}{sts:List Stmt}:Wh X G ob own own' fr sts (λ_=>Zv):=⟨λ_ _ _=>False,λ_ _ _ _ _ _ h=>h.elim,λ_ _ _ _ _ _ _ _ _ _ _ _ e _=>by cases e⟩
end
end TF
namespace HT
section
variable {prog:xE}{w:World}{A:xF}{E:xG}{s:Shared}
def pick_rev (xs:Array Value):((qk xs.size).filterMap λ(m:Nat)=>xs[(((xs.size:Nat):Int)-1+(m:Int)*(-1)).toNat]?).toArray=xs.toList.reverse.toArray:=by
 congr 1;have e:∀l:List Value,∀k,k<=l.length->(qk k).filterMap (λ(m:Nat)=>l[((l.length:Int)-1+(m:Int)*(-1)).toNat]?)=l.reverse.take k:=by
  intro l k
  induction k with
  | zero=>intro _;simp
  | succ k ih=>
   intro hk;rw[qa7,List.filterMap_append,ih (by omega)];have hi:((l.length:Int)-1+(k:Int)*(-1)).toNat=l.length-1-k:=by omega
   have hg:l[l.length-1-k]?=some (l[l.length-1-k]'(by omega)):=qj _;have hr:l.reverse[k]?=some (l[l.length-1-k]'(by omega)):=by rw[List.getElem?_reverse (by omega)];exact hg
   rw[List.take_succ,hr];simp only[yr,List.filterMap_nil,hi,hg];rfl
 have:=e xs.toList xs.toList.length (qq _);rw[qaU (by simp)]at this;simpa using this
end
end HT
namespace TF
open L2
section
variable {X:Cx}{G:Gh}
def ZbS:∀{xs:List V} {us:List Value},Zz xs us->Zz xs.reverse us.reverse
 | _,_,.nil=>.nil
 | _,_,.cons r t=>by
  rw[qaM,qaM];exact(ZbS t).append (.cons r .nil)
def Zk.reverse {Hf:Hp}:∀{ds:List D} {vs:List V},Zk G Hf ds vs->Zk G Hf ds.reverse vs.reverse
 | [],vs,h=>by rw[Zk.nil_iff.mp h];exact Zk.nil_iff.mpr rfl
 | d::ds,vs,h=>by
  obtain⟨v,r,rfl,h1,h2⟩:=jd.mp h;rw[qaM,qaM];exact(Zk.reverse h2).append (.one h1)
end
end TF
namespace L2
open AutoSeq1 (wpAny_loadPart')
section
variable {prog:xE}{w:World}{A:xF}{E:xG}{s:Shared}
end
def Zdq:xj "enumerate" = some (.type "enumerate"):=by decide +kernel
end L2
namespace TF
open L2
section
variable {X:Cx}{G:Gh}
def VW (ds:List D):List D:=ds.mapIdx λi d=>D.tup [.int (i:Int),d]
end
section
variable {X:Cx}{G:Gh}
def Zlx {i:Nat}{x:Str}{e:Expr}{pos p1 p2 p3:Pos}{r1 fr:Bool}{ob own:List Nat}{f:Zb->M D}(hi:i∈own)(hv:PE X (.Name x p1) (Z7 i))(he:PD X G r1 e f)
  (hbase:xq (.Name x p1) "append" X.env (eval (.Name x p1) X.env)=eval (.Name x p1) X.env:=by rfl)
  (hfew:((backTo p3 (xh [e] X.env)).all (λx=>!x.1)&&(xp p3 (xi [] X.env)).all (λx=>x.1.isSome)
   && decide ([e].length+([]:List Keyword).length+(if ([]:List Keyword).isEmpty then 0 else 1)<30))=true:=by rfl)
  (hline:(p2.endLine==p3.line)=true:=by rfl) (hs:xh [e] X.env=(false,eval e X.env)::xh [] X.env:=by rfl)
  (hsw:xr (.Call (.Attribute (.Name x p1) "append" p2) [e] [] p3) none pos.line X.env=pure false:=by rfl) :
  YE X G ob own own fr (.Expr (.Call (.Attribute (.Name x p1) "append" p2) [e] [] p3) pos) (VY i (fun ρ=>f (Yq own ρ))):=
 Zf8 hi he λte p=>Zce hv p hbase hfew hline hs hsw
end
def Ve:Nat->List Int->M (List Int)
 | 0,_=>ZA []
 | k+1,left=>Zq (Yv [.pen,.int (left.length:Int)]) λd=>match d with
  | .int r=>if 0<=r then (match left[r.toNat]? with | some x=>Zq (Ve k (left.eraseIdx r.toNat)) λxs=>ZA (x::xs) | none=>Zv)else Zv
  | _=>Zv
def WO (n:Nat):List Int:=(qk n).map λ(i:Nat)=>(i:Int)
def WZ:List D->M D
 | [.pen,.int n]=>if 0<=n/\n<=1000 then Zq (Ve n.toNat (WO n.toNat)) λxs=>ZA (.lst (xs.map D.int))else Zv
 | _=>Zv
def ZhI {k:Nat}{left:List Int}{s s':Pn}{xs:List Int}(h:Ve (k+1) left s=some (xs,s')):∃r s1 x ys,Yv [.pen,.int (left.length:Int)] s=some (.int r,s1)/\0<=r/\left[r.toNat]?=some x/\Ve k (left.eraseIdx r.toNat) s1=some (ys,s')/\xs=x::ys:=by
 obtain⟨d,s1,a1,a2⟩:=ZC h
 cases d with
 | int r=>
  obtain⟨r0,a3⟩:=Xf (show(if 0<=r then (match left[r.toNat]? with | some x=>Zq (Ve k (left.eraseIdx r.toNat)) λxs=>ZA (x::xs) | none=>Zv)else Zv) s1=some (xs,s')from a2)
  cases hx:left[r.toNat]? with
  | none=>rw[hx]at a3;cases a3
  | some x=>
   rw[hx]at a3;obtain⟨ys,s2,a4,a5⟩:=ZC (show Zq (Ve k (left.eraseIdx r.toNat)) (λxs=>ZA (x::xs)) s1=some (xs,s')from a3);obtain⟨rfl,rfl⟩:=ZO a5;exact⟨r,s1,x,ys,a1,r0,hx,a4,rfl⟩
 | _=>cases a2
def tPop (K:ql)(E:XK):TE:=VE K "list" Zhh (Z7 1) (Y9 (Zn2 (Yf 2 true XO Yv) [] E (Y9 (Z7 2) (Y9 (B4 (λxs H Q=>∃p ys,xs=[.ref p]/\(ZF K H p ys∨ZS K H p ys)/\Q (.int ys.length) H) (Y9 (Z7 1) Xq)) Xq))) Xq)
def tOrd (K:ql)(E:XK):TE:=JP [none,some 2,some 0] (ZnY (Y9 (Z7 1) Xq)) (Wf 0) Zit (tPop K E)
def ZeJ {α β:Type}(f:α->β):∀(l:List α) (i:Nat),(l.eraseIdx i).map f=(l.map f).eraseIdx i
 | [],i=>by simp
 | a::l,0=>by simp
 | a::l,i+1=>by simp[ZeJ f l i]
def Znn {K:ql}{E:XK}{p wa l:Addr}{n:Nat}{Hf H:Hp}{s s':Pn}{xs:List Int}{Q:VK}(hn:n<=1000)(e1:ZB (Xl p wa) Hf H)(st:(Xl p wa).st s H)(hl:H l=some (.lst ((WO n).map V.int)))(nl:¬(Xl p wa).fp l)(hfl:Hf l=none)(he:Ve n (WO n) s=some (xs,s'))
  (k:∀(q:Addr) (H':Hp),H q=none->¬(Xl p wa).fp q->H' q=some (.lst (xs.map V.int))->(∀b o,¬(Xl p wa).fp b->b≠l->H b=some o->H' b=some o)->(Xl p wa).st s' H'->Q (.ref q) H') :
  tOrd K E [some (.ref p),some (.int (n:Int)),some (.ref l)] H Q:=by
 refine⟨.int (n:Int),rfl,(n:Int),rfl,by omega,by omega,λq hq=>?_⟩;have nq:¬(Xl p wa).fp q:=Gh.nofp st hq;have nql:q≠l:=λz=>by rw[z,hl]at hq;cases hq
 refine⟨λi m σ2 H2=>∃(si:Pn) (left done rest:List Int) (o:Option V),m=n-i/\i<=n/\σ2=[o,some (.ref l),some (.ref p)]/\(Xl p wa).st si H2/\H2 l=some (.lst (left.map V.int))/\H2 q=some (.lst (done.map V.int))/\Ve (n-i) left si=some (rest,s')/\done++rest=xs/\done.length=i/\left.length<=1000/\(∀b u,¬(Xl p wa).fp b->b≠l->b≠q->H b=some u->H2 b=some u)/\ZB (Xl p wa) Hf H2,?_,?_⟩
 ·refine⟨n,s,WO n,[],xs,none,by omega,by omega,rfl,Gh.grow st hq,by rw[Zr (zg nql)];exact hl,ZI,by rw[Nat.sub_zero];exact he,rfl,rfl,by unfold WO;simp;exact hn,λb u nb n1 n2 hb=>by rw[Zr n2];exact hb,?_⟩
  exact λb u nb hb=>by rw[Zr (Z1 (e1 b u nb hb) hq)];exact e1 b u nb hb
 ·rintro i m σ2 H2 ⟨si,left,done,rest,o,hm,hi,hσ,hst,hL,hD,hp,hx,hdl,hll,keep,ext⟩
  subst hσ;have sub':H2 q≠none:=by rw[hD];exact Option.some_ne_none _
  by_cases hin:i=n
  ·refine .inl ⟨by show n<=i;omega,?_⟩
   subst hin;rw[qcu]at hp;obtain⟨rfl,rfl⟩:=ZO hp;rw[zp]at hx;subst hx;exact k q H2 hq nq hD (λb u nb n1 hb=>keep b u nb n1 (λz=>by rw[z,hq]at hb;cases hb) hb) hst
  ·refine .inr ⟨by show i<n;omega,λx H3 ⟨y1,y2⟩=>?_⟩
   subst y1;obtain⟨kk,hkk⟩:∃kk,n-i=kk+1:=⟨n-i-1,by omega⟩;rw[hkk]at hp;obtain⟨r,s1,y,ys,hd,r0,hy,hp2,rfl⟩:=ZhI hp;unfold Wf Zit;have hrl:r.toNat<left.length:=(qM.mp hy).1;refine Vy ?_;refine⟨.ref l,rfl,.inl ⟨rfl,_,ZF.of hL⟩,.ref p,rfl,.ref l,rfl,l,left.map V.int,rfl,.inl (ZF.of hL),?_⟩;refine⟨Xl p wa,Hf,[.pen,.int (left.length:Int)],si,.int r,s1,⟨p,wa,rfl⟩,rfl,ext,?_,hst,hd,λv Hf4 H4 g4 st4 r4 _=>?_⟩
   ·rw[zp,qd]
    exact .cons (jo.mpr rfl) (.one (ja.mpr rfl))
   ·rw[ja.mp r4]
    have hL4:H4 l=some (.lst (left.map V.int)):=g4.hh l _ nl hL;have hD4:H4 q=some (.lst (done.map V.int)):=g4.hh q _ nq hD;refine⟨l,left.map V.int,r,r.toNat,.int y,rfl,rfl,hL4,by omega,by omega,seqIndex_of r0 (by rw[qd];omega),by rw[qt,hy];rfl,?_⟩;refine⟨done.map V.int,by rw[Zr nql];exact hD4,by rw[qd,sizeLine_eq];omega,n-(i+1),by omega,s1,left.eraseIdx r.toNat,done ++ [y],ys,_,rfl,by omega,rfl,?_,?_,?_,?_,?_,?_,?_,?_,?_⟩
    ·exact js (js st4 nl) nq (fun φ z=>by rw[Zr nql,hD4]at z;cases z)
    ·rw[Zr (zg nql),ZI]
     congr 2;rw[ZeJ]
    ·rw[ZI,zK];rfl
    ·rw[show n-(i+1)=kk by omega];exact hp2
    ·rw[yO];exact hx
    ·rw[qJ,hdl];rfl
    ·rw[qcj];split <;> omega
    ·intro b u nb n1 n2 hb
     rw[Zr n2,Zr n1];exact g4.hh b u nb (keep b u nb n1 n2 hb)
    ·intro b u nb hb
     have hbl:b≠l:=λz=>by rw[z,hfl]at hb;cases hb
     have hbq:b≠q:=λz=>by rw[z]at hb;exact absurd (e1 q u nq hb) (by rw[hq];exact λz=>by cases z)
     rw[Zr hbq,Zr hbl];exact g4.hh b u nb (ext b u nb hb)
def Zno (K:ql)(E:XK):TS:=Vw (Uh (B4 (λxs H Q=>∃r j,xs=[.ref r]/\H r=some (.rng 0 j)/\-(2 ^ 62)<=j/\j<=2 ^ 24/\∀l,H l=none->Q (.ref l) (Zi H l (.lst ((qk j.toNat).map λ(i:Nat)=>V.int (0+i))))) (Y9 (ZiC (Y9 (Z7 1) Xq)) Xq)) (Wf 2)) (BX (tOrd K E))
def ZhJ {K:ql}{E':XK}{vs:List V}{H:Hp}{Q:VK}{E:XK}{N:St->Hp->Prop}(h:Yf 2 true XO WZ vs H Q E):∃p m,vs=[.ref p,.int m]/\Zno K E' { nx:=N,rt:=Q } [some (.ref p),some (.int m),none] H:=by
 obtain⟨G,Hf,ds,pn,d,pn',hG,el,e1,r,st',eF,k'⟩:=h;obtain⟨p,wa,rfl⟩:=hG;have eF0:∃(n:Nat) (xs:List Int),n<=1000/\ds=[.pen,.int (n:Int)]/\Ve n (WO n) pn=some (xs,pn')/\d=.lst (xs.map D.int):=by
  unfold WZ at eF;split at eF
  ·rename_i m
   obtain⟨c,a1⟩:=Xf eF;obtain⟨xs,s1,a2,a3⟩:=ZC a1;obtain⟨rfl,rfl⟩:=ZO a3;obtain⟨n,rfl⟩:=qaI c.1;exact⟨n,xs,by omega,rfl,a2,rfl⟩
  ·cases eF
 obtain⟨n,xs,hn,rfl,he,rfl⟩:=eF0;obtain⟨v1,v2,rfl,r1,r2⟩:=jp r
 cases (jo.mp r1)
 cases (ja.mp r2)
 refine⟨p,(n:Int),rfl,?_⟩;refine⟨.int (n:Int),rfl,(n:Int),rfl,λg hg=>⟨g,(n:Int),rfl,ZI,by omega,by omega,λl hl=>?_⟩⟩;have hlg:l≠g:=λz=>by rw[z,ZI]at hl;cases hl
 have hl1:H l=none:=by rw[Zr hlg]at hl;exact hl
 have j6:(Xl p wa).st pn (Zi H g (.rng 0 (n:Int))):=Gh.grow st' hg;have nl:¬(Xl p wa).fp l:=Gh.nofp j6 hl;have st3:(Xl p wa).st pn (Zi (Zi H g (.rng 0 (n:Int))) l (.lst ((qk (n:Int).toNat).map λ(i:Nat)=>V.int (0+i)))):=Gh.grow j6 hl;have ng:¬(Xl p wa).fp g:=Gh.nofp st' hg;have fz:∀b,¬(Xl p wa).fp b->H b=none->Hf b=none:=λb nb hb=>by
  cases q:Hf b with
  | none=>rfl
  | some o=>rw[e1 b o nb q]at hb;cases hb
 have eE:ZB (Xl p wa) Hf (Zi (Zi H g (.rng 0 (n:Int))) l (.lst ((qk (n:Int).toNat).map λ(i:Nat)=>V.int (0+i)))):=λb u nb hb=>by
  have h1:=e1 b u nb hb;rw[Zr (Z1 h1 hl1),Zr (Z1 h1 hg)];exact h1
 have hll:(qk (n:Int).toNat).map (λ(i:Nat)=>V.int (0+i))=(WO n).map V.int:=by
  unfold WO;rw[qE];show(qk n).map _=_;refine zt λi _=>?_;show V.int (0+(i:Int))=V.int (i:Int);rw[Int.zero_add]
 refine Znn hn eE st3 (by rw[ZI,hll]) nl (fz l nl hl1) he λq H' hq nq hD keep stf=>?_;have hql:q≠l:=λz=>by rw[z,ZI]at hq;cases hq
 have hqg:q≠g:=λz=>by rw[z,Zr (zg hlg),ZI]at hq;cases hq
 have hqH:H q=none:=by rw[Zr hql,Zr hqg]at hq;exact hq
 have hh:ZB (Xl p wa) H H':=λb u nb hb=>by
  have n1:b≠l:=Z1 hb hl1;refine keep b u nb n1 ?_;rw[Zr n1,Zr (Z1 hb hg)];exact hb
 have hfq:Hf q=none:=fz q nq hqH;have rr:Zk (Xl p wa) Hf (xs.map D.int) (xs.map V.int):=Ut xs;refine k' (.ref q) (Zi Hf q (.lst (xs.map V.int))) H' ⟨hh,λb u nb hb=>by rw[Zr (Z1 hb hfq)];exact hb,λb u nb hb=>?_,λb nb h1 h2=>?_⟩ stf (jb.mpr ⟨q,_,rfl,nq,ZI,Ut xs⟩) λ_=>λa ea _=>?_
 ·by_cases hb2:b=q
  ·subst hb2;rw[ZI]at hb;cases hb;exact hD
  ·rw[Zr hb2]at hb;exact hh b u nb (e1 b u nb hb)
 ·have hbq:b≠q:=λz=>h2.no (by rw[z];exact hqH)
  rw[Zr hbq];exact h1
 ·cases ea
  exact⟨hqH,λds' ed=>by cases ed;exact⟨xs.map V.int,Hf,ZI,hfq,λb u nb hb=>by rw[Zr (Z1 hb hfq)];exact hb,rr⟩⟩
def erase_perm:∀(l:List Int) (i:Nat) (h:i<l.length),(l[i]::l.eraseIdx i).Perm l
 | [],i,h=>absurd h (by simp)
 | a::l,0,h=>qal.refl _
 | a::l,i+1,h=>by
  have hi:i<l.length:=by simpa using h
  have:=erase_perm l i hi;show(l[i]::a::l.eraseIdx i).Perm (a::l);exact(qal.swap _ _ _).trans (qb3 a this)
def ZiM:∀(k:Nat) (left:List Int) (T:Nat) (s:Pn),left.length=k->k<=1000->Xe T s->T+k<1000000000->Ok (Ve k left) s λxs s'=>xs.Perm left/\Xe (T+k) s'
 | 0,left,T,s,hl,_,ok,_=>by
  have:left=[]:=zB.mp hl;subst this;exact .ret ⟨qal.refl _,ok⟩
 | k+1,left,T,s,hl,hk,ok,hT=>by
  obtain⟨r,s1,e,r0,r1,ok1⟩:=Zfr (k:=(left.length:Int)) ok (by omega) (by omega) (by omega);have hr:r.toNat<left.length:=by omega
  have hx:left[r.toNat]?=some left[r.toNat]:=qj hr;have ih:=ZiM k (left.eraseIdx r.toNat) (T+1) s1 (by rw[qcj,if_pos hr];omega) (by omega) ok1 (by omega);refine .bind (.eq e ?_);show Ok (if 0<=r then (match left[r.toNat]? with | some x=>Zq (Ve k (left.eraseIdx r.toNat)) λxs=>ZA (x::xs) | none=>Zv)else Zv) s1 _;refine .ite r0 ?_;rw[hx];refine .bind (ih.mono λxs s' q=>.ret ⟨?_,q.2.mono (by omega)⟩);refine(qb3 _ q.1).trans ?_;exact erase_perm left r.toNat hr
def Zgn {T n:Nat}{s:Pn}(ok:Xe T s)(hT:T<900000000)(hn:n<=1000):Ok (WZ [.pen,.int (n:Int)]) s λd s'=>Xe (T+n) s'/\∃xs:List Int,d=.lst (xs.map D.int)/\xs.Perm (WO n):=by
 show Ok (if 0<=(n:Int)/\(n:Int)<=1000 then Zq (Ve (n:Int).toNat (WO (n:Int).toNat)) λxs=>ZA (D.lst (xs.map D.int))else Zv) s _;refine .ite ⟨by omega,by omega⟩ (.bind ((ZiM n (WO n) T s (by unfold WO;simp) hn ok (by omega)).mono λxs s' q=>.ret ⟨q.2,xs,rfl,q.1⟩))
end TF
namespace L2
section
variable {prog:xE}{w:World}{A:xF}{E:xG}{s:Shared}
def Zly {t:Addr}{vs:List Value}{Q:List Value->Shared->Prop}(ht:s.heap.IsTuple t vs.toArray)(k:Q vs { s with heap:=(s.heap.push (seqObj "list" #[] 0)).update s.heap.objs.size (zy (· ++ vs.toArray)) })(hz:vs.length<=xg):xf (xC prog w) A (collect (.ref t)) Q E s:=by
 obtain⟨o,ho,hc,n,hd⟩:=id ht;unfold collect;refine xa (wpAny_runValue (xm entry_proto_collect' ?_));show xf _ _ (do again (.builtin "list.__iadd__" ⟨[<-newList [],.ref t],[]⟩)) _ _ s;refine xa (xA (xb ⟨qbi _ (by decide +kernel),xm entry_list_iadd' ?_⟩));show xf _ _ (yq (.ref s.heap.objs.size) (.ref t) (.ref s.heap.objs.size)) _ _ { s with heap:=s.heap.push (seqObj "list" #[] 0) };unfold yq;have ho':(s.heap.push (seqObj "list" #[] 0)).get? t=some o:=qh _ ho;refine xa (wpAny_typeOf (T:="tuple") ⟨o,ho',hc⟩ ?_);have hb:(yf "tuple" == yf "tuple")=true:=by rfl
 rw[if_pos (by rw[hb];simp)];refine xa (listItems_at ho' hd ?_);refine xa (listItems_at (xs:=#[]) (n:=0) (qz _ rfl) rfl ?_);rw[if_neg (by simp)];refine xa (listUpdate_at (xs:=#[]) (n:=0) (qz _ rfl) rfl ?_ (zl _) (by show(#[]++vs.toArray).size<=xg+1;simp only[Array.size_append,qy,yA];omega));refine xb ?_;show xf (xC prog w) A (do let o<-load s.heap.objs.size;match o.data with | .seq xs _=>pure xs.toList | _=>unsupported "internal:collect") Q E { s with heap:=(s.heap.push (seqObj "list" #[] 0)).update s.heap.objs.size (zy (· ++ vs.toArray)) };refine xa (wpAny_load (get?_update_seq (qz _ rfl) _) ?_);show xf _ _ (pure ((#[]:Array Value)++vs.toArray).toList) Q E _;rw[show((#[]:Array Value)++vs.toArray).toList=vs by simp];exact xb k
end
end L2
namespace TF
open L2
section
variable {X:Cx}{G:Gh}
end
end TF
namespace L2
def ItL (K:ql)(a:Addr):It where
 go:=λi H=>∃xs x,ZF K H a xs/\xs[i]?=some x
 yld:=λi H v H'=>∃T x,H T=none/\v=.ref T/\H'=Zi H T (.tup [.int (i:Int),x])/\∀xs,ZF K H a xs->xs[i]?=some x
 stop:=λi H=>∃xs,ZF K H a xs/\i=xs.length
def Zpf (e q a:Addr)(i:Nat)(h:Heap):Prop:=(∃old,IsEnum h e q i old)/\h.IsListIter q a i
def ZcX {h:Heap}{a b:Addr}{o:Obj}{T:String}(ha:∃oa,h.get? a=some oa/\oa.cls=.type "list")(hb:h.get? b=some o)(hc:o.cls=.type T)(hT:T≠"list"):a≠b:=λz=>by
 obtain⟨oa,e,c⟩:=ha;rw[z,hb]at e
 cases e
 rw[hc]at c;exact hT (yf.inj c)
def ZhK {P:xE}{w:World}{K:ql}{elts:List Expr}{k:Nat}{pos:Pos}(a e q:Addr)(heq:e≠q):Turn P w K (.Tuple elts k pos) (ItL K a) [e,q] e (Zpf e q a) where
 mem:=by simp
 obj:=λi h st c hc=>by
  obtain⟨⟨old,he⟩,o1,e1,c1,d1⟩:=st;simp only[qm,zm,or_false]at hc;rcases hc with rfl | rfl
  ·exact⟨_,he,λv q=>by cases q⟩
  ·exact⟨_,e1,λv q=>by rw[d1]at q;cases q⟩
 keep:=λi h h' st kk=>by
  obtain⟨⟨old,he⟩,h1⟩:=st;exact⟨⟨old,kk e (by simp) _ he⟩,h1.at λo x=>kk q (by simp) o x⟩
 item:=by
  intro X hP hw hK hc i jJ s σ H E I hf st hg;subst hP hw hK;obtain⟨xs,x,hq,hx⟩:=hg;obtain⟨jL,rv,p,hz⟩:=I.list hq;obtain⟨u,hu,ru⟩:=rv.get hx;obtain⟨⟨old,he⟩,h1⟩:=id st;obtain⟨o1,e1,c1,d1⟩:=id h1;have pT:s.heap.IsList a jL.toArray:=p.isList;have la:∃oa,s.heap.get? a=some oa/\oa.cls=.type "list":=let ⟨o,e,c,_⟩:=pT;⟨o,e,c⟩;have hae:a≠e:=ZcX la he rfl (by decide);have haq:a≠q:=ZcX la e1 c1 (by decide);have hh:=I.ok.hd hc;have hef:e∉[q,a]:=λz=>by
   simp only[qm,zm,or_false]at z;rcases z with z | z
   ·exact heq z
   ·exact hae z.symm
  have W:=WalksT.enumerateD (A:=X.A) (Draws.list (prog:=X.prog) (w:=X.w) (A:=X.A.in1) (show X.A.in1.handled=none from hh) q a haq jL.toArray) e heq hef (by simp);have hl1:i<jL.length:=(qM.mp hu).1;refine W.item i s _ _ (by simp only[qy];exact hl1) ⟨⟨old,he⟩,h1,pT⟩ λT vals h1' tk hp hT hI hM kk=>⟨_,rfl,?_⟩;obtain⟨t,v1,g1,rfl⟩:=hp;have e2:v1=u:=by simpa[hu]using g1.symm
  subst e2;have hap:=W.apart i T h1' hM;refine W.go elts k pos i T _ _ _ hM λh2 hS kk2=>?_;have hI2:h2.IsTuple T #[.int i t,v1]:=hI.at λo e=>kk2 T o hap e;have I1:Inv X jJ σ (Zi H T (.tup [.int (i:Int),x])) { s with heap:=h2,toks:=tk }:=I.turnedT (fp:=[e,q]) (λc o hc e=>kk2 c o hc (kk c o hc e)) hf hT ⟨by show 2<=xg;decide,[.int i t,v1],.cons ⟨t,rfl⟩ (.cons ru .nil),hI2⟩;refine⟨.ref T,_,I1,rfl,⟨T,x,I.hok.fresh hT,rfl,rfl,λxs' h=>by rw[I.list_inj h hq];exact hx⟩,⟨hS.1,hS.2.1⟩,λc hc=>?_⟩;rw[Zr ?_]
  ·exact(hf c hc).1
  ·intro zc
   subst zc;have old:∃o,s.heap.get? c=some o:=by
    simp only[qm,zm,or_false]at hc;rcases hc with r | r
    ·rw[r];exact⟨_,he⟩
    ·rw[r];exact⟨_,e1⟩
   obtain⟨o,e⟩:=old;exact absurd (qD e) (Nat.not_lt.mpr hT)
 done:=by
  intro X hP hw hK hc i jJ s σ H E I hf st hg;subst hP hw hK;obtain⟨xs,hq,rfl⟩:=hg;obtain⟨jL,rv,p,hz⟩:=I.list hq;obtain⟨⟨old,he⟩,h1⟩:=id st;obtain⟨o1,e1,c1,d1⟩:=id h1;have pT:s.heap.IsList a jL.toArray:=p.isList;have la:∃oa,s.heap.get? a=some oa/\oa.cls=.type "list":=let ⟨o,e,c,_⟩:=pT;⟨o,e,c⟩;have hae:a≠e:=ZcX la he rfl (by decide);have haq:a≠q:=ZcX la e1 c1 (by decide);have hh:=I.ok.hd hc;have hef:e∉[q,a]:=λz=>by
   simp only[qm,zm,or_false]at z;rcases z with z | z
   ·exact heq z
   ·exact hae z.symm
  have W:=WalksT.enumerateD (A:=X.A) (Draws.list (prog:=X.prog) (w:=X.w) (A:=X.A.in1) (show X.A.in1.handled=none from hh) q a haq jL.toArray) e heq hef (by simp);have en:jL.toArray.size=xs.length:=by rw[qy];exact rv.length.symm
  refine W.done s _ _ (by rw[en];exact⟨⟨old,he⟩,h1,pT⟩) λh1 tk kk=>⟨rfl,?_⟩;exact I.turnedN (fp:=[e,q]) kk hf
 self:=λA i s Q E st h=>by
  obtain⟨⟨old,he⟩,_⟩:=st;exact wpAny_pyIter_enum he h
def Zpg (K:ql)(ta:TA):TI:=fun σ H R=>ta σ H λvs H1=>∃a xs,vs=[.ref a]/\H1 a=some (.lst xs)/\R (ItL K a) H1
def Zlz {X:Cx}{elts:List Expr}{k:Nat}{tp:Pos}{a:Expr}{ta:TA}{p pos:Pos}(hg:Gl X "enumerate")(hm:X.mg "enumerate" = none)(ha:PA X [a] ta)(hs:xh [a] X.env=[(false,eval a X.env)]:=by rfl) :
  PI X (.Tuple elts k tp) (.Call (.Name "enumerate" p) [a] [] pos) (Zpg X.K ta):=by
 intro jJ s σ H R I h;refine Call_ (Ub I hg hm Zdq (yo (ZL (ha pos jJ s σ H _ I h) λus s1 ⟨vs,H1,I1,r1,q1⟩=>?_) hs rfl));obtain⟨a',xs,e,hH,q⟩:=q1;subst e
 cases r1 with
 | cons r rr=>
  cases rr
  cases r
  obtain⟨z,jL,n,rv,hl,ho⟩:=I1.lstM hH;refine call_enumerate_1 ho λh' he hit hsz kk=>wpAny_pyIter_enum he ?_;have I2:Inv X jJ σ H1 { s1 with heap:=h' }:=I1.kept (t':=s1.toks) kk;have hne:(s1.heap.objs.size+1:Addr)≠s1.heap.objs.size:=Nat.succ_ne_self _;refine⟨s1.heap.objs.size+1,[s1.heap.objs.size+1,s1.heap.objs.size],_,_,H1,rfl,I2,ZhK a' _ _ hne,⟨⟨_,he⟩,hit⟩,λc hc=>?_,q⟩;simp only[qm,zm,or_false]at hc;have hle:s1.heap.objs.size<=c:=by rcases hc with r | r <;> rw[r] <;> first | exact qq _ | exact qbG _ _
  exact I1.fpOk hle (I1.hok.fresh hle)
end L2
namespace TF
open L2
section
variable {X:Cx}{G:Gh}
def VA.enumL {K:ql}{a:Addr}{vs:List V}{Hf:Hp}{ds:List D}(na:¬G.fp a)(h:Hf a=some (.lst vs))(r:Zk G Hf ds vs):VA G (ItL K a) Hf (VW ds):=λi kc H2 s e1 e2 st=>by
 have h2:ZF K H2 a vs:=ZF.of (e2 _ _ na (e1 _ _ na h));refine⟨λd q=>?_,λq=>⟨vs,h2,by rw[q];unfold VW;rw[qbj,r.length]⟩⟩;unfold VW at q;rw[yC]at q
 cases qa:ds[i]? with
 | none=>rw[qa]at q;simp at q
 | some x=>
  rw[qa]at q;simp at q;subst q;obtain⟨v,q1,q2⟩:=r.get qa;refine⟨⟨vs,v,h2,q1⟩,λz H3 ⟨T,v',hT,y0,y1,y2⟩=>?_⟩;have ev:=y2 vs h2;rw[q1]at ev;cases ev;subst y0 y1;have nf:=Gh.nofp st hT;have g2:=Gr.new (o:=.tup [.int (i:Int),v]) e2 hT nf;refine⟨Zi kc T (.tup [.int (i:Int),v]),g2,Gh.grow st hT,jc.mpr ⟨T,_,rfl,nf,ZI,?_⟩⟩;exact .cons (ja.mpr rfl) (.one ((q2.ext e1).ext g2.ff))
def Jz (f:Zb->M D):Zb->M (List D):=fun ρ=>Zq (f ρ) λd=>match d with | .lst ds=>ZA (VW ds) | _=>Zv
def ZjR {elts:List Expr}{k:Nat}{tp:Pos}{a:Expr}{p pos:Pos}{r1:Bool}{f:Zb->M D}(hg:Gl X "enumerate")(hm:X.mg "enumerate" = none)(ha:PD X G r1 a f)
  (hs:xh [a] X.env=[(false,eval a X.env)]:=by rfl):WS X G (.Tuple elts k tp) (.Call (.Name "enumerate" p) [a] [] pos) (Jz f):=by
 obtain⟨t,pa,qa⟩:=ha.drop;refine⟨_,Zlz hg hm (YN pa Y3 (by rw[hs];rfl)) hs,fun σ Hf H ρ s ds s' R e1 e2 e3 e4 k=>?_⟩;obtain⟨d,s1,a1,a2⟩:=ZC e4
 match d,a2,a1 with
 | .lst xs,a2,a1=>
  obtain⟨rfl,rfl⟩:=ZO a2;refine qa σ Hf H ρ s _ _ _ e1 e2 e3 a1 λv jV H1 g st r=>?_;obtain⟨p1,vs,rfl,n1,h1,rl1⟩:=jb.mp r;exact⟨p1,vs,rfl,g.fh _ _ n1 h1,k _ jV H1 g st (.enumL n1 h1 rl1)⟩
end
end TF
namespace L2
section
variable {prog:xE}{w:World}{A:xF}{E:xG}{s:Shared}{o:Obj}{es:Array DictEntry}{d it:Addr}{ep i:Nat}
end
section
variable {X:Cx}{tg:Expr}
end
end L2
namespace TF
open L2
section
variable {X:Cx}{G:Gh}
end
end TF
namespace L2
section
variable {prog:xE}{w:World}{A:xF}{E:xG}{s:Shared}{z TI TO i1 i2:Addr}{f1 f2:List Addr}{n1 n2 k:Nat}{P1 P2:Nat->Value->Prop}{S1 S2:Nat->Heap->Prop}{a b:Value}
end
section
variable {prog:xE}{w:World}{A:xF}{E:xG}{s:Shared}
end
end L2
namespace TF
open L2
section
variable {X:Cx}{G:Gh}
end
end TF
namespace TS
open PySem.W
def Yg {α:Type}(lt:Nat->Nat->Bool)(n:Nat):KasT α->(α->Prop)->Prop
 | .ret a,Q=>Q a
 | .ask i j k,Q=>i<n/\j<n/\Yg lt n (k (lt i j)) Q
def Yg.bind {α β:Type}{lt:Nat->Nat->Bool}{n:Nat}{f:α->KasT β}{Q:β->Prop}:∀{t:KasT α},Yg lt n t (λa=>Yg lt n (f a) Q)->Yg lt n (t.bind f) Q
 | .ret _,h=>h
 | .ask i j k,h=>⟨h.1,h.2.1,Yg.bind (t:=k (lt i j)) h.2.2⟩
def Yg.mono {α:Type}{lt:Nat->Nat->Bool}{n:Nat}{Q R:α->Prop}(hr:∀a,Q a->R a):∀{t:KasT α},Yg lt n t Q->Yg lt n t R
 | .ret _,h=>hr _ h
 | .ask i j k,h=>⟨h.1,h.2.1,Yg.mono hr (t:=k (lt i j)) h.2.2⟩
def Yg.wp {α:Type}{lt:Nat->Nat->Bool}{n:Nat}{Q:α->Prop}{R:α->Shared->Prop}{s:Shared}{cmp:Nat->Nat->(Bool->Shared->Prop)->Shared->Prop}(hc:∀i j,i<n->j<n->∀C:Bool->Shared->Prop,C (lt i j) s->cmp i j C s)(hr:∀a,Q a->R a s):∀{t:KasT α},Yg lt n t Q->t.kasWp cmp R s
 | .ret _,h=>hr _ h
 | .ask i j k,h=>hc i j h.1 h.2.1 _ (Yg.wp hc hr (t:=k (lt i j)) h.2.2)
def g (p:Array Nat)(k:Nat):Nat:=p.getD k 0
def U8 {p q:Array Nat}{i j:Nat}(h:p[i]?=q[j]?):g p i=g q j:=by
 have e:∀(r:Array Nat) (k:Nat),g r k=(r[k]?).getD 0:=λr k=>by unfold g;simp[zu]
 rw[e,e,h]
structure Pm (n:Nat)(p:Array Nat):Prop where
 pos:0<n
 pm:p.toList.Perm (qk n)
section
variable {lt:Nat->Nat->Bool}{n:Nat}{p q:Array Nat}
def Pm.size (h:Pm n p):p.size=n:=by
 have:=h.pm.length_eq;simpa using this
def Pm.of (h:Pm n p)(e:q.Perm p):Pm n q:=⟨h.pos,(Array.perm_iff_toList_perm.mp e).trans h.pm⟩
def Pm.bd (h:Pm n p)(k:Nat):g p k<n:=by
 unfold g;by_cases hk:k<p.size
 ·have:p.getD k 0=p[k]:=by simp[Array.getD,hk]
  rw[this];have m:p[k]∈p.toList:=by simp
  have:=h.pm.mem_iff.mp m;simpa using this
 ·have:p.getD k 0=0:=by simp[Array.getD,hk]
  rw[this];exact h.pos
def Zoi (hj:q.size=n){m:Nat}(hm:m<=n)(k:Nat):g (kas_rev q 0 m) k=if k<m then g q (m-1-k)else g q k:=by
 have e:=getElem?_mirror_all (xs:=q) (i:=0) (j:=m) (by omega) k;unfold kas_rev;by_cases hk:k<m
 ·rw[if_pos ⟨by omega,hk⟩]at e
  rw[if_pos hk];exact U8 (by rw[e];congr 1;omega)
 ·rw[if_neg (λz=>hk z.2)]at e
  rw[if_neg hk];exact U8 e
end
def XQ:List Int->List Int->Bool
 | [],[]=>false
 | [],_::_=>true
 | _::_,[]=>false
 | a::as,b::bs=>if a=b then XQ as bs else decide (a<b)
def Zgo:∀a,XQ a a=false
 | []=>rfl
 | a::as=>by unfold XQ;rw[if_pos rfl];exact Zgo as
def Zft:∀a b c,XQ a b=true->XQ b c=true->XQ a c=true
 | [],[],_,h,_=>by cases h
 | [],_::_,[],_,h=>by cases h
 | [],_::_,_::_,_,_=>rfl
 | _::_,[],_,h,_=>by cases h
 | _::_,_::_,[],_,h=>by cases h
 | a::as,b::bs,c::cs,h1,h2=>by
  unfold XQ at h1 h2⊢;split at h1
  ·rename_i e;subst e
   split at h2
   ·rename_i e;subst e;rw[if_pos rfl];exact Zft as bs cs h1 h2
   ·rename_i e;rw[if_neg e];exact h2
  ·rename_i e1
   split at h2
   ·rename_i e;subst e;rw[if_neg e1];exact h1
   ·rename_i e2
    simp at h1 h2;rw[if_neg (by omega)];simp;omega
def Zfu:∀a b,a≠b->XQ a b=false->XQ b a=true
 | [],[],n,_=>absurd rfl n
 | [],_::_,_,h=>by cases h
 | _::_,[],_,_=>rfl
 | a::as,b::bs,n,h=>by
  unfold XQ at h⊢;split at h
  ·rename_i e;subst e;rw[if_pos rfl]
   exact Zfu as bs (λz=>n (by rw[z])) h
  ·rename_i e
   simp at h;rw[if_neg (zg e)];simp;omega
def Zgp {a b:List Int}(h:XQ a b=true):XQ b a=false:=by
 cases e:XQ b a with
 | false=>rfl
 | true=>have:=Zft _ _ _ h e;rw[Zgo]at this;cases this
def Jd (a b:List Int):Bool:=!XQ b a
def Zph (a b c:List Int)(h1:Jd a b=true)(h2:Jd b c=true):Jd a c=true:=by
 unfold Jd at h1 h2⊢;simp at h1 h2⊢;by_cases e1:a=b
 ·subst e1;exact h2
 ·by_cases e2:b=c
  ·subst e2;exact h1
  ·exact Zgp (Zft _ _ _ (Zfu b a (zg e1) h1) (Zfu c b (zg e2) h2))
def BU (h:Heap)(v:Value)(ns:List Int):Prop:=∃a xs,v=.ref a/\h.IsTuple a (qW xs)/\IntsAre xs ns
section
variable {prog:xE}{w:World}{A:xF}{E:xG}{s:Shared}
def Zoj {fin:Bool}{Q:Bool->Shared->Prop}:∀{as bs:List Int} {xs ys:List Value} (i:Nat),IntsAre xs as->IntsAre ys bs->fin=decide (as.length<bs.length)->Q (XQ as bs) s->KatLex prog w A true fin Q (xs.zip ys) i s
 | [],[],_,_,i,.nil,.nil,e,h=>by subst e;exact kat_nil h
 | [],_::_,_,_,i,.nil,.cons _ _ _,e,h=>by subst e;exact kat_nil h
 | _::_,[],_,_,i,.cons _ _ _,.nil,e,h=>by subst e;exact kat_nil h
 | a::as,b::bs,_,_,i,.cons _ t hx,.cons _ u hy,e,h=>by
  unfold XQ at h;refine kat_cons (wpAny_eqBool_int ?_);by_cases q:a=b
  ·rw[if_pos q]at h
   rw[show(a==b)=true by simp[q]];exact kat_yes (Zoj (i+1) hx hy (by rw[e];simp) h)
  ·rw[if_neg q]at h
   rw[show(a==b)=false by simp[q]];refine kat_no ?_;by_cases hi:i=0
   ·subst hi
    exact oneLt_int h
   ·rw[show(true&&i==0)=false by simp[hi]]
    exact kat_one _ _ (lt_int h)
def ZpY {x y:Value}{as bs:List Int}{C:Bool->Shared->Prop}(hx:BU s.heap x as)(hy:BU s.heap y bs)(h:C (XQ as bs) s):xf (xC prog w) A (keyLt' (tuples' true) x y) C E s:=by
 obtain⟨a,xs,rfl,⟨o,ho,hc,n,hd⟩,ix⟩:=hx;obtain⟨b,ys,rfl,⟨o',ho',hc',n',hd'⟩,iy⟩:=hy;refine kat_lt ho hd ho' hd' ?_;have e:decide ((qW xs).size<(qW ys).size)=decide (as.length<bs.length):=by rw[qy,qy,ix.length,iy.length]
 exact Zoj 0 ix iy e h
def ZlA {h:Heap}:∀{vs:List Value} {kD:List (List Int)},Paired (BU h) vs kD->(∀ns∈kD,ns≠[])->∃fs,KatTups h vs fs/\fs.length=vs.length/\∀v∈fs,∃n t,v=qbg n t
 | _,_,.nil,_=>⟨[],.nil,rfl,λ_ z=>by simp at z⟩
 | _,_,.cons (a:=v) (b:=ns) hv r,hne=>by
  obtain⟨fs,h1,h2,h3⟩:=ZlA r λns' m=>hne ns' (qO _ m);obtain⟨a,xs,rfl,⟨o,ho,hc,n,hd⟩,ix⟩:=hv
  cases ix with
  | nil=>exact absurd rfl (hne [] (by simp))
  | cons m t r'=>
   refine⟨.int m t::fs,.cons ho hc hd (by simp) h1,by simp[h2],λv hv=>?_⟩;rcases qm.mp hv with rfl | hv
   ·exact⟨m,t,rfl⟩
   ·exact h3 v hv
def Zpi {vs:List Value}{kD:List (List Int)}{Q:SortKind->Shared->Prop}(h:Paired (BU s.heap) vs kD)(hne:∀ns∈kD,ns≠[])(h0:0<vs.length)(q:Q (tuples' true) s):xf (xC prog w) A (keyKind' vs.toArray) Q E s:=by
 obtain⟨fs,h1,h2,h3⟩:=ZlA h hne;refine kat_kind (T:=.type "int") h1 (by omega) (λv hv=>?_) rfl ?_
 ·obtain⟨n,t,rfl⟩:=h3 v hv
  exact Looks.of_pure rfl
 ·exact q
def jv {α β:Type}{F:α->β->Prop}:∀{l:List α} {r:List β} {i:Nat} (d:α) (d':β),Paired F l r->i<l.length->F (l.getD i d) (r.getD i d')
 | _,_,i,_,_,.nil,e=>absurd e (by simp)
 | _,_,0,_,_,.cons h t,e=>h
 | _,_,i+1,d,d',.cons h t,e=>by
  have:=jv d d' t (i:=i) (by simpa using e);simpa using this
def range_getD {α:Type}(vs:List α)(d:α):((qk vs.length).map λi=>vs.getD i d)=vs:=by
 refine List.ext_getElem (by simp) λi h1 h2=>?_;simp[h2]
end
section
variable {prog:xE}{w:World}{A:xF}{E:xG}{s:Shared}
end
end TS
namespace TF
open L2 TS
section
variable {X:Cx}{G:Gh}
def ZeK {jJ:Qb}{s:Shared}{σ:St}{H:Hp}{T:V->List Int->Prop}(I:Inv X jJ σ H s)(hT:∀v ns,T v ns->∃a,v=.ref a/\ZS X.K H a (ns.map V.int)):∀{vs:List V} {jL:List Value} {kD:List (List Int)},Zz vs jL->Paired T vs kD->Paired (BU s.heap) jL kD
 | _,_,_,.nil,.nil=>.nil
 | _,_,_,.cons r rr,.cons t tt=>by
  refine .cons ?_ (ZeK I hT rr tt);obtain⟨a,rfl,hq⟩:=hT _ _ t
  cases r
  obtain⟨xs,rv,pl,hz⟩:=I.tuple hq;exact⟨a,xs,rfl,show s.heap.IsTuple a xs.toArray from pl,W8 rv⟩
def B0 (ns:List Int):D:=.tup (ns.map .int)
def JG:List D->Option (List (List Int))
 | []=>some []
 | .tup ds::r=>match ZG ds,JG r with | some ns,some kD=>some (ns::kD) | _,_=>none
 | _::_=>none
def ZeL:∀{ds:List D} {kD:List (List Int)},JG ds=some kD->ds=kD.map B0
 | [],kD,h=>by
  have h:some []=some kD:=h
  cases h;rfl
 | d::r,kD,h=>by
  cases d with
  | tup ds=>
   have h:(match ZG ds,JG r with | some ns,some kD=>some (ns::kD) | _,_=>none)=some kD:=h
   cases e1:ZG ds with
   | none=>rw[e1]at h;cases h
   | some ns=>
    cases e2:JG r with
    | none=>rw[e1,e2]at h;cases h
    | some ms=>
     rw[e1,e2]at h;cases h;rw[zh,<-ZeL e2];unfold B0;rw[<-WA e1]
  | _=>cases h
def ZeM {Hf:Hp}:∀{kD:List (List Int)} {vs:List V},Zk G Hf (kD.map B0) vs->Paired (λv ns=>Zm G Hf (B0 ns) v) vs kD
 | [],vs,h=>by
  rw[Zk.nil_iff.mp h];exact .nil
 | ns::kD,vs,h=>by
  obtain⟨v,r,rfl,h1,h2⟩:=jd.mp h;exact .cons h1 (ZeM h2)
end
end TF
namespace TF
open L2
section
variable {X:Cx}{G:Gh}{own:List Nat}{fr:Bool}
end
section
variable {X:Cx}{G:Gh}
def vD:V->Option D
 | .int i=>some (.int i)
 | .bl b=>some (.bl b)
 | .str x=>some (.str x)
 | .non=>some .non
 | _=>none
def Zpj {H:Hp}{v:V}{c:D}(h:vD v=some c):Zm G H c v:=by
 cases v with
 | int i=>cases h;exact ja.mpr rfl
 | bl i=>cases h;exact je.mpr rfl
 | str i=>cases h;exact ji.mpr rfl
 | non=>cases h;exact jg.mpr rfl
 | _=>cases h
def VD:D->D->Option D
 | .dk kvs,y=>match XJ y with | some k=>(ZY kvs k).bind vD | none=>none
 | .df kvs,y=>match XJ y with | some k=>(ZY kvs k).bind vD | none=>none
 | .dt kvs,.tup ks=>match Xt ks with | some k=>(ZY kvs k).bind vD | none=>none
 | .du kvs,.tup ks=>match Xt ks with | some k=>(ZY kvs k).bind vD | none=>none
 | _,_=>none
def ZcY {a b:Expr}{pos:Pos}{fa fb:Zb->M D}{r1 r2:Bool}(hu:X.A.units+1<cLine)(ha:PD X G r1 a fa)(hb:PD X G r2 b fb)(hs:NoSl b:=by intro _ _;rfl):PD X G false (.Subscript a b pos) (Ze VD fa fb):=by
 obtain⟨ta,pa,qa⟩:=ha.drop;obtain⟨tb,pb,qb⟩:=hb.drop;refine⟨_,WY hu pa pb hs,fun σ Hf H ρ s d s' Q e1 e2 e3 e4 k=>?_⟩;obtain⟨da,s1,a1,a2⟩:=ZC e4;obtain⟨db,s2,a3,a4⟩:=ZC a2;obtain⟨a5,rfl⟩:=WL a4;refine qa σ Hf H ρ s da s1 _ e1 e2 e3 a1 λx jV H1 g1 kb r1=>?_;refine qb σ jV H1 ρ s1 db _ _ g1.fh (e2.ext g1.ff) kb a3 λy kc H2 g2 j6 r2=>?_;have r1:=r1.ext g2.ff;have fin:∀v c,d=c->vD v=some c->Q v H2:=λv c ec h=>by
  subst ec;exact k v kc H2 (g1.trans g2) j6 (Zpj h) (λz=>by cases z)
 match da,a5,r1 with
 | .dk kvs,a5,r1=>
  obtain⟨p,rfl,np,hp⟩:=jj.mp r1;have a5:(match XJ db with | some k=>(ZY kvs k).bind vD | none=>none)=some d:=a5
  cases ek:XJ db with
  | none=>rw[ek]at a5;cases a5
  | some ky=>
   rw[ek]at a5;obtain⟨v,ev,e6⟩:=qac.mp a5;have ey:=Jn ek r2;subst ey;refine⟨p,v,rfl,?_,fin v d rfl e6⟩;rw[<-ev];exact Xw.k (g2.fh _ _ np hp)
 | .df kvs,a5,r1=>
  obtain⟨p,o,rfl,np,hp⟩:=jq.mp r1;have a5:(match XJ db with | some k=>(ZY kvs k).bind vD | none=>none)=some d:=a5
  cases ek:XJ db with
  | none=>rw[ek]at a5;cases a5
  | some ky=>
   rw[ek]at a5;obtain⟨v,ev,e6⟩:=qac.mp a5;have ey:=Jn ek r2;subst ey;exact⟨p,v,rfl,.inl ⟨kvs,ky,.inr ⟨o,g2.fh _ _ np hp⟩,rfl,ev.symm⟩,fin v d rfl e6⟩
 | .du kvs,a5,r1=>
  obtain⟨p,rfl,np,hp⟩:=jl.mp r1
  match db,a5,r2 with
  | .tup ks,a5,r2=>
   have a5:(match Xt ks with | some k=>(ZY kvs k).bind vD | none=>none)=some d:=a5;obtain⟨q,vs,rfl,nq,hq,rq⟩:=jc.mp r2
   cases ek:Xt ks with
   | none=>rw[ek]at a5;cases a5
   | some ky=>
    rw[ek]at a5;obtain⟨v,ev,e6⟩:=qac.mp a5;have ey:=UP ek rq;subst ey;refine⟨p,v,rfl,?_,fin v d rfl e6⟩;rw[<-ev];exact Xw.t (g2.fh _ _ np hp) (g2.fh _ _ nq hq)
 | .dt kvs,a5,r1=>
  obtain⟨p,o,rfl,np,hp⟩:=jk.mp r1
  match db,a5,r2 with
  | .tup ks,a5,r2=>
   have a5:(match Xt ks with | some k=>(ZY kvs k).bind vD | none=>none)=some d:=a5;obtain⟨q,vs,rfl,nq,hq,rq⟩:=jc.mp r2
   cases ek:Xt ks with
   | none=>rw[ek]at a5;cases a5
   | some ky=>
    rw[ek]at a5;obtain⟨v,ev,e6⟩:=qac.mp a5;have ey:=UP ek rq;subst ey;exact⟨p,v,rfl,.inr ⟨kvs,ky,q,.inr ⟨o,g2.fh _ _ np hp⟩,rfl,g2.fh _ _ nq hq,ev.symm⟩,fin v d rfl e6⟩
end
section
variable {X:Cx}{G:Gh}{ob:List Nat}{fr:Bool}
end
section
variable {X:Cx}{G:Gh}{ob own:List Nat}{fr:Bool}
def JH (c:Zb->M Bool)(g:Zb->M Out):Nat->Zb->M Out
 | 0,_=>Zv
 | n+1,ρ=>Zq (c ρ) λb=>if b=true then Zq (g ρ) λo=>match o with | .nx ρ2=>JH c g n ρ2 | .ct ρ2=>JH c g n ρ2 | .bk ρ2=>ZA (.nx ρ2) | .rt d=>ZA (.rt d)else ZA (.nx ρ)
def BN (n:Nat)(c:Zb->M Bool)(g:Zb->M Out):Zb->M Out:=JH c g n
def ZeN {n:Nat}{c:Expr}{body:List Stmt}{pos:Pos}{fc:Zb->M Bool}{g:Zb->M Out}(hp:PassesOwn (xC X.prog X.w) X.A X.env X.xe)(hc:Ww X G c fc)(hb:Wh X G own own own fr body g):YE X G ob own own fr (.While c body [] pos) (BN n fc g):=by
 obtain⟨tc,pc,qc⟩:=hc;obtain⟨tb,pb,qb⟩:=hb;refine⟨_,ZkH hp pc pb,λkn jR H0 σ H ρ s out s' E ⟨Hf,j⟩ st e po=>?_⟩;refine⟨λm σ2 H2=>∃ρ2 s2,J G own kn jR H0 σ2 H2 ρ2/\G.st s2 H2/\JH fc g m ρ2 s2=some (out,s'),⟨n,ρ,s,⟨Hf,j⟩,st,e⟩,?_⟩;rintro m σ2 H2 ⟨ρ2,s2,⟨kc,j2⟩,j6,eq2⟩
 cases m with
 | zero=>cases eq2
 | succ m=>
  obtain⟨b,s3,a1,a2⟩:=ZC eq2;refine qc σ2 _ H2 ρ2 s2 b s3 _ UT j2.envB j6 a1 λHf' H' g' st'=>?_;obtain⟨F,j',fF,q1,q2⟩:=j2.growB g'
  cases b with
  | false=>
   obtain⟨rfl,rfl⟩:=ZO a2;exact Vx (po σ2 H' ⟨F,j'⟩ st')
  | true=>
   rw[if_pos rfl]at a2;obtain⟨o,s4,b3,b4⟩:=ZC a2;refine Vy ⟨fun σ' H'=>∃ρ5 s5,J G own kn jR H0 σ' H' ρ5/\G.st s5 H'/\JH fc g m ρ5 s5=some (out,s'),fun σ' H' h=>⟨m,yg m,h⟩,?_⟩;refine qb kn jR H0 σ2 H' ρ2 s3 o s4 _ ⟨F,j'⟩ st' b3 ?_
   cases o with
   | nx ρ5=>exact fun σ5 H5 j5 st5=>⟨ρ5,s4,j5,st5,b4⟩
   | ct ρ5=>exact fun σ5 H5 j5 st5=>⟨ρ5,s4,j5,st5,b4⟩
   | bk ρ5=>
    obtain⟨rfl,rfl⟩:=ZO b4;exact fun σ5 H5 j5 st5=>po σ5 H5 j5 st5
   | rt d=>
    obtain⟨rfl,rfl⟩:=ZO b4;exact po
end
def Ok.swhile {n:Nat}{c:Zb->M Bool}{g:Zb->M Out}{ρ:Zb}{s:Pn}{Q:Out->Pn->Prop}(I:Nat->Zb->Pn->Prop)(m:Nat)(hm:m<n)(h0:I m ρ s)
  (step:∀m ρ s,I m ρ s->Ok (c ρ) s λb s1=>if b=true then Ok (g ρ) s1 λo s2=>match o with | .nx ρ'=>∃m',m'<m/\I m' ρ' s2 | .ct ρ'=>∃m',m'<m/\I m' ρ' s2 | .bk ρ'=>Q (.nx ρ') s2 | .rt d=>Q (.rt d) s2 else Q (.nx ρ) s1):Ok (BN n c g ρ) s Q:=by
 show Ok (JH c g n ρ) s Q
 induction n generalizing m ρ s with
 | zero=>omega
 | succ n ih=>
  refine Ok.bind ((step m ρ s h0).mono λb s1 q=>?_)
  cases b with
  | false=>exact .ret (by simpa using q)
  | true=>
   rw[if_pos rfl]at q;rw[if_pos rfl];refine Ok.bind (q.mono λo s2 q=>?_)
   cases o with
   | nx ρ'=>obtain⟨m',hm',h'⟩:=q;exact ih m' (by omega) h'
   | ct ρ'=>obtain⟨m',hm',h'⟩:=q;exact ih m' (by omega) h'
   | bk ρ'=>exact .ret q
   | rt d=>exact .ret q
section
variable {X:Cx}{G:Gh}{ob own:List Nat}{fr:Bool}
def ZlB {pos:Pos}:PD X G true (.Dict [] [] pos) (dC (.dk [])):=by
 refine⟨_,ZkV,fun σ Hf H ρ s d s' Q e1 e2 e3 e4 k=>?_⟩;obtain⟨rfl,rfl⟩:=ZO e4;intro p hp;have nf:=Gh.nofp e3 hp;have g2:=Gr.new (o:=.dK []) e1 hp nf;exact k (.ref p) _ _ g2 (Gh.grow e3 hp) (jj.mpr ⟨p,rfl,nf,ZI⟩) λ_ a ea _=>by cases ea;exact⟨hp,λds ed=>by cases ed⟩
def JS (i:Nat)(fx fv:Zb->M D):Zb->M Out:=fun ρ=>Zq (fv ρ) λv=>Zq (fx ρ) λx=>match (ρ[i]?).bind id with
 | some (.dk kvs)=>match XJ x,X3 v with | some k,some w=>if kvs.length<xg then ZA (.nx (ρ.set i (some (.dk (Z9 kvs k w)))))else Zv | _,_=>Zv
 | _=>Zv
def ZlC {r1 r2:Bool}{i:Nat}{x:Str}{ex ev:Expr}{p1 p2 pos:Pos}{fx fv:Zb->M D}{tx tv:TE}(hu:X.A.units+1<cLine)(hi:i∈own)(hn:PE X (.Name x p1) (Z7 i))(px:PE X ex tx)(yx:WP G own r1 tx fx)(pv':PE X ev tv)(yv:WP G own r2 tv fv)
  (hs:xr ev (some (.Subscript (.Name x p1) ex p2)) pos.line X.env=pure false) :
  YE X G ob own own fr (.Assign [.Subscript (.Name x p1) ex p2] ev pos) (JS i fx fv):=by
 refine⟨_,Zfg hu hn px pv' hs,λkn jR H0 σ H ρ s out s' E ⟨Hf,j⟩ st e po=>?_⟩;obtain⟨v,s1,a1,a2⟩:=ZC e;obtain⟨xx,s2,a3,a4⟩:=ZC a2;refine yv kn jR H0 σ Hf H ρ s v s1 _ j st a1 λw jV H1 j1 e1 e2 kb r1 _=>?_
 cases hb:(ρ[i]?).bind id with
 | none=>rw[hb]at a4;cases a4
 | some c=>
  rw[hb]at a4
  cases c with
  | dk kvs=>
   have a4':(match XJ xx,X3 v with | some k,some w=>if kvs.length<xg then ZA (Out.nx (ρ.set i (some (.dk (Z9 kvs k w)))))else Zv | _,_=>Zv) s2=some (out,s'):=a4
   cases hk:XJ xx with
   | none=>rw[hk]at a4';cases a4'
   | some k=>
    cases hw:X3 v with
    | none=>rw[hk,hw]at a4';cases a4'
    | some w'=>
     rw[hk,hw]at a4';obtain⟨hl,a5⟩:=Xf a4';obtain⟨rfl,rfl⟩:=ZO a5;have ei:=Jv hb;obtain⟨a,h1,h2,h3,h4,h5⟩:=j1.ow i _ hi ei;refine⟨_,h1,?_⟩;refine yx kn jR H0 σ jV H1 ρ s1 _ _ _ j1 kb a3 λw2 kc H2 j2 e3 e4 j6 r2 _=>?_;obtain⟨a',h1',h2',h3',h4',h5'⟩:=j2.ow i _ hi ei;rw[h1]at h1';cases h1';have ek:=Jn hk r2;subst ek;have ew:=Zbn hw r1;subst ew;refine⟨a,_,rfl,WG.k (k:=k) (show H2 a=some (.dK kvs)from h5') (by omega),?_⟩;exact po σ _ ⟨kc,j2.put hi ei h1 (show Zi H2 a (.dK (Z9 kvs k w)) a=some (.dK (Z9 kvs k w))from ZI)⟩ (js j6 h2)
  | _=>cases a4
def ZjS {r1 r2:Bool}{i:Nat}{x:Str}{ex ev:Expr}{p1 p2 pos:Pos}{fx fv:Zb->M D}(hu:X.A.units+1<cLine)(hi:i∈own)(hn:PE X (.Name x p1) (Z7 i))(hx:PD X G r1 ex fx)(hv:PD X G r2 ev fv)
  (hs:xr ev (some (.Subscript (.Name x p1) ex p2)) pos.line X.env=pure false:=by rfl) :
  YE X G ob own own fr (.Assign [.Subscript (.Name x p1) ex p2] ev pos) (JS i (fun ρ=>fx (Yq own ρ)) (Y6 r2 fv)):=by
 obtain⟨tv,pv',qv⟩:=hv;obtain⟨tx,px,qx⟩:=hx;have yv:XR G r2 tv fv:=qv;have yx:XR G r1 tx fx:=qx;exact ZlC hu hi hn px yx.a pv' yv.b hs
def Wk (n:Int)(r:List Int):Int:=r.foldl min n
def Znp (r:List Int):∀n,Wk n r<=n/\∀a∈r,Wk n r<=a:=by
 induction r with
 | nil=>intro n;exact⟨qcx _,by simp⟩
 | cons b r ih=>
  intro n;obtain⟨h1,h2⟩:=ih (min n b);refine⟨?_,λa ha=>?_⟩
  ·show Wk (min n b) r<=n;omega
  ·show Wk (min n b) r<=a
   rcases qm.mp ha with rfl | ha
   ·omega
   ·exact h2 a ha
def ZlD (r:List Int):∀n,Wk n r∈n::r:=by
 induction r with
 | nil=>intro n;simp[Wk]
 | cons b r ih=>
  intro n;have h:=ih (min n b);show Wk (min n b) r∈n::b::r;rcases qm.mp h with h | h
  ·rw[h]
   rcases Int.le_total n b with z | z
   ·rw[Int.min_eq_left z];simp
   ·rw[Int.min_eq_right z];simp
  ·exact qO _ (qO _ h)
def Zgq {n M:Int}{r:List Int}(h1:M∈n::r)(h2:∀a∈n::r,M<=a):M=Wk n r:=by
 obtain⟨g1,g2⟩:=Znp r n;have g3:=h2 _ (ZlD r n);have g4:Wk n r<=M:=by
  rcases qm.mp h1 with h | h
  ·rw[h];exact g1
  ·exact g2 M h
 omega
def ZlE:List D->Option D
 | [.lst ds]=>match ZG ds with | some (n::r)=>some (.int (Wk n r)) | _=>none
 | _=>none
def ZjT (hc:X.calm=true):XB X (.builtin "min") (λxs H Q=>∃p n r,xs=[.ref p]/\ZF X.K H p ((n::r).map V.int)/\Q (.int (Wk n r)) H):=by
 intro jJ s σ H xs us Q I r h;obtain⟨p,n,rr,rfl,hp,q⟩:=h;obtain⟨u,rfl,ru⟩:=XI r
 cases ru
 obtain⟨jL,rv,pl,hz⟩:=I.list hp;have hi:IntsAre jL (n::rr):=W8 rv;obtain⟨xs,e⟩:=hi.allInts.items;have hns:n::rr=xs.toList.map (·.1):=by rw[<-hi.numsOf,<-nums_intItems,<-e]
 have hl:=pl.isList;rw[e]at hl;have hsz:0<xs.size:=by
  have h3:0<(n::rr).length:=by simp
  rw[hns,qd,qL]at h3;exact h3
 refine min_intList (I.ok.hd hc) hl hsz λv h' tk hv hk=>?_;obtain⟨t,rfl⟩:=intItems_at hv;obtain⟨h1,h2⟩:=argBest_lt (numAt xs) (xs.size-1);have e2:numAt xs (argBest (λi j=>decide (numAt xs i<numAt xs j)) (xs.size-1))=Wk n rr:=by
  refine Zgq ?_ λa ha=>?_
  ·rw[hns,numAt_eq];exact getD_mem (by rw[qd,qL];omega)
  ·rw[hns]at ha
   obtain⟨j,hj,rfl⟩:=mem_getD ha;rw[qd,qL]at hj;rw[<-numAt_eq];exact h2 j (by omega)
 rw[e2];exact⟨.int (Wk n rr),H,I.kept (t':=tk) hk,⟨_,rfl⟩,q⟩
def ZhL (hc:X.calm=true):X2 X G (.builtin "min") ZlE:=
 ⟨_,ZjT hc,λHf H s xs ds c Q e1 st r q k=>by
  match ds,q,r with
  | [.lst es],q,r=>
   have q:(match ZG es with | some (n::r)=>some (D.int (Wk n r)) | _=>none)=some c:=q
   cases he:ZG es with
   | none=>rw[he]at q;cases q
   | some ns=>
    cases ns with
    | nil=>rw[he]at q;cases q
    | cons n rr=>
     rw[he]at q
     cases q
     obtain⟨v,rfl,rv⟩:=jh r;obtain⟨p,vs,rfl,np,hp,rp⟩:=jb.mp rv;rw[WA he]at rp;rw[jm rp]at hp;exact⟨p,n,rr,rfl,ZF.of (e1 _ _ np hp),k _ Hf H (.refl e1) st (ja.mpr rfl) (.scal λz=>z)⟩⟩
def Zpk (K:ql):V->List V->Hp->VK->Prop:=λx vs H Q=>∃(p:Addr) (ns:List Int) (k:Int),x=.ref p/\vs=[.int k]/\ZF K H p (ns.map V.int)/\k∈ns/\Q (.int (ns.idxOf k:Nat)) H
def ZlF : MtR X "list.index" (Zpk X.K) := by
  intro jJ s σ H x xs v us Q I rx rv h;obtain⟨p, ns, k, rfl, rfl, hp, hk, q⟩ := h
  cases rx
  obtain⟨u, rfl, t, rfl⟩ := XI rv;obtain⟨jL, r2, pl, hz⟩ := I.list hp;have hi : IntsAre jL ns := W8 r2;obtain⟨⟨c0, d0, dat, sl0⟩, hob, hcl, n0, hdat⟩ := id pl.isList;simp only at hcl hdat;subst hcl hdat;have l1 := hi.length;have l2 : ns.idxOf k < ns.length := by rw[qaA]; exact hk
  have l3 : ns.length <= xg := by simpa using hz
  have l4 := BI;have go := SeqAt.list_indexAt p jL.toArray n0 d0 sl0 (.int k t) (isInt k) (ns.idxOf k) (by simpa[l1] using l2) (by omega)
    (by show isInt k jL[ns.idxOf k] = true
        rw[isInt_at k hi (ns.idxOf k) (by omega) l2]; simpa using qbk l2)
    (λj hjs hlt => by
        show isInt k jL[j] = false;rw[isInt_at k hi j (by simpa using hjs) (by have : j < ns.idxOf k := hlt; omega)]; exact ne_of_lt_idxOf hlt _)
  refine call_meets qbN ⟨_, hob, rfl⟩ PySem.F.entry_list_index (PySem.F.args_list_index_2 _ _) go ⟨hob, λy hy => (eq_isInt k t hi y (by simpa using hy)).at _ _, ?_⟩;exact⟨.int (ns.idxOf k : Nat), H, I.tok _, ⟨_, rfl⟩, q⟩
def Zfv:D->D->Option D
 | .lst ds,.int k=>(ZG ds).bind λns=>if k∈ns then some (.int (ns.idxOf k:Nat))else none
 | _,_=>none
def ZlG {o e:Expr}{ap cp:Pos}{r1 r2:Bool}{fo fe:Zb->M D}(ho:PD X G r1 o fo)(he:PD X G r2 e fe)
  (hbase:xq o "index" X.env (eval o X.env)=eval o X.env:=by rfl)
  (hfew:((backTo cp (xh [e] X.env)).all (λx=>!x.1)&&(xp cp (xi [] X.env)).all (λx=>x.1.isSome)
   && decide ([e].length+([]:List Keyword).length+(if ([]:List Keyword).isEmpty then 0 else 1)<30))=true:=by rfl)
  (hline:(ap.endLine==cp.line)=true:=by rfl) (hs:xh [e] X.env=(false,eval e X.env)::xh [] X.env:=by rfl) :
  PD X G true (.Call (.Attribute o "index" ap) [e] [] cp) (Ze Zfv fo fe):=by
 obtain⟨to,po,qo⟩:=ho.drop;obtain⟨te,pe,qe⟩:=he.drop;refine⟨_,JO yn qbN PySem.F.type_list_index ZlF po (YN pe Y3 hs) hbase hfew hline hs rfl,fun σ Hf H ρ s d s' Q e1 e2 e3 e4 k=>?_⟩;obtain⟨da,s1,a1,a2⟩:=ZC e4;obtain⟨db,s2,a3,a4⟩:=ZC a2;obtain⟨a5,rfl⟩:=WL a4;refine qo σ Hf H ρ s da s1 _ e1 e2 e3 a1 λx jV H1 g1 kb r1=>?_
 match da,db,a5,r1,a3 with
 | .lst ds,.int kk,a5,r1,a3=>
  have a5:((ZG ds).bind λns=>if kk∈ns then some (D.int (ns.idxOf kk:Nat))else none)=some d:=a5
  cases he:ZG ds with
  | none=>rw[he]at a5;cases a5
  | some ns=>
   rw[he]at a5;have a5:(if kk∈ns then some (D.int (ns.idxOf kk:Nat))else none)=some d:=a5;split at a5
   ·rename_i hmem
    cases a5
    obtain⟨p,vs,rfl,np,hp,rp⟩:=jb.mp r1;refine⟨.inl ⟨rfl,vs,ZF.of (g1.fh _ _ np hp)⟩,?_⟩;refine qe σ jV H1 ρ s1 _ _ _ g1.fh (e2.ext g1.ff) kb a3 λy kc H2 g2 j6 r2=>?_;rw[WA he]at rp;rw[jm rp]at hp
    cases (ja.mp r2)
    exact⟨p,ns,kk,rfl,rfl,ZF.of (g2.fh _ _ np (g2.ff _ _ np hp)),hmem,k _ kc H2 (g1.trans g2) j6 (ja.mpr rfl) λ_=>.scal λz=>z⟩
   ·cases a5
def sAug (i:Nat)(fv:Zb->M D):Zb->M Out:=fun ρ=>Zq (fv ρ) λv=>match (ρ[i]?).bind id,v with
 | some (.int a),.int b=>ZA (.nx (ρ.set i (some (.int (a+b)))))
 | _,_=>Zv
def ZlH {r1:Bool}{i:Nat}{x:Str}{ev:Expr}{p1 pos:Pos}{fv:Zb->M D}{tv:TE}(hN:X.N.Nodup)(hi:X.N[i]?=some x)(hx:WR X.env.scope x)(hio:i∉own)(pv':PE X ev tv)(yv:WP G own r1 tv fv)
  (hf:X.fn x=true∨X.env.scope.names.lookup x=some .local):YE X G ob own own fr (.AugAssign (.Name x p1) .Add ev pos) (sAug i fv):=by
 refine⟨_,ZoK hN hi hx pv' ZoL hf,λkn jR H0 σ H ρ s out s' E ⟨Hf,j⟩ st e po=>?_⟩;obtain⟨v,s1,a1,a2⟩:=ZC e
 cases hb:(ρ[i]?).bind id with
 | none=>rw[hb]at a2;cases a2
 | some c=>
  rw[hb]at a2
  cases c with
  | int a=>
   cases v with
   | int b=>
    obtain⟨rfl,rfl⟩:=ZO a2;obtain⟨w,h1,h2⟩:=j.fz i _ hio (Jv hb);rw[ja.mp h2]at h1;refine⟨_,h1,yv kn jR H0 σ Hf H ρ s _ _ _ j st a1 λw2 jV H1 j1 e1 e2 kb r1 _=>?_⟩;rw[ja.mp r1];exact⟨a,b,rfl,rfl,po _ _ ⟨jV,j1.setF hio (ja.mpr rfl)⟩ kb⟩
   | _=>cases a2
  | _=>cases v <;> cases a2
def Znq {r1:Bool}{i:Nat}{x:Str}{ev:Expr}{p1 pos:Pos}{fv:Zb->M D}(hN:X.N.Nodup)(hi:X.N[i]?=some x)(hx:WR X.env.scope x)(hv:PD X G r1 ev fv)(hio:i∉own:=by decide)
  (hf:X.fn x=true∨X.env.scope.names.lookup x=some .local:=by first | exact .inl rfl | exact .inr rfl | assumption):YE X G ob own own fr (.AugAssign (.Name x p1) .Add ev pos) (sAug i (Y6 r1 fv)):=by
 obtain⟨tv,pv',qv⟩:=hv;have yv:XR G r1 tv fv:=qv;exact ZlH hN hi hx hio pv' yv.b hf
end
section
variable {X:Cx}{G:Gh}{ob own:List Nat}{fr:Bool}
def ZlI (d e:D):Option D:=match e with | .non=>(U3 d).map λb=>.bl (!b) | _=>none
def ZlJ:XE X G (xk .IsNot) ZlI:=
 ⟨_,ZmO,λHf H s x y d e c Q e1 st rx ry q k=>by
  cases e with
  | non=>
   have q:(U3 d).map (λb=>D.bl (!b))=some c:=q
   cases hb:U3 d with
   | none=>rw[hb]at q;cases q
   | some b=>
    rw[hb]at q
    cases q
    refine⟨jg.mp ry,?_⟩;rw[ZeI hb rx];exact k _ Hf H (.refl e1) st (je.mpr rfl) (.scal λz=>z)
  | _=>cases q⟩
def B1:D->Option (List Zt)
 | .tup ks=>Xt ks
 | _=>none
def JT (i:Nat)(fx fv:Zb->M D):Zb->M Out:=fun ρ=>Zq (fv ρ) λv=>Zq (fx ρ) λx=>match (ρ[i]?).bind id with
 | some (.du kvs)=>match B1 x,X3 v with | some k,some w=>if kvs.length<xg then ZA (.nx (ρ.set i (some (.du (Z9 kvs k w)))))else Zv | _,_=>Zv
 | _=>Zv
def ZjU {r1 r2:Bool}{i:Nat}{x:Str}{ex ev:Expr}{p1 p2 pos:Pos}{fx fv:Zb->M D}{tx tv:TE}(hu:X.A.units+1<cLine)(hi:i∈own)(hn:PE X (.Name x p1) (Z7 i))(px:PE X ex tx)(yx:WP G own r1 tx fx)(pv':PE X ev tv)(yv:WP G own r2 tv fv)
  (hs:xr ev (some (.Subscript (.Name x p1) ex p2)) pos.line X.env=pure false) :
  YE X G ob own own fr (.Assign [.Subscript (.Name x p1) ex p2] ev pos) (JT i fx fv):=by
 refine⟨_,Zfg hu hn px pv' hs,λkn jR H0 σ H ρ s out s' E ⟨Hf,j⟩ st e po=>?_⟩;obtain⟨v,s1,a1,a2⟩:=ZC e;obtain⟨xx,s2,a3,a4⟩:=ZC a2;refine yv kn jR H0 σ Hf H ρ s v s1 _ j st a1 λw jV H1 j1 e1 e2 kb r1 _=>?_
 cases hb:(ρ[i]?).bind id with
 | none=>rw[hb]at a4;cases a4
 | some c=>
  rw[hb]at a4
  cases c with
  | du kvs=>
   have a4':(match B1 xx,X3 v with | some k,some w=>if kvs.length<xg then ZA (Out.nx (ρ.set i (some (.du (Z9 kvs k w)))))else Zv | _,_=>Zv) s2=some (out,s'):=a4
   cases hk:B1 xx with
   | none=>rw[hk]at a4';cases a4'
   | some k=>
    cases hw:X3 v with
    | none=>rw[hk,hw]at a4';cases a4'
    | some w'=>
     rw[hk,hw]at a4';obtain⟨hl,a5⟩:=Xf a4';obtain⟨rfl,rfl⟩:=ZO a5;have ei:=Jv hb;obtain⟨a,h1,h2,h3,h4,h5⟩:=j1.ow i _ hi ei;refine⟨_,h1,?_⟩;refine yx kn jR H0 σ jV H1 ρ s1 _ _ _ j1 kb a3 λw2 kc H2 j2 e3 e4 j6 r2 _=>?_;obtain⟨a',h1',h2',h3',h4',h5'⟩:=j2.ow i _ hi ei;rw[h1]at h1';cases h1';have ew:=Zbn hw r1;subst ew
     match xx,hk,r2 with
     | .tup ks,hk,r2=>
      obtain⟨q,vs,rfl,nq,hq,rq⟩:=jc.mp r2;have ey:=UP (show Xt ks=some k from hk) rq;subst ey;refine⟨a,_,rfl,WG.t (k:=k) (show H2 a=some (.dT kvs)from h5') (j2.gr.fh _ _ nq hq) (by omega),?_⟩;exact po σ _ ⟨kc,j2.put hi ei h1 (show Zi H2 a (.dT (Z9 kvs k w)) a=some (.dT (Z9 kvs k w))from ZI)⟩ (js j6 h2)
  | _=>cases a4
def ZhM {r1 r2:Bool}{i:Nat}{x:Str}{ex ev:Expr}{p1 p2 pos:Pos}{fx fv:Zb->M D}(hu:X.A.units+1<cLine)(hi:i∈own)(hn:PE X (.Name x p1) (Z7 i))(hx:PD X G r1 ex fx)(hv:PD X G r2 ev fv)
  (hs:xr ev (some (.Subscript (.Name x p1) ex p2)) pos.line X.env=pure false:=by rfl) :
  YE X G ob own own fr (.Assign [.Subscript (.Name x p1) ex p2] ev pos) (JT i (fun ρ=>fx (Yq own ρ)) (fun ρ=>fv (Yq own ρ))):=by
 obtain⟨tv,pv',qv⟩:=hv;obtain⟨tx,px,qx⟩:=hx;have yv:XR G r2 tv fv:=qv;have yx:XR G r1 tx fx:=qx;exact ZjU hu hi hn px yx.a pv' yv.a hs
end
end TF
namespace HT
def ZlK:isSubtype (.type "tuple") (.type "set")=pure false:=by rw[isSubtype_type];kernel_rfl
def Zgr:isSubtype (.type "tuple") (.type "frozenset")=pure false:=by rw[isSubtype_type];kernel_rfl
section
variable {prog:xE}{w:World}{A:xF}{E:xG}{s:Shared}
abbrev Xn (led:Bool):Obj:={ cls:=.type "set",dict:=none,data:=.set #[] 0 (.fresh 0 0 led) }
end
end HT
namespace TF
open L2
section
variable {X:Cx}{G:Gh}
def ZcJ (ns:List Int)(n:Nat)(h:n=ns.length):firstMet (λi=>ns.getD i 0) n=ns.foldl step_dedup []:=by
 unfold firstMet;congr 1;subst h;apply yD;intro i;rw[qt];by_cases hi:i<ns.length
 ·rw[zT hi,qj hi]
  simp[qf,qj hi]
 ·rw[yy (by simp;omega:(qk ns.length).length<=i),yy (by omega)]
  rfl
def Znr (ns:List Int):∀jP:List Int,(ns.foldl step_dedup jP).length<=jP.length+ns.length:=by
 induction ns with
 | nil=>intro jP;simp
 | cons a r ih=>
  intro jP;have h:=ih (step_dedup jP a);have:(step_dedup jP a).length<=jP.length+1:=by unfold step_dedup;split <;> simp
  show(r.foldl step_dedup (step_dedup jP a)).length<=_;simp only[qN];omega
def ZbT (ns:List Int):(ns.foldl step_dedup []).Nodup/\∀x,x∈ns.foldl step_dedup []↔x∈ns:=by
 have gen:∀(r jP:List Int),jP.Nodup->(r.foldl step_dedup jP).Nodup/\∀x,x∈r.foldl step_dedup jP↔x∈jP∨x∈r:=by
  intro r
  induction r with
  | nil=>intro jP h;exact⟨h,λx=>by simp⟩
  | cons a r ih=>
   intro jP h;show(r.foldl step_dedup (step_dedup jP a)).Nodup/\∀x,x∈r.foldl step_dedup (step_dedup jP a)↔_;by_cases m:jP.any (· == a)=true
   ·have e:step_dedup jP a=jP:=by unfold step_dedup;rw[if_pos m]
    rw[e];obtain⟨h1,h2⟩:=ih jP h;obtain⟨y,hy,ey⟩:=List.any_eq_true.mp m;have ey:y=a:=by simpa using ey
    subst ey;refine⟨h1,λx=>?_⟩;rw[h2 x];constructor
    ·rintro(z | z)
     ·exact .inl z
     ·exact .inr (qO _ z)
    ·rintro(z | z)
     ·exact .inl z
     ·rcases qm.mp z with z | z
      ·subst z;exact .inl hy
      ·exact .inr z
   ·have e:step_dedup jP a=jP ++ [a]:=by unfold step_dedup;rw[if_neg m]
    rw[e];have na:a∉jP:=λz=>m (List.any_eq_true.mpr ⟨a,z,by simp⟩);obtain⟨h1,h2⟩:=ih (jP ++ [a]) (qbw.mpr ⟨h,by simp,λx hx y hy=>by
     have:=qK.mp hy;subst this;exact λz=>na (z▸hx)⟩)
    refine⟨h1,λx=>?_⟩;rw[h2 x];simp only[qP,qm,zm,or_false];constructor
    ·rintro((z | z) | z)
     ·exact .inl z
     ·exact .inr (.inl z)
     ·exact .inr (.inr z)
    ·rintro(z | z | z)
     ·exact .inl (.inl z)
     ·exact .inl (.inr z)
     ·exact .inr z
 obtain⟨h1,h2⟩:=gen ns [] qbc;exact⟨h1,λx=>by rw[h2 x];simp⟩
end
end TF
namespace HT
section
variable {prog:xE}{w:World}{A:xF}{R:Result->Shared->Prop}{I:Addr}{fp wr:List Addr}{n:Nat}{P:Nat->Value->Prop}{St:Nat->Heap->Prop}
def ZjV (kw:List (Str×Value))(W:Walks prog w A.in1 I fp wr n P St)(bt:Nat->Nat->Bool)(hcmp:CmpOf prog w A.in1 .Gt P bt)(S:Addr)(hSf:S∉fp):∀(k j:Nat) (s:Shared) (vb:Value) (c:Nat),n-(j+1)=k->j+1<=n->St (j+1) s.heap->P (argBest bt j) vb->s.heap.get? S=some { cls:=.type "list",dict:=none,data:=.seq #[vb,vb] c,slots:=#[] }->
  (∀v h' tk,P (argBest bt (n-1)) v->(∀b o,b∉wr->b≠S->s.heap.get? b=some o->h'.get? b=some o)->R (.ok (.ret v)) { s with heap:=h',toks:=tk })->xo (xC prog w) A (.builtin "max.loop" ⟨[.ref I,.none,.ref S],kw⟩) R s:=by
 have hSw:S∉wr:=λh=>hSf (W.sub _ h);have hname:(toString "max" ++ toString ".loop" : String) = "max.loop":=by decide
 intro k
 induction k with
 | zero=>
  intro j s vb c hk hj hst hPb hS hR;have hin:j+1=n:=by omega
  refine xm qaV ?_;rw[zx yd _];show xf _ A.in1 (seqItems? (.ref S) >>= _) _ _ s;refine xa (xt hS rfl ?_);show xf _ A.in1 (tryCatch (pyNext (.ref I)) _ >>= _) _ _ s;refine xa (xu (W.done s _ _ (hin▸hst) λh' tk hk'=>?_));have hS':=hk' S _ hSw hS;show xf _ A.in1 (updateSeq S (λ_=>#[]) >>= _) _ _ _;refine xa ?_;refine xz hS' rfl (xa (xy (xb ?_)));refine hR vb _ tk (by rw[<-hin];exact hPb) λb o hbw hbS e=>(zk _ _ (zg hbS)).trans (hk' b o hbw e)
 | succ k ih=>
  intro j s vb c hk hj hst hPb hS hR;have hlt:j+1<n:=by omega
  refine xm qaV ?_;rw[zx yd _];show xf _ A.in1 (seqItems? (.ref S) >>= _) _ _ s;refine xa (xt hS rfl ?_);show xf _ A.in1 (tryCatch (pyNext (.ref I)) _ >>= _) _ _ s;refine xa (xu (W.item (j+1) s _ _ hlt hst λv h' tk hP hst' hk'=>?_));have hS':=hk' S _ hSw hS;show xf _ A.in1 (tryCatch (holding [v,v] (richCompare .Gt v vb >>= _)) _ >>= _) _ _ _;refine xa (xu (xw (xa (hcmp (j+1) (argBest bt j) v vb _ _ _ hP hPb ?_))));refine xa (xw (wpAny_truthy_bool ?_));refine xa (xy (xb ?_))
  cases hb:bt (j+1) (argBest bt j)with
  | true=>
   simp only[if_true];refine xa ?_;refine xz hS' rfl (xa (xy ?_));rw[hname];refine xb ⟨plainId_quiet yd _,ih (j+1) _ v _ (by omega) hlt (W.frame _ _ _ hst' λb hbf o e=>?_) (by simp only[argBest,hb,if_true];exact hP) (zO _ hS' rfl) λv' h'' tk'' hP' hk''=>?_⟩
   ·exact(zk _ _ (λh:S=b=>hSf (by rw[h];exact hbf))).trans e
   ·exact hR v' h'' tk'' hP' λb o hbw hbS e=>hk'' b o hbw hbS ((zk _ _ (zg hbS)).trans (hk' b o hbw e))
  | false=>
   simp only[yh,if_false];refine xa (xy ?_);rw[hname];refine xb ⟨plainId_quiet yd _,ih (j+1) _ vb c (by omega) hlt hst' (by simp only[argBest,hb,yh,if_false];exact hPb) hS' λv' h'' tk'' hP' hk''=>?_⟩;exact hR v' h'' tk'' hP' λb o hbw hbS e=>hk'' b o hbw hbS (hk' b o hbw e)
def ZhN (d:Value)(W:Walks prog w A.in1 I fp wr n P St)(bt:Nat->Nat->Bool)(hcmp:CmpOf prog w A.in1 .Gt P bt)(S:Addr)(hSf:S∉fp){s:Shared}{c:Nat}(hst:St 0 s.heap)(hS:s.heap.get? S=some { cls:=.type "list",dict:=none,data:=.seq #[] c,slots:=#[] })
  (hR:0<n->∀v h' tk,P (argBest bt (n-1)) v->(∀b o,b∉wr->b≠S->s.heap.get? b=some o->h'.get? b=some o)->R (.ok (.ret v)) { s with heap:=h',toks:=tk })
  (hD:n=0->∀h' tk,(∀b o,b∉wr->b≠S->s.heap.get? b=some o->h'.get? b=some o)->R (.ok (.ret d)) { s with heap:=h',toks:=tk }):xo (xC prog w) A (.builtin "max.loop" ⟨[.ref I,.none,.ref S],[("default",d)]⟩) R s:=by
 have hSw:S∉wr:=λh=>hSf (W.sub _ h);have hname:(toString "max" ++ toString ".loop" : String) = "max.loop":=by decide
 refine xm qaV ?_;rw[zx yd _];show xf _ A.in1 (seqItems? (.ref S) >>= _) _ _ s;refine xa (xt hS rfl ?_);show xf _ A.in1 (tryCatch (pyNext (.ref I)) _ >>= _) _ _ s;by_cases hn:0<n
 ·refine xa (xu (W.item 0 s _ _ hn hst λv h' tk hP hst' hk'=>?_));have hS':=hk' S _ hSw hS
  show xf _ A.in1 (updateSeq S (λ_=>#[v,v]) >>= _) _ _ _;refine xa ?_;refine xz hS' rfl ?_;rw[hname];refine xb ⟨plainId_quiet yd _,ZjV _ W bt hcmp S hSf _ 0 _ v _ rfl hn (W.frame _ _ _ hst' λb hbf o e=>?_) hP (zO _ hS' rfl) λv' h'' tk'' hP' hk''=>?_⟩
  ·exact(zk _ _ (λh:S=b=>hSf (by rw[h];exact hbf))).trans e
  ·exact hR hn v' h'' tk'' hP' λb o hbw hbS e=>hk'' b o hbw hbS ((zk _ _ (zg hbS)).trans (hk' b o hbw e))
 ·have h0:n=0:=by omega
  refine xa (xu (W.done s _ _ (by rw[h0];exact hst) λh' tk hk'=>?_));show xf _ A.in1 (do rule _;ret d) _ _ _;refine xa (wpAny_rule (xb ?_));exact hD h0 h' tk λb o hbw hbS e=>hk' b o hbw e
end
section
variable {prog:xE}{w:World}{A:xF}{E:xG}{s:Shared}
def ZjW (x d:Value):argsOk "max" ⟨[x],[("default",d)]⟩:=by unfold argsOk;kernel_rfl
def maxD_walk {x d:Value}{Q:xG}(h:xf (xC prog w) A.in1 (pyIter x) (λit s₂=>∃I fp wr n P St bt,it=.ref I/\Walks prog w A.in1 I fp wr n P St/\St 0 s₂.heap/\(∀b∈fp,b<s₂.heap.objs.size)/\CmpOf prog w A.in1 .Gt P bt/\
   (0<n->∀v h' tk,P (argBest bt (n-1)) v->(∀b o,b∉wr->s₂.heap.get? b=some o->h'.get? b=some o)->Q v { s₂ with heap:=h',toks:=tk })/\(n=0->∀h' tk,(∀b o,b∉wr->s₂.heap.get? b=some o->h'.get? b=some o)->Q d { s₂ with heap:=h',toks:=tk })) E s) :
  xf (xC prog w) A (call (.builtin "max") [x] [("default",d)]) Q E s:=by
 have hname:(toString "max" ++ toString ".loop" : String) = "max.loop":=by decide
 refine xB (codeAny_call_builtin PySem.F.plain_max PySem.F.entry_max ?_);simp only[checkBuiltinCall,PySem.F.kind_max];suffices hgo:xf (xC prog w) A.in1 (Builtin.«max» ⟨[x],[("default",d)]⟩) (λfin s'=>match fin with | .done f=>(match (Except.ok f:Result)with | .ok (.ret v)=>Q v s' | .ok _=>False | .error e=>E e s') | .again c'=>c'.quiet=true/\xo (xC prog w) A c' (λr s'=>match r with | .ok (.ret v)=>Q v s' | .ok _=>False | .error e=>E e s') s') E s by
  cases hsig:Manifest.signature? "max" with
  | none=>exact xb hgo
  | some sig=>
   have ha:=ZjW x d;simp only[argsOk,hsig]at ha;have h2:Bind.checkArgs "max" sig ⟨[x],[("default",d)]⟩=pure ():=ha;show xf _ A.in1 (Bind.checkArgs "max" sig ⟨[x],[("default",d)]⟩) _ _ s;rw[h2];exact xb hgo
 show xf _ A.in1 (qbl "max" ["key","default"] 0 ⟨[],[("default",d)]⟩ >>= _) _ _ s;refine xa (wpAny_of_eq (show qbl "max" ["key","default"] 0 ⟨[],[("default",d)]⟩=pure [none,some d]from rfl) ?_);refine xa (xb ?_);refine xa (xc h (λit s₂ h₂=>?_) λ_ _ e=>e);obtain⟨I,fp,wr,n,P,St,bt,rfl,W,hst,hfp,hcmp,hQ,hQ0⟩:=h₂;refine xa (xl ?_);have hSf:s₂.heap.objs.size∉fp:=λhm=>yk _ (hfp _ hm);rw[hname];refine xb ⟨plainId_quiet yd _,ZhN d W bt hcmp s₂.heap.objs.size hSf (W.frame _ _ _ hst λb _ o e=>qh _ e) (qz _ rfl) (λhn v h' tk hP hk=>?_) λhn h' tk hk=>?_⟩
 ·exact hQ hn v h' tk hP λb o hbw e=>hk b o hbw (qH (qD e)) (qh _ e)
 ·exact hQ0 hn h' tk λb o hbw e=>hk b o hbw (qH (qD e)) (qh _ e)
end
section
variable {prog:xE}{w:World}{A:xF}{R:Result->Shared->Prop}{I:Addr}{fp wr:List Addr}{n:Nat}{P:Nat->Value->Prop}{St:Nat->Heap->Prop}
end
section
variable {prog:xE}{w:World}{A:xF}{E:xG}{s:Shared}
end
end HT
namespace L2
section
variable {X:Cx}
def Zbu {M:Model}{h:Heap}{id:String}:PySem.W.Looks M h (keeperOf (.builtin id)) qbd:=λA Q E s _ q=>by
 show xf M A (pure qbd) Q E s;exact xb q
def ZlL (X:Cx)(id:String)(nm:Str)(r:List V->List V->Hp->VK->Prop):Prop:=
 ∀(jJ:Qb) (s:Shared) (σ:St) (H:Hp) (xs ys:List V) (us vs:List Value) (Q:VK),Inv X jJ σ H s->Zz xs us->Zz ys vs->r xs ys H Q->xf (xC X.prog X.w) X.A (call (.builtin id) us ([nm].zip vs)) (EP X jJ σ Q) X.xe s
def tCK (r:List V->List V->Hp->VK->Prop)(ta tb:TE):TE:=fun σ H Q=>Y9 ta Xq σ H λxs H1=>Y9 tb Xq σ H1 λys H2=>r xs ys H2 Q
def ZjX {id:String}{x nm:Str}{p pos kpos:Pos}{e d:Expr}{ta tb:TE}{r:List V->List V->Hp->VK->Prop}(hc:ZlL X id nm r)(hg:Gl X x)(hm:X.mg x=none)(hv:xj x=some (.builtin id))(ha:PE X e ta)(hb:PE X d tb)
  (hn:x≠"__name__":=by decide) (hdb:(x==("__debug__" : Str))=false:=by decide) (he:xh [e] X.env=(false,eval e X.env)::xh [] X.env:=by rfl)
  (hall:(xp pos (xi [⟨some nm,d,kpos⟩] X.env)).all (·.1.isSome)=true:=by rfl) (hks:(xp pos (xi [⟨some nm,d,kpos⟩] X.env)).filterMap (·.1)=[nm]:=by rfl)
  (hpl:((backTo pos (xh [e] X.env)).any (·.1)||(xp pos (xi [⟨some nm,d,kpos⟩] X.env)).any (·.1.isNone))=false:=by rfl):PE X (.Call (.Name x p) [e] [⟨some nm,d,kpos⟩] pos) (tCK r ta tb):=by
 intro jJ s σ H Q I h;refine wpAny_Call_Name_kw (Ub I hg hm hv ?_ hn hdb);refine qcp (P:=λ_=>True) hpl (λh _=>⟨qbd,.inr (.inl rfl),Zbu⟩) (evalArgs_kw2 hall (ZL ((YN ha Y3 he) pos jJ s σ H _ I h) λus s1 ⟨vs,H1,I1,rv,q1⟩=>?_) he);refine ZL ((Zim hb ZkP) pos jJ s1 σ H1 _ I1 q1) λws s2 ⟨zs,H2,I2,rz,q2⟩=>?_;refine⟨trivial,?_⟩;rw[hks];exact hc jJ s2 σ H2 vs zs us ws Q I2 rv rz q2
def ZhO (hc:X.calm=true):ZlL X "max" "default" (λxs ys H Q=>∃(p:Addr) (ns:List Int) (y:V),xs=[.ref p]/\ys=[y]/\ZS X.K H p (ns.map V.int)/\Q (match ns with | n::r=>.int (TF.maxI n r) | []=>y) H):=by
 intro jJ s σ H xs ys us vs Q I r r2 h;obtain⟨p,ns,y,rfl,rfl,hp,q⟩:=h;obtain⟨u,rfl,ru⟩:=XI r
 cases ru
 obtain⟨v,rfl,rv⟩:=XI r2;obtain⟨jL,rv2,pl,hz⟩:=I.tuple hp;have hi:IntsAre jL ns:=W8 rv2;obtain⟨xs,e⟩:=hi.allInts.items;have hns:ns=xs.toList.map (·.1):=by rw[<-hi.numsOf,<-nums_intItems,<-e]
 have hl:s.heap.IsTuple p jL.toArray:=pl;rw[e]at hl;have hpl:p<s.heap.objs.size:=by obtain⟨o,ho,_⟩:=hl;exact qD ho
 have hne:p≠s.heap.objs.size:=qH hpl;refine HT.maxD_walk (wpAny_pyIter_tuple hl ⟨s.heap.objs.size,_,_,_,_,_,_,rfl,Walks.tuple (A:=X.A.in1) (I.ok.hd hc) _ p hne (intItems xs),⟨⟨_,qz _ rfl,rfl,rfl⟩,hl.push _⟩,λb hb=>?_,CmpOf.ints_gt (numAt xs) (λ_ _=>intItems_at),λhn v h' tk hP hk=>?_,λhn h' tk hk=>?_⟩)
 ·rw[zX]
  rcases qm.mp hb with e1 | hb
  ·rw[e1];exact yg _
  ·rw[qK.mp hb];exact zF hpl
 ·have hkk:∀b o,s.heap.get? b=some o->h'.get? b=some o:=λb o eb=>hk b o (λhm=>qH (qD eb) (qK.mp hm)) (qh _ eb)
  have hsz:0<xs.size:=by simpa[intItems]using hn
  have hn1:(intItems xs).size=xs.size:=by simp[intItems]
  rw[hn1]at hP;obtain⟨t,rfl⟩:=intItems_at hP;obtain⟨h1,h2⟩:=argBest_gt (numAt xs) (xs.size-1)
  cases ns with
  | nil=>
   have:xs.toList=[]:=List.map_eq_nil_iff.mp hns.symm;have:xs.size=0:=by rw[<-qL,this];rfl
   omega
  | cons n rr=>
   have e2:numAt xs (argBest (λi j=>decide (numAt xs i > numAt xs j)) (xs.size-1))=TF.maxI n rr:=by
    refine TF.max_uniq ?_ λa ha=>?_
    ·rw[hns,numAt_eq];exact getD_mem (by rw[qd,qL];omega)
    ·rw[hns]at ha
     obtain⟨j,hj,rfl⟩:=mem_getD ha;rw[qd,qL]at hj;rw[<-numAt_eq];exact h2 j (by omega)
   rw[e2];exact⟨.int (TF.maxI n rr),H,I.kept (t':=tk) hkk,⟨_,rfl⟩,q⟩
 ·have hkk:∀b o,s.heap.get? b=some o->h'.get? b=some o:=λb o eb=>hk b o (λhm=>qH (qD eb) (qK.mp hm)) (qh _ eb)
  have h0:xs.size=0:=by simpa[intItems]using hn
  have:ns=[]:=by
   rw[hns];have:xs.toList=[]:=by
    cases hx:xs.toList with
    | nil=>rfl
    | cons a r=>have:=congrArg qaQ hx;rw[qL,h0]at this;simp at this
   rw[this];rfl
  subst this;exact⟨y,H,I.kept (t':=tk) hkk,rv,q⟩
end
end L2
namespace TF
open L2
section
variable {X:Cx}{G:Gh}
def BO (f g:Zb->M D):Zb->M D:=fun ρ=>Zq (f ρ) λd=>Zq (g ρ) λe=>match d with
 | .tup ds=>(match ZG ds with | some (n::r)=>ZA (.int (maxI n r)) | some []=>ZA e | none=>Zv)
 | _=>Zv
def ZlM {a b:Expr}{p pos kpos:Pos}{f g:Zb->M D}{r1 r2:Bool}(hc:X.calm=true)(hg:Gl X "max")(hm:X.mg "max" = none)(hv:xj "max" = some (.builtin "max"))(ha:PD X G r1 a f)(hb:PD X G r2 b g)
  (he:xh [a] X.env=(false,eval a X.env)::xh [] X.env:=by rfl)
  (hall:(xp pos (xi [⟨some "default",b,kpos⟩] X.env)).all (·.1.isSome)=true:=by rfl) (hks:(xp pos (xi [⟨some "default",b,kpos⟩] X.env)).filterMap (·.1)=[("default" : Str)]:=by rfl)
  (hpl:((backTo pos (xh [a] X.env)).any (·.1)||(xp pos (xi [⟨some "default",b,kpos⟩] X.env)).any (·.1.isNone))=false:=by rfl):PD X G false (.Call (.Name "max" p) [a] [⟨some "default",b,kpos⟩] pos) (BO f g):=by
 obtain⟨ta,pa,qa⟩:=ha.drop;obtain⟨tb,pb,qb⟩:=hb.drop;refine⟨_,ZjX (ZhO hc) hg hm hv pa pb (by decide) (by decide) he hall hks hpl,fun σ Hf H ρ s d s' Q e1 e2 e3 e4 k=>?_⟩;obtain⟨da,s1,a1,a2⟩:=ZC e4;obtain⟨db,s2,a3,a4⟩:=ZC a2;refine qa σ Hf H ρ s da s1 _ e1 e2 e3 a1 λx jV H1 g1 kb r1=>?_;refine qb σ jV H1 ρ s1 db s2 _ g1.fh (e2.ext g1.ff) kb a3 λy kc H2 g2 j6 r2=>?_;have r1:=r1.ext g2.ff
 match da,a4,r1 with
 | .tup ds,a4,r1=>
  have a4:(match ZG ds with | some (n::r)=>ZA (D.int (maxI n r)) | some []=>ZA db | none=>Zv) s2=some (d,s'):=a4
  cases he:ZG ds with
  | none=>rw[he]at a4;cases a4
  | some ns=>
   rw[he]at a4;obtain⟨q,vs,rfl,nq,hq,rq⟩:=jc.mp r1;rw[WA he]at rq;rw[jm rq]at hq;refine⟨q,ns,y,rfl,rfl,ZS.of (g2.fh _ _ nq hq),?_⟩
   cases ns with
   | nil=>
    obtain⟨rfl,rfl⟩:=ZO a4;exact k y kc H2 (g1.trans g2) j6 r2 (λz=>by cases z)
   | cons n r=>
    obtain⟨rfl,rfl⟩:=ZO a4;exact k _ kc H2 (g1.trans g2) j6 (ja.mpr rfl) (λz=>by cases z)
end
end TF
namespace TS
open L2
section
variable {prog:xE}{w:World}{A:xF}{E:xG}{s:Shared}
end
end TS
namespace TF
open L2 TS
section
variable {X:Cx}{G:Gh}
end
end TF
namespace TP2
open L2 TF TP
end TP2
namespace TP3
open L2 TF TP
open TP2
def ZjY:Zb->M Out:=(Zg (YF (Wu (asB (ZE Uj (Zc (Za 1) (Zc (dC (.ty "tuple")) Zd)))))
 (Zg (ZK (dC (.bl false)))
 Zo)
 Zo)
 (Zg (YF (VF (Wu (asB (ZE VZ (Zc (ZR [none,some 0] (WN (Za 1)) (Zw 0) Z3 (Zn V6 (Zc (Ze Zl (Za 1) (dC (.int 0))) (Zc (Za 0) Zd)))) Zd)))) (Wu (asB (Zn BF (Zc (Za 1) Zd)))))
 (Zg (ZK (dC (.bl false)))
 Zo)
 Zo)
 (Zg (ZT 2 (Zn Vi (Zc (Za 0) Zd)))
 (Zg (ZK (ZE VZ (Zc (ZR [none,some 2] (ZV (Zn V5 (Zc (Za 1) Zd))) (Zw 0) Z3 (Ze YI (Za 0) (Za 1))) Zd)))
 Zo))))
def Jo:List D->M D:=runB 3 2 ZjY
def Zfw:Zb->M Out:=(Zg (ZK (ZE ZlE (Zc (ZR [none,some 0] (Z8 (Ze Y5 (ZE Yw (Zc (Za 0) Zd)) (dC (.int 1)))) (Zw 0) (asB (Ze Wa (Za 0) (Za 1))) (Za 0)) Zd)))
 Zo)
def Jj:List D->M D:=runB 1 1 Zfw
def ZeO (Fs:List D->M D):Zb->M Out:=(Zg (ZT 3 (ZE Yw (Zc (Za 2) Zd)))
 (Zg (YF (asB (Ze Xc (Za 3) (ZE Yw (Zc (Za 0) Zd))))
 (Zg (ZK (Za 2))
 Zo)
 Zo)
 (Zg (ZT 4 (ZR [none,some 2,some 3] (ZV (Ze Zl (Za 0) (Za 3))) (Zw 0) (asB (Ze WT (Za 0) (Za 2))) (Ze Zl (Za 1) (Za 0))))
 (Zg (YZ (Z8 (ZE U1 (Zc (Za 1) (Zc (Ze Y5 (BO (Za 2) (dC (.int (-1)))) (dC (.int 2))) Zd)))) (Zw 5)
 (Zg (YF (asB (Ze Wa (Za 5) (Za 4)))
 (Zg (ZT 6 (Zn Fs (Zc (Za 0) (Zc (Za 1) (Zc (Ze Y5 (Za 2) (ZW (Zc (Za 5) Zd))) Zd)))))
 (Zg (YF (asB (Ze ZlI (Za 6) (dC .non)))
 (Zg (ZK (Za 6))
 Zo)
 Zo)
 Zo))
 Zo)
 Zo))
 (Zg (ZK (dC .non))
 Zo)))))
def V8:Nat->List D->M D
 | 0=>λ_=>Zv
 | n+1=>runB 7 3 (ZeO (V8 n))
def Zgs:Zb->M Out:=(Zg (YF (Wu (asB (Zn Jg (Zc (Za 1) (Zc (Ze Zl (Za 0) (dC (.int 0))) Zd)))))
 (Zg (ZK (dC (.bl false)))
 Zo)
 Zo)
 (Zg (YF (Wu (asB (ZE VZ (Zc (ZR [none,some 0] (WN (Za 1)) (Zw 0) Z3 (Zn V6 (Zc (Ze Zl (Za 1) (dC (.int 0))) (Zc (Za 0) Zd)))) Zd))))
 (Zg (ZK (dC (.bl false)))
 Zo)
 Zo)
 (Zg (ZK (ZE VZ (Zc (ZR [none,some 1] (WN (Ze Zl (Za 0) (dC (.int 1)))) (Zw 0) Z3 (Ze Xj (Ze Zl (Za 1) (Ze Zl (Za 0) (dC (.int 0)))) (Ze Zl (Za 1) (Ze Zl (Za 0) (dC (.int 1)))))) Zd)))
 Zo)))
def Bh:List D->M D:=runB 2 2 Zgs
end TP3
namespace TQ
open L2 TF TQ
open TP
open TP2
open TP3
def ZjZ:Zb->M Out:=(Zg (ZK (WH (Ze WT (Ze Zl (Za 0) (dC (.int 0))) (Ze Zl (Za 1) (dC (.int 1)))) (Ze WT (Ze Zl (Za 1) (dC (.int 0))) (Ze Zl (Za 0) (dC (.int 1))))))
 Zo)
def Zj0:List D->M D:=runB 2 2 ZjZ
def ZbU:Zb->M Out:=(Zg (ZK (J5 (Ze Xc (Za 1) (Za 2)) (Zn W9 (Zc (Za 0) (Zc (Za 1) (Zc (Za 2) Zd))))))
 Zo)
def ZaB:List D->M D:=runB 3 3 ZbU
def Zfx:List D->M D:=runB 4 4 (Zg (YF (asB (Ze Xc (Ze Zl (Za 0) (dC (.int 0))) (Ze Zl (Za 1) (dC (.int 0)))))
 (Zg (ZK (Zn W9 (Zc (Ze Zl (Za 2) (Ze Zl (Za 0) (dC (.int 0)))) (Zc (Ze Zl (Za 0) (dC (.int 1))) (Zc (Ze Zl (Za 1) (dC (.int 1))) Zd)))))
 Zo)
 Zo)
 (Zg (ZK (Zn W9 (Zc (Za 3) (Zc (Ze Zl (Za 0) (dC (.int 0))) (Zc (Ze Zl (Za 1) (dC (.int 0))) Zd)))))
 Zo))
def ZbV:List D->M D:=Xd 3 (JV (Zn W9 (Zc (Za 2) (Zc (Za 0) (Zc (Za 1) Zd)))))
def Zdr:List D->M D:=runB 4 4 (Zg (ZK (WH (Zn ZaB (Zc (Za 2) (Zc (Ze Zl (Za 0) (dC (.int 0))) (Zc (Ze Zl (Za 1) (dC (.int 0))) Zd)))) (Zn ZaB (Zc (Za 3) (Zc (Ze Zl (Za 0) (dC (.int 1))) (Zc (Ze Zl (Za 1) (dC (.int 1))) Zd))))))
 Zo)
def Zap:List D->M D:=Xd 3 (Zn W9 (Zc (Za 2) (Zc (Za 0) (Zc (Za 1) Zd))))
def Zax:List D->M D:=Xd 3 (J5 (Ze YI (ZW (Zc (Za 0) (Zc (Za 1) Zd))) (Za 2)) (Ze YI (ZW (Zc (Za 1) (Zc (Za 0) Zd))) (Za 2)))
def Zds:List D->M D:=Xd 3 (Ze Xj (Ze dMod (Za 0) (Za 2)) (Ze dMod (Za 1) (Za 2)))
def ZbW:List D->M D:=Xd 4 (Ze YI (ZE U1 (Zc (Ze JX (Za 1) (Za 0)) (Zc (Ze Y5 (Ze JX (Za 2) (Za 1)) (Za 0)) Zd))) (Za 3))
def Tl:Nat->List D->M D
 | 0=>ZbV
 | 1=>Zap
 | 2=>Zj0
 | 3=>Zfx
 | 4=>Zdr
 | 5=>Zax
 | 6=>Zds
 | 7=>ZbW
 | _=>λ_=>Zv
def Zgt:Zb->M Out:=(Zg (ZT 2 (Zn V5 (Zc (Vj (ZE Yw (Zc (Za 0) Zd))) Zd)))
 (Zg (ZK (ZW (Zc (ZE Yw (Zc (Za 0) Zd)) (Zc (ZE UX (Zc (ZR [none,some 1,some 0] (ZV (Za 2)) (Zw 0) (asB (BZ Tl 1 (Zc (Ze Zl (Za 2) (Ze Zl (Za 0) (dC (.int 0)))) (Zc (Ze Zl (Za 2) (Ze Zl (Za 0) (dC (.int 1)))) Zd)))) (Za 0)) Zd)) Zd))))
 Zo))
def VI:List D->M D:=runB 3 2 Zgt
def ZlN:Zb->M Out:=(Zg (ZT 1 (Zn Vi (Zc (Za 0) Zd)))
 (Zg (ZK (U6 VI 0 [1] (Vj (Ze Zl (Za 0) (dC (.int 0))))))
 Zo))
def Ua:List D->M D:=runB 2 1 ZlN
def ZcK:Zb->M Out:=(Zg (ZT 2 (Zn Vi (Zc (Za 0) Zd)))
 (Zg (ZK (U6 VI 1 [2] (Za 1)))
 Zo))
def Zac:List D->M D:=runB 3 2 ZcK
def Zns:Zb->M Out:=(Zg (ZK (Zn Zac (Zc (Za 0) (Zc (Za 1) Zd))))
 Zo)
def BG:List D->M D:=runB 2 2 Zns
end TQ
namespace TF
open L2
def ZhP (K:ql)(L:List (Addr×Str)):Sp:=λvs H Q _=>∃(a:Addr) (ns:List Int),vs=[.ref a]/\ZF K H a (ns.map V.int)/\ns.length<=63/\(∀P q,(P,q)∈L->H P=some (.tbl #[]))/\∀H',Q (.bl true) H'
def ZhQ {L:List (Addr×Str)}{tb:List (Str×Addr×Addr)}{H:Hp}(h:∀P q,(P,q)∈L->∃x c,(x,c,P)∈tb)(hT:∀e∈tb,H e.2.2=some (.tbl #[])):∀P q,(P,q)∈L->H P=some (.tbl #[]):=λP q m=>by
 obtain⟨x,c,z⟩:=h P q m;exact hT _ z
def ZpZ {G0:Gh}{L:List (Addr×Str)}{H:Hp}(h:∀P q,(P,q)∈L->H P=some (.tbl #[])):∀P q,(P,q)∈L->Zoh G0 L P q H:=λP q m=>⟨#[],h P q m,trivial,λpos cv hc=>by cases hc⟩
def Zj1 {L:List (Addr×Str)}{H0 H:Hp}{p wa:Addr}{m:Int}{w:List Int}{g:Zb->M Out}{Q:VK}{n:Nat}{s':Pn}{x:V}(st:B7 p wa ([m,0],w) H)(hTb:∀P q,(P,q)∈L->H0 P=some (.tbl #[]))(kp:∀b u,H0 b=some u->H b=some u)(hp:H0 p=none)(hw:H0 wa=none)(hQ:∀H',Q (.bl true) H')
  (hg:g (none::some .pen::qw n none) ([m,0],w)=some (.rt (.bl true),s')) :
  ∃G,Wj XO L G/\Zoa G [] [] [] false g { nx:=λ_ H'=>Q .non H',rt:=Q } (some x::some (.ref p)::qw n none) H:=by
 refine⟨U2 (Xl p wa) L,⟨Xl p wa,⟨p,wa,rfl⟩,λb ⟨q,mb⟩ hb=>?_,rfl⟩,λ_=>none,λ_=>none,H,none::some .pen::qw n none,([m,0],w),_,s',⟨λ_=>none,⟨by simp,.refl _ _,.refl (λb o _ e=>by cases e),λi d _ e=>?_,λi d m=>by simp at m,λi j b di dj m=>by simp at m⟩⟩,⟨st,ZpZ λP q z=>kp _ _ (hTb P q z)⟩,hg,λv Hf' H' g st r _=>?_⟩
 ·have e:=hTb b q mb
  rcases hb with rfl | rfl
  ·rw[hp]at e;cases e
  ·rw[hw]at e;cases e
 ·match i,e with
  | 0,e=>cases e
  | 1,e=>cases e;exact⟨_,rfl,jo.mpr rfl⟩
  | i+2,e=>
   have e':(qw n (none:Option D))[i]?=some (some d):=e;rw[yE]at e';split at e' <;> cases e'
 ·rw[je.mp r]
  exact hQ H'
def lok_nd:∀{L:List (Addr×Str)},(L.map (·.1)).Nodup->Wy L
 | [],_=>λP q q' h=>by simp at h
 | (a,b)::L,nd=>λP q q' h1 h2=>by
  rw[zh,zC]at nd;rcases qm.mp h1 with e1 | m1
  ·cases e1
   rcases qm.mp h2 with e2 | m2
   ·cases e2;rfl
   ·exact absurd (y6 (f:=(·.1)) m2) nd.1
  ·rcases qm.mp h2 with e2 | m2
   ·cases e2;exact absurd (y6 (f:=(·.1)) m1) nd.1
   ·exact lok_nd nd.2 P q q' m1 m2
def Zgu (xs:List Int):YV (xs.map D.int)=true:=by
 induction xs with
 | nil=>rfl
 | cons a r ih=>simp only[zh,YV,YH,ih];rfl
def Zj2:∀ds s d s',WZ ds s=some (d,s')->YV ds=true/\YH d=true:=λds s d s' h=>by
 unfold WZ at h;split at h
 ·obtain⟨_,h⟩:=Xf h
  obtain⟨xs,s1,_,h2⟩:=ZC h;obtain⟨rfl,rfl⟩:=ZO h2;exact⟨rfl,by simp only[YH];exact Zgu xs⟩
 ·cases h
end TF
namespace TT
section
variable {M:Model}{A:xF}{E:xG}{s:Shared}
end
section
variable (rk:Keyed->Int)
variable {rk}{a b out:Array Keyed}{ia ib:Nat}
end
section
variable {M:Model}{A:xF}{E:xG}{s:Shared}
variable {rk:Keyed->Int}{κ:SortKind}{In:Keyed->Prop}
end
section
variable (rk:Keyed->Int)
variable {rk}{a b out:Array Keyed}{na nb:Nat}
end
section
variable {M:Model}{A:xF}{E:xG}{s:Shared}{rk:Keyed->Int}{κ:SortKind}{In:Keyed->Prop}
end
section
variable {M:Model}{A:xF}{E:xG}{s:Shared}{rk:Keyed->Int}{κ:SortKind}{In:Keyed->Prop}
end
section
variable (rk:Keyed->Int)
end
section
variable {rk:Keyed->Int}
end
section
variable {M:Model}{A:xF}{E:xG}{s:Shared}{rk:Keyed->Int}{κ:SortKind}{In:Keyed->Prop}
end
section
variable {M:Model}{A:xF}{E:xG}{s:Shared}{rk:Keyed->Int}{κ:SortKind}{In:Keyed->Prop}
end
section
variable {M:Model}{A:xF}{E:xG}{s:Shared}{rk:Keyed->Int}{κ:SortKind}{In:Keyed->Prop}{a₀:List Keyed}
end
section
variable {M:Model}{A:xF}{E:xG}{s:Shared}{rk:Keyed->Int}{κ:SortKind}{In:Keyed->Prop}{a₀:List Keyed}
end
open Classical L2 TS in
section
variable {prog:xE}{w:World}{A:xF}{E:xG}{s:Shared}
end
end TT
namespace TF
open L2
section
variable {X:Cx}{G:Gh}
def Zok (i j l:Nat):D->Zb->Option Zb:=λd ρ=>match d with | .tup [a,b,c]=>some (((ρ.set i (some a)).set j (some b)).set l (some c)) | _=>none
def ZlO {i j l:Nat}{x y z:Str}{pos px py pz:Pos}{k:Nat}{ok:Nat->Prop}(hc:X.calm=true)(oi:ok i)(oj:ok j)(ol:ok l)
  (hn:(assignEach [.Name x px,.Name y py,.Name z pz] X.env).length=3:=by rfl) (hst:(assignEach [.Name x px,.Name y py,.Name z pz] X.env).findIdx? (·.1)=none:=by rfl)
  (hp:J4 X [.Name x px,.Name y py,.Name z pz] (JN (Wf i) (JN (Wf j) (JN (Wf l) gNil)))):Vh X G (.Tuple [.Name x px,.Name y py,.Name z pz] k pos) ok (Zok i j l):=
 ⟨_,ZkF hc hp hn hst,λx σ Hf H d ρ ρ' Q e r q k=>by
  match d,q,r with
  | .tup [a,b,c],q,r=>
   cases q
   obtain⟨ad,vs,rfl,n,h,rl⟩:=jc.mp r;obtain⟨v1,r1,rfl,q1,q2⟩:=jd.mp rl;obtain⟨v2,r2,rfl,q3,q4⟩:=jd.mp q2;obtain⟨v3,r3,rfl,q5,q6⟩:=jd.mp q4;have:=Zk.nil_iff.mp q6;subst this;exact⟨ad,_,rfl,ZS.of (e _ _ n h),rfl,v1,_,rfl,v2,_,rfl,v3,_,rfl,rfl,k _ (.cons oi q1 (.cons oj q3 (.cons ol q5 .nil)))⟩⟩
def ZlP {i:Nat}{x:Str}{e:Expr}{pos p1 p2 p3:Pos}{r1 fr:Bool}{ob own:List Nat}{f:Zb->M D}(hi:i∈own)(hv:PE X (.Name x p1) (Z7 i))(he:PD X G r1 e f)
  (hbase:xq (.Name x p1) "extend" X.env (eval (.Name x p1) X.env)=eval (.Name x p1) X.env:=by rfl)
  (hfew:((backTo p3 (xh [e] X.env)).all (λx=>!x.1)&&(xp p3 (xi [] X.env)).all (λx=>x.1.isSome)
   && decide ([e].length+([]:List Keyword).length+(if ([]:List Keyword).isEmpty then 0 else 1)<30))=true:=by rfl)
  (hline:(p2.endLine==p3.line)=true:=by rfl) (hs:xh [e] X.env=(false,eval e X.env)::xh [] X.env:=by rfl)
  (hsw:xr (.Call (.Attribute (.Name x p1) "extend" p2) [e] [] p3) none pos.line X.env=pure false:=by rfl) :
  YE X G ob own own fr (.Expr (.Call (.Attribute (.Name x p1) "extend" p2) [e] [] p3) pos) (UH i (fun ρ=>f (Yq own ρ))):=
 Zla hi he λte p=>ZeE hv p hbase hfew hline hs hsw
end
end TF
namespace L2
section
variable {X:Cx}{tg:Expr}
end
end L2
namespace TF
open L2
section
variable {X:Cx}{G:Gh}{ob own:List Nat}{fr:Bool}
end
open Sem (wp)
section
variable {prog:xE}{w:World}{A:xF}{E:xG}{s:Shared}
def Zfy (n:Nat)(a c:Int)(jP:Array Value):Prop:=
 ItemsOf (λi v=>∃t,v=.int (a+i*c) t) jP n
def Zgv {Q : List Value -> Shared -> Prop}{r : Addr}{a b c : Int}{t u v : Tok}{n : Nat}
    (hh : A.handled = none) (hr : IsRange s.heap r a b c t u v)
    (hsmall : Builtin.Range.small a b c = true) (hn : qaa a b c = n)
    (jT : n <= 2 ^ 24)
    (hQ : ∀ (h' : Heap) (tk : Nat) (jP : Array Value), (∀ b o', s.heap.get? b = some o' -> h'.get? b = some o') ->
      Zfy n a c jP -> Q jP.toList { s with heap := h', toks := tk }) :
    xf (xC prog w) A (collect (.ref r)) Q E s := by
  unfold collect;apply xa;apply wpAny_runValue;apply xm qb4;rw[zx
    qb5 _]
  show xf _ A.in1 (newList [] >>= λz =>
    again (.builtin "list.__iadd__" ⟨[z, .ref r], []⟩)) _ _ s
  apply xa;refine xl ?_;refine xb ⟨plainId_quiet
    qaN _, xm
    F.entry_list_iadd ?_⟩
  rw[zx
    qaN _]
  show xf _ A.in1 (yq
    (.ref s.heap.objs.size) (.ref r)
    (.ref s.heap.objs.size)) _ _ _
  have h0 : (s.heap.push
      { cls := .type "list", data := .seq ([] : List Value).toArray }).get?
      s.heap.objs.size = some { cls := .type "list", data := .seq #[] 0 } :=
    qz _ rfl
  have fin' : ∀ (h' : Heap) (tk : Nat) (jP : Array Value) (k : Nat),
      (∀ b o', s.heap.get? b = some o' -> h'.get? b = some o') ->
      h'.get? s.heap.objs.size = some
        { cls := .type "list", dict := none, data := .seq jP k, slots := #[] } ->
      Zfy n a c jP -> xf (xC prog w) A (match qQ s.heap.objs.size with
        | qQ a => do
          match (<- load a).data with
            | Data.seq xs _ => pure xs.toList
            | _ => unsupported "internal:collect"
        | _ => unsupported "internal:collect") Q E { s with heap := h', toks := tk } := by
    intro h' tk jP k kp hS hi;show xf _ A (load s.heap.objs.size >>= _) _ _ _;refine xa (wpAny_load hS ?_);exact xb (hQ h' tk jP kp hi)
  refine xc (wpAny_extend_range (A := A)
    (R := λr s' => r = .ok (.ret (.ref s.heap.objs.size)) /\
      ∃ h' tk jP k, (∀ b o', s.heap.get? b = some o' -> h'.get? b = some o') /\
        h'.get? s.heap.objs.size = some
          { cls := .type "list", dict := none, data := .seq jP k, slots := #[] } /\ Zfy n a c jP /\
        s' = { s with heap := h', toks := tk })
    (s := { s with heap := (s.heap.push
      { cls := .type "list", data := .seq ([] : List Value).toArray }) }) hh
    (qh _ hr) hsmall hn jT _ _ 0 h0
    λh' tk acc' c' hk hS' hacc => ⟨rfl, h', tk, acc', c', λb o e => hk b o (qH
      (qD e)) (qh _ e), hS', hacc, rfl⟩)
    (λfin s' h => ?_) (λe s' h => ?_)
  · cases fin with
    | done f =>
      obtain⟨e, h', tk, jP, k, kp, hS, hi, rfl⟩ := h
      cases e
      exact fin' h' tk jP k kp hS hi
    | again c' =>
      refine⟨h.1, codeAny_mono h.2
        λr s'' hr => ?_⟩
      obtain⟨rfl, h', tk, jP, k, kp, hS, hi, rfl⟩ := hr;exact fin' h' tk jP k kp hS hi
  · exact absurd h.1 (by simp)
end
variable {X:Cx}{G:Gh}{f:Zb->M D}
end TF
namespace HT
def W4 (xs:Array Nat):Prop:=xs.toList.Pairwise (· < ·)
def W4.lt {xs:Array Nat}(h:W4 xs){i k:Nat}(hk:k<xs.size)(hi:i<k):xs.getD i 0<xs.getD k 0:=by
 have:=zf.mp h i k (by simp;omega) (by simpa using hk) hi;simp only[Array.getElem_toList]at this;rw[zu,zu,qU (by omega),qU hk];exact this
def Zdt {xs:Array Nat}(h:W4 xs)(j:Nat):∀(f lo hi:Nat),hi-lo<=f->lo<=hi->hi<=xs.size->(∀i<lo,xs.getD i 0<j)->(∀i,hi<=i->i<xs.size->j<=xs.getD i 0)->
  (∀i<qah xs j f lo hi,xs.getD i 0<j)/\(∀i,qah xs j f lo hi<=i->i<xs.size->j<=xs.getD i 0)/\qah xs j f lo hi<=xs.size
 | 0,lo,hi,e1,e2,e3,a,b=>by
  have:lo=hi:=by omega
  subst this;unfold qah;exact⟨a,b,e3⟩
 | f+1,lo,hi,e1,e2,e3,a,b=>by
  unfold qah;by_cases c:lo<hi
  ·rw[if_pos c]
   dsimp only;have hm:(lo+hi) / 2<xs.size:=by omega
   have eg:xs.getD ((lo+hi) / 2) j=xs.getD ((lo+hi) / 2) 0:=by
    rw[zu,zu,qU hm];rfl
   rw[eg];by_cases d:xs.getD ((lo+hi) / 2) 0<j
   ·rw[if_pos d]
    refine Zdt h j f _ hi (by omega) (by omega) e3 (λi hi'=>?_) b;by_cases z:i<(lo+hi) / 2
    ·exact yX (h.lt hm z) d
    ·have:i=(lo+hi) / 2:=by omega
     rw[this];exact d
   ·rw[if_neg d]
    refine Zdt h j f lo _ (by omega) (by omega) (by omega) a λi hi' hs=>?_;by_cases z:i=(lo+hi) / 2
    ·rw[z];omega
    ·have:=h.lt hs (show(lo+hi) / 2<i by omega)
     omega
  ·rw[if_neg c]
   have:lo=hi:=by omega
   subst this;exact⟨a,b,e3⟩
def ZbK {xs:Array Nat}(h:W4 xs)(j:Nat):(∀i<qR xs j,xs.getD i 0<j)/\(∀i,qR xs j<=i->i<xs.size->j<=xs.getD i 0)/\qR xs j<=xs.size:=
 Zdt h j xs.size 0 xs.size (by omega) (zl _) (qq _) (λi hi=>by omega) λi h1 h2=>by omega
def ZhR {xs:Array Nat}(h:W4 xs){i:Nat}(hi:i<xs.size):qR xs (xs.getD i 0+1)=i+1:=by
 obtain⟨a,b,c⟩:=ZbK h (xs.getD i 0+1);have h1:¬qR xs (xs.getD i 0+1)<=i:=λz=>by
  have:=b i z hi;omega
 by_cases h2:i+1<qR xs (xs.getD i 0+1)
 ·have:=a (i+1) h2
  have:=h.lt (show i+1<xs.size by omega) (yg i);omega
 ·omega
def ZhS {xs:Array Nat}(h:W4 xs):qR xs 0=0:=by
 obtain⟨a,b,c⟩:=ZbK h 0;by_cases z:0<qR xs 0
 ·have:=a 0 z;omega
 ·omega
def Zgw {xs:Array Nat}(h:W4 xs){j:Nat}(hj:¬xs[qR xs j]?=some j):W4 (SetTable.insertAt xs (qR xs j) j):=by
 obtain⟨a,b,c⟩:=ZbK h j;unfold W4;rw[SetTable.toList_insertAt];have gl:∀{i:Nat} {x:Nat},xs.toList[i]?=some x->i<xs.size/\xs.getD i 0=x:=λ{i x} e=>by
  rw[zP]at e;obtain⟨l,e2⟩:=Array.getElem?_eq_some_iff.mp e;exact⟨l,by rw[zu,e];rfl⟩
 have m1:∀x∈xs.toList.take (qR xs j),x<j:=λx hx=>by
  obtain⟨i,hi⟩:=qb6.mp hx;have hl:=(qM.mp hi).1;rw[z0]at hl;rw[yU (by omega)]at hi;have:=a i (by omega);rw[(gl hi).2]at this;exact this
 have m2:∀x∈xs.toList.drop (qR xs j),j<x:=λx hx=>by
  obtain⟨i,hi⟩:=qb6.mp hx;rw[List.getElem?_drop]at hi;obtain⟨g1,g2⟩:=gl hi;have h1:=b _ (qbG _ i) g1;rw[g2]at h1;by_cases e:j=x
  ·exfalso
   subst e;by_cases z:i=0
   ·subst z
    rw[Nat.add_zero,zP]at hi;exact hj hi
   ·have h2:=h.lt g1 (show qR xs j<qR xs j+i by omega)
    have h3:=b _ (qq _) (by omega);omega
  ·omega
 refine yR.mpr ⟨h.sublist (qaJ _ _),yj.mpr ⟨m2,h.sublist (List.drop_sublist _ _)⟩,λx hx y hy=>?_⟩;rcases qm.mp hy with rfl | hy
 ·exact m1 x hx
 ·exact yX (m1 x hx) (m2 y hy)
def Zj3 {t:SetTable}{j:Nat}(h:t.place[qR t.place j]?=some j):t.slot j=.live (qR t.place j):=by
 unfold SetTable.slot;dsimp only;rw[if_pos (by rw[h];simp)]
def Zdu {t:SetTable}{g:Nat->Int}{h:Int}:∀(f:Nat) (p:SetTable.Probe) (j:Nat) (dm:Option Nat),(∀d,p.dummy=some d->∀i,t.slot d≠.live i)->qbx t g h f p=some (.empty j dm)->(∀i,t.slot (dm.getD j)≠.live i)
 | 0,p,j,dm,hp,e=>by unfold qbx at e;cases e
 | f+1,p,j,dm,hp,e=>by
  unfold qbx at e;have adv:∀q:SetTable.Probe,(t.advance q).dummy=q.dummy:=λq=>by
   unfold SetTable.advance;split <;> rfl
  cases q:t.slot p.j with
  | empty=>
   rw[q]at e
   cases e
   intro i z
   cases hd:p.dummy with
   | none=>rw[hd]at z;simp only[Option.getD_none]at z;rw[q]at z;cases z
   | some d=>rw[hd]at z;exact hp d hd i z
  | dummy=>
   rw[q]at e;refine Zdu f _ j dm (λd hd i z=>?_) e;rw[adv]at hd
   cases hd
   rw[q]at z;cases z
  | live i=>
   rw[q]at e;dsimp only at e;split at e
   ·cases e
   ·exact Zdu f _ j dm (λd hd=>hp d (by rw[adv]at hd;exact hd)) e
def Zee {t:SetTable}{h:Int}{j:Nat}{b:Bool}(e:t.freeSlot h=some (j,b)):¬t.place[qR t.place j]?=some j:=λz=>by
 unfold SetTable.freeSlot at e;split at e
 ·rename_i k dm q
  cases e
  unfold SetTable.probe at q;exact Zdu _ _ _ _ (λd hd=>by unfold SetTable.probeStart at hd;cases hd) q _ (Zj3 z)
 ·cases e
def range_rise (n:Nat):W4 (Array.range n):=by
 unfold W4;rw[Array.toList_range];exact qaW
def ZaH (g:Nat->Option Nat):∀l:List Nat,(l.filterMap λj=>(g j).map (j,·)).map (·.1)=l.filter λj=>(g j).isSome
 | []=>rfl
 | a::l=>by
  rw[yr]
  cases e:g a with
  | none=>simp[e,ZaH g l]
  | some x=>simp[e,ZaH g l]
def Zj4 {m f v:Nat}{l p:Bool}{hs:Array Int}{r:SetTable×Array Nat}(h:SetTable.laid m f v l p hs=some r):r.1.led=l/\W4 r.1.place:=by
 unfold SetTable.laid at h
 cases e:SetTable.layClean m hs with
 | none=>rw[e]at h;cases h
 | some ow=>
  rw[e]at h
  cases h
  refine⟨rfl,?_⟩;show((((qk (m+1)).filterMap λj=>(ow.getD j none).map (j,·)).map (·.1)).toArray.toList).Pairwise (· < ·);rw[qba,ZaH];exact qaW.sublist zD
def Yj (w:World):Bool:=w.params.followText "set-order"
def Good (w:World)(t:SetTable):Prop:=(Yj w=true∨t.led=true)/\W4 t.place
def Good.stand {w:World}{t:SetTable}(h:Good w t)(n:Nat):Good w (t.standIn n):=⟨h.1,range_rise n⟩
def Zgx {w:World}{t:SetTable}(h:Good w t)(es:Array (Int×Value))(k:Int)(x:Value):Good w (layNew t es k x).2.1:=by
 unfold layNew;split
 ·rename_i j b e
  have hj:=Zee e;have:Good w (t.put j).1:=⟨h.1,Zgw h.2 hj⟩;show Good w ((t.put j).1.orStandIn _);unfold SetTable.orStandIn;split
  ·exact this
  ·exact this.stand _
 ·exact h.stand _
def Zef {w:World}{t:SetTable}(h:Good w t)(es:Array (Int×Value))(k:Nat):Good w (relayAll t es k).2.1:=by
 unfold relayAll;split
 ·rename_i t' ord e
  have:=Zj4 e;dsimp only;split
  ·exact⟨by rw[this.1];exact h.1,this.2⟩
  ·exact h.stand _
 ·exact h.stand _
section
variable {prog:xE}{w:World}
variable (prog w) in
def SetLed (h:Heap)(a:Addr)(S:Int->Bool)(n:Nat):Prop:=∃o xs ep t,h.get? a=some o/\o.ExactSet/\o.data=.set xs ep t/\ElemsOf (intKind prog w) xs.toList/\(∀k,S k=true↔∃e∈xs.toList,(intKind prog w).is k e.2=true)/\xs.size<scanBound/\t.fits xs.size=true/\xs.size=n/\Good w t
variable {A:xF}{E:xG}{s:Shared}
def SetLed.setOf {h:Heap}{a:Addr}{S:Int->Bool}{n:Nat}(z:SetLed prog w h a S n):h.SetOf (intKind prog w) a S n:=by
 obtain⟨o,xs,ep,t,z1,z2,z3,z4,z5,z6,z7,z8,_⟩:=z;exact⟨o,xs,ep,t,z1,z2,z3,z4,z5,z6,z7,z8⟩
def SetLed.congr {h:Heap}{a:Addr}{S S':Int->Bool}{n n':Nat}(z:SetLed prog w h a S n)(e:∀k,S k=S' k)(en:n=n'):SetLed prog w h a S' n':=by
 have:S=S':=funext e;subst this;subst en;exact z
def ZeP {h:Heap}{a:Addr}{o:Obj}{xs ys:Array (Int×Value)}{ep:Nat}{t u:SetTable}{Z:Int->Bool}(g1:h.get? a=some o)(g2:o.ExactSet)(g3:o.data=.set xs ep t)
  (y1:ElemsOf (intKind prog w) ys.toList) (y2:∀k,Z k=true↔∃e∈ys.toList,(intKind prog w).is k e.2=true) (y3:ys.size<scanBound) (y4:u.fits ys.size=true) (y5:Good w u) :
  (h.update a (Obj.putSet ys u)).get? a=some { o with data:=.set ys (ep+1) u }/\SetLed prog w (h.update a (Obj.putSet ys u)) a Z ys.size:=by
 have q:=(SetOf_store (knd:=intKind prog w) (S':=Z) g1 g2 g3 y1 y2 y3 y4).1;exact⟨q,_,ys,ep+1,u,q,g2,rfl,y1,y2,y3,y4,rfl,y5⟩
def Zgy {g:Bool->Sem Unit}(hg:∀(b:Bool) (z:Shared) (F:Unit->Shared->Prop),F () z->xf (xC prog w) A (g b) F E z)
  {a:Addr} {o:Obj} {xs:Array (Int×Value)} {ep:Nat} {t:SetTable} (g1:s.heap.get? a=some o) (g2:o.ExactSet) (g3:o.data=.set xs ep t)
  {ys:Array (Int×Value)} {u:SetTable} {Z:Int->Bool} (y1:ElemsOf (intKind prog w) ys.toList) (y2:∀k,Z k=true↔∃e∈ys.toList,(intKind prog w).is k e.2=true)
  (y3:ys.size<scanBound) (y4:u.fits ys.size=true) (y5:Good w u) {was:Bool} {R:Option Bool->Shared->Prop}
  (k:∀h',zR a s.heap h'->SetLed prog w h' a Z ys.size->R (some true) { s with heap:=h' }) :
  xf (xC prog w) A (do
   storeSet a ys u
   if (!was&&u.tooFull)=true then do
    g (relayAll u ys (yT ys.size)).2.2
    storeSet a (relayAll u ys (yT ys.size)).1 (relayAll u ys (yT ys.size)).2.1
    pure (some true)
   else pure (some true)) R E s:=by
 refine xa (wpAny_storeSet_of g1 g3 ?_ (fits_of_scanBound y3));obtain⟨q1,q2⟩:=ZeP (prog:=prog) (w:=w) (Z:=Z) g1 g2 g3 y1 y2 y3 y4 y5;have sb:=y8 s.heap a (Obj.putSet ys u);split
 ·have pm:=relayAll_perm u ys (yT ys.size)
  have pf:=relayAll_fits u ys (yT ys.size);have pl:=Zef y5 ys (yT ys.size);generalize relayAll u ys (yT ys.size)=r at pm pf pl⊢;obtain⟨zs,v,gv⟩:=r;dsimp only at pm pf pl⊢;have sz:zs.size=ys.size:=by rw[<-qL,pm.length_eq,qL]
  have z3:zs.size<scanBound:=by rw[sz];exact y3
  refine xa (hg _ _ _ ?_);refine xa (wpAny_storeSet_of q1 rfl ?_ (fits_of_scanBound z3));have q3:=(ZeP (prog:=prog) (w:=w) (Z:=Z) q1 g2 rfl (y1.perm pm) (λk=>(y2 k).trans ⟨λ⟨e,m,x⟩=>⟨e,pm.mem_iff.mpr m,x⟩,λ⟨e,m,x⟩=>⟨e,pm.mem_iff.mp m,x⟩⟩) z3 pf pl).2;rw[sz]at q3;exact xb (k _ (sb.trans (y8 _ a _)) q3)
 ·exact xb (k _ sb q2)
def Znt {a:Addr}{S:Int->Bool}{n:Nat}{k:Int}{x:Value}{Q:Bool->Shared->Prop}(hk:(intKind prog w).is k x=true)(hx:x.scannable=true)(hS:SetLed prog w s.heap a S n)(room:n+1<scanBound)
  (c:∀h',zR a s.heap h'->SetLed prog w h' a (λk'=>S k'||decide (k'=k)) (if S k then n else n+1)->Q (!S k) { s with heap:=h' }) :
  xf (xC prog w) A (setAddHashed a x ((intKind prog w).hash k)) Q E s:=by
 obtain⟨o,xs,ep,t,g1,g2,g3,g4,g5,g6,g7,g8,g9⟩:=hS;have r1:xs.size+1<scanBound:=by rw[g8];exact room
 unfold setAddHashed setAddHashedIn;refine xw (xa (wpAny_setState_of g1 g3 g7 ?_));dsimp only;rw[byScan_of hx g6 g4];simp only[↓reduceIte];unfold setAddByScan;refine xa (xa (wpAny_rule (xa (wpAny_setScan_of hk g1 g3 g7 g4 ?_))))
 cases hr:List.findIdx? (λe=>(intKind prog w).is k e.2) xs.toList with
 | some j=>
  dsimp only;obtain⟨lj,pj,_⟩:=List.findIdx?_eq_some_iff_getElem.mp hr;have sk:S k=true:=(g5 k).mpr ⟨xs.toList[j],zE lj,pj⟩;refine xb (xb ?_);have e:s = { s with heap:=s.heap }:=by cases s;rfl
  have fin:=c s.heap (zR.refl a s.heap) ⟨o,xs,ep,t,g1,g2,g3,g4,λk'=>by
   rw[qat,decide_eq_true_eq,<-g5 k'];exact⟨λq=>q.elim id (λe=>e▸sk),.inl⟩,g6,g7,by rw[sk];exact g8,g9⟩
  rw[sk]at fin;rw[e];exact fin
 | none=>
  dsimp only;have sk:S k=false:=by
   cases q:S k with
   | false=>rfl
   | true=>
    obtain⟨e,m,p⟩:=(g5 k).mp q;have z:=List.findIdx?_eq_none_iff.mp hr e m;rw[p]at z;exact Bool.noConfusion z
  have pm:=layNew_perm t xs ((intKind prog w).hash k) x;have pf:=layNew_fits t xs ((intKind prog w).hash k) x;have pl:=Zgx g9 xs ((intKind prog w).hash k) x;generalize layNew t xs ((intKind prog w).hash k) x=r at pm pf pl⊢;obtain⟨ys,u,was,gv⟩:=r;dsimp only at pm pf pl⊢;rw[Array.toList_push]at pm;have y1:ElemsOf (intKind prog w) ys.toList:=(g4.push hk hx).perm pm;have y2:∀k',(S k'||decide (k'=k))=true↔∃e∈ys.toList,(intKind prog w).is k' e.2=true:=mem_push_iff hk g5 pm;have sz:ys.size=n+1:=by rw[<-qL,pm.length_eq,qJ,qL,g8];rfl
  have y3:ys.size<scanBound:=by rw[sz];exact room
  have y5:Good w u:=pl;have gw:∀(b:Bool) (z:Shared) (F:Unit->Shared->Prop),F () z->xf (xC prog w) A (match b with | true=>rule "set.scan.the-table-gave-way" | false=>pure ()) F E z:=λb z F q=>by
   cases b
   ·exact xb q
   ·exact wpAny_rule q
  refine xa (gw _ _ _ ?_);have fin:∀h',zR a s.heap h'->SetLed prog w h' a (λk'=>S k'||decide (k'=k)) ys.size->Q true { s with heap:=h' }:=λh' sb z=>by
   have:=c h' sb;rw[sk]at this;rw[sz]at z;exact this z
  split
  ·refine xa ?_
   rw[hashByValue_scannable 8 hx];refine xb ?_;refine Zgy gw g1 g2 g3 y1 y2 y3 ?_ ?_ λh' sb z=>xb (fin h' sb z)
   ·split
    ·exact pf
    ·exact SetTable.fits_plain_off pf
   ·split
    ·exact y5
    ·exact y5
  ·refine xa (xb ?_)
   simp only[↓reduceIte];exact Zgy gw g1 g2 g3 y1 y2 y3 pf y5 λh' sb z=>xb (fin h' sb z)
def ZlQ (a:Value){Q₁:xG}(h:Q₁ (.ref s.heap.objs.size) { s with heap:=s.heap.push (Xn (!Yj w)) }) :
  xo (xC prog w) A (.call (.builtin "set.__new__") ⟨[.type "set",a],[]⟩) (wants Q₁ E) s:=by
 apply codeAny_of_tree;show xf _ A.in1 (do
  checkBuiltinCall "set.__new__" ⟨[.type "set",a],[]⟩
  again (.builtin "set.__new__" ⟨[.type "set",a],[]⟩)) _ _ s
 refine xa (wpAny_of_eq (PySem.F.newCall_set_1 a) (xb ⟨plainId_quiet qb7 _,xm PySem.F.entry_set_new ?_⟩));rw[zx qb7 _];unfold Builtin.«set.__new__»;unfold Builtin.Frozenset.newClass;have s1:=sub_set_self;obtain⟨hp,g,d,tk,os⟩:=s;dsimp only
 wp_walk
 refine wpAny_askSetting (xb ?_);dsimp only;simp only[newObj];refine xa (wpAny_alloc (xb (xb ?_)));exact h
def ZeQ {h:Heap}{a:Addr}{val:Nat->Int}(hg:h.get? a=some (Xn (!Yj w))):SetLed prog w h a (λk'=>(firstMet val 0).any (· == k')) (firstMet val 0).length:=
 ⟨_,#[],0,_,hg,⟨rfl,rfl,rfl⟩,rfl,λe he=>by simp at he,λk=>by simp[firstMet_zero],by decide,by rfl,rfl,by
  refine⟨?_,qaL⟩;show Yj w=true∨(!Yj w)=true
  cases Yj w <;> simp⟩
def Zgz {R:Result->Shared->Prop}{I:Addr}{fp wr:List Addr}{G:Array GenState->Array GenState->Prop}{n:Nat}{P:Nat->Value->Prop}{St:Nat->Shared->Prop}
  (W:WalksS prog w A.in1 I fp wr G n P St) (Z:Addr) (hZ:Z∉fp) (val:Nat->Int) (hv:∀i v,P i v->∃t,v=.int (val i) t) (hb:n+1<scanBound) :
  ∀(k i:Nat) (s:Shared),n-i=k->i<=n->St i s->SetLed prog w s.heap Z (λk'=>(firstMet val i).any (· == k')) (firstMet val i).length->
   (∀s',Moved (Z::wr) G s s'->SetLed prog w s'.heap Z (λk'=>(firstMet val n).any (· == k')) (firstMet val n).length->R (.ok (.ret .none)) s')->
   xo (xC prog w) A (.builtin "set.update.loop" ⟨[.ref Z,.ref I],[]⟩) R s:=by
 have hZw:Z∉wr:=λh=>hZ (W.sub _ h);have sub:∀b∈wr,b∈Z::wr:=λb m=>qO _ m;have keep:∀{i:Nat} {s s':Shared},Moved wr G s s'->SetLed prog w s.heap Z (λk'=>(firstMet val i).any (· == k')) (firstMet val i).length->SetLed prog w s'.heap Z (λk'=>(firstMet val i).any (· == k')) (firstMet val i).length:=λhm z=>by
  obtain⟨o,xs,ep,t,g,rest⟩:=z;exact⟨o,xs,ep,t,hm.heap Z _ hZw g,rest⟩
 intro k
 induction k with
 | zero=>
  intro i s hk hi st hS hR;have e:i=n:=by omega
  subst e;refine xm qaB ?_;rw[zx yL _];show xf _ A.in1 (pyNext (.ref I) >>= _) _ _ s;refine xa (W.done s _ _ st λs' hm=>?_);show xf _ A.in1 (ret qX) _ _ s';exact xb (hR s' (hm.mono sub) (keep hm hS))
 | succ k ih=>
  intro i s hk hi st hS hR;have hlt:i<n:=by omega
  refine xm qaB ?_;rw[zx yL _];show xf _ A.in1 (pyNext (.ref I) >>= _) _ _ s;refine xa (W.item i s _ _ hlt st λv s' hP st' hm=>?_);obtain⟨t,rfl⟩:=hv i v hP;have hS':=keep hm hS;show xf _ A.in1 (holding [qbg (val i) t] (setAdd Z (.int (val i) t)) >>= _) _ _ s';refine xa (xw ?_);unfold setAdd;refine xw (xa ((intKind prog w).pyHash (k:=val i) (intKind_is _ _ _ _) ?_));have room:(firstMet val i).length+1<scanBound:=by have:=firstMet_length_le val i;omega
  refine Znt (s:={ s' with toks:=s'.toks+1 }) (intKind_is _ _ _ _) rfl hS' room λh' sb z=>?_;have z':SetLed prog w h' Z (λk'=>(firstMet val (i+1)).any (· == k')) (firstMet val (i+1)).length:=
   z.congr (λk'=>by rw[firstMet_succ,step_any]) (by rw[firstMet_succ,step_length])
  refine xb ⟨plainId_quiet yL _,ih (i+1) _ (by omega) hlt (W.frame _ s' _ _ st' (qbf _) λb m o e=>?_) z' λs'' hm'' hS''=>?_⟩
  ·rw[sb.2 b (λh:b=Z=>hZ (by rw[<-h];exact m))];exact e
  ·refine hR s'' (Moved.trans W.gtrans ((hm.mono sub).then_heap (qbf _) λb o m e=>?_) hm'') hS''
   rw[sb.2 b (λh:b=Z=>m (by rw[h];exact zI))];exact e
def setL_of_tuple {l:Addr}{items:Array Value}{ns:List Int}{Q:xG}(hh:A.handled=none)(hl:s.heap.IsTuple l items)(hi:IntsAre items.toList ns)(hb:items.size+1<scanBound)
  (h:∀(h':Heap) (tk:Nat),SetLed prog w h' s.heap.objs.size (λk'=>(firstMet (λi=>ns.getD i 0) items.size).any (· == k')) (firstMet (λi=>ns.getD i 0) items.size).length->(∀b o,b<s.heap.objs.size->s.heap.get? b=some o->h'.get? b=some o)->Q (.ref s.heap.objs.size) { s with heap:=h',toks:=tk }) :
  xf (xC prog w) A (call (.type "set") [.ref l]) Q E s:=by
 obtain⟨c,tl,hmro⟩:=za.mro;have hmade:=za.made;have hsub:=za.sub;refine xB (codeAny_of_tree ?_);show xf _ _ (callAny (.type "set") _) _ _ _;refine xb ⟨qbi _ (by decide +kernel),xm qbO ?_⟩;rw[xF.under_plain (weight_type_call_type "set" [.ref l] []) rfl];have h1:=za.notType;have h2:=za.canCreate;have hct:=qbX (.ref l)
 repeat (any_goals (first | assumption | wp_step))
 refine codeAny_mono (ZlQ (.ref l) (E:=E) (Q₁:=λobj s₁=>obj=.ref s.heap.objs.size/\s₁ = { s with heap:=s.heap.push (Xn (!Yj w)) }) ⟨rfl,rfl⟩) λr s₁ hr=>?_
 cases r with
 | error e=>exact hr
 | ok fl=>
  cases fl with
  | ret obj=>
   obtain⟨rfl,rfl⟩:=hr;have hS:(s.heap.push (Xn (!Yj w))).get? s.heap.objs.size=some (Xn (!Yj w)):=qz _ rfl;have hT:qbr { s with heap:=s.heap.push (Xn (!Yj w)) } (.ref s.heap.objs.size) "set":=⟨_,hS,rfl⟩;have hli:=za.init.lookup;have hbi:=za.init.bind (.ref s.heap.objs.size)
   repeat (any_goals (first | assumption | wp_step))
   refine codeAny_mono (codeAny_call_builtin (R:=wants (λr s₂=>r=.none/\∃h' tk,s₂ = { s with heap:=h',toks:=tk }/\SetLed prog w h' s.heap.objs.size (λk'=>(firstMet (λi=>ns.getD i 0) items.size).any (· == k')) (firstMet (λi=>ns.getD i 0) items.size).length/\(∀b o,b<s.heap.objs.size->s.heap.get? b=some o->h'.get? b=some o)) E) za.init.plain qbY (check_set_init_1 hT ?_)) λr₂ s₂ hr₂=>?_
   ·obtain⟨ol,hol,hcl,nl,hdl⟩:=hl;obtain⟨ocls,odict,odata,oslots⟩:=ol
    simp only at hcl hdl;subst hcl;subst hdl;have hol':(s.heap.push (Xn (!Yj w))).get? l=some { cls:=.type "tuple",dict:=odict,data:=.seq items nl,slots:=oslots }:=qh _ hol;have z1:=ZlK;have z2:=Zgr;have hne:(yf "tuple" == yf "dict")=false:=by decide
    have hl1:(s.heap.push (Xn (!Yj w))).IsTuple l items:=⟨_,hol',rfl,nl,rfl⟩;unfold Builtin.«set.__init__» noKeywords qbe;generalize hPI:pyIter=PI
    wp_walk
    subst hPI;refine wpAny_pyIter_tuple hl1 ?_;refine xa (wpAny_runValue ?_);have hlS:l<s.heap.objs.size:=qD hol;have hh3:A.in1.in1.in1.handled=none:=by simp[hh]
    have hneI:l≠(s.heap.push (Xn (!Yj w))).objs.size:=by rw[zX];exact qH (zF hlS)
    have hSf:s.heap.objs.size∉[(s.heap.push (Xn (!Yj w))).objs.size,l]:=by
     rw[zX];simp only[qm,qK,zm,or_false,not_or];exact⟨qH (yg _),qa2 hlS⟩
    have hval:∀(i:Nat) (v:Value),items[i]?=some v->∃t,v=.int ((λi=>ns.getD i 0) i) t:=λi v hv=>IntsAre.int_at hi i v (by rw[zP];exact hv);refine Zgz ((Walks.tuple hh3 _ l hneI items).toS) s.heap.objs.size hSf (λi=>ns.getD i 0) hval hb (items.size-0) 0 _ (by omega) (zl _) ⟨⟨_,qz _ rfl,rfl,rfl⟩,(hl1.push _)⟩ ?hS0 ?hR
    case hS0=>
     have hget:((s.heap.push (Xn (!Yj w))).push { cls:=.type "tuple_iterator",data:=.fields #[.ref l,.int 0 0] }).get? s.heap.objs.size=some (Xn (!Yj w)):=qh _ hS;exact ZeQ hget
    case hR=>
     intro s' hm hS';obtain⟨h',g',d',tk',os'⟩:=s';have eg:g'=s.gens:=hm.gens;have ed:d'=s.drawn:=hm.drawn;have eo:os'=s.os:=hm.os;subst eg;subst ed;subst eo;show xf _ _ _ _ _ _;refine xb ?_;show xf _ _ (ret qX) _ _ _;refine xb ⟨rfl,h',tk',rfl,hS',λb o hb e=>?_⟩;have hb1:b≠s.heap.objs.size:=qH hb;have hb2:b≠(s.heap.push (Xn (!Yj w))).objs.size:=by rw[zX];exact qH (zF hb)
     exact hm.heap b o (by simp only[qm,qK,zm,or_false,not_or];exact⟨hb1,hb2⟩) (qh _ (qh _ e))
   ·cases r₂ with
    | error e=>exact hr₂
    | ok fl₂=>
     cases fl₂ with
     | ret r=>
      obtain⟨rfl,h',tk,rfl,hS',hk'⟩:=hr₂;repeat (any_goals (first | assumption | wp_step))
      exact h _ _ hS' hk'
     | next=>exact hr₂.elim
     | brk=>exact hr₂.elim
     | cont=>exact hr₂.elim
  | next=>exact hr.elim
  | brk=>exact hr.elim
  | cont=>exact hr.elim
def setL_of_list {l:Addr}{items:Array Value}{ns:List Int}{Q:xG}(hh:A.handled=none)(hl:s.heap.IsList l items)(hi:IntsAre items.toList ns)(hb:items.size+1<scanBound)
  (h:∀(h':Heap) (tk:Nat),SetLed prog w h' s.heap.objs.size (λk'=>(firstMet (λi=>ns.getD i 0) items.size).any (· == k')) (firstMet (λi=>ns.getD i 0) items.size).length->(∀b o,b<s.heap.objs.size->s.heap.get? b=some o->h'.get? b=some o)->Q (.ref s.heap.objs.size) { s with heap:=h',toks:=tk }) :
  xf (xC prog w) A (call (.type "set") [.ref l]) Q E s:=by
 obtain⟨c,tl,hmro⟩:=za.mro;have hmade:=za.made;have hsub:=za.sub;refine xB (codeAny_of_tree ?_);show xf _ _ (callAny (.type "set") _) _ _ _;refine xb ⟨qbi _ (by decide +kernel),xm qbO ?_⟩;rw[xF.under_plain (weight_type_call_type "set" [.ref l] []) rfl];have h1:=za.notType;have h2:=za.canCreate;have hct:=qbX (.ref l)
 repeat (any_goals (first | assumption | wp_step))
 refine codeAny_mono (ZlQ (.ref l) (E:=E) (Q₁:=λobj s₁=>obj=.ref s.heap.objs.size/\s₁ = { s with heap:=s.heap.push (Xn (!Yj w)) }) ⟨rfl,rfl⟩) λr s₁ hr=>?_
 cases r with
 | error e=>exact hr
 | ok fl=>
  cases fl with
  | ret obj=>
   obtain⟨rfl,rfl⟩:=hr;have hS:(s.heap.push (Xn (!Yj w))).get? s.heap.objs.size=some (Xn (!Yj w)):=qz _ rfl;have hT:qbr { s with heap:=s.heap.push (Xn (!Yj w)) } (.ref s.heap.objs.size) "set":=⟨_,hS,rfl⟩;have hli:=za.init.lookup;have hbi:=za.init.bind (.ref s.heap.objs.size)
   repeat (any_goals (first | assumption | wp_step))
   refine codeAny_mono (codeAny_call_builtin (R:=wants (λr s₂=>r=.none/\∃h' tk,s₂ = { s with heap:=h',toks:=tk }/\SetLed prog w h' s.heap.objs.size (λk'=>(firstMet (λi=>ns.getD i 0) items.size).any (· == k')) (firstMet (λi=>ns.getD i 0) items.size).length/\(∀b o,b<s.heap.objs.size->s.heap.get? b=some o->h'.get? b=some o)) E) za.init.plain qbY (check_set_init_1 hT ?_)) λr₂ s₂ hr₂=>?_
   ·obtain⟨ol,hol,hcl,nl,hdl⟩:=hl;obtain⟨ocls,odict,odata,oslots⟩:=ol
    simp only at hcl hdl;subst hcl;subst hdl;have hol':(s.heap.push (Xn (!Yj w))).get? l=some { cls:=.type "list",dict:=odict,data:=.seq items nl,slots:=oslots }:=qh _ hol;have z1:=PySem.F.sub_list_set;have z2:=PySem.F.sub_list_frozenset;have hne:(yf "list" == yf "dict")=false:=by decide
    have hl1:(s.heap.push (Xn (!Yj w))).IsList l items:=⟨_,hol',rfl,nl,rfl⟩;unfold Builtin.«set.__init__» noKeywords qbe;generalize hPI:pyIter=PI
    wp_walk
    subst hPI;refine wpAny_pyIter_list hl1 ?_;refine xa (wpAny_runValue ?_);have hlS:l<s.heap.objs.size:=qD hol;have hh3:A.in1.in1.in1.handled=none:=by simp[hh]
    have hneI:l≠(s.heap.push (Xn (!Yj w))).objs.size:=by rw[zX];exact qH (zF hlS)
    have hSf:s.heap.objs.size∉[(s.heap.push (Xn (!Yj w))).objs.size,l]:=by
     rw[zX];simp only[qm,qK,zm,or_false,not_or];exact⟨qH (yg _),qa2 hlS⟩
    have hval:∀(i:Nat) (v:Value),items[i]?=some v->∃t,v=.int ((λi=>ns.getD i 0) i) t:=λi v hv=>IntsAre.int_at hi i v (by rw[zP];exact hv);refine Zgz ((Walks.list hh3 _ l hneI items).toS) s.heap.objs.size hSf (λi=>ns.getD i 0) hval hb (items.size-0) 0 _ (by omega) (zl _) ⟨⟨_,qz _ rfl,rfl,rfl⟩,(hl1.push _)⟩ ?hS0 ?hR
    case hS0=>
     have hget:((s.heap.push (Xn (!Yj w))).push { cls:=.type "list_iterator",data:=.fields #[.ref l,.int 0 0] }).get? s.heap.objs.size=some (Xn (!Yj w)):=qh _ hS;exact ZeQ hget
    case hR=>
     intro s' hm hS';obtain⟨h',g',d',tk',os'⟩:=s';have eg:g'=s.gens:=hm.gens;have ed:d'=s.drawn:=hm.drawn;have eo:os'=s.os:=hm.os;subst eg;subst ed;subst eo;show xf _ _ _ _ _ _;refine xb ?_;show xf _ _ (ret qX) _ _ _;refine xb ⟨rfl,h',tk',rfl,hS',λb o hb e=>?_⟩;have hb1:b≠s.heap.objs.size:=qH hb;have hb2:b≠(s.heap.push (Xn (!Yj w))).objs.size:=by rw[zX];exact qH (zF hb)
     exact hm.heap b o (by simp only[qm,qK,zm,or_false,not_or];exact⟨hb1,hb2⟩) (qh _ (qh _ e))
   ·cases r₂ with
    | error e=>exact hr₂
    | ok fl₂=>
     cases fl₂ with
     | ret r=>
      obtain⟨rfl,h',tk,rfl,hS',hk'⟩:=hr₂;repeat (any_goals (first | assumption | wp_step))
      exact h _ _ hS' hk'
     | next=>exact hr₂.elim
     | brk=>exact hr₂.elim
     | cont=>exact hr₂.elim
  | next=>exact hr.elim
  | brk=>exact hr.elim
  | cont=>exact hr.elim
end
namespace FS
def entry_set_iter:entryFor table "set.__iter__" = some Builtin.«frozenset.__iter__»:=
 entryFor_alias (id':="frozenset.__iter__") (by kernel_rfl) rfl (by decide +kernel) (by kernel_rfl)
def slot_next:Slot "set_iterator" "__next__" "set_iterator.__next__":=
 .of (owner:="set_iterator") (n:="__next__") (by rw[typeLookup_type,builtinLookup_eq_fast];kernel_rfl)
  (by decide +kernel) (by decide +kernel) (by decide +kernel)
  (by first | exact .inl (by decide +kernel) | exact .inr (by decide +kernel))
  (by rw[isSubtype_type];kernel_rfl)
def entry_next:entryFor table "set_iterator.__next__" = some Builtin.«set_iterator.__next__»:=
 entryFor_of_tree (by kernel_rfl)
def ZgA:Manifest.owners.lookup (String.ofList ['r','o','t','a','r','e','t','i','_','t','e','s'].reverse)=some Manifest.sig_set_iterator:=by kernel_rfl
def args_next (a:Value):argsOk "set_iterator.__next__" ⟨[a],[]⟩:=by
 unfold argsOk;rw[signature?_of (id:="set_iterator.__next__") (n:=['_','_','t','x','e','n','_','_']) (o:=['r','o','t','a','r','e','t','i','_','t','e','s']) (by kernel_rfl) ZgA]
 kernel_rfl
end FS
def erase_perm {α:Type}:∀(l:List α) {i:Nat} (h:i<l.length),([l[i]]++l.eraseIdx i).Perm l
 | a::l,0,_=>.refl _
 | a::l,i+1,h=>by
  have ih:=erase_perm l (i:=i) (by simpa using h);simp only[List.getElem_cons_succ,List.eraseIdx_cons_succ,List.singleton_append]at ih⊢;exact(qal.swap _ _ _).trans (ih.cons a)
def ZiN {α:Type}(f:Nat->Nat):∀(n k:Nat) (l:List α) (out:Array α),l.length=n->(pickOrder.go f n k l out).toList.Perm (out.toList++l)
 | 0,k,l,out,h=>by
  have:l=[]:=zB.mp h;subst this;unfold pickOrder.go;rw[zp]
 | n+1,k,l,out,h=>by
  unfold pickOrder.go;have hl:f k % l.length<l.length:=Nat.mod_lt _ (by omega);rw[qj hl];dsimp only;refine(ZiN f n (k+1) _ _ (by rw[qbs hl];omega)).trans ?_;rw[Array.toList_push,yO];refine qal.append_left _ ?_;exact erase_perm l hl
def Zci {α:Type}(f:Nat->Nat)(xs:Array α):(pickOrder f xs).toList.Perm xs.toList:=by
 have:=ZiN f xs.size 0 xs.toList #[] (by simp);simpa[pickOrder]using this
section
variable {prog:xE}{w:World}{A:xF}{E:xG}{s:Shared}
def ZeR {α:Type}:∀(n:Nat) (l:List α) (s:Shared) (Q:List α->Shared->Prop),l.length=n->(∀(r:List α) d,r.Perm l->Q r { s with drawn:=d })->xf (xC prog w) A (drawOrder n l) Q E s
 | 0,l,s,Q,h,k=>by
  have:l=[]:=zB.mp h;subst this;unfold drawOrder;exact xb (k [] s.drawn (.refl _))
 | n+1,[],s,Q,h,k=>by cases h
 | n+1,a::l,s,Q,h,k=>by
  unfold drawOrder;refine xa ?_;intro Γ p hΓ;show Sem.wp _ _ (.choose .order (a::l).length .pure) _ _ _ _;rw[Sem.wp_choose];refine⟨by simp,?_⟩;have hl:(xC prog w).w.draws .order (s.drawn.get .order) % (a::l).length<(a::l).length:=Nat.mod_lt _ (by simp);generalize (xC prog w).w.draws .order (s.drawn.get .order) % (a::l).length=i at hl;show Sem.wp _ _ (Sem.pure i) _ _ _ _;rw[Sem.wp_pure];dsimp only;rw[qj hl];dsimp only;refine xa (ZeR n _ _ _ (by rw[qbs hl,h];rfl) λr d hr=>?_);exact xb (k _ d ((hr.cons _).trans (erase_perm (a::l) hl)))
abbrev X4 (first:Value)(i:Nat)(a:Addr)(n ep:Nat):Obj:={ cls:=.type "set_iterator",data:=.fields #[first,rawInt i,.ref a,rawInt n,rawInt ep] }
def ZiO {it a:Addr}{o:Obj}{es:Array (Int×Value)}{ep:Nat}{t:SetTable}{slot i nx:Nat}{x:Value}{Q:Option Value->Shared->Prop}
  (hit:s.heap.get? it=some (X4 (rawInt slot) i a es.size ep)) (ho:s.heap.get? a=some o) (hd:o.data=.set es ep t) (hf:t.fits es.size=true)
  (hn:∀(A:xF) (E:xG) (F:Option (Value×Nat)->Shared->Prop),F (some (x,nx)) s->xf (xC prog w) A (setNext a slot i ep) F E s)
  (hQ:∀h',h'.get? it=some (X4 (rawInt nx) (i+1) a es.size ep)->zR it s.heap h'->Q (some x) { s with heap:=h' }):xf (xC prog w) A (pyNext (.ref it)) Q E s:=by
 have hT:s.TypeIs (.ref it) "set_iterator":=⟨_,hit,rfl⟩;unfold pyNext;refine xa (wpAny_attempt (wpAny_callSpecial?_slot (name:=qC "__next__") hT FS.slot_next
  (wpAny_call_entry FS.slot_next hT FS.entry_next ?_ (FS.args_next _))))
 unfold Builtin.«set_iterator.__next__»;refine xa (m:=slotArgs _ _ _) (xb ?_);refine xa (wpAny_fieldsOf hit rfl ?_);show xf _ _ (setEntries a >>= _) _ _ _;refine xa (wpAny_setEntries_of ho hd hf ?_);rw[if_neg (by simp)];show xf _ _ (setNext a slot i ep >>= _) _ _ _;refine xa (hn _ _ _ ?_);dsimp only;refine xa (wpAny_setField hit rfl (by simp) ?_);have g1:(s.heap.update it (yu (·.setIfInBounds 0 (rawInt nx)))).get? it=some (X4 (rawInt nx) i a es.size ep):=zO _ hit rfl;refine xa (wpAny_setField (s:={ s with heap:=s.heap.update it (yu (·.setIfInBounds 0 (rawInt nx))) }) g1 rfl (by simp) ?_);have g2:((s.heap.update it (yu (·.setIfInBounds 0 (rawInt nx)))).update it (yu (·.setIfInBounds 1 (rawInt ((i:Int)+1))))).get? it=some (X4 (rawInt nx) (i+1) a es.size ep):=zO _ g1 rfl;exact xb ⟨_,rfl,xb (hQ _ g2 ((y8 ..).trans (y8 ..)))⟩
def ZiP {it:Addr}{i n ep:Nat}{a:Addr}{f:Value}{Q:Option Value->Shared->Prop}(hh:A.handled=none)(hit:s.heap.get? it=some (X4 f i a n ep))
  (k:∀(A:xF) (G:Fin->Shared->Prop) (F:xG),A.handled=none->(∀v h',qaS it s.heap h'->qbr { s with heap:=h' } v "StopIteration"->F v { s with heap:=h' })->xf (xC prog w) A (Builtin.«set_iterator.__next__» ⟨[.ref it],[]⟩) G F s)
  (hQ:∀h',qaS it s.heap h'->Q none { s with heap:=h' }):xf (xC prog w) A (pyNext (.ref it)) Q E s:=by
 have hT:s.TypeIs (.ref it) "set_iterator":=⟨_,hit,rfl⟩;unfold pyNext;refine xa (wpAny_attempt (wpAny_callSpecial?_slot (name:=qC "__next__") hT FS.slot_next
  (wpAny_call_entry FS.slot_next hT FS.entry_next (k _ _ _ hh λv h' e tv=>?_) (FS.args_next _))))
 refine xa (wpAny_isInstance (T:="StopIteration") (b:=true) tv isSubtype_stop ?_);exact xb (hQ _ e)
end
end HT
namespace HT
section
variable {prog:xE}{w:World}{A:xF}{E:xG}{s:Shared}
variable {a:Addr}{o:Obj}{es:Array (Int×Value)}{ep:Nat}{t:SetTable}
def ZeS {slot i:Nat}{F:Option (Value×Nat)->Shared->Prop}(ho:s.heap.get? a=some o)(hd:o.data=.set es ep t)(hf:t.fits es.size=true)(hT:Yj w=true)
  (k:F (((pickOrder (w.params.setOrder a ep) es)[i]?).map λe=>(e.2,slot)) s):xf (xC prog w) A (setNext a slot i ep) F E s:=by
 unfold setNext;refine xa (wpAny_setState_of ho hd hf ?_);dsimp only;unfold setsByText;refine xa (xa (wpAny_askSetting (xb ?_)));show xf _ _ (if Yj w=true then _ else _) _ _ _;rw[if_pos hT,if_neg (by simp)];unfold setWalk;refine xa (xa (wpAny_setState_of ho hd hf ?_));dsimp only;unfold setsByText;refine xa (xa (wpAny_askSetting (xb ?_)));show xf _ _ (if Yj w=true then _ else _) _ _ _;rw[if_pos hT];refine xa (wpAny_askSetting (xb ?_));exact xb k
def Zdv {slot i:Nat}{F:Option (Value×Nat)->Shared->Prop}(ho:s.heap.get? a=some o)(hd:o.data=.set es ep t)(hf:t.fits es.size=true)(hT:Yj w=false)(hdr:(!t.plain&&decide (es.size > 1))=false)(hl:t.led=true)
  (k:F (match es[qR t.place slot]?,t.place[qR t.place slot]? with | some (_,x),some j=>some (x,j+1) | _,_=>none) s):xf (xC prog w) A (setNext a slot i ep) F E s:=by
 unfold setNext;refine xa (wpAny_setState_of ho hd hf ?_);dsimp only;unfold setsByText;refine xa (xa (wpAny_askSetting (xb ?_)));show xf _ _ (if Yj w=true then _ else _) _ _ _;rw[if_neg (by rw[hT];decide)];show xf _ _ (if (!t.plain&&decide (es.size > 1))=true then _ else _) _ _ _;rw[if_neg (by rw[hdr];decide)];show xf _ _ ((if (!t.led && !es.isEmpty)=true then unsupported "set:maker-not-led" else pure ()) >>= _) _ _ _;rw[if_neg (by simp[hl])];refine xa (xb ?_);exact xb k
def Zdw {G:Fin->Shared->Prop}{F:xG}(hh:A.handled=none)(k:∀v h',(∀b u,s.heap.get? b=some u->h'.get? b=some u)->qbr { s with heap:=h' } v "StopIteration"->F v { s with heap:=h' }) :
  xf (xC prog w) A (newExc (.type "StopIteration") [] >>= λe=>(raiseNew e:Sem Fin)) G F s:=by
 refine xa ?_;simp only[newExc,newTuple];refine xa (xl ?_ (by size_fits));refine xa (m:=firstArgMember _ _) (wpAny_of_eq (a:=qX) (by first | rfl | (simp only[firstArgMember];rfl)) ?_);refine xl ?_ (by size_fits);simp only[raiseNew];refine xa (wpAny_handled ?_);rw[hh];refine xa (xb (wpAny_throw ?_));exact k _ _ (λb u e=>qh _ (qh _ e)) ⟨_,qz _ rfl,rfl⟩
def ZlR {it:Addr}{slot i:Nat}{Q:Option Value->Shared->Prop}(hh:A.handled=none)(hit:s.heap.get? it=some (X4 (rawInt slot) i a es.size ep))(ho:s.heap.get? a=some o)(hd:o.data=.set es ep t)(hf:t.fits es.size=true)
  (hn:∀(A:xF) (E:xG) (F:Option (Value×Nat)->Shared->Prop),F none s->xf (xC prog w) A (setNext a slot i ep) F E s)
  (hQ:∀h',qaS it s.heap h'->Q none { s with heap:=h' }):xf (xC prog w) A (pyNext (.ref it)) Q E s:=by
 refine ZiP hh hit (λA G F hh k=>?_) hQ;unfold Builtin.«set_iterator.__next__»;refine xa (m:=slotArgs _ _ _) (xb ?_);refine xa (wpAny_fieldsOf hit rfl ?_);show xf _ _ (setEntries a >>= _) _ _ _;refine xa (wpAny_setEntries_of ho hd hf ?_);rw[if_neg (by simp)];show xf _ _ (setNext a slot i ep >>= _) _ _ _;refine xa (hn _ _ _ ?_);dsimp only;refine xa (wpAny_setField hit rfl (by simp) ?_);refine Zdw (s:={ s with heap:=s.heap.update it (yu (·.setIfInBounds 2 .none)) }) hh λv h' e tv=>k v h' (λb u nb eb=>e b u ?_) tv;exact(zk _ _ (zg nb)).trans eb
namespace FS
def entry_si_iter:entryFor table "set_iterator.__iter__" = some Builtin.«dict_keyiterator.__iter__»:=
 entryFor_alias (id':="dict_keyiterator.__iter__") (by kernel_rfl) rfl (by decide +kernel) (by kernel_rfl)
def slot_si_iter:Slot "set_iterator" "__iter__" "set_iterator.__iter__":=
 .of (owner:="set_iterator") (n:="__iter__") (by rw[typeLookup_type,builtinLookup_eq_fast];kernel_rfl)
  (by decide +kernel) (by decide +kernel) (by decide +kernel)
  (by first | exact .inl (by decide +kernel) | exact .inr (by decide +kernel))
  (by rw[isSubtype_type];kernel_rfl)
def args_si_iter (a:Value):argsOk "set_iterator.__iter__" ⟨[a],[]⟩:=by
 unfold argsOk;rw[signature?_of (id:="set_iterator.__iter__") (n:=['_','_','r','e','t','i','_','_']) (o:=['r','o','t','a','r','e','t','i','_','t','e','s']) (by kernel_rfl) ZgA]
 kernel_rfl
end FS
def ZgB {it:Addr}{f:Value}{i n:Nat}{Q:xG}(hit:s.heap.get? it=some (X4 f i a n ep))(h:Q (.ref it) s):xf (xC prog w) A (pyIter (.ref it)) Q E s:=by
 have hT:s.TypeIs (.ref it) "set_iterator":=⟨_,hit,rfl⟩;refine wpAny_pyIter_slot hT FS.slot_si_iter (wpAny_call_entry FS.slot_si_iter hT FS.entry_si_iter ?_ (FS.args_si_iter _));show xf _ _ (ret (.ref it)) _ _ s;exact xb ⟨_,rfl,"set_iterator",_,hT,FS.slot_next.lookup,h⟩
def Um (w:World)(a:Addr)(ep:Nat)(es:Array (Int×Value)):List Value:=if Yj w=true then (pickOrder (w.params.setOrder a ep) es).toList.map (·.2)else es.toList.map (·.2)
def ZgC:(Um w a ep es).Perm (es.toList.map (·.2)):=by
 unfold Um;split
 ·exact(Zci _ es).map _
 ·exact .refl _
def Znu:(Um w a ep es).length=es.size:=by rw[ZgC.length_eq,qd,qL]
def ZlS (hh:A.handled=none)(I:Addr)(hne:a≠I)(hd:o.data=.set es ep t)(hf:t.fits es.size=true)(hg:Good w t)(hdr:Yj w=true∨(!t.plain&&decide (es.size > 1))=false) :
  Walks prog w A I [I,a] [I] es.size (λi v=>(Um w a ep es)[i]?=some v) (λi h=>h.get? a=some o/\∃slot:Nat,h.get? I=some (X4 (rawInt slot) i a es.size ep)/\(Yj w=true∨qR t.place slot=i)) where
 sub:=λb hb=>by simp at hb;simp[hb]
 frame:=λi h h' st k=>by
  obtain⟨h1,slot,h2,h3⟩:=st;exact⟨k a (by simp) _ h1,slot,k I (by simp) _ h2,h3⟩
 item:=λi s Q E hi st k=>by
  obtain⟨h1,slot,h2,h3⟩:=st;have hps:t.place.size=es.size:=by
   simp only[SetTable.fits,qV,beq_iff_eq]at hf;exact hf.1
  have fin:∀(x:Value) (nx:Nat),(Um w a ep es)[i]?=some x->(Yj w=true∨qR t.place nx=i+1)->∀h',h'.get? I=some (X4 (rawInt nx) (i+1) a es.size ep)->zR I s.heap h'->Q (some x) { s with heap:=h' }:=λx nx hx hb h' g sb=>
   k x h' s.toks hx ⟨(sb.2 a hne).trans h1,nx,g,hb⟩ λb u nb e=>(sb.2 b (λz=>nb (by simp[z]))).trans e
  cases hT:Yj w with
  | true=>
   have jT:i<(pickOrder (w.params.setOrder a ep) es).size:=by
    have:=(Zci (w.params.setOrder a ep) es).length_eq;simp only[qL]at this;omega
   have hx:(Um w a ep es)[i]?=some (pickOrder (w.params.setOrder a ep) es)[i].2:=by
    unfold Um;rw[if_pos hT,qt,zP,qU jT];rfl
   refine ZiO (nx:=slot) h2 h1 hd hf (λA E F q=>ZeS h1 hd hf hT ?_) (fin _ slot hx (.inl hT));rw[qU jT];exact q
  | false=>
   have hb:qR t.place slot=i:=h3.resolve_left (by rw[hT];decide);have hdr':=hdr.resolve_left (by rw[hT];decide);have hl:=hg.1.resolve_left (by rw[hT];decide);have hx:(Um w a ep es)[i]?=some es[i].2:=by
    unfold Um;rw[if_neg (by rw[hT];decide),qt,zP,qU hi];rfl
   have hp:t.place[i]?=some (t.place.getD i 0):=by
    rw[zu,qU (by omega)];rfl
   refine ZiO (nx:=t.place.getD i 0+1) h2 h1 hd hf (λA E F q=>Zdv h1 hd hf hT hdr' hl ?_) (fin _ _ hx (.inr (ZhR hg.2 (by omega))));rw[hb,qU hi,hp];exact q
 done:=λs Q E st k=>by
  obtain⟨h1,slot,h2,h3⟩:=st;have fin:∀h',qaS I s.heap h'->Q none { s with heap:=h' }:=λh' e=>k h' s.toks λb u nb g=>e b u (λz=>nb (by simp[z])) g
  cases hT:Yj w with
  | true=>
   refine ZlR hh h2 h1 hd hf (λA E F q=>ZeS h1 hd hf hT ?_) fin;rw[qag]
   ·exact q
   ·have:=(Zci (w.params.setOrder a ep) es).length_eq
    simp only[qL]at this;omega
  | false=>
   have hb:qR t.place slot=es.size:=h3.resolve_left (by rw[hT];decide);refine ZlR hh h2 h1 hd hf (λA E F q=>Zdv h1 hd hf hT (hdr.resolve_left (by rw[hT];decide)) (hg.1.resolve_left (by rw[hT];decide)) ?_) fin;rw[hb,qag (qq _)];exact q
 self:=λi s Q E st k=>ZgB st.2.choose_spec.1 k
abbrev W6 (pl:List Nat):Array Value:=(pl.map λ(i:Nat)=>rawInt i).toArray
def Znv {it T:Addr}{i p:Nat}{x:Int×Value}{pl:List Nat}{c:Nat}{Q:Option Value->Shared->Prop}
  (hit:s.heap.get? it=some (X4 (.ref T) i a es.size ep)) (ho:s.heap.get? a=some o) (hd:o.data=.set es ep t) (hf:t.fits es.size=true)
  (hT:s.heap.get? T=some { cls:=.type "tuple",data:=.seq (W6 pl) c }) (hp:pl[i]?=some p) (hx:es[p]?=some x)
  (hQ:∀h',h'.get? it=some (X4 (.ref T) (i+1) a es.size ep)->zR it s.heap h'->Q (some x.2) { s with heap:=h' }):xf (xC prog w) A (pyNext (.ref it)) Q E s:=by
 have hTy:s.TypeIs (.ref it) "set_iterator":=⟨_,hit,rfl⟩;unfold pyNext;refine xa (wpAny_attempt (wpAny_callSpecial?_slot (name:=qC "__next__") hTy FS.slot_next
  (wpAny_call_entry FS.slot_next hTy FS.entry_next ?_ (FS.args_next _))))
 unfold Builtin.«set_iterator.__next__»;refine xa (m:=slotArgs _ _ _) (xb ?_);refine xa (wpAny_fieldsOf hit rfl ?_);show xf _ _ (setEntries a >>= _) _ _ _;refine xa (wpAny_setEntries_of ho hd hf ?_);rw[if_neg (by simp)];show xf _ _ (seqItems? (.ref T) >>= _) _ _ _;refine xa (xt hT rfl ?_);have e:(W6 pl)[((i:Nat):Int).toNat]?=some (rawInt p):=by
  rw[zG];simp[W6,hp]
 dsimp only;rw[e];show xf _ _ (setNextDrawn a p ep >>= _) _ _ _;unfold setNextDrawn;refine xa (xa (wpAny_setState_of ho hd hf ?_));dsimp only;rw[if_neg (by simp),hx];refine xb ?_;refine xa (wpAny_setField hit rfl (by simp) ?_);have g2:(s.heap.update it (yu (·.setIfInBounds 1 (rawInt ((i:Int)+1))))).get? it=some (X4 (.ref T) (i+1) a es.size ep):=zO _ hit rfl;exact xb ⟨_,rfl,xb (hQ _ g2 (y8 ..))⟩
def Zpl {it T:Addr}{i:Nat}{pl:List Nat}{c:Nat}{Q:Option Value->Shared->Prop}(hh:A.handled=none)
  (hit:s.heap.get? it=some (X4 (.ref T) i a es.size ep)) (ho:s.heap.get? a=some o) (hd:o.data=.set es ep t) (hf:t.fits es.size=true)
  (hT:s.heap.get? T=some { cls:=.type "tuple",data:=.seq (W6 pl) c }) (hp:pl.length<=i)
  (hQ:∀h',qaS it s.heap h'->Q none { s with heap:=h' }):xf (xC prog w) A (pyNext (.ref it)) Q E s:=by
 refine ZiP hh hit (λA G F hh k=>?_) hQ;unfold Builtin.«set_iterator.__next__»;refine xa (m:=slotArgs _ _ _) (xb ?_);refine xa (wpAny_fieldsOf hit rfl ?_);show xf _ _ (setEntries a >>= _) _ _ _;refine xa (wpAny_setEntries_of ho hd hf ?_);rw[if_neg (by simp)];show xf _ _ (seqItems? (.ref T) >>= _) _ _ _;refine xa (xt hT rfl ?_);have e:(W6 pl)[((i:Nat):Int).toNat]?=none:=by
  rw[zG];simp[W6,hp]
 dsimp only;rw[e];dsimp only;refine xa (wpAny_setField hit rfl (by simp) ?_);have g1:(s.heap.update it (yu (·.setIfInBounds 0 (rawInt 0)))).get? it=some (X4 (rawInt 0) i a es.size ep):=zO _ hit rfl;refine xa (wpAny_setField (s:={ s with heap:=s.heap.update it (yu (·.setIfInBounds 0 (rawInt 0))) }) g1 rfl (by simp) ?_);refine Zdw (s:={ s with heap:=(s.heap.update it (yu (·.setIfInBounds 0 (rawInt 0)))).update it (yu (·.setIfInBounds 2 .none)) }) hh λv h' e tv=>k v h' (λb u nb eb=>e b u ?_) tv;exact(zk _ _ (zg nb)).trans ((zk _ _ (zg nb)).trans eb)
def J0 (es:Array (Int×Value))(pl:List Nat):List Value:=pl.map λp=>(es.getD p default).2
def Zj5 {pl:List Nat}(hp:pl.Perm (qk es.size)):(J0 es pl).Perm (es.toList.map (·.2)):=by
 unfold J0;refine(hp.map _).trans ?_;have:((qk es.size).map λp=>(es.getD p default).2)=es.toList.map (·.2):=by
  apply yD;intro i;have el:es.toList[i]?=es[i]?:=zP ..;rw[qt,qt,el];by_cases hi:i<es.size
  ·rw[zT hi,qU hi]
   simp only[zS];rw[zu,qU hi];rfl
  ·rw[yy (by simp;omega),qag (by omega)]
   rfl
 rw[this]
def ZhT (hh:A.handled=none)(I T:Addr)(hne:a≠I)(hneT:T≠I)(hd:o.data=.set es ep t)(hf:t.fits es.size=true){pl:List Nat}{c:Nat}(hp:pl.Perm (qk es.size)) :
  Walks prog w A I [I,a,T] [I] es.size (λi v=>(J0 es pl)[i]?=some v) (λi h=>h.get? a=some o/\h.get? I=some (X4 (.ref T) i a es.size ep)/\h.get? T=some { cls:=.type "tuple",data:=.seq (W6 pl) c }) where
 sub:=λb hb=>by simp at hb;simp[hb]
 frame:=λi h h' st k=>⟨k a (by simp) _ st.1,k I (by simp) _ st.2.1,k T (by simp) _ st.2.2⟩
 item:=λi s Q E hi st k=>by
  obtain⟨h1,h2,h3⟩:=st;have hl:i<pl.length:=by rw[hp.length_eq,qG];exact hi
  have hm:pl[i]<es.size:=qB.mp (hp.mem_iff.mp (zE hl));have hx:(J0 es pl)[i]?=some es[pl[i]].2:=by
   unfold J0;rw[qt,qj hl];simp only[zS];rw[zu,qU hm];rfl
  exact Znv h2 h1 hd hf h3 (qj hl) (qU hm) λh' g sb=>k _ h' s.toks hx ⟨(sb.2 a hne).trans h1,g,(sb.2 T hneT).trans h3⟩ λb u nb e=>(sb.2 b (λz=>nb (by simp[z]))).trans e
 done:=λs Q E st k=>by
  obtain⟨h1,h2,h3⟩:=st;exact Zpl hh h2 h1 hd hf h3 (by rw[hp.length_eq,qG];exact qq _) λh' e=>k h' s.toks λb u nb g=>e b u (λz=>nb (by simp[z])) g
 self:=λi s Q E st k=>ZgB st.2.1 k
def ZlT {Q:xG}(ho:s.heap.get? a=some o)(hex:o.ExactSet)(hd:o.data=.set es ep t)(hf:t.fits es.size=true)(hz:es.size<=1000)
  (k1:(Yj w=true∨(!t.plain&&decide (es.size > 1))=false)->Q (.ref s.heap.objs.size) { s with heap:=s.heap.push (X4 (rawInt (0:Nat)) 0 a es.size ep) })
  (k2:∀(pl:List Nat) d,pl.Perm (qk es.size)->Q (.ref (s.heap.objs.size+1)) { s with heap:=(s.heap.push { cls:=.type "tuple",data:=.seq (W6 pl) }).push (X4 (.ref s.heap.objs.size) 0 a es.size ep),drawn:=d }):xf (xC prog w) A (pyIter (.ref a)) Q E s:=by
 have hT:s.TypeIs (.ref a) "set":=⟨o,ho,hex.1⟩;refine wpAny_pyIter_slot hT qb8 (wpAny_call_entry qb8 hT FS.entry_set_iter ?_ (PySem.F.args_set_iter_1 _));unfold Builtin.«frozenset.__iter__» Builtin.Frozenset.slot0;refine xa (xa (m:=slotArgs _ _ _) (xb ?_));refine xb ?_;unfold Builtin.Frozenset.sizeOf;refine xa (xa (wpAny_setEntries_of ho hd hf (xb ?_)));unfold setDrawn;refine xa (xa (wpAny_setState_of ho hd hf ?_));dsimp only;unfold setsByText;refine xa (xa (wpAny_askSetting (xb (xb ?_))));show xf _ _ (if (!Yj w&&(!t.plain&&decide (es.size > 1)))=true then _ else _) _ _ _;by_cases hc:(!Yj w&&(!t.plain&&decide (es.size > 1)))=true
 ·rw[if_pos hc]
  refine xa (ZeR es.size (qk es.size) _ _ qG λpl d hp=>?_);have hpl:pl.length=es.size:=by rw[hp.length_eq,qG]
  unfold newTuple;refine xa (xl ?_ (by show(W6 pl).size<=xg;rw[sizeLine_eq];simp[W6];omega));refine xa (wpAny_setEpoch_of (s:={ s with heap:=s.heap.push { cls:=.type "tuple",data:=.seq (W6 pl) },drawn:=d }) (qh _ ho) hd hf ?_);unfold newFields;refine xa (xl ?_);refine xb ⟨_,rfl,"set_iterator",_,⟨_,qz _ rfl,rfl⟩,FS.slot_next.lookup,?_⟩;have:=k2 pl d hp;rw[<-zX s.heap { cls:=.type "tuple",data:=.seq (W6 pl) }]at this;exact this
 ·rw[if_neg hc]
  refine xa (xb ?_);refine xa (wpAny_setEpoch_of ho hd hf ?_);unfold newFields;refine xa (xl ?_);refine xb ⟨_,rfl,"set_iterator",_,⟨_,qz _ rfl,rfl⟩,FS.slot_next.lookup,?_⟩;refine k1 ?_
  cases hb:Yj w with
  | true=>exact .inl rfl
  | false=>
   rw[hb]at hc;exact .inr (by simpa using hc)
end
end HT
namespace HT
section
variable {prog:xE}{w:World}{A:xF}{E:xG}{s:Shared}
variable {a:Addr}{o:Obj}{es:Array (Int×Value)}{ep:Nat}{t:SetTable}
def ZlU {Q:Bool->Shared->Prop}(hT:s.TypeIs (.ref a) "set")(h:Q false s):xf (xC prog w) A (qam (.ref a)) Q E s:=by
 unfold qam;refine xa (wpAny_specialOf hT PySem.F.slot_set_len.lookup ?_);generalize hid:("set.__len__" : String)=id0
 wp_delta
 rw[show splitId id0=some ("set","__len__")from by subst hid;decide +kernel];subst hid;refine xa (wpAny_isInstance (T:="set") (b:=true) hT (by rw[isSubtype_type];kernel_rfl) ?_);refine wpAny_ite_split (λz=>absurd z (by decide)) (λ_=>?_);refine wpAny_ite_split (λ_=>?_) (λz=>absurd (by decide +kernel) z);refine xa (wpAny_typeOf hT ?_);exact xb h
def ZlV {l:List Value}{jP:Array Value}(h:ItemsOf (λi v=>l[i]?=some v) jP l.length):jP.toList=l:=by
 apply yD;intro i;rw[zP];by_cases hi:i<l.length
 ·have hs:i<jP.size:=by rw[h.1];exact hi
  rw[qU hs];exact(h.2 i _ (qU hs)).symm
 ·rw[qag (by rw[h.1];omega),yy (by omega)]
def after {I S:Addr}{fp wr:List Addr}{l:List Value}{St:Nat->Heap->Prop}{n:Nat}{g:Bool->Bool}{s1:Shared}{R:Result->Shared->Prop}(W:Walks prog w A.in1 I fp wr n (λi v=>l[i]?=some v) St)(hl:l.length=n)(hn:n<=1000)(st:St 0 s1.heap)(hSf:S∉fp)
  (hS:s1.heap.get? S=some { cls:=.type "list",data:=.seq #[] 0 }) (hT:s1.TypeIs (.ref a) "set") (hg:g false=true)
  (k:∀h' tk c,(∀b u,b∉S::wr->s1.heap.get? b=some u->h'.get? b=some u)->h'.get? S=some { cls:=.type "list",dict:=none,data:=.seq l.toArray c,slots:=#[] }->R (.ok (.ret (.ref S))) { s1 with heap:=h',toks:=tk }) :
  xf (xC prog w) A.in1 (do
   let room<-holding [.ref I] (qam (.ref a))
   if g room=true then do
    rule "list.extend.makes-room"
    Builtin.List.listTouch (.ref S)
    again (.builtin "list.extend.loop" { pos:=[.ref S,.ref I,.ref S] })
   else again (.builtin "list.extend.loop" { pos:=[.ref S,.ref I,.ref S] }))
   (λfin s'=>match fin with | .done f=>R (.ok f) s' | .again c'=>c'.quiet=true/\xo (xC prog w) A c' R s') (λe s'=>R (.error e) s') s1:=by
 refine xa (xw (ZlU hT ?_));rw[if_pos hg];refine xa (wpAny_rule (xa ?_));show xf _ _ (updateSeq S (·.push .none) >>= λ_=>updateSeq S (·.pop)) _ _ _;refine xa (xz hS rfl ?_);have q2:=zO (zy (·.push qX)) hS rfl;refine xz (hz:=by seq_fits) q2 rfl ?_;have q3:=zO (zy (·.pop)) q2 rfl;have oth:∀b u,b≠S->s1.heap.get? b=some u->((s1.heap.update S (zy (·.push qX))).update S (zy (·.pop))).get? b=some u:=λb u nb e=>
  (zk _ _ (zg nb)).trans ((zk _ _ (zg nb)).trans e)
 refine xb ⟨plainId_quiet F.plain_extend_loop _,codeAny_extend_loopS W.toS (by rw[sizeLine_eq];omega) S hSf _ n 0 _ #[] _ rfl (zl _) (W.frame 0 s1.heap _ st λb m u e=>oth b u (λz=>hSf (z▸m)) e) q3 (ItemsOf.nil _) λs' acc' c' hm hS' hacc=>?_⟩;rw[Moved.eq_with hm];rw[<-hl]at hacc;have el:=ZlV hacc;refine k s'.heap s'.toks c' (λb u nb e=>hm.heap b u nb (oth b u (λz=>nb (by simp[z])) e)) ?_;rw[hS',<-el]
def RF (prog:xE)(w:World)(A:xF)(E:xG)(Q:List Value->Shared->Prop)(S:Addr):Result->Shared->Prop:=λr s'=>r=.ok (.ret (.ref S))/\xf (xC prog w) A (load S >>= λx=>match x.data with | .seq xs _=>pure xs.toList | _=>unsupported "internal:collect") Q E s'
def ZgD {Q:List Value->Shared->Prop}(hh:A.handled=none)(ho:s.heap.get? a=some o)(hex:o.ExactSet)(hd:o.data=.set es ep t)(hf:t.fits es.size=true)(hg:Good w t)(hz:es.size<=1000)
  (k:∀(vs:List Value) (h':Heap) (tk:Nat) d,(∀b u,s.heap.get? b=some u->h'.get? b=some u)->s.heap.objs.size<h'.objs.size->vs.Perm (es.toList.map (·.2))->Q vs { s with heap:=h',toks:=tk,drawn:=d }):xf (xC prog w) A (collect (.ref a)) Q E s:=by
 unfold collect;apply xa;apply wpAny_runValue;apply xm qb4;rw[zx
  qb5 _]
 show xf _ A.in1 (newList [] >>= λz=>
  again (.builtin "list.__iadd__" ⟨[z,.ref a],[]⟩)) _ _ s
 apply xa;refine xl ?_;refine xb ⟨plainId_quiet
  qaN _,xm
  F.entry_list_iadd ?_⟩
 rw[zx
  qaN _]
 show xf _ A.in1 (yq
  (.ref s.heap.objs.size) (.ref a)
  (.ref s.heap.objs.size)) _ _ _
 have hlt:a<s.heap.objs.size:=qD ho;have hS0:(s.heap.push
   { cls:=.type "list",data:=.seq ([]:List Value).toArray }).get?
   s.heap.objs.size=some { cls:=.type "list",data:=.seq #[] 0 }:=
  qz _ rfl
 have ho0:(s.heap.push
   { cls:=.type "list",data:=.seq ([]:List Value).toArray }).get? a=some o:=qh _ ho
 have kp0:∀b u,s.heap.get? b=some u->(s.heap.push
   { cls:=.type "list",data:=.seq ([]:List Value).toArray }).get? b=some u:=λb u e=>qh _ e
 have sz0:(s.heap.push
   { cls:=.type "list",data:=.seq ([]:List Value).toArray }).objs.size=s.heap.objs.size+1:=zX _ _
 generalize (s.heap.push
   { cls:=.type "list",data:=.seq ([]:List Value).toArray })=h0 at hS0 ho0 kp0 sz0⊢
 unfold yq;refine xa (wpAny_typeOf (T:="set") ⟨_,ho0,hex.1⟩ ?_);have b1:qbH (.ref s.heap.objs.size) (.ref a)=false:=by
  have:s.heap.objs.size≠a:=qa2 hlt;simp[qbH,this]
 have b2:(yf "set" == yf "list")=false:=by decide
 have b3:(yf "set" == yf "tuple")=false:=by decide
 simp only[b1,b2,b3,Bool.or_false,yh,if_false];have fin:∀(l:List Value) (I:Addr) (wr:List Addr) (h1:Heap) (d:Drawn),l.Perm (es.toList.map (·.2))->(∀b∈wr,b=I)->s.heap.objs.size<I->(∀b u,h0.get? b=some u->h1.get? b=some u)->∀(h':Heap) (tk c:Nat),(∀b u,b∉s.heap.objs.size::wr->h1.get? b=some u->h'.get? b=some u)->h'.get? s.heap.objs.size=some { cls:=.type "list",dict:=none,data:=.seq l.toArray c,slots:=#[] }->
   xf (xC prog w) A (load s.heap.objs.size >>= λx=>match x.data with | .seq xs _=>pure xs.toList | _=>unsupported "internal:collect") Q E { s with heap:=h',toks:=tk,drawn:=d }:=λl I wr h1 d hp hw hI kp h' tk c kk hL=>by
  refine xa (wpAny_load hL ?_);refine xb ?_;show Q l.toArray.toList _;rw[qba];refine k l h' tk d (λb u e=>kk b u (λz=>?_) (kp b u (kp0 b u e))) (qD hL) hp;have hb:=qD e;rcases qm.mp z with z | z
  ·exact absurd hb (by rw[z];exact yk _)
  ·rw[hw b z]at hb;exact absurd (yX hb hI) (yk _)
 have z1:s.heap.objs.size<h0.objs.size:=by rw[sz0];exact yg _
 have z2:s.heap.objs.size<h0.objs.size+1:=zF z1;have n1:a≠h0.objs.size:=qH (yX hlt z1);have n2:a≠h0.objs.size+1:=qH (yX hlt z2);have n3:s.heap.objs.size≠a:=qa2 hlt;refine xc (Q:=λfin s'=>match fin with | .done f=>RF prog w A E Q s.heap.objs.size (.ok f) s' | .again c'=>c'.quiet=true/\xo (xC prog w) A c' (RF prog w A E Q s.heap.objs.size) s') (E:=λe s'=>RF prog w A E Q s.heap.objs.size (.error e) s') ?_ (λfin s' h=>?_) (λe s' h=>?_)
 rotate_left
 ·cases fin with
  | done f=>
   obtain⟨e,q⟩:=h
   cases e
   exact q
  | again c'=>
   refine⟨h.1,codeAny_mono h.2 λr s'' hr=>?_⟩;obtain⟨rfl,q⟩:=hr;exact q
 ·exact absurd h.1 (by simp)
 refine xa (ZlT ho0 hex hd hf hz (λhdr=>?_) λpl d hp=>?_)
 ·refine after (ZlS (A:=A.in1) hh h0.objs.size n1 hd hf hg hdr) Znu hz ?_ ?_ ?_ ?_ ?_ ?_
  ·exact⟨qh _ ho0,0,qz _ rfl,.inr (ZhS hg.2)⟩
  ·simp only[qm,zm,or_false,not_or]
   exact⟨qH z1,n3⟩
  ·exact qh _ hS0
  ·exact⟨_,qh _ ho0,hex.1⟩
  ·decide +kernel
  ·intro h' tk c kk hL
   exact⟨rfl,fin _ h0.objs.size [h0.objs.size] _ _ ZgC (λb m=>qK.mp m) z1 (λb u e=>qh _ e) h' tk c kk hL⟩
 ·refine after (ZhT (A:=A.in1) hh (h0.objs.size+1) h0.objs.size n2 (qH (yg _)) hd hf hp (c:=0)) ?_ hz ?_ ?_ ?_ ?_ ?_ ?_
  ·unfold J0;rw[qd,hp.length_eq,qG]
  ·refine⟨qh _ (qh _ ho0),?_,qh _ (qz _ rfl)⟩
   have:=qz (h0.push { cls:=.type "tuple",data:=.seq (W6 pl) }) (o:=X4 (.ref h0.objs.size) 0 a es.size ep) rfl;rw[zX]at this;exact this
  ·simp only[qm,zm,or_false,not_or]
   exact⟨qH z2,n3,qH z1⟩
  ·exact qh _ (qh _ hS0)
  ·exact⟨_,qh _ (qh _ ho0),hex.1⟩
  ·decide +kernel
  ·intro h' tk c kk hL
   exact⟨rfl,fin _ (h0.objs.size+1) [h0.objs.size+1] _ _ (Zj5 hp) (λb m=>qK.mp m) z2 (λb u e=>qh _ (qh _ e)) h' tk c kk hL⟩
end
def Zj6 {vs us:List Value}(h:us.Perm vs):∀{ns:List Int},IntsAre vs ns->∃ms,ms.Perm ns/\IntsAre us ms:=by
 induction h with
 | nil=>intro ns h;exact⟨ns,.refl _,h⟩
 | cons x p ih=>
  intro ns h
  cases h with
  | cons n t r=>
   obtain⟨ms,p2,i2⟩:=ih r;exact⟨n::ms,p2.cons n,.cons n t i2⟩
 | swap x y l=>
  intro ns h
  cases h with
  | cons n t r=>
   cases r with
   | cons m u r=>exact⟨m::n::_,.swap _ _ _,.cons m u (.cons n t r)⟩
 | trans p q ih1 ih2=>
  intro ns h;obtain⟨ms,p2,i2⟩:=ih2 h;obtain⟨ks,p3,i3⟩:=ih1 i2;exact⟨ks,p3.trans p2,i3⟩
def ints_of {prog:xE}{w:World}:∀{l:List (Int×Value)},ElemsOf (intKind prog w) l->∃ms,IntsAre (l.map (·.2)) ms/\∀k,k∈ms↔∃e∈l,(intKind prog w).is k e.2=true
 | [],_=>⟨[],.nil,λk=>by simp⟩
 | e::l,h=>by
  obtain⟨ms,i,m⟩:=ints_of h.tail;obtain⟨⟨k,hk,_⟩,_⟩:=h.head;obtain⟨t,et⟩:=Value.isInt_shape (show qcv k e.2=true from hk);refine⟨k::ms,?_,λj=>?_⟩
  ·rw[zh,et];exact .cons k t i
  ·rw[qm,m j]
   constructor
   ·rintro(rfl | ⟨x,hx,q⟩)
    ·exact⟨e,by simp,hk⟩
    ·exact⟨x,by simp[hx],q⟩
   ·rintro⟨x,hx,q⟩
    rcases qm.mp hx with rfl | hx
    ·exact .inl ((intKind prog w).inj _ j k q hk)
    ·exact .inr ⟨x,hx,q⟩
def perm_of_nodup:∀{l m:List Int},l.Nodup->(∀x∈l,x∈m)->m.length=l.length->l.Perm m
 | [],m,_,_,e=>by
  have:m=[]:=zB.mp e;rw[this]
 | a::l,m,nd,s,e=>by
  have nd:=zC.mp nd;have ha:=s a (by simp);have p:=List.perm_cons_erase ha;have le:(m.erase a).length=l.length:=by
   have:=p.length_eq;simp only[qN]at this e;omega
  refine(qb3 a (perm_of_nodup nd.2 (λx hx=>?_) le)).trans p.symm;have ne:x≠a:=λz=>nd.1 (z▸hx);exact(qck ne).mpr (s x (by simp[hx]))
section
variable {prog:xE}{w:World}{A:xF}{E:xG}{s:Shared}
variable {a:Addr}{o:Obj}{es:Array (Int×Value)}{ep:Nat}{t:SetTable}
def sortedS {Q:xG}(hh:A.handled=none)(ho:s.heap.get? a=some o)(hex:o.ExactSet)(hd:o.data=.set es ep t)(hf:t.fits es.size=true)(hg:Good w t)(hz:es.size<64){ns:List Int}(hi:IntsAre (es.toList.map (·.2)) ns)
  (k:∀(out:Array Value) (ns':List Int) (L:Addr) (h':Heap) (tk:Nat) d (e:Nat),IntsAre out.toList ns'->ns'.Perm ns->ns'.Pairwise (·<=·)->(∀b u,s.heap.get? b=some u->h'.get? b=some u)->s.heap.objs.size<=L->h'.get? L=some (seqObj "list" out e)->Q (.ref L) { s with heap:=h',toks:=tk,drawn:=d }) :
  xf (xC prog w) A (call (.builtin "sorted") [.ref a]) Q E s:=by
 refine Calls.call_function_entry kind_sorted plain_sorted entry_sorted (args_sorted1 _) ?_;unfold Builtin.«sorted»;refine xa (m:=checkCount "sorted" 1 1 _) (xb ?_);refine xa (ZgD hh ho hex hd hf hg (by omega) λvs h1 tk d kp hs pm=>?_);obtain⟨ms,p2,i2⟩:=Zj6 pm hi;have hl:vs.length=es.size:=by rw[pm.length_eq,qd,qL]
 refine xa (xA ?_ (by rw[sizeLine_eq];omega));have g1:(h1.push (seqObj "list" vs.toArray 0)).get? h1.objs.size=some (seqObj "list" vs.toArray 0):=qz _ rfl;show xf _ _ _ _ _ { s with heap:=h1.push (seqObj "list" vs.toArray 0),toks:=tk,drawn:=d };refine xa (xw (wpAny_call_entry slot_list_sort ⟨_,g1,rfl⟩ entry_list_sort (list_sort_tree (s:={ s with heap:=h1.push (seqObj "list" vs.toArray 0),toks:=tk,drawn:=d }) g1 i2 (by omega) λout ns' a1 a2 a3=>⟨_,rfl,?_⟩) (args_list_sort _)));obtain⟨e,he⟩:=sortedHeap_at (out:=out) g1;refine xb ⟨_,rfl,k out ns' h1.objs.size _ tk d e a1 (a2.trans p2) a3 (λb u q=>?_) (qbz hs) he⟩;have q1:=kp b u q;have l1:=qD q1;rw[sortedHeap_old (qH l1) (by rw[zX];exact zF l1)];exact qh _ q1
end
end HT
namespace TF
open L2
section
variable {X:Cx}{G:Gh}
def YW (ns:List Int):List Int:=ns.foldl step_dedup []
def jE {jJ:Qb}{σ:St}{H:Hp}{s:Shared}{d:Drawn}(I:Inv X jJ σ H s):Inv X jJ σ H { s with drawn:=d }:=⟨I.ok,I.os,I.bare,I.base,I.loc,I.cell,I.free,I.freeC,I.pin,I.hok,I.len⟩
def LedO (w:World)(o:Obj):Prop:=∃es ep t,o.data=.set es ep t/\HT.Good w t
def ZhU (hc:X.calm=true):XB X (.type "set") (λxs H Q=>∃(p:Addr) (ns:List Int),xs=[.ref p]/\(ZF X.K H p (ns.map V.int)∨ZS X.K H p (ns.map V.int))/\ns.length<=1000/\∀l o,H l=none->LedO X.w o->Q (.ref l) (Zi H l (.frz o (.set (λk'=>(YW ns).any (· == k')) (YW ns).length)))):=by
 intro jJ s σ H xs us Q I r h;obtain⟨p,ns,rfl,hp,hl,q⟩:=h;obtain⟨u,rfl,ru⟩:=XI r
 cases ru
 have fin:∀(items:Array Value) (_:IntsAre items.toList ns) (h':Heap) (tk:Nat),HT.SetLed X.prog X.w h' s.heap.objs.size (λk'=>(firstMet (λi=>ns.getD i 0) items.size).any (· == k')) (firstMet (λi=>ns.getD i 0) items.size).length->(∀b o,b<s.heap.objs.size->s.heap.get? b=some o->h'.get? b=some o)->EP X jJ σ Q (.ref s.heap.objs.size) { s with heap:=h',toks:=tk }:=λitems hi h' tk hS hk=>by
  have e:firstMet (λi=>ns.getD i 0) items.size=YW ns:=ZcJ ns _ (by rw[<-hi.length,qL]);rw[e]at hS;have hS':=hS.setOf;obtain⟨o,xs,ep,t,g1,g2,g3,g4,g5,g6,g7,g8,g9⟩:=hS;exact⟨.ref s.heap.objs.size,_,I.laid (a:=s.heap.objs.size) (o:=.frz o (.set (λk'=>(YW ns).any (· == k')) (YW ns).length)) (t':=tk) (λb o e=>hk b o (qD e) e) (qq _) ⟨g1,hS'⟩,rfl,q _ o (I.hok.fresh (qq _)) ⟨xs,ep,t,g3,g9⟩⟩
 rcases hp with hp | hp
 ·obtain⟨jL,rv,pl,hz⟩:=I.list hp
  have hi:IntsAre jL ns:=W8 rv;have hll:=hi.length;exact HT.setL_of_list (I.ok.hd hc) pl.isList (by simpa using hi) (by simp[scanBound];omega) (fin jL.toArray (by simpa using hi))
 ·obtain⟨jL,rv,pl,hz⟩:=I.tuple hp
  have hi:IntsAre jL ns:=W8 rv;have hll:=hi.length;exact HT.setL_of_tuple (I.ok.hd hc) (show s.heap.IsTuple p jL.toArray from pl) (by simpa using hi) (by simp[scanBound];omega) (fin jL.toArray (by simpa using hi))
def Zfz (hc:X.calm=true):XB X (.builtin "sorted") (λxs H Q=>∃(p:Addr) (o:Obj) (ds:List Int),xs=[.ref p]/\H p=some (.frz o (.set (λk'=>ds.any (· == k')) ds.length))/\LedO X.w o/\ds.Nodup/\ds.length<64/\∀l,H l=none->Q (.ref l) (Zi H l (.lst ((YX ds).map V.int)))):=by
 intro jJ s σ H xs us Q I r h;obtain⟨p,o,ds,rfl,hp,hL,nd,h64,q⟩:=h;obtain⟨u,rfl,ru⟩:=XI r
 cases ru
 obtain⟨ho,o2,xs,ep,t,g1,g2,g3,g4,g5,g6,g7,g8⟩:=(show Yz X.prog X.w H s.heap p (.frz o (.set (λk'=>ds.any (· == k')) ds.length))from I.hok p _ hp);rw[ho]at g1;cases g1;obtain⟨xs2,ep2,t2,e2,hg⟩:=hL;rw[g3]at e2;cases e2;obtain⟨ms,hi,hm⟩:=HT.ints_of g4;have hml:ms.length=ds.length:=by rw[<-hi.length,qd,qL,g8]
 have pm:ds.Perm ms:=HT.perm_of_nodup nd (λx hx=>(hm x).mpr ((g5 x).mp (by simp[hx]))) hml;refine HT.sortedS (I.ok.hd hc) ho g2 g3 g7 hg (by omega) hi λout ns' L h' tk d e a1 a2 a3 kp hL he=>?_;have en:=ZaU (a2.trans pm.symm) a3;subst en;have eo:out=out.toList.toArray:=by simp
 rw[eo]at he;refine⟨.ref L,_,jE (s:={ s with heap:=h',toks:=tk }) (I.laid (a:=L) (o:=.lst ((YX ds).map V.int)) (t':=tk) kp hL ⟨?_,out.toList,e,ZaV a1,he⟩),rfl,q _ (I.hok.fresh hL)⟩;rw[qd,(Bm ds).length_eq,sizeLine_eq];omega
def Jq (f:Zb->M D):Zb->M D:=fun ρ=>Zq (f ρ) λd=>match d with
 | .tup ds=>(match ZG ds with | some ns=>if ns.length<64 then ZA (.lst ((YX (YW ns)).map .int))else Zv | none=>Zv)
 | .lst ds=>(match ZG ds with | some ns=>if ns.length<64 then ZA (.lst ((YX (YW ns)).map .int))else Zv | none=>Zv)
 | _=>Zv
def ZeT (ns:List Int):(YW ns).length<=ns.length:=by
 have:=Znr ns [];simpa[YW]using this
def Zdx {a:Expr}{p1 p2 pos1 pos:Pos}{r1:Bool}{f:Zb->M D}(hc:X.calm=true)(hg:Gl X "sorted")(hm:X.mg "sorted" = none)(hv:xj "sorted" = some (.builtin "sorted"))(hg2:Gl X "set")(hm2:X.mg "set" = none)(hv2:xj "set" = some (.type "set"))(ha:PD X G r1 a f)
  (hs:xh [a] X.env=(false,eval a X.env)::xh [] X.env:=by rfl)
  (hs2:xh [Expr.Call (.Name "set" p2) [a] [] pos1] X.env=(false,eval (Expr.Call (.Name "set" p2) [a] [] pos1) X.env)::xh [] X.env:=by rfl) (hpl:(backTo pos (xh [] X.env)).any (·.1)=false:=by rfl) (hpl1:(backTo pos1 (xh [] X.env)).any (·.1)=false:=by rfl) :
  PD X G true (.Call (.Name "sorted" p1) [.Call (.Name "set" p2) [a] [] pos1] [] pos) (Jq f):=by
 obtain⟨t,pa,qa⟩:=ha.drop;refine⟨_,Bu (Zfz hc) hg hm hv (YN (Zbl (ZhU hc) hg2 hm2 hv2 (YN pa Y3 hs) (by decide) (by decide) hs hpl1) Y3 hs2) (by decide) (by decide) hs2 hpl,fun σ Hf H ρ s d s' Q e1 e2 e3 e4 k=>?_⟩;obtain⟨d0,s1,a1,a2⟩:=ZC e4;refine qa σ Hf H ρ s d0 s1 _ e1 e2 e3 a1 λv jV H1 g1 kb r1=>?_;have go:∀ns:List Int,(if ns.length<64 then ZA (D.lst ((YX (YW ns)).map .int))else Zv) s1=some (d,s')->(∃p,v=.ref p/\(ZF X.K H1 p (ns.map V.int)∨ZS X.K H1 p (ns.map V.int)))->∃(p:Addr) (ns:List Int),[v]=[.ref p]/\(ZF X.K H1 p (ns.map V.int)∨ZS X.K H1 p (ns.map V.int))/\ns.length<=1000/\∀l o,H1 l=none->LedO X.w o->
   ∃(p:Addr) (o':Obj) (ds:List Int),[V.ref l]=[.ref p]/\Zi H1 l (.frz o (.set (λk'=>(YW ns).any (· == k')) (YW ns).length)) p=some (.frz o' (.set (λk'=>ds.any (· == k')) ds.length))/\LedO X.w o'/\ds.Nodup/\ds.length<64/\∀l',Zi H1 l (.frz o (.set (λk'=>(YW ns).any (· == k')) (YW ns).length)) l'=none->Q (.ref l') (Zi (Zi H1 l (.frz o (.set (λk'=>(YW ns).any (· == k')) (YW ns).length))) l' (.lst ((YX ds).map V.int))):=λns h ⟨p,ev,hp⟩=>by
  obtain⟨hl,h⟩:=Xf h;obtain⟨rfl,rfl⟩:=ZO h;have hu:=ZeT ns;refine⟨p,ns,by rw[ev],hp,by omega,λl o hn hL=>⟨l,o,YW ns,rfl,ZI,hL,(ZbT ns).1,by omega,λl' hn'=>?_⟩⟩;have nf:=Gh.nofp kb hn;have g2:=Gr.new (o:=.frz o (.set (λk'=>(YW ns).any (· == k')) (YW ns).length)) g1.fh hn nf;have j6:=Gh.grow (o:=.frz o (.set (λk'=>(YW ns).any (· == k')) (YW ns).length)) kb hn;have nf':=Gh.nofp j6 hn';have g3:=Gr.new (o:=.lst ((YX (YW ns)).map V.int)) g2.fh hn' nf';exact k (.ref l') _ _ ((g1.trans g2).trans g3) (Gh.grow j6 hn') (jb.mpr ⟨l',_,rfl,nf',ZI,Ut _⟩) λ_=>jn (g1.trans g2).hh (λa ea _=>by cases ea;exact nf') (YC.mk g2.fh hn' nf' (Ut _))
 match d0,a2,r1 with
 | .tup ds,a2,r1=>
  have a2:(match ZG ds with | some ns=>if ns.length<64 then ZA (D.lst ((YX (YW ns)).map .int))else Zv | none=>Zv) s1=some (d,s'):=a2
  cases he:ZG ds with
  | none=>rw[he]at a2;cases a2
  | some ns=>
   rw[he]at a2;obtain⟨p,vs,rfl,np,hp,rp⟩:=jc.mp r1;rw[WA he]at rp;rw[jm rp]at hp;exact go ns a2 ⟨p,rfl,.inr (ZS.of (g1.fh _ _ np hp))⟩
 | .lst ds,a2,r1=>
  have a2:(match ZG ds with | some ns=>if ns.length<64 then ZA (D.lst ((YX (YW ns)).map .int))else Zv | none=>Zv) s1=some (d,s'):=a2
  cases he:ZG ds with
  | none=>rw[he]at a2;cases a2
  | some ns=>
   rw[he]at a2;obtain⟨p,vs,rfl,np,hp,rp⟩:=jb.mp r1;rw[WA he]at rp;rw[jm rp]at hp;exact go ns a2 ⟨p,rfl,.inl (ZF.of (g1.fh _ _ np hp))⟩
end
section
variable {X:Cx}{G:Gh}{ob own:List Nat}{fr:Bool}{f:Zb->M D}
end
end TF
namespace TT
open L2 TS
section
variable {prog:xE}{w:World}{A:xF}{E:xG}{s:Shared}
end
end TT
namespace TS
open L2
section
variable {prog:xE}{w:World}{A:xF}{E:xG}{s:Shared}
end
end TS
namespace TF
open L2 TS
section
variable {X:Cx}{G:Gh}
end
end TF
namespace TF
open L2 TT
section
variable {X:Cx}{G:Gh}
end
end TF
namespace TQ
open L2 TF TQ
open TP
open TP2
open TP3
end TQ
namespace TF
open L2
section
variable {X:Cx}{G:Gh}{f g:Zb->M D}
end
end TF
namespace TQ
open L2 TF
end TQ
namespace TF
open L2
section
variable {X:Cx}{G:Gh}
def Zeg (jL:List Value):slicePick jL.toArray none none (some (-1))=jL.reverse.toArray:=by
 have h:=HT.pick_rev jL.toArray;have h2:(jL.toArray).toList=jL:=rfl;rw[h2]at h;rw[<-h];unfold slicePick sliceBounds;simp only[Option.getD_some,show ¬((-1:Int) > 0) by decide,if_false];unfold sliceRange;simp only[show ¬((-1:Int) > 0) by decide,if_false];rw[List.filterMap_map];congr 1;have e:(if ((jL.toArray.size:Nat):Int)-1 > -1 then (((jL.toArray.size:Nat):Int)-1 - -1 - -1-1) / (- -1)else 0).toNat=jL.toArray.size:=by
  rw[show(- -1:Int)=1 by decide,Int.ediv_one];split <;> omega
 rw[e];congr 1;funext k;show jL.toArray[_]?=jL.toArray[_]?;rw[Int.mul_comm]
def Zp0 (K:ql)(te:TE):TE:=fun σ H Q=>te σ H λx H1=>∃a xs,x=.ref a/\ZF K H1 a xs/\∀p,H1 p=none->Q (.ref p) (Zi H1 p (.lst xs.reverse))
def Znw {e:Expr}{te:TE}{j p2 p3 p4 pos}(he:PE X e te):PE X (.Subscript e (.Slice none none (some (.UnaryOp .USub (.Constant (.int 1) j p3) p4)) p2) pos) (Zp0 X.K te):=by
 intro jJ s σ H Q I h;refine Subscript_ (ZL (he jJ s σ H _ I h) λv s1 ⟨x,H1,I1,r1,q1⟩=>?_);obtain⟨a,xs,rfl,hx,q⟩:=q1
 cases r1
 refine wpAny_Slice ?_;rw[evalPart_none];refine xb ?_;refine xb ?_;rw[evalPart_some];refine ZL (ZnZ ZkL Y8 jJ s1 σ H1 (λy H2=>y=.int (-1)/\H2=H1) I1 ⟨1,rfl,rfl,rfl⟩) λu s3 ⟨y,H3,I3,r3,q3⟩=>?_;obtain⟨rfl,rfl⟩:=q3;obtain⟨t,rfl⟩:=r3;have I4:Inv X jJ σ H3 { s3 with heap:=s3.heap.push { cls:=.type "slice",data:=.fields #[.none,.none,.int (-1) t] } }:=I3.kept (t':=s3.toks) λb ob q=>qh _ q;obtain⟨jL,r,ht,hz⟩:=I4.list hx;have jT:=r.length;show xf (xC X.prog X.w) X.A (subscriptTail e (.Slice none none (some (.UnaryOp .USub (.Constant (.int 1) j p3) p4)) p2) (.ref a) (.ref s3.heap.objs.size)) (EP X jJ σ Q) X.xe { s3 with heap:=s3.heap.push { cls:=.type "slice",data:=.fields #[.none,.none,.int (-1) t] } };refine tail_any (ops:=[.ref a,.ref s3.heap.objs.size]) ht.isList.typeIs slot_list_getitem.lookup ?_ (by with_unfolding_all rfl);refine wpAny_getItem_list_slice (vs:=.int (-1) t) (st:=some (-1)) ht.isList (Heap.IsSliceOf.new ..) .none .none (.int _ _) (by simp) ?_ (by rw[qy] <;> omega);rw[Zeg];refine⟨.ref _,_,I4.laid (t':=s3.toks) (o:=.lst xs.reverse) (λb ob q=>qh _ q) (qq _) ?_,rfl,q _ (I4.hok.fresh (qq _))⟩;exact⟨by rw[qbb];exact hz,_,0,ZbS r,qz _ rfl⟩
def Zol (f:Zb->M D):Zb->M D:=fun ρ=>Zq (f ρ) λd=>match d with | .lst ds=>ZA (.lst ds.reverse) | _=>Zv
def Znx {e:Expr}{j p2 p3 p4 pos}{f:Zb->M D}{r1:Bool}(he:PD X G r1 e f):PD X G true (.Subscript e (.Slice none none (some (.UnaryOp .USub (.Constant (.int 1) j p3) p4)) p2) pos) (Zol f):=by
 obtain⟨t,p,q⟩:=he.drop;refine⟨_,Znw p,fun σ Hf H ρ s d s' Q e1 e2 e3 e4 k=>?_⟩;obtain⟨d0,s1,a1,a2⟩:=ZC e4;refine q σ Hf H ρ s d0 s1 _ e1 e2 e3 a1 λv jV H1 g1 kb r1=>?_
 match d0,a2,r1 with
 | .lst ds,a2,r1=>
  obtain⟨rfl,rfl⟩:=ZO a2;obtain⟨a,vs,rfl,na,ha,ra⟩:=jb.mp r1;refine⟨a,vs,rfl,ZF.of (g1.fh _ _ na ha),λl hl=>?_⟩;have nf:=Gh.nofp kb hl;have g2:=Gr.new (o:=.lst vs.reverse) g1.fh hl nf;have rr:=ra.reverse;exact k (.ref l) _ _ (g1.trans g2) (Gh.grow kb hl) (jb.mpr ⟨l,_,rfl,nf,ZI,rr.ext g2.ff⟩) λ_=>jn g1.hh (λa ea _=>by cases ea;exact nf) (YC.mk g1.fh hl nf rr)
end
def boot_sum:xj "sum" = some (.builtin "sum"):=by decide +kernel
section
variable {X:Cx}{G:Gh}
def Vu (ns:List Int):Bool:=ns.all λn=>decide (-4294967296<=n)&&decide (n<=4294967296)
def ZgE {ns:List Int}(h:Vu ns=true):∀j:Nat,-(4294967296*(j:Int))<=(ns.take j).sum/\(ns.take j).sum<=4294967296*(j:Int):=by
 intro j
 induction ns generalizing j with
 | nil=>rw[List.take_nil];show _<=(0:Int)/\(0:Int)<=_;omega
 | cons n r ih=>
  cases j with
  | zero=>rw[List.take_zero];show _<=(0:Int)/\(0:Int)<=_;omega
  | succ j=>
   unfold Vu at h;simp only[qbp,qV,decide_eq_true_eq]at h;have:=ih h.2 j;rw[List.take_succ_cons,List.sum_cons];omega
def dSum:List D->Option D
 | [.lst ds]=>match ZG ds with | some ns=>if Vu ns=true then some (.int ns.sum)else none | none=>none
 | _=>none
def Zj7 (hc:X.calm=true):XB X (.builtin "sum") (λxs H Q=>∃p ns,xs=[.ref p]/\ZF X.K H p (ns.map V.int)/\Vu ns=true/\Q (.int ns.sum) H):=by
 intro jJ s σ H xs us Q I r h;obtain⟨p,ns,rfl,hp,ok,q⟩:=h;obtain⟨u,rfl,ru⟩:=XI r
 cases ru
 obtain⟨jL,rv,pl,hz⟩:=I.list hp;have hi:IntsAre jL ns:=W8 rv;obtain⟨xs,e⟩:=hi.allInts.items;have hns:ns=xs.toList.map (·.1):=by rw[<-hi.numsOf,<-nums_intItems,<-e]
 have hl:=pl.isList;rw[e]at hl;have jT:ns.length=xs.size:=by rw[hns,qd,qL]
 have hz2:ns.length<=16777216:=by
  have:=hz;rw[qd]at this;rw[show xg=16777216 by decide]at this;exact this
 refine sum_intList (I.ok.hd hc) hl (λj hj=>?_) λh' tk t' hk=>?_
 ·rw[preSum_eq,<-hns]
  have h1:=ZgE ok (j+1);have h2:-4294967296<=numAt xs j/\numAt xs j<=4294967296:=by
   rw[numAt_eq,<-hns];have hm:ns.getD j 0∈ns:=getD_mem (by omega);have:=zj.mp ok _ hm;simp only[qV,decide_eq_true_eq]at this;exact this
  constructor
  ·constructor <;> omega
  ·constructor <;> omega
 ·rw[preSum_eq,<-hns,<-jT,yw]
  exact⟨.int ns.sum,H,I.kept (t':=tk) hk,⟨_,rfl⟩,q⟩
def Zj8 (hc:X.calm=true):X2 X G (.builtin "sum") dSum:=
 ⟨_,Zj7 hc,λHf H s xs ds c Q e1 st r q k=>by
  match ds,q,r with
  | [.lst es],q,r=>
   have q:(match ZG es with | some ns=>if Vu ns=true then some (D.int ns.sum)else none | none=>none)=some c:=q
   cases he:ZG es with
   | none=>rw[he]at q;cases q
   | some ns=>
    rw[he]at q;by_cases ok:Vu ns=true
    ·have q:(if Vu ns=true then some (D.int ns.sum)else none)=some c:=q
     rw[if_pos ok]at q
     cases q
     obtain⟨v,rfl,rv⟩:=jh r;obtain⟨p,vs,rfl,np,hp,rp⟩:=jb.mp rv;rw[WA he]at rp;rw[jm rp]at hp;exact⟨p,ns,rfl,ZF.of (e1 _ _ np hp),ok,k _ Hf H (.refl e1) st (ja.mpr rfl) (.scal λz=>z)⟩
    ·have q:(if Vu ns=true then some (D.int ns.sum)else none)=some c:=q
     rw[if_neg ok]at q;cases q⟩
end
open PySem.SeqAt
open AutoSeq1 (wpAny_loadPart')
def ZgF (l:Addr)(items:Array Value)(n:Nat)(dd:Option Addr)(sl:Array (Option Value))(u:Tok) :
  Meets (Builtin.«tuple.__mul__» ⟨[.ref l,.int 1 u],[]⟩) (λ_ R s=>s.heap.get? l=some { cls:=.type "tuple",dict:=dd,data:=.seq items n,slots:=sl }/\R (.ok (.ret (qQ l))) s):=
 .of_wp λprog w A R s h=>by
  obtain⟨hp,g,d,tk,os⟩:=s;obtain⟨hl,h⟩:=h;have f1:=qbF;have f2:=yV;have f3:=qaT;have f4:=qaF;have f5:=qaG;wp_walk using wpAny_loadPart' hl;exact⟨_,rfl,h⟩
def ZgG (l:Addr)(items:Array Value)(n:Nat)(dd:Option Addr)(sl:Array (Option Value))(u:Tok)(hc1:items.isEmpty=false) :
  Meets (Builtin.«tuple.__mul__» ⟨[.ref l,.int 0 u],[]⟩) (λ_ R s=>s.heap.get? l=some { cls:=.type "tuple",dict:=dd,data:=.seq items n,slots:=sl }/\R (.ok (.ret (qQ s.heap.objs.size))) { s with heap:=s.heap.push { cls:=yf "tuple",data:=Data.seq #[] },toks:=s.toks }):=
 .of_wp λprog w A R s h=>by
  obtain⟨hp,g,d,tk,os⟩:=s;obtain⟨hl,h⟩:=h;have f1:=qbF;have f2:=yV;have f3:=qaT;have f4:=qaF;have f5:=qaG;wp_walk using wpAny_loadPart' hl;exact⟨_,rfl,h⟩
section
variable {X:Cx}{G:Gh}
def Zpm (K:ql):R2:=λx y H Q=>∃l xs,x=.ref l/\y=.int 1/\ZS K H l xs/\Q (.ref l) H
def Zpn (K:ql):R2:=λx y H Q=>∃l xs,x=.ref l/\y=.int 0/\ZS K H l xs/\xs≠[]/\∀p,H p=none->Q (.ref p) (Zi H p (.tup []))
def ZlW:Yp X (binaryOp .Mult) (Zpm X.K):=by
 intro jJ s σ H x y v u Q I rx ry h;obtain⟨l,xs,rfl,rfl,hH,q⟩:=h
 cases rx
 obtain⟨t,rfl⟩:=ry;obtain⟨jL,r,p1,_⟩:=I.tuple hH;obtain⟨⟨cls,dd,data,sl⟩,ho,hc,n,hd⟩:=id p1;simp only at hc hd;subst hc hd;exact wpAny_binaryOp_repeat_ref (T:="tuple") (U:="int") (by decide) ⟨_,ho,rfl⟩ (λs'=>typeIs_int s' 1 t) Zag qa6 yB ZaT qaY.lookup
  (call_meets yB (typeIs_int s 1 t) qaZ (qaK _ _) (Zaw 1 t l jL.toArray n dd sl)
   ⟨ho,rfl,⟨_,ho,rfl⟩,call_meets yK ⟨_,ho,rfl⟩ qaH (qay _ _) (ZgF l jL.toArray n dd sl t) ⟨ho,.ref l,H,I,rfl,q⟩⟩)
def ZlX:Yp X (binaryOp .Mult) (Zpn X.K):=by
 intro jJ s σ H x y v u Q I rx ry h;obtain⟨l,xs,rfl,rfl,hH,hne,q⟩:=h
 cases rx
 obtain⟨t,rfl⟩:=ry;obtain⟨jL,r,p1,_⟩:=I.tuple hH;obtain⟨⟨cls,dd,data,sl⟩,ho,hc,n,hd⟩:=id p1;simp only at hc hd;subst hc hd;have hne':jL≠[]:=λz=>hne (r.nil_iff.mp z);have hemp:jL.toArray.isEmpty=false:=by cases jL with | nil=>exact absurd rfl hne' | cons a b=>rfl
 exact wpAny_binaryOp_repeat_ref (T:="tuple") (U:="int") (by decide) ⟨_,ho,rfl⟩ (λs'=>typeIs_int s' 0 t) Zag qa6 yB ZaT qaY.lookup
  (call_meets yB (typeIs_int s 0 t) qaZ (qaK _ _) (Zaw 0 t l jL.toArray n dd sl)
   ⟨ho,rfl,⟨_,ho,rfl⟩,call_meets yK ⟨_,ho,rfl⟩ qaH (qay _ _) (ZgG l jL.toArray n dd sl t hemp) ⟨ho,.ref s.heap.objs.size,_,I.laid (t':=s.toks) (o:=.tup []) (λb ob q=>qh _ q) (qq _) ⟨zl _,[],.nil,qcr _ _⟩,rfl,q _ (I.hok.fresh (qq _))⟩⟩)
def ZiQ (d e:D):Option D:=match d,e with
 | .tup ds,.int k=>if k=1 then some (.tup ds)else if k=0/\ds≠[]then some (.tup [])else JR (.tup ds) (.int k)
 | _,_=>JR d e
def ZlY:XE X G (binaryOp .Mult) ZiQ:=by
 obtain⟨r0,po,qo⟩:=Zli (X:=X) (G:=G);refine⟨_,po.or (ZlW.or ZlX),λHf H s x y d e c Q e1 st rx ry q k=>?_⟩;by_cases hd:∃ds j,d=.tup ds/\e=.int j
 ·obtain⟨ds,j,rfl,rfl⟩:=hd
  have q:(if j=1 then some (D.tup ds)else if j=0/\ds≠[]then some (.tup [])else JR (.tup ds) (.int j))=some c:=q;by_cases h1:j=1
  ·rw[if_pos h1]at q
   cases q
   obtain⟨p,vs,rfl,np,hp,rp⟩:=jc.mp rx;refine .inr (.inl ⟨p,vs,rfl,by rw[ja.mp ry,h1],ZS.of (e1 _ _ np hp),?_⟩);exact k (.ref p) _ _ (.refl e1) st (jc.mpr ⟨p,vs,rfl,np,hp,rp⟩) (.scal λz=>z)
  ·rw[if_neg h1]at q
   by_cases h2:j=0/\ds≠[]
   ·rw[if_pos h2]at q
    cases q
    obtain⟨p,vs,rfl,np,hp,rp⟩:=jc.mp rx;refine .inr (.inr ⟨p,vs,rfl,by rw[ja.mp ry,h2.1],ZS.of (e1 _ _ np hp),λz=>h2.2 (zB.mp (by rw[rp.length,z];rfl)),λl hl=>?_⟩);have nf:=Gh.nofp st hl;have g2:=Gr.new (o:=.tup []) e1 hl nf;exact k (.ref l) _ _ g2 (Gh.grow st hl) (jc.mpr ⟨l,_,rfl,nf,ZI,Zk.nil_iff.mpr rfl⟩) (.scal λz=>z)
   ·rw[if_neg h2]at q
    exact .inl (qo Hf H s x y _ _ c Q e1 st rx ry q k)
 ·have q':JR d e=some c:=by
   unfold ZiQ at q;split at q
   ·exact absurd ⟨_,_,rfl,rfl⟩ hd
   ·exact q
  exact .inl (qo Hf H s x y _ _ c Q e1 st rx ry q' k)
end
end TF
namespace TQ
open L2 TF TQ
open TP
open TP2
open TP3
def ZhV:Zb->M Out:=(Zg (ZT 1 (ZW (Zc (Ze Zl (Za 0) (dC (.int 0))) (Zc (Zn Vi (Zc (Za 0) Zd)) Zd))))
 (Zg (ZK (ZR [none,some 1] (Z8 (Ze Zl (Za 0) (dC (.int 0)))) (Zw 0) Z3 (Zn JF (Zc (Za 1) (Zc (Za 0) Zd)))))
 Zo))
def Ur:List D->M D:=runB 2 1 ZhV
def ZcL (Fs:List D->M D):Zb->M Out:=(Zg (ZT 4 (ZR [none,some 2,some 0] (ZV (Za 3)) (Zw 0) (XX (asB (Ze Xj (Za 0) (Za 1))) (asB (Ze Wa (Za 0) (Ze Zl (Za 2) (Za 1))))) (Za 0)))
 (Zg (ZK (Ze Y5 (XC (Zc (Za 2) Zd)) (Zn Fs (Zc (Za 0) (Zc (Za 1) (Zc (Za 4) Zd))))))
 Zo))
def Zad (Fs:List D->M D):List D->M D:=runB 5 4 (ZcL Fs)
def Zeh:Zb->M Out:=(Zg (ZK (ZR [none,some 0,some 1] (ZV (Za 2)) (Zw 0) (asB (Ze YI (Za 0) (Ze Zl (Za 1) (Za 2)))) (Za 0)))
 Zo)
def ZaI:List D->M D:=runB 3 3 Zeh
def Zj9:Zb->M Out:=(Zg (ZK (ZE dSum (Zc (ZR [none,some 0] (ZV (Za 1)) (Zw 0) Z3 (Ze Zl (Za 1) (Za 0))) Zd)))
 Zo)
def Bp:List D->M D:=runB 2 2 Zj9
def Zah (Fs:List D->M D):Zb->M Out:=(Zg (YF (asB (Ze Xc (Za 2) (XC Zd)))
 (Zg (ZK (XC Zd))
 Zo)
 Zo)
 (Zg (ZT 3 (ZR [none,some 0,some 2] (ZV (Za 2)) (Zw 0) Z3 (Zn ZaI (Zc (Za 1) (Zc (Za 0) (Zc (Za 2) Zd))))))
 (Zg (YZ (Z8 (ZE Yw (Zc (Za 2) Zd))) (Zw 4)
 (Zg (YF (asB (Ze Jb (Zn Bp (Zc (Za 1) (Zc (Ze Zl (Za 3) (Za 4)) Zd))) (Ze Zl (Za 1) (Ze Zl (Za 2) (Za 4)))))
 (Zg (ZK (Zn (Zad Fs) (Zc (Za 0) (Zc (Za 1) (Zc (Ze Zl (Za 2) (Za 4)) (Zc (Za 2) Zd))))))
 Zo)
 Zo)
 Zo))
 (Zg (ZT 5 (ZR [none] (ZV (Za 3)) (Zw 0) Z3 (ZE Yw (Zc (Za 0) Zd))))
 (Zg (ZT 6 (Ze Zl (Za 2) (Ze Zfv (Za 5) (ZE ZiL (Zc (Za 5) Zd)))))
 (Zg (ZT 7 (Zn (Zad Fs) (Zc (Za 0) (Zc (Za 1) (Zc (Za 6) (Zc (Za 2) Zd))))))
 (Zg (ZT 8 (Zn Fs (Zc (Za 0) (Zc (Za 1) (Zc (ZR [none,some 6] (ZV (Za 2)) (Zw 0) (asB (Ze Xj (Za 0) (Za 1))) (Za 0)) Zd)))))
 (Zg (ZK (B5 (asB (Ze Jc (Zn Bp (Zc (Za 1) (Zc (Za 7) Zd))) (Zn Bp (Zc (Za 1) (Zc (Za 8) Zd))))) (Za 7) (Za 8)))
 Zo))))))))
def UN:Nat->List D->M D
 | 0=>λ_=>Zv
 | n+1=>runB 9 3 (Zah (UN n))
def Za2:Zb->M Out:=(Zg (ZT 2 (ZR [none] (ZV (Zn Ur (Zc (Zn Ua (Zc (Za 0) Zd)) Zd))) (Zw 0) Z3 (ZE JD (Zc (ZR [none] (ZV (Za 0)) (Zw 0) Z3 (ZW (Zc (Za 0) (Zc (dC (.bl true)) Zd)))) Zd))))
 (Zg (ZK (ZE UX (Zc (ZE Jy (Zc (Zn (UN 26) (Zc (Za 2) (Zc (Za 1) (Zc (Vj (Ze Zl (Za 0) (dC (.int 0)))) Zd)))) Zd)) Zd)))
 Zo))
def Bb:List D->M D:=runB 3 2 Za2
def Zpo:Zb->M Out:=(Zg (ZT 1 (Zn Bb (Zc (Za 0) (Zc (Ze ZiQ (ZW (Zc (dC (.int 1)) Zd)) (Ze Zl (Za 0) (dC (.int 0)))) Zd))))
 (Zg (ZK (ZW (Zc (ZE Yw (Zc (Za 1) Zd)) (Zc (Za 1) Zd))))
 Zo))
def Vq:List D->M D:=runB 2 1 Zpo
def ZfA:Zb->M Out:=(Zg (ZT 2 (Zn Ur (Zc (Za 0) Zd)))
 (Zg (WI 3 (dC (.dk [])))
 (Zg (YZ (fun ρ=>(ZV (Za 1)) (Yq [3] ρ)) (Zw 4)
 (Zg (JS 3 (fun ρ=>(Za 4) (Yq [3] ρ)) (Y6 true (Zn Jj (Zc (ZR [none,some 3] (ZV (Ze Zl (Za 2) (Za 4))) (Zw 0) (asB (Ze YI (Za 0) (Za 1))) (Ze VD (Za 1) (Za 0))) Zd))))
 Zo))
 (Zg (ZK (ZE UX (Zc (ZR [none,some 3] (Z8 (Ze Zl (Za 0) (dC (.int 0)))) (Zw 0) Z3 (Ze VD (Za 1) (Za 0))) Zd)))
 Zo))))
def Bf:List D->M D:=runB 5 2 ZfA
def Zei:Zb->M Out:=(Zg (ZT 1 (Zn Ur (Zc (Za 0) Zd)))
 (Zg (ZT 2 (Ze Zl (Zn Vq (Zc (Za 0) Zd)) (dC (.int 0))))
 (Zg (ZT 3 (Zn (V8 10) (Zc (Za 1) (Zc (Za 2) (Zc (ZW Zd) Zd)))))
 (Zg (BN 1000000 (asB (Ze dIsN (Za 3) (dC .non)))
 (Zg (sAug 2 (Y6 true (dC (.int 1))))
 (Zg (ZT 3 (Zn (V8 10) (Zc (Za 1) (Zc (Za 2) (Zc (ZW Zd) Zd)))))
 Zo)))
 (Zg (ZK (ZW (Zc (Za 2) (Zc (Za 3) Zd))))
 Zo)))))
def Bd:List D->M D:=runB 4 1 Zei
end TQ
namespace TF
open L2
section
variable {X:Cx}{G:Gh}
end
section
variable {X:Cx}{G:Gh}
end
end TF
namespace TS
open PySem.W
def VP {α:Type}(lt:Nat->Nat->Bool):KasT α->α
 | .ret a=>a
 | .ask i j k=>VP lt (k (lt i j))
def Yg.run {α:Type}{lt:Nat->Nat->Bool}{n:Nat}{Q:α->Prop}:∀{t:KasT α},Yg lt n t Q->Yg lt n t (λa=>a=VP lt t)/\Q (VP lt t)
 | .ret a,h=>⟨rfl,h⟩
 | .ask i j k,h=>⟨⟨h.1,h.2.1,(Yg.run (t:=k (lt i j)) h.2.2).1⟩,(Yg.run (t:=k (lt i j)) h.2.2).2⟩
structure OrdW (lt:Nat->Nat->Bool):Prop where
 tr:∀a b c,lt a b=false->lt b c=false->lt a c=false
 as:∀a b,lt a b=true->lt b a=false
section
variable {lt:Nat->Nat->Bool}{n:Nat}{p q:Array Nat}
def V2 (lt:Nat->Nat->Bool)(p:Array Nat)(m:Nat):Prop:=∀i j,i<j->j<m->lt (g p j) (g p i)=false
def J8 (lt:Nat->Nat->Bool)(p:Array Nat)(m:Nat):Prop:=∀i j,i<j->j<m->lt (g p i) (g p j)=false
def EqW (lt:Nat->Nat->Bool)(p:Array Nat)(l m:Nat):Prop:=∀i j,l<=i->i<m->l<=j->j<m->lt (g p i) (g p j)=false
def OrdW.irr (o:OrdW lt)(a:Nat):lt a a=false:=by
 cases e:lt a a with
 | false=>rfl
 | true=>have:=o.as a a e;rw[e]at this;cases this
def ascW (o:OrdW lt)(h:Pm n p):∀(f k:Nat),1<=k->k+f=n->V2 lt p k->Yg lt n (kas_asc p f k) (λm=>k<=m/\m<=n/\V2 lt p m/\(m<n->lt (g p m) (g p (m-1))=true))
 | 0,k,h1,h2,hs=>⟨qq _,by omega,hs,λz=>by omega⟩
 | f+1,k,h1,h2,hs=>by
  show g p k<n/\g p (k-1)<n/\Yg lt n (if lt (g p k) (g p (k-1))=true then .ret k else kas_asc p f (k+1)) _;refine⟨h.bd _,h.bd _,?_⟩
  cases e:lt (g p k) (g p (k-1))with
  | true=>rw[if_pos rfl];exact⟨qq _,by omega,hs,λ_=>e⟩
  | false=>
   rw[if_neg (by simp)];refine Yg.mono (λm ⟨a,b⟩=>⟨by omega,b⟩) (ascW o h f (k+1) (by omega) (by omega) λi j hij hj=>?_);by_cases hjk:j<k
   ·exact hs i j hij hjk
   ·have:j=k:=by omega
    subst this;by_cases hi:i=j-1
    ·subst hi;exact e
    ·exact o.tr _ _ _ e (hs i (j-1) (by omega) (by omega))
def JI (hj:q.size=n){l m:Nat}(hl:l<=m)(hm:m<=n)(k:Nat):g (kas_rev q l m) k=if l<=k/\k<m then g q (l+(m-1-k))else g q k:=by
 have e:=getElem?_mirror_all (xs:=q) (i:=l) (j:=m) (by omega) k;unfold kas_rev;by_cases hk:l<=k/\k<m
 ·rw[if_pos hk]at e
  rw[if_pos hk];exact U8 (by rw[e];congr 1;omega)
 ·rw[if_neg hk]at e
  rw[if_neg hk];exact U8 e
def Zom (hs:p.size=n){l m:Nat}(hl:l<=m)(hm:m<=n)(hd:J8 lt p m)(he:EqW lt p l m):J8 lt (kas_rev p l m) m:=λi j hij hj=>by
 rw[JI hs hl hm,JI hs hl hm];by_cases hi:l<=i
 ·rw[if_pos ⟨hi,by omega⟩,if_pos ⟨by omega,hj⟩]
  exact he _ _ (by omega) (by omega) (by omega) (by omega)
 ·rw[if_neg (λz=>hi z.1)]
  by_cases hjl:l<=j
  ·rw[if_pos ⟨hjl,hj⟩]
   exact hd _ _ (by omega) (by omega)
  ·rw[if_neg (λz=>hjl z.1)]
   exact hd _ _ hij hj
def ZiR (o:OrdW lt):∀(f k q:Nat) (p:Array Nat),Pm n p->q+1<=k->k+f=n->J8 lt p k->EqW lt p (k-(q+1)) k->
  Yg lt n (kas_desc f p k q) (λr=>Pm n r.1/\r.2.2+1<=r.2.1/\r.2.1<=n/\J8 lt r.1 r.2.1/\EqW lt r.1 (r.2.1-(r.2.2+1)) r.2.1)
 | 0,k,q,p,h,h1,h2,hd,he=>⟨h,h1,by show k<=n;omega,hd,he⟩
 | f+1,k,q,p,h,h1,h2,hd,he=>by
  show g p k<n/\g p (k-1)<n/\Yg lt n (if lt (g p k) (g p (k-1))=true then (if q > 0 then kas_desc f (kas_rev p (k-(q+1)) k) (k+1) 0 else kas_desc f p (k+1) 0)else .ask (g p (k-1)) (g p k) λd=>if d=true then .ret (p,k,q)else kas_desc f p (k+1) (q+1)) _;refine⟨h.bd _,h.bd _,?_⟩;have one:∀p:Array Nat,EqW lt p (k+1-(0+1)) (k+1):=λp i j a b c d=>by
   have:i=j:=by omega
   subst this;exact o.irr _
  cases e:lt (g p k) (g p (k-1))with
  | true=>
   rw[if_pos rfl];have e2:=o.as _ _ e;by_cases hq:q > 0
   ·rw[if_pos hq]
    have h':Pm n (kas_rev p (k-(q+1)) k):=h.of (mirror_perm _ _ _ _);refine ZiR o f (k+1) 0 _ h' (by omega) (by omega) (λi j hij hj=>?_) (one _);have hr:=Zom h.size (by omega:k-(q+1)<=k) (by omega) hd he;by_cases hjk:j<k
    ·exact hr i j hij hjk
    ·have:j=k:=by omega
     subst this;rw[JI h.size (by omega) (by omega),JI h.size (by omega) (by omega),if_neg (by omega:¬(j-(q+1)<=j/\j<j))];have hlast:∀x,x<j->lt (g p x) (g p j)=false:=λx hx=>by
      by_cases hx1:x=j-1
      ·subst hx1;exact e2
      ·exact o.tr _ _ _ (hd x (j-1) (by omega) (by omega)) e2
     by_cases hi:j-(q+1)<=i/\i<j
     ·rw[if_pos hi];exact hlast _ (by omega)
     ·rw[if_neg hi];exact hlast _ hij
   ·rw[if_neg hq]
    refine ZiR o f (k+1) 0 p h (by omega) (by omega) (λi j hij hj=>?_) (one _);by_cases hjk:j<k
    ·exact hd i j hij hjk
    ·have:j=k:=by omega
     subst this;by_cases hi:i=j-1
     ·subst hi;exact e2
     ·exact o.tr _ _ _ (hd i (j-1) (by omega) (by omega)) e2
  | false=>
   rw[if_neg (by simp)];refine⟨h.bd _,h.bd _,?_⟩;show Yg lt n (if lt (g p (k-1)) (g p k)=true then .ret (p,k,q)else kas_desc f p (k+1) (q+1)) _
   cases e2:lt (g p (k-1)) (g p k)with
   | true=>rw[if_pos rfl];exact⟨h,h1,by show k<=n;omega,hd,he⟩
   | false=>
    rw[if_neg (by simp)];refine ZiR o f (k+1) (q+1) p h (by omega) (by omega) (λi j hij hj=>?_) λi j a b c d=>?_
    ·by_cases hjk:j<k
     ·exact hd i j hij hjk
     ·have:j=k:=by omega
      subst this;by_cases hi:i=j-1
      ·subst hi;exact e2
      ·exact o.tr _ _ _ (hd i (j-1) (by omega) (by omega)) e2
    ·have low:∀x,k-(q+1)<=x->x<k->lt (g p x) (g p k)=false/\lt (g p k) (g p x)=false:=λx hx hx2=>
      ⟨o.tr _ _ _ (he x (k-1) hx hx2 (by omega) (by omega)) e2,o.tr _ _ _ e (he (k-1) x (by omega) (by omega) hx hx2)⟩
     by_cases hi:i<k
     ·by_cases hj:j<k
      ·exact he i j (by omega) hi (by omega) hj
      ·have:j=k:=by omega
       subst this;exact(low i (by omega) hi).1
     ·have:i=k:=by omega
      subst this;by_cases hj:j<i
      ·exact(low j (by omega) hj).2
      ·have:j=i:=by omega
       subst this;exact o.irr _
def Zon (o:OrdW lt)(h:Pm n p){k:Nat}(h1:1<=k)(h2:k<=n)(hs:J8 lt p k):Yg lt n (kas_tail3 k n p) (λr=>1<=r.1/\r.1<=n/\Pm n r.2/\V2 lt r.2 r.1):=by
 have h':Pm n (kas_rev p 0 k):=h.of (mirror_perm _ _ _ _);have hs':V2 lt (kas_rev p 0 k) k:=λi j hij hj=>by
  rw[Zoi h.size h2,Zoi h.size h2,if_pos (by omega),if_pos (by omega)];exact hs _ _ (by omega) (by omega)
 refine Yg.bind (Yg.mono (λm ⟨a,b,c,_⟩=>?_) (ascW o h' (n-k) k h1 (by omega) hs'));exact⟨by show 1<=m;omega,b,h',c⟩
def Zoo (o:OrdW lt)(h:Pm n p){m:Nat}(h1:1<=m)(h2:m<n)(hd:J8 lt p (m+1)):Yg lt n (kas_descPart m n p) (λr=>1<=r.1/\r.1<=n/\Pm n r.2/\V2 lt r.2 r.1):=by
 refine Yg.bind (Yg.mono (λr ⟨r1,r2,r3,r4,r5⟩=>?_) (ZiR o (n-(m+1)) (m+1) 0 p h (by omega) (by omega) hd λi j a b c d=>by
  have:i=j:=by omega
  subst this;exact o.irr _))
 by_cases hq:r.2.2 > 0
 ·rw[if_pos hq]
  exact Zon o (r1.of (mirror_perm _ _ _ _)) (by omega) r3 (Zom r1.size (by omega) r3 r4 r5)
 ·rw[if_neg hq]
  exact Zon o r1 (by omega) r3 r4
def Zpp (o:OrdW lt)(h:Pm n p):Yg lt n (kas_count n p) (λr=>1<=r.1/\r.1<=n/\Pm n r.2/\V2 lt r.2 r.1):=by
 have hn:=h.pos;refine Yg.bind (Yg.mono (λm ⟨a,b,c,d⟩=>?_) (ascW o h (n-1) 1 (by omega) (by omega) λi j hij hj=>by omega));by_cases hm:m=n
 ·rw[if_pos (by simpa using hm)]
  exact⟨a,b,h,c⟩
 ·rw[if_neg (by simpa using hm)]
  have dm:=o.as _ _ (d (by omega));by_cases h1:m > 1
  ·rw[if_pos h1]
   refine⟨h.bd 0,h.bd (m-1),?_⟩;show Yg lt n (if lt (g p 0) (g p (m-1))=true then .ret (m,p)else kas_descPart m n (kas_rev p 0 m)) _
   cases e:lt (g p 0) (g p (m-1))with
   | true=>rw[if_pos rfl];exact⟨a,b,h,c⟩
   | false=>
    rw[if_neg (by simp)];have up:∀i j,i<m->j<m->lt (g p i) (g p j)=false:=λi j hi hj=>by
     -- g i<=g (m-1)<=g 0<=g j
     have x1:lt (g p 0) (g p j)=false:=by
      by_cases z:j=m-1
      ·subst z;exact e
      ·exact o.tr _ _ _ e (c j (m-1) (by omega) (by omega))
     by_cases z:i=0
     ·subst z;exact x1
     ·exact o.tr _ _ _ (c 0 i (by omega) hi) x1
    have h':Pm n (kas_rev p 0 m):=h.of (mirror_perm _ _ _ _);refine Zoo o h' (by omega) (by omega) λi j hij hj=>?_;rw[JI h.size (by omega) (by omega),JI h.size (by omega) (by omega),if_pos (by omega:0<=i/\i<m)];by_cases hjm:j<m
    ·rw[if_pos (by omega:0<=j/\j<m)]
     exact up _ _ (by omega) (by omega)
    ·have:j=m:=by omega
     subst this;rw[if_neg (by omega:¬(0<=j/\j<j))];exact o.tr _ _ _ (up _ (j-1) (by omega) (by omega)) dm
  ·rw[if_neg h1]
   have:m=1:=by omega
   subst this;refine Zoo o h (by omega) (by omega) λi j hij hj=>?_;have h1:i=0:=by omega
   have h2:j=1:=by omega
   subst h1 h2;exact dm
def ZhW (o:OrdW lt)(h:Pm n p){k:Nat}(hk:k<n)(hs:V2 lt p k):∀(f l r:Nat),l<=r->r<=k->r-l<=f->(∀i,i<l->lt (g p k) (g p i)=false)->(∀i,r<=i->i<k->lt (g p i) (g p k)=false)->
  Yg lt n (kas_place p k f l r) (λm=>m<=k/\(∀i,i<m->lt (g p k) (g p i)=false)/\∀i,m<=i->i<k->lt (g p i) (g p k)=false)
 | 0,l,r,h1,h2,h3,ha,hb=>⟨by omega,ha,λi hi=>hb i (by omega)⟩
 | f+1,l,r,h1,h2,h3,ha,hb=>by
  show Yg lt n (if l≥r then .ret l else .ask (g p k) (g p ((l+r) / 2)) λc=>if c=true then kas_place p k f l ((l+r) / 2)else kas_place p k f ((l+r) / 2+1) r) _;by_cases hlr:l≥r
  ·rw[if_pos hlr]
   exact⟨by omega,ha,λi hi=>hb i (by omega)⟩
  ·rw[if_neg hlr]
   refine⟨h.bd _,h.bd _,?_⟩;show Yg lt n (if lt (g p k) (g p ((l+r) / 2))=true then kas_place p k f l ((l+r) / 2)else kas_place p k f ((l+r) / 2+1) r) _
   cases e:lt (g p k) (g p ((l+r) / 2))with
   | true=>
    rw[if_pos rfl];refine ZhW o h hk hs f l _ (by omega) (by omega) (by omega) ha λi hi hik=>?_;have e2:=o.as _ _ e;by_cases hq:i=(l+r) / 2
    ·subst hq;exact e2
    ·exact o.tr _ _ _ (hs _ i (by omega) hik) e2
   | false=>
    rw[if_neg (by simp)];refine ZhW o h hk hs f _ r (by omega) h2 (by omega) (λi hi=>?_) hb;by_cases hq:i=(l+r) / 2
    ·subst hq;exact e
    ·exact o.tr _ _ _ e (hs i _ (by omega) (by omega))
def binW (o:OrdW lt):∀(f k:Nat) (p:Array Nat),Pm n p->1<=k->k+f=n->V2 lt p k->Yg lt n (kas_bin f p k) (λq=>Pm n q/\V2 lt q n)
 | 0,k,p,h,h1,h2,hs=>⟨h,by have:k=n:=(by omega);subst this;exact hs⟩
 | f+1,k,p,h,h1,h2,hs=>by
  refine Yg.bind (Yg.mono (λm ⟨a,b,c⟩=>?_) (ZhW o h (k:=k) (by omega) hs k 0 k (by omega) (by omega) (by omega) (λi hi=>by omega) λi hi hik=>by omega));have hg:∀i,g (bubble p k (k-m)) i=if i=m then g p k else if m<i/\i<=k then g p (i-1)else g p i:=λi=>by
   have e:=getElem?_bubble (xs:=p) (src:=k) (by rw[h.size];omega) (k-m) (by omega) i;rw[show k-(k-m)=m by omega]at e;by_cases q1:i=m
   ·rw[if_pos q1]at e⊢;exact U8 e
   ·rw[if_neg q1]at e⊢
    by_cases q2:m<i/\i<=k
    ·rw[if_pos q2]at e⊢;exact U8 e
    ·rw[if_neg q2]at e⊢;exact U8 e
  refine binW o f (k+1) _ (h.of (bubble_perm _ _ _)) (by omega) (by omega) λi j hij hj=>?_;rw[hg,hg];by_cases i1:i=m
  ·rw[if_pos i1,if_neg (by omega:¬j=m),if_pos (by omega:m<j/\j<=k)]
   exact c _ (by omega) (by omega)
  ·rw[if_neg i1]
   by_cases i2:m<i/\i<=k
   ·rw[if_pos i2,if_neg (by omega:¬j=m),if_pos (by omega:m<j/\j<=k)]
    exact hs _ _ (by omega) (by omega)
   ·rw[if_neg i2]
    by_cases j1:j=m
    ·rw[if_pos j1];exact b i (by omega)
    ·rw[if_neg j1]
     by_cases j2:m<j/\j<=k
     ·rw[if_pos j2]
      exact hs _ _ (by omega) (by omega)
     ·rw[if_neg j2]
      exact hs _ _ hij (by omega)
def ZlZ (o:OrdW lt)(hn:0<n):Yg lt n (kas_sort n) (λq=>Pm n q/\V2 lt q n):=by
 have h:Pm n (qW (qk n)):=⟨hn,by simp⟩;refine Yg.bind (Yg.mono (λr ⟨a,b,c,d⟩=>?_) (Zpp o h));by_cases hr:r.1<n
 ·rw[if_pos hr]
  have e:max r.1 1=r.1:=by omega
  rw[e];exact binW o _ _ _ c a (by omega) d
 ·rw[if_neg hr]
  exact⟨c,by have:r.1=n:=(by omega);rw[this]at d;exact d⟩
def Yy (lt:Nat->Nat->Bool)(n:Nat):List Nat:=if n<2 then qk n else (VP lt (kas_sort n)).toList
def Bi (o:OrdW lt):(Yy lt n).Perm (qk n):=by
 unfold Yy;by_cases h:n<2
 ·rw[if_pos h]
 ·rw[if_neg h]
  exact(ZlZ o (by omega)).run.2.1.pm
def ZgH (o:OrdW lt):(Yy lt n).Pairwise λa b=>lt b a=false:=by
 unfold Yy;by_cases h:n<2
 ·rw[if_pos h]
  match n,h with
  | 0,_=>exact qaL
  | 1,_=>exact List.pairwise_singleton _ _
 ·rw[if_neg h]
  obtain⟨h1,h2⟩:=(ZlZ (n:=n) o (by omega)).run.2;rw[zf];intro i j hi hj hij;have hs:=h1.size;have e:∀k,(hk:k<(VP lt (kas_sort n)).toList.length)->(VP lt (kas_sort n)).toList[k]=g (VP lt (kas_sort n)) k:=λk hk=>by
   have hk':k<(VP lt (kas_sort n)).size:=by simpa using hk
   unfold g;simp[Array.getD,hk']
  rw[e i hi,e j hj];exact h2 i j hij (by rw[qL,hs]at hj;exact hj)
end
end TS
namespace TF
open L2 TS PySem.W
section
variable {X:Cx}{jJ:Qb}{σ:St}{H:Hp}{s:Shared}
def UC (X:Cx)(σ:St)(sp:Heap->Sp):List V->Hp->(List V->Hp->Prop)->Prop
 | [],H,R=>R [] H
 | v::r,H,R=>∀base',Cells X σ base'->sp base' [v] H (λk H1=>UC X σ sp r H1 λks H2=>R (k::ks) H2) E0
structure KeyFn (X:Cx)(σ:St)(k:Nat)(f:Addr)(sp:Heap->Sp):Prop where
 fn:∀x,X.fn x=true
 ok:∃fd ps,Wr X.K fd ps []/\∀base',Cells X σ base'->FnOk X.prog X.w X.K X.mg base' ZQ k f fd ps (sp base')
def Zl0 {k:Nat}{f:Addr}{sp:Heap->Sp}{A:xF}{Q:VK}{E:xG}{u:Value}{v:V}(F:KeyFn X σ k f sp)(I:Inv X jJ σ H s)(hA:∀{base H s},Env0 X.prog X.w X.K X.mg base X.A X.stack s H->Env0 X.prog X.w X.K X.mg base A X.stack s H)(hr:Room k A)(rv:ZJ v u)(q:∀base',Cells X σ base'->sp base' [v] H Q E0) :
  xf (xC X.prog X.w) A (call (.ref f) [u]) (EP X jJ σ Q) E s:=by
 obtain⟨fd,ps,hb,F0⟩:=F.ok;obtain⟨e0,cs⟩:=ZeF I F.fn;have q':=q _ cs;have r:Zz [v] [u]:=.cons rv .nil;have hl:([u] ++ []).length=ps.length:=by rw[zp,<-r.length];exact(F0 _ cs).len _ _ _ _ q'
 refine xB (codeAny_mono ((F0 _ cs).run A X.stack s H ⟨[u],[]⟩ [u] [v] Q E0 hr (hA e0) (by have:=hb s [u] I.kIn hl;rw[zp]at this;exact this) r q') λr s' hq=>?_)
 cases r with
 | error e=>exact hq.elim
 | ok fl=>
  cases fl with
  | ret u=>exact I.after hq
  | next=>exact zU hq
  | brk=>exact zU hq
  | cont=>exact zU hq
def J9 (X:Cx)(jJ:Qb)(b:Addr):Prop:=b≠X.env.locals/\b∉X.fs/\(b∈X.ex∨X.s₀.heap.objs.size<=b)/\(∀x c,X.env.cells.lookup x=some c->c≠b)/\∀p∈X.pn++jJ,p.1≠b
def Zl1 (I:Inv X jJ σ H s){b:Addr}(hb:s.heap.objs.size<=b):J9 X jJ b:=(I.fpOk hb (H':=H) (I.hok.fresh hb)).2
def ZiS {b:Addr}{o o':Obj}{rest:Qb}{h':Heap}{t':Nat}(I:Inv X (jJ++(b,o)::rest) σ H s)(k:∀c u,c≠b->s.heap.get? c=some u->h'.get? c=some u)(hb':h'.get? b=some o')(hd:∀v,o'.data≠.cell v)(fp:J9 X jJ b)
  (hr:∀p∈rest,p.1≠b):Inv X (jJ++(b,o')::rest) σ H { s with heap:=h',toks:=t' }:=by
 obtain⟨pb1,pb2,pb3,pb4,pb5⟩:=I.pin (b,o) (qp _ (qp _ (.head _)));have I1:Inv X (jJ++rest) σ H s:=I.pins_of λp hp=>I.pin p (qp _ ((qP.mp hp).elim (λz=>qY _ z) λz=>qp _ (.tail _ z)));obtain⟨f1,f2,f3,f4,f5⟩:=fp;have I2:=I1.turned (t':=t') k pb2 f1 f3 f4 (λp hp=>by
  rcases qP.mp hp with z | z
  ·exact f5 p (qY _ z)
  ·rcases qP.mp z with z | z
   ·exact f5 p (qp _ z)
   ·exact hr p z)
 refine I2.pins_of λp hp=>?_;rcases qP.mp hp with z | z
 ·exact I2.pin p (qp _ (qY _ z))
 ·rcases qm.mp z with rfl | z
  ·exact⟨hb',pb2,f1,f2,hd⟩
  ·exact I2.pin p (qp _ (qp _ z))
def Zp1 {b:Addr}{o:Obj}{u:HO}{rest:Qb}(I:Inv X (jJ++(b,o)::rest) σ H s)(fp:J9 X jJ b)(hx:X.s₀.heap.objs.size<=b)(new:Yz X.prog X.w (Zi H b u) s.heap b u):Inv X jJ σ (Zi H b u) s:=by
 obtain⟨pb1,pb2,pb3,pb4,pb5⟩:=I.pin (b,o) (qp _ (qp _ (.head _)));obtain⟨f1,f2,f3,f4,f5⟩:=fp;refine⟨I.ok,I.os,I.bare,?_,I.loc,I.cell,?_,?_,?_,?_,I.len⟩
 ·exact⟨I.base.keep,I.base.slot,λc q e n x=>by
   rw[Zr (qH (qS (qD e) hx))];exact I.base.free c q e n x,I.base.there,λc xs e=>by have:=I.base.tups c xs e;rw[Zr (Z1 this pb2)];exact this,λc q xs e=>by have:=I.base.frzs c q xs e;rw[Zr (Z1 this pb2)];exact this,λc ps e=>by
   obtain⟨m,this⟩:=I.base.tbls c ps e;exact⟨m,by rw[Zr (Z1 this pb2)];exact this⟩⟩
 ·rw[Zr (zg f1)];exact I.free
 ·intro x c e
  rw[Zr (f4 x c e)];exact I.freeC x c e
 ·intro p hp
  have hp':p∈X.pn++(jJ++(b,o)::rest):=(qP.mp hp).elim (λz=>qY _ z) λz=>qp _ (qY _ z);obtain⟨q1,q2,q3,q4,q5⟩:=I.pin p hp';exact⟨q1,by rw[Zr (f5 p hp)];exact q2,q3,q4,q5⟩
 ·intro c v e
  by_cases hc:c=b
  ·subst hc;rw[ZI]at e;cases e;exact new
  ·rw[Zr hc]at e
   exact(I.hok c v e).stay (λd w _ q=>q) (λd q=>by rw[Zr (Z1 q pb2)];exact q) λd xs q=>by rw[Zr (Z1 q pb2)];exact q
def ZeU:∀{xs:List V} {us:List Value} {v:V} {u:Value},Zz xs us->ZJ v u->Zz (xs ++ [v]) (us ++ [u])
 | [],_,v,u,h,r=>by cases h;exact .cons r .nil
 | x::xs,_,v,u,h,r=>by
  cases h with
  | cons h1 h2=>exact .cons h1 (ZeU h2 r)
def Jm {c:String}{xs:Array Value}{n:Nat}:∀v,(seqObj c xs n).data≠.cell v:=λv h=>by cases h
def ZeV {k:Nat}{f kS a:Addr}{sp:Heap->Sp}{A:xF}{E:xG}{e1:Nat}{R:List V->Hp->Prop}{body:Value->PUnit->Sem (ForInStep PUnit)}(F:KeyFn X σ k f sp)(hA:∀{base H s},Env0 X.prog X.w X.K X.mg base X.A X.stack s H->Env0 X.prog X.w X.K X.mg base A X.stack s H)(hr:Room k A)
  (fp:J9 X jJ kS) (hka:a≠kS)
  (hbody:∀x ks e (s:Shared) (D:xG),qaQ ks<64->xf (xC X.prog X.w) A (call (.ref f) [x]) (λu s'=>s'.heap.get? kS=some (seqObj "list" (qW ks) e)/\D u { s' with heap:=s'.heap.update kS (zy (·.push u)) }) (λ_ _=>False) s->
   xf (xC X.prog X.w) A (body x ⟨⟩) (λr s'=>r=.yield ⟨⟩/\∃u,D u s') E s) :
  ∀(r:List V) (us:List Value) (kvs:List V) (ks:List Value) (e:Nat) (H:Hp) (s:Shared),Zz r us->Zz kvs ks->ks.length+us.length<64->Inv X (jJ ++ [(kS,seqObj "list" (qW ks) e),(a,seqObj "list" #[] e1)]) σ H s->UC X σ sp r H (λk2 H2=>R (kvs++k2) H2)->
   xf (xC X.prog X.w) A (forIn us PUnit.unit body) (λ_ s'=>∃kvs' ks' e' H',Inv X (jJ ++ [(kS,seqObj "list" (qW ks') e'),(a,seqObj "list" #[] e1)]) σ H' s'/\Zz kvs' ks'/\ks'.length=ks.length+us.length/\R kvs' H') E s
 | [],_,kvs,ks,e,H,s,h,hv,hz,I,q=>by
  cases h
  rw[List.forIn_nil];refine xb ⟨kvs,ks,e,H,I,hv,rfl,?_⟩;have q:R (kvs ++ []) H:=q;rw[zp]at q;exact q
 | v::r,_,kvs,ks,e,H,s,h,hv,hz,I,q=>by
  cases h with
  | @cons _ u _ us r1 r2=>
   rw[qN]at hz;rw[qbS];refine xa (xc (hbody u ks e s (λu' s'=>∃v' H',Inv X (jJ ++ [(kS,seqObj "list" (qW (ks ++ [u'])) (e+1)),(a,seqObj "list" #[] e1)]) σ H' s'/\ZJ v' u'/\UC X σ sp r H' λks H2=>R (kvs++v'::ks) H2) (by omega) ?_) (λq' s' hq=>?_) λ_ _ x=>x)
   ·refine xc (Zl0 F I hA hr r1 q) (λu' s' ⟨v',H',I',rv,q'⟩=>?_) λ_ _ x=>x
    have pk:=(I'.pin (kS,seqObj "list" (qW ks) e) (qp _ (qp _ (.head _)))).1;refine⟨pk,v',H',?_,rv,q'⟩;refine ZiS (o:=seqObj "list" (qW ks) e) (t':=s'.toks) I' (λc w hc e=>by rw[yH _ _ _ _ hc];exact e) ?_ Jm fp (λp hp=>by rw[qK.mp hp];exact hka);have ea:(qW ks).push u'=qW (ks ++ [u']):=by simp
    rw[get?_update_seq pk (·.push u'),ea];have:((qW (ks ++ [u'])).size==(qW ks).size)=false:=by simp
    rw[this];rfl
   ·obtain⟨rfl,u',v',H',I',rv,q'⟩:=hq
    show xf (xC X.prog X.w) A (forIn us PUnit.unit body) _ E s';refine xc (ZeV F hA hr fp hka hbody r us (kvs ++ [v']) (ks ++ [u']) (e+1) H' s' r2 (ZeU hv rv) (by rw[qJ,zW];omega) I' ?_) (λ_ s'' ⟨a1,a2,a3,a4,a5,a6,a7,a8⟩=>⟨a1,a2,a3,a4,a5,a6,by rw[a7,qJ,zW,qN];omega,a8⟩) λ_ _ x=>x;have e2:(λk2 H2=>R (kvs ++ [v']++k2) H2)=λk2 H2=>R (kvs++v'::k2) H2:=by funext k2 H2;rw[yO];rfl
    rw[e2];exact q'
end
section
variable {prog:xE}{w:World}{A:xF}{E:xG}{s:Shared}
def Bj (h:Heap)(kS a:Addr)(out:List Value):Heap:=(h.update kS (zy λ_=>(#[]:Array Value))).update a (zy λ_=>qW out)
def ZeW {kS a:Addr}{ks out:List Value}{e e1:Nat}{st:SortSt}{P:PySem.Fin->Shared->Prop}(hk:s.heap.get? kS=some (seqObj "list" (qW ks) e))(ha:s.heap.get? a=some (seqObj "list" #[] e1))(hka:a≠kS)(hout:(arrOf st).map (·.2)=qW out)(hz:out.length<64)(hkz:ks.length<64)(hf:failedOf st=none)
  (h:P (.done (.ret .none)) { s with heap:=Bj s.heap kS a out }):xf (xC prog w) A (ksk_tail a false e1 (.ref kS) st) P E s:=by
 have ha2:(s.heap.update kS (zy λ_=>(#[]:Array Value))).get? a=some (seqObj "list" #[] e1):=by rw[yH _ _ _ _ hka];exact ha
 unfold ksk_tail
 try dsimp only
 rw[hout];refine xa (listUpdate_at hk rfl ?_ (by rw[qy,sizeLine_eq];omega) (zl _));refine xa (xy ?_);refine xa (seqEpoch_at ha2 rfl ?_);refine xa (listUpdate_at ha2 rfl ?_ (zl _) (by show(qW out).size<=_;rw[qy,sizeLine_eq];omega));rw[hf];simp only[bne_self_eq_false,yh,if_false];exact xb h
def Zl2 {kS a:Addr}{us ks:List Value}{e e1:Nat}{lt:Nat->Nat->Bool}{P:PySem.Fin->Shared->Prop}(o:OrdW lt)(hk:s.heap.get? kS=some (seqObj "list" (qW ks) e))(ha:s.heap.get? a=some (seqObj "list" #[] e1))(hka:a≠kS)(hl:ks.length=us.length)(h64:us.length<64)
  (hkind:2<=ks.length->∃κ,(∀Q:SortKind->Shared->Prop,Q κ s->xf (xC prog w) A (keyKind' (qW ks)) Q E s)/\∀i j,i<ks.length->j<ks.length->∀C:Bool->Shared->Prop,C (lt i j) s->kas_ask prog w A κ ks i j C s)
  (h:P (.done (.ret .none)) { s with heap:=Bj s.heap kS a ((Yy lt us.length).map λi=>us.getD i qX) }):xf (xC prog w) A (ksk_end a false us.toArray e1 (.ref kS) (qW ks)) P E s:=by
 have hol:((Yy lt us.length).map λi=>us.getD i qX).length=us.length:=by rw[qd,(Bi o).length_eq,qG]
 unfold ksk_end
 try dsimp only
 simp only[yh,if_false];by_cases h2:us.toArray.size<2
 ·rw[if_pos h2,if_pos h2]
  refine xa (xb ?_);rw[StateT.run_pure];refine xa (xb ?_)
  try dsimp only
  have hlt:us.length<2:=by simpa using h2
  refine ZeW (out:=(Yy lt us.length).map λi=>us.getD i qX) hk ha hka ?_ (by omega) (by omega) rfl h;have e:(Yy lt us.length).map (λi=>us.getD i qX)=us:=by
   unfold Yy;rw[if_pos hlt];exact TS.range_getD us _
  rw[e];apply Array.toList_inj.mp;show(((qW ks).zip us.toArray).map (·.2)).toList=_;rw[Array.toList_map,ksk_zip];show(ks.zip us).map Prod.snd=_;rw[List.map_snd_zip (by omega)]
 ·rw[if_neg h2,if_neg h2]
  have h2':2<=us.length:=by simpa using h2
  obtain⟨κ,hκ,hask⟩:=hkind (by omega);refine xa (hκ _ ?_);have tr:=(ZlZ (n:=us.length) o (by omega)).run;have wp:=Yg.wp (s:=s) (cmp:=kas_ask prog w A κ ks) (R:=λq s'=>q=VP lt (kas_sort us.length)/\s'=s) (λi j hi hj C hC=>hask i j (by omega) (by omega) C hC) (λq hq=>⟨hq,rfl⟩) tr.1;refine xa (xc (kat_run (ks:=ks) (vs:=us) (Q:=λst' s'=>arrOf st'=(VP lt (kas_sort us.length)).map (kas_item (ks.toArray.zip us.toArray))/\failedOf st'=none/\s'=s) hl h2' h64 (λp' st' s' a1 a2 a3 a4=>⟨by rw[<-a4.1];exact a2,a3,a4.2⟩) wp) ?_ λ_ _ e=>e);rintro⟨⟨⟩,st'⟩ s' ⟨har,hf,rfl⟩
  try dsimp only
  have hout:=kat_snds (ks:=ks) (vs:=us) hl har;refine ZeW (out:=(Yy lt us.length).map λi=>us.getD i qX) hk ha hka ?_ (by omega) (by omega) hf h;rw[hout];unfold Yy;rw[if_neg (by omega)]
end
section
variable {X:Cx}{jJ:Qb}{σ:St}{H:Hp}{s:Shared}
def Vr (X:Cx)(kvs:List V)(H:Hp)(lt:Nat->Nat->Bool):Prop:=
 (∃ns:List Int,kvs=ns.map V.int/\lt=λi j=>decide (ns.getD i 0<ns.getD j 0))∨
 ∃(kD:List (List Int)) (T:V->List Int->Prop),(∀v ns,T v ns->∃a,v=.ref a/\ZS X.K H a (ns.map V.int))/\Paired T kvs kD/\(∀ns∈kD,ns≠[])/\lt=λi j=>XQ (kD.getD i []) (kD.getD j [])
def Vr.ord {kvs:List V}{lt:Nat->Nat->Bool}(h:Vr X kvs H lt):OrdW lt:=by
 rcases h with⟨ns,_,rfl⟩ | ⟨kD,T,_,_,_,rfl⟩
 ·refine⟨λa b c h1 h2=>?_,λa b h=>?_⟩
  ·have h1:=of_decide_eq_false h1
   have h2:=of_decide_eq_false h2;exact decide_eq_false (by omega)
  ·have h:=of_decide_eq_true h
   exact decide_eq_false (by omega)
 ·refine⟨λa b c h1 h2=>?_,λa b h=>Zgp h⟩
  have t:=Zph (kD.getD c []) (kD.getD b []) (kD.getD a []) (by unfold Jd;rw[h2];rfl) (by unfold Jd;rw[h1];rfl);unfold Jd at t;simpa using t
def ZfB:∀{ks:List Value} {ns:List Int} {i:Nat},IntsAre ks ns->i<ks.length->∃t,ks.getD i qX=.int (ns.getD i 0) t
 | _,_,_,.nil,h=>absurd h (by simp)
 | _,_,0,.cons n t _,_=>⟨t,rfl⟩
 | _,_,i+1,.cons n t r,h=>by
  obtain⟨t',e⟩:=ZfB r (i:=i) (by simpa using h);exact⟨t',by simpa using e⟩
def Zka {kvs:List V}{ks:List Value}{lt:Nat->Nat->Bool}{A:xF}{E:xG}(h:Vr X kvs H lt)(I:Inv X jJ σ H s)(rv:Zz kvs ks):2<=ks.length->∃κ,(∀Q:SortKind->Shared->Prop,Q κ s->xf (xC X.prog X.w) A (keyKind' (qW ks)) Q E s)/\∀i j,i<ks.length->j<ks.length->∀C:Bool->Shared->Prop,C (lt i j) s->kas_ask X.prog X.w A κ ks i j C s:=λh2=>by
 rcases h with⟨ns,rfl,rfl⟩ | ⟨kD,T,hT,pT,hne,rfl⟩
 ·have hi:IntsAre ks ns:=W8 rv
  refine⟨oneType',λQ q=>?_,λi j hi' hj' C hC=>?_⟩
  ·rw[ksk_kind (keys:=qW ks) (kz:=ns) hi (by simpa using h2)]
   exact xb q
  ·obtain⟨t,et⟩:=ZfB hi hi'
   obtain⟨t',et'⟩:=ZfB hi hj';show xf (xC X.prog X.w) A (keyLt' oneType' (ks.getD i qX) (ks.getD j qX)) C _ s;rw[et,et'];exact kat_lt_int hC
 ·have ht:=ZeK I hT rv pT
  have hl:ks.length=kD.length:=qaX ht;exact⟨tuples' true,λQ q=>Zpi ht hne (by omega) q,λi j hi hj C hC=>ZpY (jv _ [] ht hi) (jv _ [] ht hj) hC⟩
def ZgI:∀{xs:List V} {us:List Value} {i:Nat},Zz xs us->i<xs.length->ZJ (xs.getD i .non) (us.getD i qX)
 | _,_,_,.nil,h=>absurd h (by simp)
 | _,_,0,.cons h _,_=>h
 | _,_,i+1,.cons _ r,h=>by
  have:=ZgI r (i:=i) (by simpa using h);simpa using this
def ZeX {xs:List V}{us:List Value}(h:Zz xs us):∀{ix:List Nat},(∀i∈ix,i<xs.length)->Zz (ix.map λi=>xs.getD i .non) (ix.map λi=>us.getD i qX)
 | [],_=>.nil
 | i::r,hb=>.cons (ZgI h (hb i (by simp))) (ZeX h λj m=>hb j (by simp[m]))
def ZhX {k:Nat}{f:Addr}{sp:Heap->Sp}{E:xG}{u:Value}{xs:List V}{Q:VK}(F:KeyFn X σ k f sp)(hr:Room (k+2) X.A)(I:Inv X jJ σ H s)(h64:xs.length<64)
  (hcol:∀Q1:List Value->Shared->Prop,(∀(h':Heap) (tk:Nat) (jL:List Value),(∀b o,s.heap.get? b=some o->h'.get? b=some o)->Zz xs jL->Q1 jL { s with heap:=h',toks:=tk })->xf (xC X.prog X.w) X.A.in1 (collect u) Q1 E s)
  (q:UC X σ sp xs H λkvs H1=>∃lt,Vr X kvs H1 lt/\∀l,H1 l=none->Q (.ref l) (Zi H1 l (.lst ((Yy lt xs.length).map λi=>xs.getD i .non)))) :
  xf (xC X.prog X.w) X.A (call (.builtin "sorted") [u] [(qC "key",.ref f)]) (EP X jJ σ Q) E s:=by
 refine call_function_entry_kw kind_sorted plain_sorted entry_sorted (ksk_s1 _ _) ?_;unfold Builtin.«sorted»;refine xa (m:=checkCount "sorted" 1 1 _) (xb ?_);refine xa (hcol _ λh1 tk jL k1 rv=>?_);have hil:jL.length=xs.length:=rv.length.symm;have I1:Inv X jJ σ H { s with heap:=h1,toks:=tk }:=I.kept k1;refine xa (xA ?_ (by rw[sizeLine_eq];omega));generalize hs2:({ s with heap:=h1.push (seqObj "list" jL.toArray 0),toks:=tk }:Shared)=s2;have hh2:s2.heap=h1.push (seqObj "list" jL.toArray 0):=by rw[<-hs2]
 have I2:Inv X jJ σ H s2:=by rw[<-hs2];exact I1.kept (λb o e=>qh _ e)
 generalize ha:h1.objs.size=a;have fpa:J9 X jJ a:=by rw[<-ha];exact Zl1 I1 (qq _)
 have hxa:X.s₀.heap.objs.size<=a:=by rw[<-ha];exact I1.sz
 have hna:H a=none:=by rw[<-ha];exact I1.hok.fresh (qq _)
 have ho:s2.heap.get? a=some (seqObj "list" jL.toArray 0):=by rw[hh2,<-ha];exact qz _ rfl
 refine xa (xw (wpAny_call_entry_kw slot_list_sort ⟨_,ho,rfl⟩ entry_list_sort ?body (ksk_l1 _ _)))
 case body=>
  show xf (xC X.prog X.w) X.A.in1.in1 (Builtin.«list.sort» ⟨[.ref a],[(qC "key",.ref f)]⟩) _ E s2;rw[ksk_t1];obtain⟨e1,ho1⟩:∃e1,(s2.heap.update a (zy λ_=>(#[]:Array Value))).get? a=some (seqObj "list" #[] e1):=⟨_,get?_update_seq ho λ_=>#[]⟩;unfold ksk_tree;refine xa (listItems_at ho rfl ?_);refine xa (listUpdate_at ho rfl ?_ (by rw[qy,sizeLine_eq];omega) (zl _));refine xa (seqEpoch_at ho1 rfl ?_);refine xa (wpAny_newTuple ?_ (by show jL.length<=_;rw[sizeLine_eq];omega));refine xa (xA ?_ (zl _));refine xw ?_;generalize hs3:({ s2 with heap:=(s2.heap.update a (zy λ_=>(#[]:Array Value))).push (seqObj "tuple" jL.toArray 0) }:Shared)=s3;have hh3:s3.heap=(s2.heap.update a (zy λ_=>(#[]:Array Value))).push (seqObj "tuple" jL.toArray 0):=by rw[<-hs3]
  generalize hkS:s3.heap.objs.size=kS;have I3:Inv X (jJ ++ [(a,seqObj "list" #[] e1)]) σ H { s2 with heap:=s2.heap.update a (zy λ_=>(#[]:Array Value)),toks:=s2.toks }:=by
   have Ia:Inv X (jJ++(a,seqObj "list" jL.toArray 0) :: []) σ H s2:=I2.pins_of λp hp=>by
    rcases qP.mp hp with z | z
    ·exact I2.pin p (qp _ z)
    ·rw[qK.mp z]
     exact⟨ho,hna,fpa.1,fpa.2.1,Jm⟩
   exact ZiS Ia (λc w hc e=>by rw[yH _ _ _ _ hc];exact e) ho1 Jm fpa (λp hp=>by simp at hp)
  have I4:Inv X (jJ ++ [(a,seqObj "list" #[] e1)]) σ H s3:=by rw[<-hs3];exact I3.kept (t':=s2.toks) (λb o e=>qh _ e)
  have hak:a<kS:=by
   rw[<-hkS,hh3,size_push',Heap.size_update];exact zF (qD ho)
  have fpk:J9 X jJ kS:=by
   have:=Zl1 I4 (b:=kS) (by rw[hkS];exact qq _);exact⟨this.1,this.2.1,this.2.2.1,this.2.2.2.1,λp hp=>this.2.2.2.2 p ((qP.mp hp).elim (λz=>qY _ z) λz=>qp _ (qY _ z))⟩
  have I5:Inv X (jJ ++ [(kS,seqObj "list" (qW []) 0),(a,seqObj "list" #[] e1)]) σ H { s3 with heap:=s3.heap.push (seqObj "list" #[] 0),toks:=s3.toks }:=by
   have I':=I4.kept (t':=s3.toks) (h':=s3.heap.push (seqObj "list" #[] 0)) (λb o e=>qh _ e);refine I'.pins_of λp hp=>?_;rcases qP.mp hp with z | z
   ·exact I'.pin p (qp _ (qY _ z))
   ·rcases qm.mp z with rfl | z
    ·exact⟨by rw[<-hkS];exact qz _ rfl,by rw[<-hkS];exact I4.hok.fresh (qq _),fpk.1,fpk.2.1,Jm⟩
    ·exact I'.pin p (qp _ (qp _ z))
  show xf (xC X.prog X.w) X.A.in1.in1 _ _ E { s3 with heap:=s3.heap.push (seqObj "list" #[] 0),toks:=s3.toks };generalize ({ s3 with heap:=s3.heap.push (seqObj "list" #[] 0),toks:=s3.toks }:Shared)=s5 at I5⊢;unfold ksk_rest;refine xa (wpAny_rule ?_)
  first
   | rw[List.forIn_toArray]
   | (rw[<-Array.forIn_toList];simp only[qba])
   | rw[<-Array.forIn_toList]
  have hr2:Room k X.A.in1.in1:=(hr.in1).in1;refine xa (xc (ZeV (E:=E) (R:=λkvs H1=>∃lt,Vr X kvs H1 lt/\∀l,H1 l=none->Q (.ref l) (Zi H1 l (.lst ((Yy lt xs.length).map λi=>xs.getD i .non)))) F (λe=>e.in1.in1) hr2 fpk (qH hak) (λx ks e s' D hz hx=>?_) xs jL [] [] 0 H s5 rv .nil (by simp only[yA];omega) I5 q) (λ_ s' hd=>?_) λ_ _ x=>x)
  ·refine xa (wpAny_attempt (xc hx (λu' s'' hk=>?_) λ_ _ hF=>hF.elim))
   obtain⟨hk1,hk2⟩:=hk
   try dsimp only
   refine xa (listUpdate_at hk1 rfl ?_ (by rw[qy,sizeLine_eq];omega) (ze (qct (Array.size_push ..)) (by rw[qy,sizeLine_eq];omega)));exact xb ⟨rfl,u',hk2⟩
  ·obtain⟨kvs,ks,e',H',I',hv,hl,lt,hok,hq⟩:=hd
   have hl:ks.length=jL.length:=by simpa using hl
   have pk:=I'.pin (kS,seqObj "list" (qW ks) e') (qp _ (qp _ (.head _)));have pa:=I'.pin (a,seqObj "list" #[] e1) (qp _ (qp _ (.tail _ (.head _))))
   try dsimp only
   refine xa (listItems_at pk.1 rfl ?_);refine Zl2 hok.ord pk.1 pa.1 (qH hak) hl (by omega) (Zka hok I' hv) ⟨_,rfl,?_⟩;refine xb ⟨_,rfl,?_⟩;have hol:((Yy lt jL.length).map λi=>jL.getD i qX).length=jL.length:=by rw[qd,(Bi hok.ord).length_eq,qG]
   -- the store of keys is emptied
   obtain⟨c1,hc1⟩:∃c1,(s'.heap.update kS (zy λ_=>(#[]:Array Value))).get? kS=some (seqObj "list" #[] c1):=⟨_,get?_update_seq pk.1 λ_=>#[]⟩;have I6:=ZiS (o':=seqObj "list" #[] c1) (h':=s'.heap.update kS (zy λ_=>(#[]:Array Value))) (t':=s'.toks) I' (λc w hc e=>by rw[yH _ _ _ _ hc];exact e) hc1 Jm fpk (λp hp=>by rw[qK.mp hp];exact qH hak);have I7:Inv X (jJ++(a,seqObj "list" #[] e1) :: []) σ H' { s' with heap:=s'.heap.update kS (zy λ_=>(#[]:Array Value)),toks:=s'.toks }:=I6.pins_of λp hp=>I6.pin p (qp _ ((qP.mp hp).elim (λz=>qY _ z) λz=>qp _ (.tail _ z)));have pa2:=I7.pin (a,seqObj "list" #[] e1) (qp _ (qp _ (.head _)));obtain⟨c2,hc2⟩:∃c2,(Bj s'.heap kS a ((Yy lt jL.length).map λi=>jL.getD i qX)).get? a=some (seqObj "list" (qW ((Yy lt jL.length).map λi=>jL.getD i qX)) c2):=⟨_,get?_update_seq pa2.1 _⟩;have I8:=ZiS (o':=seqObj "list" (qW ((Yy lt jL.length).map λi=>jL.getD i qX)) c2) (h':=Bj s'.heap kS a ((Yy lt jL.length).map λi=>jL.getD i qX)) (t':=s'.toks) I7 (λc w hc e=>by unfold Bj;rw[yH _ _ _ _ hc];exact e) hc2 Jm fpa (λp hp=>by simp at hp);have hout:Zz ((Yy lt xs.length).map λi=>xs.getD i .non) ((Yy lt jL.length).map λi=>jL.getD i qX):=by
    rw[hil];exact ZeX rv λi hi=>qB.mp ((Bi hok.ord).mem_iff.mp hi)
   refine⟨.ref a,_,Zp1 (u:=.lst ((Yy lt xs.length).map λi=>xs.getD i .non)) I8 fpa hxa ⟨?_,_,c2,hout,hc2⟩,rfl,hq a pa2.2.1⟩;rw[hout.length,hol,sizeLine_eq];omega
end
end TF
namespace TF
open L2 TS
section
variable {X:Cx}
def Zl3 (X:Cx)(id:String)(nm:Str)(r:St->List V->List V->Hp->VK->Prop):Prop:=
 ∀(jJ:Qb) (s:Shared) (σ:St) (H:Hp) (xs ys:List V) (us vs:List Value) (Q:VK),Inv X jJ σ H s->Zz xs us->Zz ys vs->r σ xs ys H Q->xf (xC X.prog X.w) X.A (call (.builtin id) us ([nm].zip vs)) (EP X jJ σ Q) X.xe s
def ZeY {id:String}{x nm:Str}{p pos kpos:Pos}{e d:Expr}{ta tb:TE}{r:St->List V->List V->Hp->VK->Prop}(hc:Zl3 X id nm r)(hg:Gl X x)(hm:X.mg x=none)(hv:xj x=some (.builtin id))(ha:PE X e ta)(hb:PE X d tb)
  (hn:x≠"__name__":=by decide) (hdb:(x==("__debug__" : Str))=false:=by decide) (he:xh [e] X.env=(false,eval e X.env)::xh [] X.env:=by rfl)
  (hall:(xp pos (xi [⟨some nm,d,kpos⟩] X.env)).all (·.1.isSome)=true:=by rfl) (hks:(xp pos (xi [⟨some nm,d,kpos⟩] X.env)).filterMap (·.1)=[nm]:=by rfl)
  (hpl:((backTo pos (xh [e] X.env)).any (·.1)||(xp pos (xi [⟨some nm,d,kpos⟩] X.env)).any (·.1.isNone))=false:=by rfl) :
  PE X (.Call (.Name x p) [e] [⟨some nm,d,kpos⟩] pos) (fun σ H Q=>Y9 ta Xq σ H λxs H1=>Y9 tb Xq σ H1 λys H2=>r σ xs ys H2 Q):=by
 intro jJ s σ H Q I h;refine wpAny_Call_Name_kw (Ub I hg hm hv ?_ hn hdb);refine qcp (P:=λ_=>True) hpl (λh _=>⟨qbd,.inr (.inl rfl),Zbu⟩) (evalArgs_kw2 hall (ZL ((YN ha Y3 he) pos jJ s σ H _ I h) λus s1 ⟨vs,H1,I1,rv,q1⟩=>?_) he);refine ZL ((Zim hb ZkP) pos jJ s1 σ H1 _ I1 q1) λws s2 ⟨zs,H2,I2,rz,q2⟩=>?_;refine⟨trivial,?_⟩;rw[hks];exact hc jJ s2 σ H2 vs zs us ws Q I2 rv rz q2
def JJ (X:Cx)(H:Hp)(p:Addr)(ns:List Int):Prop:=
 ZF X.K H p (ns.map V.int)∨ZS X.K H p (ns.map V.int)∨∃j:Int,H p=some (.rng 0 j)/\-(2 ^ 62)<=j/\j<=2 ^ 24/\ns=(qk j.toNat).map λ(i:Nat)=>(i:Int)
def ZhY {jJ:Qb}{σ:St}{H:Hp}{s:Shared}{p:Addr}{ns:List Int}{E:xG}(hc:X.calm=true)(I:Inv X jJ σ H s)(h:JJ X H p ns)(Q1:List Value->Shared->Prop)
  (k:∀(h':Heap) (tk:Nat) (jL:List Value),(∀b o,s.heap.get? b=some o->h'.get? b=some o)->Zz (ns.map V.int) jL->Q1 jL { s with heap:=h',toks:=tk }):xf (xC X.prog X.w) X.A.in1 (collect (.ref p)) Q1 E s:=by
 have keep:∀jL:List Value,∀b o,s.heap.get? b=some o->((s.heap.push (seqObj "list" #[] 0)).update s.heap.objs.size (zy (· ++ jL.toArray))).get? b=some o:=λjL b o e=>by
  rw[yH _ _ _ _ (qH (qD e))];exact qh _ e
 rcases h with h | h | ⟨j,hr,h1,h2,rfl⟩
 ·obtain⟨jL,rv,pl,hz⟩:=I.list h
  have hl:=rv.length;exact collect_list pl.isList (k _ s.toks jL (keep jL) rv) (by rw[<-hl];exact hz)
 ·obtain⟨jL,rv,pl,hz⟩:=I.tuple h
  have hl:=rv.length;exact Zly (show s.heap.IsTuple p jL.toArray from pl) (k _ s.toks jL (keep jL) rv) (by rw[<-hl];exact hz)
 ·obtain⟨t,u',v',hro⟩:=(show Yz X.prog X.w H s.heap p (.rng 0 j)from I.hok p _ hr)
  have hn:qaa 0 j 1=((j.toNat:Nat):Int):=by rw[rangeSize_one];split <;> omega
  refine Zgv (A:=X.A.in1) (I.ok.hd hc) (show IsRange s.heap p 0 j 1 t u' v' from hro) (small_one (by omega) (by omega) h1 (by omega)) hn (by omega) λh' tk jP kp hi=>?_;obtain⟨sz,hit⟩:=hi;have rv:=ZbH jP.toList 0 λi v hv=>by
   obtain⟨t,e⟩:=hit i v (by simpa using hv);exact⟨t,by rw[e];simp⟩
  have el:jP.toList.length=j.toNat:=by simpa using sz
  rw[el]at rv;refine k h' tk jP.toList kp ?_;rw[qE];have e:(qk j.toNat).map (V.int∘λ(i:Nat)=>(i:Int))=(qk j.toNat).map λ(i:Nat)=>V.int (0+i):=zt λi _=>by show V.int _=V.int _;rw[Int.zero_add]
  rw[e];exact rv
def ZbX (hc:X.calm=true):Zl3 X "sorted" "key" (fun σ xs ys H Q=>∃(p f:Addr) (ns:List Int) (sp:Heap->Sp) (k:Nat),xs=[.ref p]/\ys=[.ref f]/\JJ X H p ns/\KeyFn X σ k f sp/\Room (k+2) X.A/\ns.length<64/\
  UC X σ sp (ns.map V.int) H λkvs H1=>∃lt,Vr X kvs H1 lt/\∀l,H1 l=none->Q (.ref l) (Zi H1 l (.lst ((Yy lt ns.length).map λi=>V.int (ns.getD i 0))))):=by
 intro jJ s σ H xs ys us vs Q I r r2 h;obtain⟨p,f,ns,sp,k,rfl,rfl,hp,F,hr,h64,q⟩:=h;obtain⟨u,rfl,ru⟩:=XI r
 cases ru
 obtain⟨v,rfl,rv⟩:=XI r2
 cases rv
 refine ZhX (xs:=ns.map V.int) F hr I (by rw[qd];exact h64) (λQ1 k=>ZhY hc I hp Q1 k) ?_;have ek:(λkvs H1=>∃lt,Vr X kvs H1 lt/\∀l,H1 l=none->Q (.ref l) (Zi H1 l (.lst ((Yy lt ns.length).map λi=>V.int (ns.getD i 0)))))=λkvs H1=>∃lt,Vr X kvs H1 lt/\∀l,H1 l=none->Q (.ref l) (Zi H1 l (.lst ((Yy lt (ns.map V.int).length).map λi=>(ns.map V.int).getD i .non))):=by
  funext kvs H1;refine propext (exists_congr λlt=>and_congr_right λok=>?_);have e:(Yy lt (ns.map V.int).length).map (λi=>(ns.map V.int).getD i .non)=(Yy lt ns.length).map λi=>V.int (ns.getD i 0):=by
   rw[qd];refine zt λi hi=>?_;have hi:=qB.mp ((Bi ok.ord).mem_iff.mp hi);rw[qf,qt,qf,qj hi];rfl
  rw[e]
 rw[ek]at q;exact q
end
def BV (F:List D->M D)(cds:List D):List Int->M (List D)
 | []=>ZA []
 | n::r=>Zq (F (.int n::cds)) λk=>Zq (BV F cds r) λks=>ZA (k::ks)
def B8 (ks:List D):Option (Nat->Nat->Bool):=match ZG ks with
 | some ns=>some λi j=>decide (ns.getD i 0<ns.getD j 0)
 | none=>match JG ks with
  | some kD=>if kD.all (λns=>!ns.isEmpty)=true then some λi j=>XQ (kD.getD i []) (kD.getD j [])else none
  | none=>none
def Vl (F:List D->M D)(cds:List D)(ns:List Int):M D:=if (decide (ns.length<64)&&YV cds)=true then Zq (BV F cds ns) λks=>match B8 ks with
 | some lt=>ZA (.lst ((Yy lt ns.length).map λi=>.int (ns.getD i 0)))
 | none=>Zv else Zv
section
variable {X:Cx}{G:Gh}{σ:St}
def ZgJ {cvs:List V}{cds:List D}{F:List D->M D}:∀(ns:List Int) (Hf H:Hp) (s s':Pn) (ks:List D) (R:List V->Hp->Prop),ZB G Hf H->Zk G Hf cds cvs->G.st s H->BV F cds ns s=some (ks,s')->
  (∀kvs jV H1,Gr G Hf H jV H1->G.st s' H1->Zk G jV ks kvs->R kvs H1)->UC X σ (λ_=>B6 1 G cvs F) (ns.map V.int) H R
 | [],Hf,H,s,s',ks,R,e,rc,st,h,k=>by
  obtain⟨rfl,rfl⟩:=ZO h;exact k [] Hf H (.refl e) st (Zk.nil_iff.mpr rfl)
 | n::r,Hf,H,s,s',ks,R,e,rc,st,h,k=>by
  obtain⟨d,s1,a1,a2⟩:=ZC h;obtain⟨ks',s2,a3,a4⟩:=ZC a2;obtain⟨rfl,rfl⟩:=ZO a4;intro base' cs;refine⟨Hf,[.int n],cds,s,d,s1,rfl,e,.one (ja.mpr rfl),rc,st,a1,λv jV H1 g1 kb rv=>?_⟩;exact ZgJ r jV H1 s1 _ ks' _ g1.fh (rc.ext g1.ff) kb a3 λkvs kc H2 g2 j6 rk=>k (v::kvs) kc H2 (g1.trans g2) j6 (.cons (rv.ext g2.ff) rk)
def Zkb {ks:List D}{kvs:List V}{lt:Nat->Nat->Bool}{Hf H:Hp}(e:ZB G Hf H)(r:Zk G Hf ks kvs)(h:B8 ks=some lt):Vr X kvs H lt:=by
 unfold B8 at h
 cases hi:ZG ks with
 | some ns=>
  rw[hi]at h
  cases h
  rw[WA hi]at r;exact .inl ⟨ns,jm r,rfl⟩
 | none=>
  rw[hi]at h
  cases ht:JG ks with
  | none=>rw[ht]at h;cases h
  | some kD=>
   rw[ht]at h;have h:(if kD.all (λns=>!ns.isEmpty)=true then some λi j=>XQ (kD.getD i []) (kD.getD j [])else none)=some lt:=h;by_cases hn:kD.all (λns=>!ns.isEmpty)=true
   ·rw[if_pos hn]at h
    cases h
    rw[ZeL ht]at r;refine .inr ⟨kD,λv ns=>Zm G Hf (B0 ns) v,λv ns rv=>?_,ZeM r,λns hm z=>?_,rfl⟩
    ·obtain⟨a,vs,rfl,na,ha,rl⟩:=jc.mp rv
     rw[jm rl]at ha;exact⟨a,rfl,ZS.of (e _ _ na ha)⟩
    ·have:=zj.mp hn ns hm
     rw[z]at this;cases this
   ·rw[if_neg hn]at h;cases h
end
section
variable {X:Cx}{G:Gh}{P c:Addr}{q:Str}{kl:Nat}{frb:Bool}{e1:Expr}{f1:Zb->M D}{r1:Bool}{params:Arguments}{scope:Scope}{lpos ppos pos kpos:Pos}{XN N ps:List Str}{NS:List (Str×NameKind)}{cix:List Nat}{body:Expr}{fe:Zb->M D}
def Zbv {cds:List D}{ns:List Int}{σ:St}{jV H1:Hp}{ρ:Zb}{s s':Pn}{d:D}{Q:VK}{p0:Addr}(hfn:∀x,X.fn x=true)(hr:Room (kl+3) X.A)(M:Mk0 X c P)(TG:TabG P q G)(S:CloScope N ps scope)(B:CapS X XN NS N ps cix scope)(hps:ps.length=1)
  (hbind:∀(cl:List (Str×Addr)) (pm cd ct:Value) (us:List Value),us.length=ps.length->bindArgs (zr "<lambda>" q params body scope cl pm cd ct) ⟨us,[]⟩=pure (ps.zip us))
  (hb:∀(base:Heap) (f c':Addr) (cl:List (Str×Addr)) (G:Gh) (A:xF) (outer:List Env) (s:Shared) (H:Hp) (E:XK),Room kl (A.deeper (yi q scope s.heap.objs.size f (.ref c') cl))->PD (UL ZQ X.prog X.w X.K X.mg base N q scope f (.ref c') cl A outer s H E).nox G frb body fe)
  (x1:ZB G jV H1) (x2:YY G jV σ ρ) (kb:G.st s H1) (hcap:Vs ρ cix=some cds) (hk:Vl (Xd N.length fe) cds ns s=some (d,s'))
  (hit:∀H2,ZB G H1 H2->(∀b u,H1 b=some u->(∀t,u≠.tbl t)->H2 b=some u)->JJ X H2 p0 ns)
  (k:∀v Hf3 H3,Gr G jV H1 Hf3 H3->G.st s' H3->Zm G Hf3 d v->Q v H3) :
  Y9 (fun σ H Q=>Zlc P q lpos (λfd c'=>∃cl pm ctv,CloOf X scope cl/\fd=zr "<lambda>" q params body scope cl pm (.ref c') ctv) H λp _ _ H'=>Q (.ref p) H') Xq σ H1 λys H2=>
   ∃(p f:Addr) (ns:List Int) (sp:Heap->Sp) (k:Nat),[V.ref p0]=[.ref p]/\ys=[.ref f]/\JJ X H2 p ns/\KeyFn X σ k f sp/\Room (k+2) X.A/\ns.length<64/\
    UC X σ sp (ns.map V.int) H2 λkvs H1=>∃lt,Vr X kvs H1 lt/\∀l,H1 l=none->Q (.ref l) (Zi H1 l (.lst ((Yy lt ns.length).map λi=>V.int (ns.getD i 0)))):=by
 unfold Vl at hk;obtain⟨hn,a5⟩:=Xf hk;obtain⟨hn0,hn1⟩:=yQ.mp hn;have h64:=of_decide_eq_true hn0;obtain⟨ks,s1,a6,a7⟩:=ZC a5;obtain⟨tp,hP,htr,hhit⟩:=TG.get _ H1 kb;refine⟨tp,hP,htr,λcv h=>let ⟨c',z1,z2,_⟩:=hhit lpos cv h;⟨c',z1,z2⟩,λp c' fd Hm ⟨cl,pm,ctv,co,efd⟩ sl hp=>?_⟩;subst efd;obtain⟨stm,hc',ex⟩:=ZiF TG kb hP sl;have gr:=ZiG (o:=.ext (fnφ p (zr "<lambda>" q params body scope cl pm (.ref c') ctv))) x1 ex hp;have hcp:c'≠p:=λz=>by rw[z,hp]at hc';cases hc'
 obtain⟨cvs,l1,l2,l3⟩:=Zdm x2 hcap;have j6:(Wv G 0 p c' (zr "<lambda>" q params body scope cl pm (.ref c') ctv) q cvs).st s (Zi Hm p (.ext (fnφ p (zr "<lambda>" q params body scope cl pm (.ref c') ctv)))):=⟨Gh.grow stm hp,ZI,by rw[Zr hcp];exact hc'⟩;refine⟨p0,p,ns,λ_=>B6 1 (Wv G 0 p c' (zr "<lambda>" q params body scope cl pm (.ref c') ctv) q cvs) cvs (Xd N.length fe),kl+1,rfl,rfl,?_,⟨hfn,_,ps,.all (hbind cl pm (.ref c') ctv),λbase' cs=>?_⟩,hr,h64,?_⟩
 ·refine hit _ gr.hh λb u e nt=>?_
  have e2:Hm b=some u:=by
   rcases sl with⟨rfl,h1,h2⟩ | ⟨h1,h2,h3,rfl⟩
   ·exact e
   ·have hbP:b≠P:=λz=>by
     rw[z,hP]at e;cases e;exact nt _ rfl
    rw[Zr (Z1 e h2),Zr hbP];exact e
  rw[Zr (Z1 e2 hp)];exact e2
 ·have:=fnKE S (B.cloAt cs co l1 l3) (λs H st=>st.2) (G:=Wv G 0 p c' (zr "<lambda>" q params body scope cl pm (.ref c') ctv) q cvs) λA outer s H E hr=>hb base' p c' cl _ A outer s H E hr
  rw[hps]at this;exact this
 ·refine ZgJ ns jV _ s s1 ks _ (ZB.re (G:=G) rfl gr.fh) (toCL hn1 l2) j6 a6 λkvs kc H2 g2 st3 rk=>?_
  cases hlt:B8 ks with
  | none=>rw[hlt]at a7;cases a7
  | some lt=>
   rw[hlt]at a7;obtain⟨rfl,rfl⟩:=ZO a7;refine⟨lt,Zkb g2.fh rk hlt,λl hl=>?_⟩;have g2':Gr G jV _ kc H2:=grC g2;have nf:=Gh.nofp st3.1 hl;have gB:=Gr.new (G:=G) (o:=.lst ((Yy lt ns.length).map λi=>V.int (ns.getD i 0))) g2'.fh hl nf;have gg:=(gr.trans g2').trans gB;have hrl:Zk G (Zi kc l (.lst ((Yy lt ns.length).map λi=>V.int (ns.getD i 0)))) ((Yy lt ns.length).map λi=>D.int (ns.getD i 0)) ((Yy lt ns.length).map λi=>V.int (ns.getD i 0)):=by
    have:=Ut (G:=G) (Hf:=Zi kc l (.lst ((Yy lt ns.length).map λi=>V.int (ns.getD i 0)))) ((Yy lt ns.length).map λi=>ns.getD i 0);rw[qE,qE]at this;exact this
   exact k (.ref l) _ _ gg (Gh.grow st3.1 hl) (jb.mpr ⟨l,_,rfl,nf,ZI,hrl⟩)
def By (F:List D->M D)(cix:List Nat)(f:Zb->M D):Zb->M D:=fun ρ=>Zq (f ρ) λd=>Zq (YQ (Vs ρ cix)) λcds=>match d with
 | .lst ds=>(match ZG ds with | some ns=>Vl F cds ns | none=>Zv)
 | .tup ds=>(match ZG ds with | some ns=>Vl F cds ns | none=>Zv)
 | _=>Zv
def ZhZ (hc:X.calm=true)(hg:Gl X "sorted")(hm:X.mg "sorted" = none)(hv:xj "sorted" = some (.builtin "sorted"))(M:Mk0 X c P)(TG:TabG P q G)(hfn:∀x,X.fn x=true)(hr:Room (kl+3) X.A)(h1:PD X G r1 e1 f1)
  (hq:X.env.qual ++ "<lambda>" = q) (S:CloScope N ps scope) (B:CapS X XN NS N ps cix scope) (hps:ps.length=1)
  (hbind:∀(cl:List (Str×Addr)) (pm cd ct:Value) (us:List Value),us.length=ps.length->bindArgs (zr "<lambda>" q params body scope cl pm cd ct) ⟨us,[]⟩=pure (ps.zip us))
  (hb:∀(base:Heap) (f c':Addr) (cl:List (Str×Addr)) (G:Gh) (A:xF) (outer:List Env) (s:Shared) (H:Hp) (E:XK),Room kl (A.deeper (yi q scope s.heap.objs.size f (.ref c') cl))->PD (UL ZQ X.prog X.w X.K X.mg base N q scope f (.ref c') cl A outer s H E).nox G frb body fe)
  (hdef:defaultsOf params X.env=([],[]):=by rfl)
  (he:xh [e1] X.env=(false,eval e1 X.env)::xh [] X.env:=by rfl)
  (hall:(xp pos (xi [⟨some "key",.Lambda params body scope lpos,kpos⟩] X.env)).all (·.1.isSome)=true:=by rfl) (hks:(xp pos (xi [⟨some "key",.Lambda params body scope lpos,kpos⟩] X.env)).filterMap (·.1)=[("key" : Str)]:=by rfl)
  (hpl:((backTo pos (xh [e1] X.env)).any (·.1)||(xp pos (xi [⟨some "key",.Lambda params body scope lpos,kpos⟩] X.env)).any (·.1.isNone))=false:=by rfl) :
  PD X G false (.Call (.Name "sorted" ppos) [e1] [⟨some "key",.Lambda params body scope lpos,kpos⟩] pos) (By (Xd N.length fe) cix f1):=by
 obtain⟨t1,p1,q1⟩:=h1.drop;refine⟨_,ZeY (ZbX hc) hg hm hv p1 (Zhy M hq B.hfree hdef) (by decide) (by decide) he hall hks hpl,fun σ Hf H ρ s d s' Q x1 x2 x3 x4 k=>?_⟩;obtain⟨d1,s1,a1,a2⟩:=ZC x4;obtain⟨cds,s2,b3,a4⟩:=ZC a2;obtain⟨a3,rfl⟩:=WL b3;refine q1 σ Hf H ρ s d1 _ _ x1 x2 x3 a1 λv1 jV H1 g1 kb rv1=>?_;have go:∀(ns:List Int) (p0:Addr),v1=.ref p0->Vl (Xd N.length fe) cds ns s2=some (d,s')->(∀H2,ZB G H1 H2->(∀b u,H1 b=some u->(∀t,u≠.tbl t)->H2 b=some u)->JJ X H2 p0 ns)->Y9 (fun σ H Q=>Zlc P q lpos (λfd c'=>∃cl pm ctv,CloOf X scope cl/\fd=zr "<lambda>" q params body scope cl pm (.ref c') ctv) H λp _ _ H'=>Q (.ref p) H') Xq σ H1 λys H2=>
   ∃(p f:Addr) (ns:List Int) (sp:Heap->Sp) (k:Nat),[v1]=[.ref p]/\ys=[.ref f]/\JJ X H2 p ns/\KeyFn X σ k f sp/\Room (k+2) X.A/\ns.length<64/\
    UC X σ sp (ns.map V.int) H2 λkvs H1=>∃lt,Vr X kvs H1 lt/\∀l,H1 l=none->Q (.ref l) (Zi H1 l (.lst ((Yy lt ns.length).map λi=>V.int (ns.getD i 0)))):=by
  rintro ns p0 rfl hkk hit;refine Zbv hfn hr M TG S B hps hbind hb g1.fh (x2.ext g1.ff) kb a3 hkk hit λv Hf3 H3 g3 st3 r3=>k v Hf3 H3 (g1.trans g3) st3 r3 (λz=>by cases z)
 match d1,a4,rv1 with
 | .lst ds,a4,rv1=>
  have a4:(match ZG ds with | some ns=>Vl (Xd N.length fe) cds ns | none=>Zv) s2=some (d,s'):=a4
  cases hi:ZG ds with
  | none=>rw[hi]at a4;cases a4
  | some ns=>
   rw[hi]at a4;obtain⟨p0,vs,rfl,n0,h0,rl⟩:=jb.mp rv1;rw[WA hi]at rl;rw[jm rl]at h0;exact go ns p0 rfl a4 λH2 e _=>.inl (ZF.of (e _ _ n0 (g1.fh _ _ n0 h0)))
 | .tup ds,a4,rv1=>
  have a4:(match ZG ds with | some ns=>Vl (Xd N.length fe) cds ns | none=>Zv) s2=some (d,s'):=a4
  cases hi:ZG ds with
  | none=>rw[hi]at a4;cases a4
  | some ns=>
   rw[hi]at a4;obtain⟨p0,vs,rfl,n0,h0,rl⟩:=jc.mp rv1;rw[WA hi]at rl;rw[jm rl]at h0;exact go ns p0 rfl a4 λH2 e _=>.inr (.inl (ZS.of (e _ _ n0 (g1.fh _ _ n0 h0))))
def Bq (F:List D->M D)(cix:List Nat)(f:Zb->M D):Zb->M D:=fun ρ=>Zq (f ρ) λd=>Zq (YQ (Vs ρ cix)) λcds=>match d with
 | .int j=>if -(2 ^ 62)<=j/\j<=2 ^ 24 then Vl F cds ((qk j.toNat).map λ(i:Nat)=>(i:Int))else Zv
 | _=>Zv
def ZgK {p2 pos2:Pos}(hc:X.calm=true)(hg:Gl X "sorted")(hm:X.mg "sorted" = none)(hv:xj "sorted" = some (.builtin "sorted"))(hgr:Gl X "range")(hmr:X.mg "range" = none)(M:Mk0 X c P)(TG:TabG P q G)(hfn:∀x,X.fn x=true)(hr:Room (kl+3) X.A)(h1:PD X G r1 e1 f1)
  (hq:X.env.qual ++ "<lambda>" = q) (S:CloScope N ps scope) (B:CapS X XN NS N ps cix scope) (hps:ps.length=1)
  (hbind:∀(cl:List (Str×Addr)) (pm cd ct:Value) (us:List Value),us.length=ps.length->bindArgs (zr "<lambda>" q params body scope cl pm cd ct) ⟨us,[]⟩=pure (ps.zip us))
  (hb:∀(base:Heap) (f c':Addr) (cl:List (Str×Addr)) (G:Gh) (A:xF) (outer:List Env) (s:Shared) (H:Hp) (E:XK),Room kl (A.deeper (yi q scope s.heap.objs.size f (.ref c') cl))->PD (UL ZQ X.prog X.w X.K X.mg base N q scope f (.ref c') cl A outer s H E).nox G frb body fe)
  (hdef:defaultsOf params X.env=([],[]):=by rfl)
  (hs1:xh [e1] X.env=[(false,eval e1 X.env)]:=by rfl)
  (he:xh [.Call (.Name "range" p2) [e1] [] pos2] X.env=(false,eval (.Call (.Name "range" p2) [e1] [] pos2) X.env)::xh [] X.env:=by rfl)
  (hall:(xp pos (xi [⟨some "key",.Lambda params body scope lpos,kpos⟩] X.env)).all (·.1.isSome)=true:=by rfl) (hks:(xp pos (xi [⟨some "key",.Lambda params body scope lpos,kpos⟩] X.env)).filterMap (·.1)=[("key" : Str)]:=by rfl)
  (hpl:((backTo pos (xh [.Call (.Name "range" p2) [e1] [] pos2] X.env)).any (·.1)||(xp pos (xi [⟨some "key",.Lambda params body scope lpos,kpos⟩] X.env)).any (·.1.isNone))=false:=by rfl) :
  PD X G false (.Call (.Name "sorted" ppos) [.Call (.Name "range" p2) [e1] [] pos2] [⟨some "key",.Lambda params body scope lpos,kpos⟩] pos) (Bq (Xd N.length fe) cix f1):=by
 obtain⟨t1,p1,q1⟩:=h1.drop;refine⟨_,ZeY (ZbX hc) hg hm hv (Zcg hgr hmr (YN p1 Y3 (by rw[hs1];rfl)) hs1) (Zhy M hq B.hfree hdef) (by decide) (by decide) he hall hks hpl,fun σ Hf H ρ s d s' Q x1 x2 x3 x4 k=>?_⟩;obtain⟨d1,s1,a1,a2⟩:=ZC x4;obtain⟨cds,s2,b3,a4⟩:=ZC a2;obtain⟨a3,rfl⟩:=WL b3
 cases d1 with
 | int j=>
  obtain⟨cj,a5⟩:=Xf a4;refine q1 σ Hf H ρ s _ _ _ x1 x2 x3 a1 λv1 jV H1 g1 kb rv1=>?_;rw[ja.mp rv1];refine⟨j,rfl,λp hp=>?_⟩;have j6:G.st s2 (Zi H1 p (.rng 0 j)):=Gh.grow kb hp;have fp:jV p=none:=by
   cases q:jV p with
   | none=>rfl
   | some o=>rw[g1.fh p o (Gh.nofp kb hp) q]at hp;cases hp
  have gA:Gr G jV H1 jV (Zi H1 p (.rng 0 j)):=⟨λb o n q=>by rw[Zr (Z1 q hp)];exact q,.refl _ _,λb o n q=>by rw[Zr (Z1 q fp)];exact g1.fh b o n q,λb n h1 h2=>h1⟩;refine Zbv hfn hr M TG S B hps hbind hb gA.fh (x2.ext g1.ff) j6 a3 a5 (λH2 _ keep=>.inr (.inr ⟨j,keep _ _ ZI (λt z=>by cases z),cj.1,cj.2,rfl⟩)) λv Hf3 H3 g3 st3 r3=>k v Hf3 H3 ((g1.trans gA).trans g3) st3 r3 (λz=>by cases z)
 | _=>cases a4
end
open PySem.W
section
variable {X:Cx}{jJ:Qb}{σ:St}{H:Hp}{s:Shared}
end
section
variable {X:Cx}{G:Gh}{σ:St}
end
section
variable {X:Cx}{G:Gh}{P c:Addr}{q:Str}{kl:Nat}{frb:Bool}{e1:Expr}{f1:Zb->M D}{r1:Bool}{params:Arguments}{scope:Scope}{lpos ppos pos kpos:Pos}{XN N ps:List Str}{NS:List (Str×NameKind)}{cix:List Nat}{body:Expr}{fe:Zb->M D}
end
end TF
namespace TF
open L2
section
variable {X:Cx}{G:Gh}
def ZfC:List D->Option D
 | [.lst ds]=>if ds.length<=xg then (WE [] ds).map .du else none
 | _=>none
def Zh0 (hc:X.calm=true)(hu:X.A.units+64<cLine):X2 X G (.type "dict") ZfC:=
 ⟨_,ZbG hc hu true,λHf H s xs ds c Q e1 st r q k=>by
  match ds,q,r with
  | [.lst es],q,r=>
   have q:(if es.length<=xg then (WE [] es).map D.du else none)=some c:=q;split at q
   ·rename_i hz
    cases e:WE [] es with
    | none=>rw[e]at q;cases q
    | some res=>
     rw[e]at q
     cases q
     obtain⟨v,rfl,rv⟩:=jh r;obtain⟨l,vs,rfl,nl,hl,rl⟩:=jb.mp rv;refine⟨l,vs,rfl,e1 _ _ nl hl,λp hp=>⟨_,Zhu e1 hp rl e (by simpa using hz),?_⟩⟩;have nf:=Gh.nofp st hp;have g2:=Gr.new (o:=.dT res) e1 hp nf;exact k (.ref p) _ _ g2 (Gh.grow st hp) (jl.mpr ⟨p,rfl,nf,ZI⟩) λa ea _=>by cases ea;exact⟨hp,λds ed=>by cases ed⟩
   ·cases q⟩
end
end TF
namespace TS
open PySem.W
section
variable {prog:xE}{w:World}{A:xF}{E:xG}{s:Shared}
end
end TS
namespace TF
open L2 TS
section
variable {X:Cx}{G:Gh}
end
end TF
namespace L2
section
variable {X:Cx}
def ZiT:V->List V->Hp->VK->Prop:=λx vs H Q=>∃l xs r y,x=.ref l/\vs=[.int r,y]/\H l=some (.lst xs)/\xs.length<xg/\0<=r/\r<=1000000/\Q .non (Zi H l (.lst (xs.take r.toNat++y::xs.drop r.toNat)))
def ZgL {α:Type}(l:List α)(k:Nat):l.take (min k l.length)=l.take k/\l.drop (min k l.length)=l.drop k:=by
 by_cases h:k<=l.length
 ·rw[qbT h];exact⟨rfl,rfl⟩
 ·rw[Nat.min_eq_right (by omega),qaU (qq _),qaU (by omega),qbZ (qq _),qbZ (by omega)]
  exact⟨rfl,rfl⟩
def ZgM:∀{xs:List V} {us:List Value} (k:Nat) {v:V} {u:Value},Zz xs us->ZJ v u->Zz (xs.take k++v::xs.drop k) (us.take k++u::us.drop k)
 | [],_,k,v,u,h,r=>by cases h;simp;exact .cons r .nil
 | x::xs,_,0,v,u,h,r=>by simp;exact .cons r h
 | x::xs,_,k+1,v,u,h,r=>by
  cases h with
  | cons h1 h2=>exact .cons h1 (ZgM k h2 r)
def Zkc:MtM X "list.insert" ZiT:=by
 intro jJ s σ H x vs v us Q I rx rv h;obtain⟨l,xs,r,y,rfl,rfl,hH,hz,r0,r1,q⟩:=h
 cases rx
 obtain⟨u1,u2,rfl,ru1,ru2⟩:=Zil rv;obtain⟨t,rfl⟩:=ru1;obtain⟨z,jL,n,rr,hl,e⟩:=I.lstM hH;have jT:jL.length=xs.length:=rr.length.symm;refine call_meets qbI ⟨_,e,rfl⟩ PySem.F.entry_list_insert (PySem.F.args_list_insert_3 _ _ _) (PySem.AutoSeq1.list_insert_list_int_val_1 l jL.toArray n r t u2 (by
  unfold Builtin.List.listFitsIndex;rw[decide_eq_true (show -(2 ^ 63:Int)<=r by omega),decide_eq_true (show r<2 ^ 63 by omega)];decide) (by rw[qy];omega)) ⟨e,?_⟩
 refine⟨.non,_,I.lset (its':=jL.take r.toNat++u2::jL.drop r.toNat) (ys:=xs.take r.toNat++y::xs.drop r.toNat) hH e ?_ (ZgM _ rr ru2) ?_,rfl,q⟩
 ·show(jL.toArray.extract 0 (if r<0 then (r+(jL.toArray.size:Int)).toNat else min r.toNat jL.toArray.size)).push u2++jL.toArray.extract (if r<0 then (r+(jL.toArray.size:Int)).toNat else min r.toNat jL.toArray.size)=_
  rw[if_neg (by omega),qy];have:=PySem.W.kl_ins_eq jL (min r.toNat jL.length) u2;rw[qy,(ZgL jL r.toNat).1,(ZgL jL r.toNat).2]at this;exact this
 ·rw[qJ,qN,z0,List.length_drop]
  omega
end
end L2
namespace TF
open L2
section
variable {X:Cx}{G:Gh}{ob own:List Nat}{fr:Bool}{f g:Zb->M D}
def Zk.ins {H:Hp}:∀{ds:List D} {vs:List V} (k:Nat) {d:D} {v:V},Zk G H ds vs->Zm G H d v->Zk G H (ds.take k++d::ds.drop k) (vs.take k++v::vs.drop k)
 | [],vs,k,d,v,h,r=>by
  rw[Zk.nil_iff.mp h];simp;exact .one r
 | x::ds,vs,0,d,v,h,r=>by simp;exact .cons r h
 | x::ds,vs,k+1,d,v,h,r=>by
  obtain⟨w,rr,rfl,h1,h2⟩:=jd.mp h;exact .cons h1 (Zk.ins k h2 r)
def U9 (i:Nat)(f g:Zb->M D):Zb->M Out:=fun ρ=>Zq (f ρ) λd=>Zq (g ρ) λe=>match d,(ρ[i]?).bind id with
 | .int r,some (.lst ds)=>if ds.length<xg/\0<=r/\r<=1000000 then ZA (.nx (ρ.set i (some (.lst (ds.take r.toNat++e::ds.drop r.toNat)))))else Zv
 | _,_=>Zv
def Zny {i:Nat}{te tg:TE}{r1 r2:Bool}(hi:i∈own)(hy:WP G own r1 te f)(hy2:WP G own r2 tg g) :
  J7 G ob own own fr (VQ (VE X.K "list" ZiT (Z7 i) (Y9 te (Y9 tg Xq)))) (U9 i f g):=λkn jR H0 σ H ρ s out s' E ⟨Hf,j⟩ st e po=>by
 obtain⟨d,s1,a1,a2⟩:=ZC e;obtain⟨d2,s2,a3,a4⟩:=ZC a2
 cases d with
 | int r=>
  cases hb:(ρ[i]?).bind id with
  | none=>rw[hb]at a4;cases a4
  | some c=>
   rw[hb]at a4
   cases c with
   | lst ds=>
    obtain⟨hc,a5⟩:=Xf (show(if ds.length<xg/\0<=r/\r<=1000000 then ZA (.nx (ρ.set i (some (.lst (ds.take r.toNat++d2::ds.drop r.toNat)))))else Zv) s2=some (out,s')from a4);obtain⟨rfl,rfl⟩:=ZO a5;have ei:=Jv hb;obtain⟨a,vs,h1,h2,h3,h4⟩:=Ju j hi ei;refine⟨_,h1,.inl ⟨rfl,vs,ZF.of h3⟩,?_⟩;refine hy kn jR H0 σ Hf H ρ s (.int r) s1 _ j st a1 λv Hf' H' j' e1 e2 st' rp fz=>?_;rw[ja.mp rp];refine hy2 kn jR H0 σ Hf' H' ρ s1 d2 s' _ j' st' a3 λv2 kc H2 j2 e3 e4 j6 rp2 fz2=>?_;obtain⟨a',vs',h1',h2',h3',h4'⟩:=Ju j2 hi ei;rw[h1]at h1';cases h1';refine⟨a,vs',r,v2,rfl,rfl,h3',by rw[<-h4'.length];exact hc.1,hc.2.1,hc.2.2,?_⟩;exact po σ _ ⟨kc,j2.put hi ei h1 ⟨_,ZI,Zk.ins _ h4' rp2⟩⟩ (js j6 h2)
   | _=>cases a4
 | _=>cases hb:(ρ[i]?).bind id with
  | none=>rw[hb]at a4;cases a4
  | some c=>rw[hb]at a4;cases c <;> cases a4
def ZgN {i:Nat}{x:Str}{e1 e2:Expr}{pos p1 p2 p3:Pos}{r1 r2:Bool}(hi:i∈own)(hv:PE X (.Name x p1) (Z7 i))(he:PD X G r1 e1 f)(he2:PD X G r2 e2 g)
  (hbase:xq (.Name x p1) "insert" X.env (eval (.Name x p1) X.env)=eval (.Name x p1) X.env:=by rfl)
  (hfew:((backTo p3 (xh [e1,e2] X.env)).all (λx=>!x.1)&&(xp p3 (xi [] X.env)).all (λx=>x.1.isSome)
   && decide ([e1,e2].length+([]:List Keyword).length+(if ([]:List Keyword).isEmpty then 0 else 1)<30))=true:=by rfl)
  (hline:(p2.endLine==p3.line)=true:=by rfl) (hs:xh [e1,e2] X.env=(false,eval e1 X.env)::xh [e2] X.env:=by rfl) (hs2:xh [e2] X.env=(false,eval e2 X.env)::xh [] X.env:=by rfl)
  (hsw:xr (.Call (.Attribute (.Name x p1) "insert" p2) [e1,e2] [] p3) none pos.line X.env=pure false:=by rfl) :
  YE X G ob own own fr (.Expr (.Call (.Attribute (.Name x p1) "insert" p2) [e1,e2] [] p3) pos) (U9 i (Y6 r1 f) (Y6 r2 g)):=by
 obtain⟨t,p,q⟩:=he;obtain⟨t2,p',q'⟩:=he2;exact⟨_,ZcO (JO yn qbI PySem.F.type_list_insert Zkc hv (YN p (YN p' Y3 hs2) hs) hbase hfew hline hs (by rw[hs2];rfl)) hsw,Zny hi (XR.b q) (XR.b q')⟩
def Zkd {i:Nat}{x:Str}{e:Expr}{pos p1 p2 p3:Pos}{r1:Bool}(hi:i∈own)(hv:PE X (.Name x p1) (Z7 i))(he:PD X G r1 e f)
  (hbase:xq (.Name x p1) "extend" X.env (eval (.Name x p1) X.env)=eval (.Name x p1) X.env:=by rfl)
  (hfew:((backTo p3 (xh [e] X.env)).all (λx=>!x.1)&&(xp p3 (xi [] X.env)).all (λx=>x.1.isSome)
   && decide ([e].length+([]:List Keyword).length+(if ([]:List Keyword).isEmpty then 0 else 1)<30))=true:=by rfl)
  (hline:(p2.endLine==p3.line)=true:=by rfl) (hs:xh [e] X.env=(false,eval e X.env)::xh [] X.env:=by rfl)
  (hsw:xr (.Call (.Attribute (.Name x p1) "extend" p2) [e] [] p3) none pos.line X.env=pure false:=by rfl) :
  YE X G ob own own fr (.Expr (.Call (.Attribute (.Name x p1) "extend" p2) [e] [] p3) pos) (UH i (Y6 r1 f)):=by
 obtain⟨t,p,q⟩:=he;exact⟨_,ZeE hv p hbase hfew hline hs hsw,ZiD hi (XR.b q)⟩
end
section
variable {X:Cx}{G:Gh}
def va (i:Nat){x:Str}{pos:Pos}(hN:X.N[i]?=some x:=by rfl)(hv:J3 X.env.scope x:=by first | exact qI rfl | exact yc (qI rfl) | exact yc (yc rfl))(hd:(x==("__debug__" : Str))=false:=by decide)(hcd:(x==("__classdict__" : Str))=false:=by decide):PD X G false (.Name x pos) (Za i):=Zo0 i (pv i hN hv hd hcd)
def bk (XN:List Str)(NS:List (Str×NameKind))(N':List Str)(src:List (Option Nat)){scope:Scope}(a:X.N=XN:=by rfl)(b:X.env.scope.names=NS:=by rfl)(c:∀y∈scope.names,y.2≠.cell:=by decide +kernel)(d:scope.kind=.function:=by rfl)(e:∀y∈scope.names,y.2=.local->scope.names.lookup y.1=some .local:=by decide +kernel)(f:src.length=N'.length:=by rfl)(g:∀y∈scope.names,y.2=.free->NS.lookup y.1=some .cell∨NS.lookup y.1=some .free:=by decide +kernel)
  (h:(src.zip N').all (λp=>match p.1 with | some j=>decide (XN[j]?=some p.2)&&(decide (NS.lookup p.2=some .cell)||decide (NS.lookup p.2=some .free))&&decide (scope.names.lookup p.2=some .free) | none=>true)=true:=by decide +kernel):BlkS X XN NS N' src scope:=⟨a,b,c,d,e,f,g,h⟩
def YL {N P:List Str}{sc:Scope}(a:sc.kind=.function:=by rfl)(b:sc.isCoroutine=false:=by rfl)(c:sc.isGenerator=false:=by rfl)(d:N.Nodup:=by decide +kernel)(e:N.take P.length=P:=by rfl)(f:∀x∈P,sc.names.lookup x=some .local∨sc.names.lookup x=some .cell:=by decide +kernel)(g:∀y∈sc.names,y.2≠.free:=by decide +kernel):FnScope N P sc:=⟨a,b,c,d,e,f,g⟩
end
section
variable {X:Cx}{G:Gh}{elt tg iter:Expr}{ifs:List Expr}{scope:Scope}{pos pos' spos:Pos}{XN:List Str}{NS:List (Str×NameKind)}{N':List Str}{src:List (Option Nat)}{fi:Zb->M (List D)}{τ:D->Zb->Option Zb}{ft:Zb->M Bool}{fe:Zb->M D}{r1:Bool}{i:Nat}{x:Str}
def Y7 {cl:_}{jJ:_}{C:_}{s:_}{H:_}{fp:_}{x:Str}{pos:Pos}{ok:Nat->Prop}(nd:N'.Nodup:=by decide +kernel)(hi:N'[i]?=some x:=by rfl)(hx:WR (blk X jJ N' scope cl C s H fp).env.scope x:=by exact qI rfl)(oi:ok i:=by rfl)(hf:(blk X jJ N' scope cl C s H fp).fn x=true∨(blk X jJ N' scope cl C s H fp).env.scope.names.lookup x=some .local:=by first | exact .inl rfl | exact .inr rfl | assumption):Vh (blk X jJ N' scope cl C s H fp) G (.Name x pos) ok (Zw i):=X7 nd hi hx oi hf
def Xa (B:BlkS X XN NS N' src scope)(hi:WS X G tg iter fi)
  (hg:∀{cl jJ C s H fp},Vh (blk X jJ N' scope cl C s H fp) G tg (λi=>src[i]?=some none) τ) (ht:∀{cl jJ C s H fp},Vz (blk X jJ N' scope cl C s H fp) ifs (U4 G ft)) (he:∀{cl jJ C s H fp},PD (blk X jJ N' scope cl C s H fp) G r1 elt fe)
  (hc:X.calm=true:=by rfl) (hs:∀x,foldedSetIterable iter X.env x=pure x:=by intro _;rfl):PD X G true (.ListComp elt [⟨tg,iter,ifs,0⟩] scope pos) (ZR src fi τ ft fe):=Zlb hc B hi (λ_ _ _ _ _ _=>hg) (λ_ _ _ _ _ _=>ht) (λ_ _ _ _ _ _=>he) hs
end
def ZN {X:Cx}{G:Gh}{k:Nat}{x:Str}{n:Nat}{fr:Bool}{GG:Gh->Prop}{F:List D->M D}{p pos:Pos}{e:Expr}{es:List Expr}{fs:Zb->M (List D)}(c:ZD X.prog X.w X.K X.mg X.base k x n fr GG F)(hG:GG G)(hr:Room k X.A)
  (ha:Vg X G (e::es) fs) (hg:Gl X x:=by rfl) (hal:∀ρ s ds s',fs ρ s=some (ds,s')->ds.length=(e::es).length:=by first | exact Xs US | exact Xs (Xs US) | exact Xs (Xs (Xs US)) | exact Xs (Xs (Xs (Xs US))) | exact Xs (Xs (Xs (Xs (Xs US)))) | exact Xs (Xs (Xs (Xs (Xs (Xs US)))))) (jT:(e::es).length=n:=by rfl)
  (hdb:(x==("__debug__" : Str))=false:=by decide) (he:xh (e::es) X.env=(false,eval e X.env)::xh es X.env:=by rfl) (hpl:(backTo pos (xh es X.env)).any (·.1)=false:=by rfl) :
  PD X G fr (.Call (.Name x p) (e::es) [] pos) (Zn F fs):=Zo8 c hG hr hg ha hal jT hdb he hpl
section
variable {X:Cx}{G:Gh}{ob own own':List Nat}{fr:Bool}
def Zx {st:Stmt}{sts:List Stmt}{g1 g2:Zb->M Out}(h:YE X G ob own [] fr st g1)(h2:Wh X G ob [] own' fr sts g2):Wh X G ob own own' fr (st::sts) (Zg g1 g2):=Yr h h2
def Ya (hs:∀k,k∈own'->k∈([]:List Nat):=by decide):Wh X G ob [] own' fr [] Zo:=Ys hs
def WK {c:Expr}{a b:List Stmt}{pos:Pos}{fc:Zb->M Bool}{g1 g2:Zb->M Out}(hc:Ww X G c fc)(ha:Wh X G ob own [] fr a g1)(hb:Wh X G ob own [] fr b g2):YE X G ob own [] fr (.If c a b pos) (YF fc g1 g2):=Zfj hc ha hb
def Wn {f:Zb->M (List D)}{p pos:Pos}{e:Expr}(hm:X.mg "len" = none)(ha:Vg X G [e] f)(hg:Gl X "len":=by rfl)(h1:xh [e] X.env=(false,eval e X.env)::xh [] X.env:=by rfl)(h2:(backTo pos (xh [] X.env)).any (·.1)=false:=by rfl):PD X G true (.Call (.Name "len" p) [e] [] pos) (ZE Yw f):=XU Zhp hg hm boot_len ha (he:=h1)
end
end TF
namespace K55
open L2 TF TQ
open TP
open TP2
open TP3
def Z4 (i:Nat):Stmt:=PySem.Challenge.pw_tiefold_k55_whole_orders_turned.main.body.getD i (.Pass ⟨0,0,0,0⟩)
abbrev Zdy:Stmt:=Z4 4
abbrev Zbw:Stmt:=Z4 5
abbrev ZfD:Stmt:=Z4 6
abbrev Zdz:Stmt:=Z4 7
abbrev ZdA:Stmt:=Z4 9
abbrev Zh1:Stmt:=Z4 10
abbrev ZbL:Stmt:=Z4 11
abbrev ZdB:Stmt:=Z4 12
abbrev ZaJ:Stmt:=Z4 13
abbrev ZbY:Stmt:=Z4 14
abbrev ZiU:Stmt:=Z4 15
abbrev Zae:Stmt:=Z4 16
abbrev Za6:Stmt:=Z4 17
abbrev Zl4:Stmt:=Z4 19
abbrev Zal:Stmt:=Z4 20
abbrev Ba:Stmt:=Z4 21
abbrev ZaK:Stmt:=Z4 22
abbrev Zam:Stmt:=Z4 23
abbrev Zcj:Stmt:=Z4 24
abbrev ZaC:Stmt:=Z4 26
abbrev Zat:Stmt:=Z4 27
abbrev ZaW:Stmt:=Z4 28
abbrev Zbx:Stmt:=Z4 29
abbrev Zck:Stmt:=Z4 30
abbrev Za7:Stmt:=Z4 32
abbrev Jh:Stmt:=Z4 33
abbrev ZaL:Stmt:=Z4 34
abbrev Zaf:Stmt:=Z4 35
abbrev ZaD:Stmt:=Z4 36
abbrev Zbq:Stmt:=Z4 38
abbrev Za8:Stmt:=Z4 40
abbrev ZbZ:Stmt:=Z4 41
abbrev ZaM:Stmt:=Z4 42
abbrev Zby:Stmt:=Z4 43
abbrev Zai:Stmt:=Z4 44
abbrev s_law:Stmt:=Z4 45
structure Txt (mg:Str->Option Value):Prop where
 b_all:mg "all" = none
 b_any:mg "any" = none
 b_bool:mg "bool" = none
 b_dict:mg "dict" = none
 b_enumerate:mg "enumerate" = none
 b_int:mg "int" = none
 b_isinstance:mg "isinstance" = none
 b_len:mg "len" = none
 b_list:mg "list" = none
 b_max:mg "max" = none
 b_min:mg "min" = none
 b_range:mg "range" = none
 b_set:mg "set" = none
 b_sorted:mg "sorted" = none
 b_sum:mg "sum" = none
 b_tuple:mg "tuple" = none
set_option maxHeartbeats 4000000
variable {P:xE}{w:World}{K:ql}{mg:Str->Option Value}{base:Heap}{jZ:Addr}{jO:xD}
def Zej:Zb->M Out:=(Zg (ZT 3 (Zn WZ (Zc (Za 0) (Zc (Za 1) Zd))))
 (Zg (ZT 4 (Ze Y5 (dC (.int 1)) (Zn Yv (Zc (Za 0) (Zc (dC (.int 5)) Zd)))))
 (Zg (WI 5 (XC Zd))
 (Zg (YZ (Z8 (Za 1)) (Zw 6)
 (Zg (YZ (Z8 (Za 6)) (Zw 7)
 (Zg (YF (asB (Ze WT (Zn Yv (Zc (Za 0) (Zc (dC (.int 8)) Zd))) (Za 4)))
 (Zg (U9 5 (Y6 true (Zn Yv (Zc (Za 0) (Zc (Ze Y5 (ZE Yw (Zc (Za 5) Zd)) (dC (.int 1))) Zd)))) (Y6 true (ZW (Zc (Ze Zl (Za 3) (Za 7)) (Zc (Ze Zl (Za 3) (Za 6)) Zd)))))
 Zo)
 Zo)
 Zo))
 Zo))
 (Zg (YF (XX (asB (Ze Xj (Za 5) (XC Zd))) (asB (Ze Xc (Zn Yv (Zc (Za 0) (Zc (dC (.int 3)) Zd))) (dC (.int 0)))))
 (Zg (VY 5 (Y6 false (Ze Zl (Za 5) (Zn Yv (Zc (Za 0) (Zc (ZE Yw (Zc (Za 5) Zd)) Zd))))))
 Zo)
 Zo)
 (Zg (YZ (Z8 (Ze dMul (Ze Zl (XC (Zc (dC (.int 0)) (Zc (dC (.int 0)) (Zc (dC (.int 0)) (Zc (dC (.int 1)) (Zc (dC (.int 1)) (Zc (dC (.int 2)) (Zc (dC (.int 3)) Zd)))))))) (Zn Yv (Zc (Za 0) (Zc (dC (.int 7)) Zd)))) (ZE Zk3 (Zc (WH (Za 2) (Ze dGt (Za 1) (dC (.int 0)))) Zd)))) (Zw 8)
 (Zg (U9 5 (Y6 true (Zn Yv (Zc (Za 0) (Zc (Ze Y5 (ZE Yw (Zc (Za 5) Zd)) (dC (.int 1))) Zd)))) (Y6 true (ZW (Zc (Zn Yv (Zc (Za 0) (Zc (Za 1) Zd))) (Zc (Zn Yv (Zc (Za 0) (Zc (Za 1) Zd))) Zd)))))
 Zo))
 (Zg (ZK (Za 5))
 Zo)))))))
def Zaj:List D->M D:=runB 9 3 Zej
def Za9:FnScope ["pen","n","rings","order","often","pairs","j","i","k"] ["pen","n","rings"] (Zy Zby):=YL
def ZdC (F:Fun K "_law_tpairs" "_law_tpairs" Zby jZ jO)(T:Txt mg){L:List (Addr×Str)}(lo:Wy L)(jM:ZD P w K mg base 1 "_law_tdraw" 2 true (Wj XO L) Yv)(jU:ZD P w K mg base 2 "_law_torder" 2 true (Wj XO L) WZ) :
  FnOk P w K mg base ZQ 3 jZ jO ["pen","n","rings"] (Yf 3 true (Wj XO L) Zaj):=
 have jN:=Za9.nd
 Y1 (own:=[]) F Za9 λcdv A outer s H E hr G hG=>
 have hT:Ym L G:=jB lo hG
 (Zx (YB (Yt jN rfl (qI rfl) (ZN (jU.mono) hG hr (Zf (va 0) (Zf (va 1) Zj)))))
 (Zx (YB (Yt jN rfl (qI rfl) (W0 VM Z2 (ZN (jM.mono) hG hr (Zf (va 0) (Zf Z2 Zj))))))
 (Yr (own2:=[5]) (Jp (Yt jN rfl (qI rfl) (Uc Zj)))
 (Yr (own2:=[5]) (Wp (own:=[5]) zd rfl (W7 rfl T.b_range (va 1)) (X7 jN rfl (qI rfl) (by decide))
 (Yr (own2:=[5]) (Wp (own:=[5]) zd rfl (W7 rfl T.b_range (va 6)) (X7 jN rfl (qI rfl) (by decide))
 (Yr (own2:=[5]) (Zfj (own':=[5]) (YM (BM hr.units0) (ZN (jM.mono) hG hr (Zf (va 0) (Zf Z2 Zj))) (va 4))
 (Yr (own2:=[5]) (ZgN (own:=[5]) (i:=5) (by decide) (pv 5) (ZN (jM.mono) hG hr (Zf (va 0) (Zf (W0 VM (Wn T.b_len (Zf (va 5) Zj)) Z2) Zj))) (Y4 (Zf (Z5 Z6 (va 3) (va 7)) (Zf (Z5 Z6 (va 3) (va 6)) Zj))))
 (Ys (own:=[5])))
 Ys)
 (Ys (own:=[5]))))
 (Ys (own:=[5]))))
 (Yr (own2:=[5]) (Zfj (own':=[5]) (Wx.pt (BD (YM (Uf hr.units) (va 5) (Uc Zj)) (Bw (YM (UA hr.units) (ZN (jM.mono) hG hr (Zf (va 0) (Zf Z2 Zj))) Z2))))
 (Yr (own2:=[5]) (Zk0 (own:=[5]) (i:=5) (by decide) (Z5 Z6 (va 5) (ZN (jM.mono) hG hr (Zf (va 0) (Zf (Wn T.b_len (Zf (va 5) Zj)) Zj)))) (λ_ h=>Zce (pv 5) h))
 (Ys (own:=[5])))
 Ys)
 (Yr (own2:=[5]) (Wp (own:=[5]) zd rfl (W7 rfl T.b_range (W0 Ziw (Z5 Z6 (Uc (Zf Z2 (Zf Z2 (Zf Z2 (Zf Z2 (Zf Z2 (Zf Z2 (Zf Z2 Zj)))))))) (ZN (jM.mono) hG hr (Zf (va 0) (Zf Z2 Zj)))) (Vk (Zhr) rfl T.b_int TF.boot_int (Zf (BK (va 2) (BJ (Vo (Zo2) (va 1) Z2))) Zj)))) (X7 jN rfl (qI rfl) (by decide))
 (Yr (own2:=[5]) (ZgN (own:=[5]) (i:=5) (by decide) (pv 5) (ZN (jM.mono) hG hr (Zf (va 0) (Zf (W0 VM (Wn T.b_len (Zf (va 5) Zj)) Z2) Zj))) (Y4 (Zf (ZN (jM.mono) hG hr (Zf (va 0) (Zf (va 1) Zj))) (Zf (ZN (jM.mono) hG hr (Zf (va 0) (Zf (va 1) Zj))) Zj))))
 (Ys (own:=[5]))))
 (Yr (own2:=[5]) (ZbC (i:=5) (by decide) (pv 5))
 (Ys (own:=[5])))))))))
def Zek:Zb->M Out:=(Zg (WI 2 (XC Zd))
 (Zg (YZ (Z8 (Za 0)) (Zw 3)
 (Zg (WI 4 (fun ρ=>(ZR [none,none,some 3] (ZV (Za 1)) (Ws 0 1) (asB (Ze Xc (Za 1) (Za 2))) (Za 0)) (Yq [2] ρ)))
 (Zg (ZT 5 (fun ρ=>(dC (.int 0)) (Yq [4,2] ρ)))
 (Zg (BN 1000000 (asB (Ze WT (Za 5) (ZE Yw (Zc (Za 4) Zd))))
 (Zg (UH 4 (Y6 true (ZR [none,none,some 4,some 5] (ZV (Za 1)) (Ws 0 1) (XX (asB (Ze Xc (Za 1) (Ze Zl (Za 2) (Za 3)))) (asB (Ze Wa (Za 0) (Za 2)))) (Za 0))))
 (Zg (ZT 5 (fun ρ=>(Ze Y5 (Za 5) (dC (.int 1))) (Yq [4,2] ρ)))
 Zo)))
 (Zg (VY 2 (fun ρ=>(Jq (Za 4)) (Yq [2] ρ)))
 Zo)))))
 (Zg (ZK (Za 2))
 Zo)))
def Zak:List D->M D:=runB 6 2 Zek
def Zba:FnScope ["n","pairs","found","place","lower","at"] ["n","pairs"] (Zy Zai):=YL
def ZdD (F:Fun K "_law_tlower" "_law_tlower" Zai jZ jO)(T:Txt mg) :
  FnOk P w K mg base ZQ 1 jZ jO ["n","pairs"] (Yf 2 true ZU Zak):=
 have jN:=Zba.nd
 Y1 (own:=[]) F Zba λcdv A outer s H E hr G hG=>
 (Yr (own2:=[2]) (Jp (Yt jN rfl (qI rfl) (Uc Zj)))
 (Yr (own2:=[2]) (Wp (own:=[2]) zd rfl (W7 rfl T.b_range (va 0)) (X7 jN rfl (yc rfl) (by decide))
 (Yr (own2:=[4,2]) (ZkZ (own:=[2]) (own':=[4,2]) (Yt jN rfl (yc rfl) (Xa (bk ["n","pairs","found","place","lower","at"] (Zy Zai).names ["a","b","place"] [none,none,some 3]) (Xz (va 1)) (Bx rfl (show(["a","b","place"]:List Str).Nodup by decide +kernel) rfl rfl (qI rfl) (qI rfl) rfl rfl (hp:=WW (X0 (show(["a","b","place"]:List Str).Nodup by decide +kernel) rfl (qI rfl)) (WW (X0 (show(["a","b","place"]:List Str).Nodup by decide +kernel) rfl (qI rfl)) Js))) (W1 (YM (UA hr.units) (va 1) (va 2))) (va 0))))
 (Yr (own2:=[4,2]) (Zf4 (own:=[4,2]) (Yt jN rfl (yc rfl) Z2))
 (Yr (own2:=[4,2]) (ZeN (own:=[4,2]) zd (YM (BM hr.units0) (va 5) (Wn T.b_len (Zf (va 4) Zj)))
 (Yr (own2:=[4,2]) (Zkd (own:=[4,2]) (i:=4) (by decide) (pv 4) (Xa (bk ["n","pairs","found","place","lower","at"] (Zy Zai).names ["a","b","lower","at"] [none,none,some 4,some 5]) (Xz (va 1)) (Bx rfl (show(["a","b","lower","at"]:List Str).Nodup by decide +kernel) rfl rfl (qI rfl) (qI rfl) rfl rfl (hp:=WW (X0 (show(["a","b","lower","at"]:List Str).Nodup by decide +kernel) rfl (qI rfl)) (WW (X0 (show(["a","b","lower","at"]:List Str).Nodup by decide +kernel) rfl (qI rfl)) Js))) (W1 (Wx.pt (BD (YM (UA hr.units) (va 1) (Z5 Z6 (va 2) (va 3))) (Bw (YM (Zbo hr.units) (va 0) (va 2)))))) (va 0)))
 (Yr (own2:=[4,2]) (Zf4 (own:=[4,2]) (Yt jN rfl (yc rfl) (W0 VM (va 5) Z2)))
 (Ys (own:=[4,2])))))
 (Yr (own2:=[2]) (YE.frz (own:=[4,2]) (own2:=[2]) (Zlx (own:=[2]) (i:=2) (by decide) (pv 2) (Zdx rfl rfl T.b_sorted TF.boot_sorted rfl T.b_set TF.boot_set (va 4))))
 (Ys (own:=[2])))))))
 (Yr (own2:=[2]) (ZbC (i:=2) (by decide) (pv 2))
 (Ys (own:=[2])))))
def Zcy:FnScope ["row","pairs","i","j"] ["row"] (Zy Zdz):=YL
def ZgO (F:Fun K "pairs_of" "pairs_of" Zdz jZ jO)(T:Txt mg) :
  FnOk P w K mg base ZQ 1 jZ jO ["row"] (Yf 1 true ZU V5):=
 have jN:=Zcy.nd
 Y1 (own:=[]) F Zcy λcdv A outer s H E hr G hG=>
 (Yr (own2:=[1]) (Jp (Yt jN rfl (qI rfl) (Uc Zj)))
 (Yr (own2:=[1]) (Wp (own:=[1]) zd rfl (W7 rfl T.b_range (Wn T.b_len (Zf (va 0) Zj))) (X7 jN rfl (qI rfl) (by decide))
 (Yr (own2:=[1]) (Wp (own:=[1]) zd rfl (Zf6 rfl T.b_range (W0 VM (va 2) Z2) (Wn T.b_len (Zf (va 0) Zj))) (X7 jN rfl (qI rfl) (by decide))
 (Yr (own2:=[1]) (Zf8 (own:=[1]) (i:=1) (by decide) (Y4 (Zf (Z5 Z6 (va 0) (va 2)) (Zf (Z5 Z6 (va 0) (va 3)) Zj))) (λ_ h=>Zce (pv 1) h))
 (Ys (own:=[1]))))
 (Ys (own:=[1]))))
 (Yr (own2:=[1]) (ZbC (i:=1) (by decide) (pv 1))
 (Ys (own:=[1])))))
def Zb0:FnScope ["row","tied","pairs"] ["row","tied"] (Zy Za6):=YL
def ZfE (F:Fun K "web_where" "web_where" Za6 jZ jO)(T:Txt mg)(kB:ZD P w K mg base 1 "pairs_of" 1 true ZU V5) :
  FnOk P w K mg base ZQ 5 jZ jO ["row","tied"] (Yf 2 false (UI P w K mg 4 2 Tl base) VI):=
 have jN:=Zb0.nd
 Y1 (own:=[]) F Zb0 λcdv A outer s H E hr G hG=>
 (Zx (YB (Yt jN rfl (qI rfl) (ZN (kB.mono) trivial hr (Zf (Zar rfl rfl T.b_range rfl T.b_list TF.boot_list (Wn T.b_len (Zf (va 0) Zj))) Zj))))
 (Zx (Yh (PD.weak (Y4 (Zf (Wn T.b_len (Zf (va 0) Zj)) (Zf (Vk (Be) rfl T.b_tuple TF.boot_tuple (Zf (Xa (bk ["row","tied","pairs"] (Zy Za6).names ["pair","tied","row"] [none,some 1,some 0]) (Xz (va 2)) Y7 (W1 (Vm (Zlf hG (hr.mono (by decide)) (pv 1) (Zf (Z5 Z6 (va 2) (Z5 Z6 (va 0) Z2)) (Zf (Z5 Z6 (va 2) (Z5 Z6 (va 0) Z2)) Zj)) (Xs (Xs US))))) (va 0)) Zj)) Zj)))))
 Ya))
def ZdE:Zb->M Out:=(Zg (ZK (U6 VI 5 [1] (Vj (Za 0))))
 Zo)
def Bc:List D->M D:=runB 2 2 ZdE
def Za3:FnScope ["n","below"] ["n","below"] (Zy Zaf):=YL
def ZcM (F:Fun K "web_of_below" "web_of_below" Zaf jZ jO)(T:Txt mg){L:List (Addr×Str)}(lo:Wy L)(jX:UJ P w K mg 5 "web_where" 2 false (UI P w K mg 4 2 Tl) VI){tc tP:Addr}(hcode:jO.code=.ref tc)(hCd:zJ base tc tP)(hBm:Uo mg base)(hL:(tP,(qC "web_of_below.<locals>.<lambda>"))∈L) :
  FnOk P w K mg base ZQ 6 jZ jO ["n","below"] (Yf 2 false (Ym L) Bc):=
 have jN:=Za3.nd
 fnDC (own:=[]) F Za3 λA outer s H E hr G hG=>
 have hT:Ym L G:=hG;have TG9:=hT _ _ hL;have M9:Mk0 (W2 ZQ P w K mg base ["n","below"] "web_of_below" (Zy Zaf) jZ jO.code A outer s H E).nox tc tP:=⟨hcode,hCd,hBm⟩
 (Zx (Yh (ZbI (kl:=3) (frb:=false) (N:=["a","b","below"]) (ps:=["a","b"]) (cix:=[1]) (T:=Tl) (t:=5) (q:="web_of_below.<locals>.<lambda>") M9 TG9 (jX.mono) (λ_=>rfl) hr rfl (Zar rfl rfl T.b_range rfl T.b_list TF.boot_list (va 0)) rfl (⟨rfl,rfl,rfl,by decide +kernel,rfl,by decide +kernel,by decide +kernel⟩:CloScope ["a","b","below"] ["a","b"] _) (⟨rfl,rfl,rfl,by decide +kernel,by decide +kernel⟩:CapS _ ["n","below"] (Zy Zaf).names ["a","b","below"] ["a","b"] [1] _) rfl (λ_ _ _ _ us hl=>match us,hl with | [_,_],_=>rfl) (λbase f c cl G A outer s H E hr=>(ZpP (Vo (VO hr.units) (Y4 (Zf (va 0) (Zf (va 1) Zj))) (va 2)) (BJ (Vo (VO hr.units) (Y4 (Zf (va 1) (Zf (va 0) Zj))) (va 2)))))))
 Ya)
def ZgP:Zb->M Out:=(Zg (WI 2 (ZE ZfC (Zc (ZR [none] (ZV (Za 1)) (Zw 0) Z3 (ZW (Zc (Za 0) (Zc (dC (.bl true)) Zd)))) Zd)))
 (Zg (YZ (Z8 (Za 0)) (Zw 3)
 (Zg (YZ (Z8 (Za 0)) (Zw 4)
 (Zg (YZ (Z8 (Za 0)) (Zw 5)
 (Zg (YF (XX (asB (Ze YI (ZW (Zc (Za 4) (Zc (Za 3) Zd))) (Za 2))) (asB (Ze YI (ZW (Zc (Za 3) (Zc (Za 5) Zd))) (Za 2))))
 (Zg (JT 2 (fun ρ=>(ZW (Zc (Za 4) (Zc (Za 5) Zd))) (Yq [2] ρ)) (fun ρ=>(dC (.bl true)) (Yq [2] ρ)))
 Zo)
 Zo)
 Zo))
 Zo))
 Zo))
 (Zg (YF (asB (ZE JY (Zc (ZR [none,some 2] (Z8 (Za 0)) (Zw 0) Z3 (Ze YI (ZW (Zc (Za 0) (Zc (Za 0) Zd))) (Za 1))) Zd)))
 (λ_=>Zv)
 Zo)
 (Zg (ZK (Za 2))
 Zo))))
def Bk:List D->M D:=runB 6 2 ZgP
def Zb1:FnScope ["n","pairs","below","between","a","b"] ["n","pairs"] (Zy ZaD):=YL
def ZfF (F:Fun K "all_below" "all_below" ZaD jZ jO)(T:Txt mg) :
  FnOk P w K mg base ZQ 1 jZ jO ["n","pairs"] (Yf 2 false ZU Bk):=
 have jN:=Zb1.nd
 Y1 (own:=[]) F Zb1 λcdv A outer s H E hr G hG=>
 (Yr (own2:=[2]) (Jp (Yt jN rfl (yc rfl) (Vk (Zh0 rfl hr.units) rfl T.b_dict TF.boot_dict (Zf (Xa (bk ["n","pairs","below","between","a","b"] (Zy ZaD).names ["pair"] [none]) (Xz (va 1)) Y7 XW (Y4 (Zf (va 0) (Zf WD Zj)))) Zj))))
 (Yr (own2:=[2]) (Wp (own:=[2]) zd rfl (W7 rfl T.b_range (va 0)) (X7 jN rfl (qI rfl) (by decide))
 (Yr (own2:=[2]) (Wp (own:=[2]) zd rfl (W7 rfl T.b_range (va 0)) (X7 jN rfl (qI rfl) (by decide))
 (Yr (own2:=[2]) (Wp (own:=[2]) zd rfl (W7 rfl T.b_range (va 0)) (X7 jN rfl (qI rfl) (by decide))
 (Yr (own2:=[2]) (Zfj (own':=[2]) (Wx.pt (BD (YM (VO hr.units) (Y4 (Zf (va 4) (Zf (va 3) Zj))) (va 2)) (Bw (YM (VO hr.units) (Y4 (Zf (va 3) (Zf (va 5) Zj))) (va 2)))))
 (Yr (own2:=[2]) (ZhM (own:=[2]) (i:=2) (L2.hu_of hr) (by decide) (pv 2) (Y4 (Zf (va 4) (Zf (va 5) Zj))) WD)
 (Ys (own:=[2])))
 Ys)
 (Ys (own:=[2]))))
 (Ys (own:=[2]))))
 (Ys (own:=[2]))))
 (Zx (YE.frz (own:=[2]) (own2:=[]) (WK (Vm (XU (Zju rfl) rfl T.b_any TF.boot_any (Zf (Xa (bk ["n","pairs","below","between","a","b"] (Zy ZaD).names ["place","below"] [none,some 2]) (V4 rfl T.b_range (va 0)) Y7 XW (Vo (VO hr.units) (Y4 (Zf (va 0) (Zf (va 0) Zj))) (va 1))) Zj)))
 ZjQ
 Ys))
 (Zx (Yh (va 2))
 Ya))))
def ZdF:Zb->M Out:=(Zg (ZK (Zn Bc (Zc (Za 0) (Zc (Zn Bk (Zc (Za 0) (Zc (Za 1) Zd))) Zd))))
 Zo)
def UO:List D->M D:=runB 2 2 ZdF
def Za4:FnScope ["n","pairs"] ["n","pairs"] (Zy Za7):=YL
def ZcN (F:Fun K "web_of_order" "web_of_order" Za7 jZ jO)(T:Txt mg){L:List (Addr×Str)}(lo:Wy L)(ki:ZD P w K mg base 1 "all_below" 2 false ZU Bk)(jY:ZD P w K mg base 6 "web_of_below" 2 false (Ym L) Bc) :
  FnOk P w K mg base ZQ 7 jZ jO ["n","pairs"] (Yf 2 false (Ym L) UO):=
 have jN:=Za4.nd
 Y1 (own:=[]) F Za4 λcdv A outer s H E hr G hG=>
 have hT:Ym L G:=hG
 (Zx (Yh (ZN (jY.mono) hT hr (Zf (va 0) (Zf (ZN (ki.mono) trivial hr (Zf (va 0) (Zf (va 1) Zj))) Zj))))
 Ya)
def Zel:Zb->M Out:=(Zg (ZK (ZE Yw (Zc (ZR [none,some 2,some 1] (Z8 (Za 0)) (Zw 0) (asB (Ze YI (ZW (Zc (Za 0) (Zc (Za 1) Zd))) (Za 2))) (Za 0)) Zd)))
 Zo)
def ZaN:List D->M D:=runB 3 3 Zel
def Zbb:FnScope ["n","below","place"] ["n","below","place"] (Zy ZaL):=YL
def ZdG (F:Fun K "count_below" "count_below" ZaL jZ jO)(T:Txt mg) :
  FnOk P w K mg base ZQ 1 jZ jO ["n","below","place"] (Yf 3 true ZU ZaN):=
 have jN:=Zbb.nd
 Y1 (own:=[]) F Zbb λcdv A outer s H E hr G hG=>
 (Zx (Yh (Wn T.b_len (Zf (Xa (bk ["n","below","place"] (Zy ZaL).names ["other","place","below"] [none,some 2,some 1]) (V4 rfl T.b_range (va 0)) Y7 (W1 (YM (VO hr.units) (Y4 (Zf (va 0) (Zf (va 1) Zj))) (va 2))) (va 0)) Zj)))
 Ya)
def Zbc:FnScope ["web"] ["web"] (Zy ZaJ):=YL
def ZdH (F:Fun K "marked_ties" "marked_ties" ZaJ jZ jO)(T:Txt mg) :
  FnOk P w K mg base ZQ 1 jZ jO ["web"] (Yf 1 true ZU Vi):=
 have jN:=Zbc.nd
 Y1 (own:=[]) F Zbc λcdv A outer s H E hr G hG=>
 (Zx (Yh (Vk (Zhw rfl hr.units) rfl T.b_dict TF.boot_dict (Zf (Xa (bk ["web"] (Zy ZaJ).names ["tie"] [none]) (ZcS (Z5 Z6 (va 0) Z2)) Y7 XW (Y4 (Zf (va 0) (Zf WD Zj)))) Zj)))
 Ya)
def Zcz:FnScope ["ties","a","b"] ["ties","a","b"] (Zy ZdB):=YL
def ZgQ (F:Fun K "are_tied" "are_tied" ZdB jZ jO)(T:Txt mg) :
  FnOk P w K mg base ZQ 1 jZ jO ["ties","a","b"] (Yf 3 false ZU W9):=
 have jN:=Zcz.nd
 Y1 (own:=[]) F Zcz λcdv A outer s H E hr G hG=>
 (Zx (Yh (PD.weak (Vo (VO hr.units) (Y4 (Zf (XU (Zde rfl) rfl T.b_min TF.boot_min (Zf (va 1) (Zf (va 2) Zj))) (Zf (XU (Zhq rfl) rfl T.b_max TF.boot_max (Zf (va 1) (Zf (va 2) Zj))) Zj))) (va 0))))
 Ya)
def ZiV:FnScope ["web","place"] ["web","place"] (Zy Zh1):=YL
def Znz (F:Fun K "near" "near" Zh1 jZ jO)(T:Txt mg)(kL:ZD P w K mg base 1 "are_tied" 3 false ZU W9) :
  FnOk P w K mg base ZQ 2 jZ jO ["web","place"] (Yf 2 true ZU JF):=
 have jN:=ZiV.nd
 Y1 (own:=[]) F ZiV λcdv A outer s H E hr G hG=>
 (Zx (Yh (Xa (bk ["web","place"] (Zy Zh1).names ["other","web","place"] [none,some 0,some 1]) (V4 rfl T.b_range (Z5 Z6 (va 0) Z2)) Y7 (W1 (Vm (ZN (kL.mono) trivial hr (Zf (Z5 Z6 (va 1) Z2) (Zf (va 2) (Zf (va 0) Zj)))))) (va 0)))
 Ya)
def ZcA:FnScope ["web","marked"] ["web"] (Zy ZbL):=YL
def ZgR (F:Fun K "all_near" "all_near" ZbL jZ jO)(T:Txt mg)(jQ:ZD P w K mg base 1 "marked_ties" 1 true ZU Vi)(kT:ZD P w K mg base 2 "near" 2 true ZU JF) :
  FnOk P w K mg base ZQ 3 jZ jO ["web"] (Yf 1 true ZU Ur):=
 have jN:=ZcA.nd
 Y1 (own:=[]) F ZcA λcdv A outer s H E hr G hG=>
 (Zx (YB (Yt jN rfl (yc rfl) (Y4 (Zf (Z5 Z6 (va 0) Z2) (Zf (ZN (jQ.mono) trivial hr (Zf (va 0) Zj)) Zj)))))
 (Zx (Yh (Xa (bk ["web","marked"] (Zy ZbL).names ["place","marked"] [none,some 1]) (V4 rfl T.b_range (Z5 Z6 (va 0) Z2)) Y7 XW (ZN (kT.mono) trivial hr (Zf (va 1) (Zf (va 0) Zj)))))
 Ya))
def Zbz:FnScope ["taken"] ["taken"] (Zy ZaW):=YL
def Zem (F:Fun K "least_free" "least_free" ZaW jZ jO)(T:Txt mg) :
  FnOk P w K mg base ZQ 1 jZ jO ["taken"] (Yf 1 true ZU Jj):=
 have jN:=Zbz.nd
 Y1 (own:=[]) F Zbz λcdv A outer s H E hr G hG=>
 (Zx (Yh (XU (ZhL rfl) rfl T.b_min TF.boot_min (Zf (Xa (bk ["taken"] (Zy ZaW).names ["hue","taken"] [none,some 0]) (V4 rfl T.b_range (W0 VM (Wn T.b_len (Zf (va 0) Zj)) Z2)) Y7 (W1 (YM (Zbo hr.units) (va 0) (va 1))) (va 0)) Zj)))
 Ya)
def ZbA:FnScope ["web","order","nears","hues","place"] ["web","order"] (Zy Zat):=YL
def Zen (F:Fun K "hued_along" "hued_along" Zat jZ jO)(T:Txt mg)(j7:ZD P w K mg base 3 "all_near" 1 true ZU Ur)(kI:ZD P w K mg base 1 "least_free" 1 true ZU Jj) :
  FnOk P w K mg base ZQ 4 jZ jO ["web","order"] (Yf 2 true ZU Bf):=
 have jN:=ZbA.nd
 Y1 (own:=[]) F ZbA λcdv A outer s H E hr G hG=>
 (Zx (YB (Yt jN rfl (qI rfl) (ZN (j7.mono) trivial hr (Zf (va 0) Zj))))
 (Yr (own2:=[3]) (Jp (Yt jN rfl (yc rfl) ZlB))
 (Yr (own2:=[3]) (Wp (own:=[3]) zd rfl (WS.a (own:=[3]) (Xz (va 1))) (X7 jN rfl (qI rfl) (by decide))
 (Yr (own2:=[3]) (ZjS (own:=[3]) (i:=3) (L2.hu_of hr) (by decide) (pv 3) (va 4) (ZN (kI.mono) trivial hr (Zf (Xa (bk ["web","order","nears","hues","place"] (Zy Zat).names ["other","hues"] [none,some 3]) (Xz (Z5 Z6 (va 2) (va 4))) Y7 (W1 (YM (VO hr.units) (va 0) (va 1))) (ZcY (L2.hu_of hr) (va 1) (va 0))) Zj)))
 (Ys (own:=[3]))))
 (Yr (own2:=[3]) (Yh (Vk (Be) rfl T.b_tuple TF.boot_tuple (Zf (Xa (bk ["web","order","nears","hues","place"] (Zy Zat).names ["place","hues"] [none,some 3]) (V4 rfl T.b_range (Z5 Z6 (va 0) Z2)) Y7 XW (ZcY (L2.hu_of hr) (va 1) (va 0))) Zj)))
 (Ys (own:=[3]))))))
def ZeZ:FnScope ["web","ties"] ["web"] (Zy ZbY):=YL
def Zke (F:Fun K "turned" "turned" ZbY jZ jO)(T:Txt mg){L:List (Addr×Str)}(lo:Wy L)(jQ:ZD P w K mg base 1 "marked_ties" 1 true ZU Vi)(jX:UJ P w K mg 5 "web_where" 2 false (UI P w K mg 4 2 Tl) VI)(kd:∀base,ZD P w K mg base 1 "are_tied" 3 false ZU W9){tc tP:Addr}(hcode:jO.code=.ref tc)(hCd:zJ base tc tP)(hBm:Uo mg base)(hL:(tP,(qC "turned.<locals>.<lambda>"))∈L) :
  FnOk P w K mg base ZQ 6 jZ jO ["web"] (Yf 1 false (Ym L) Ua):=
 have jN:=ZeZ.nd
 fnDC (own:=[]) F ZeZ λA outer s H E hr G hG=>
 have hT:Ym L G:=hG;have TG9:=hT _ _ hL;have M9:Mk0 (W2 ZQ P w K mg base ["web","ties"] "turned" (Zy ZbY) jZ jO.code A outer s H E).nox tc tP:=⟨hcode,hCd,hBm⟩
 (Zx (YB (Yt jN rfl (yc rfl) (ZN (jQ.mono) trivial hr (Zf (va 0) Zj))))
 (Zx (Yh (ZbI (kl:=3) (frb:=true) (N:=["a","b","ties"]) (ps:=["a","b"]) (cix:=[1]) (T:=Tl) (t:=0) (q:="turned.<locals>.<lambda>") M9 TG9 (jX.mono) (λ_=>rfl) hr rfl (Zar rfl rfl T.b_range rfl T.b_list TF.boot_list (Z5 Z6 (va 0) Z2)) rfl (⟨rfl,rfl,rfl,by decide +kernel,rfl,by decide +kernel,by decide +kernel⟩:CloScope ["a","b","ties"] ["a","b"] _) (⟨rfl,rfl,rfl,by decide +kernel,by decide +kernel⟩:CapS _ ["web","ties"] (Zy ZbY).names ["a","b","ties"] ["a","b"] [1] _) rfl (λ_ _ _ _ us hl=>match us,hl with | [_,_],_=>rfl) (λbase f c cl G A outer s H E hr=>(ZkW (ZN ((kd base).mono) trivial hr (Zf (va 2) (Zf (va 0) (Zf (va 1) Zj))))))))
 Ya))
def ZaO:FnScope ["aparts","weights","place","places","others"] ["aparts","weights","place","places"] (Zy Zam):=YL
def Zcl (F:Fun K "heaviest_with" "heaviest_with" Zam jZ jO)(T:Txt mg){Fs:List D->M D}{lv:Nat}(hlv:0<=lv)(jS:ZD P w K mg base lv "heaviest_among" 3 false ZU Fs) :
  FnOk P w K mg base ZQ (lv+1) jZ jO ["aparts","weights","place","places"] (Yf 4 false ZU (Zad Fs)):=
 have jN:=ZaO.nd
 Y1 (own:=[]) F ZaO λcdv A outer s H E hr G hG=>
 (Zx (YB (Jl jN rfl (qI rfl) rfl (bk ["aparts","weights","place","places","others"] (Zy Zam).names ["other","place","aparts"] [none,some 2,some 0]) (Xz (va 3)) (λ_ _ _ _ _ _=>Y7) (λ_ _ _ _ _ _=>(W1 (Wx.pt (BD (YM (Uf hr.units) (va 0) (va 1)) (Bw (YM (Zbo hr.units) (va 0) (Z5 Z6 (va 2) (va 1)))))))) (λ_ _ _ _ _ _=>(va 0))))
 (Zx (Yh (PD.weak (W0 VM (Uc (Zf (va 2) Zj)) (ZN (jS) trivial hr (Zf (va 0) (Zf (va 1) (Zf (va 4) Zj)))))))
 Ya))
def Zbd:FnScope ["aparts","place","places"] ["aparts","place","places"] (Zy ZaK):=YL
def ZdI (F:Fun K "apart_among" "apart_among" ZaK jZ jO)(T:Txt mg) :
  FnOk P w K mg base ZQ 1 jZ jO ["aparts","place","places"] (Yf 3 true ZU ZaI):=
 have jN:=Zbd.nd
 Y1 (own:=[]) F Zbd λcdv A outer s H E hr G hG=>
 (Zx (Yh (Xa (bk ["aparts","place","places"] (Zy ZaK).names ["other","aparts","place"] [none,some 0,some 1]) (Xz (va 2)) Y7 (W1 (YM (VO hr.units) (va 0) (Z5 Z6 (va 1) (va 2)))) (va 0)))
 Ya)
def ZdJ:FnScope ["weights","places"] ["weights","places"] (Zy Zcj):=YL
def Zh2 (F:Fun K "weighed" "weighed" Zcj jZ jO)(T:Txt mg) :
  FnOk P w K mg base ZQ 1 jZ jO ["weights","places"] (Yf 2 false ZU Bp):=
 have jN:=ZdJ.nd
 Y1 (own:=[]) F ZdJ λcdv A outer s H E hr G hG=>
 (Zx (Yh (PD.weak (XU (Zj8 rfl) rfl T.b_sum TF.boot_sum (Zf (Xa (bk ["weights","places"] (Zy Zcj).names ["place","weights"] [none,some 0]) (Xz (va 1)) Y7 XW (Z5 Z6 (va 1) (va 0))) Zj))))
 Ya)
def ZaE:FnScope ["aparts","weights","places","rows","i","counts","branching","with_it","without_it"] ["aparts","weights","places"] (Zy Ba):=YL
def Zb2 (F:Fun K "heaviest_among" "heaviest_among" Ba jZ jO)(T:Txt mg){Fs:List D->M D}{lv:Nat}(hlv:1<=lv)(kE:ZD P w K mg base 1 "apart_among" 3 true ZU ZaI)(jS:ZD P w K mg base lv "heaviest_among" 3 false ZU Fs)(kh:ZD P w K mg base (lv+1) "heaviest_with" 4 false ZU (Zad Fs))(kH:ZD P w K mg base 1 "weighed" 2 false ZU Bp) :
  FnOk P w K mg base ZQ (lv+2) jZ jO ["aparts","weights","places"] (Yf 3 false ZU (runB 9 3 (Zah Fs))):=
 have jN:=ZaE.nd
 Y1 (own:=[]) F ZaE λcdv A outer s H E hr G hG=>
 (Zx (WK (YM (UA hr.units) (va 2) (Uc Zj))
 (Zx (Yh (PD.weak (Uc Zj)))
 Ya)
 Ys)
 (Zx (YB (Jl jN rfl (qI rfl) rfl (bk ["aparts","weights","places","rows","i","counts","branching","with_it","without_it"] (Zy Ba).names ["place","aparts","places"] [none,some 0,some 2]) (Xz (va 2)) (λ_ _ _ _ _ _=>Y7) (λ_ _ _ _ _ _=>XW) (λ_ _ _ _ _ _=>(ZN (kE.mono (h:=ze (by decide) (qaO hlv))) trivial hr (Zf (va 1) (Zf (va 0) (Zf (va 2) Zj)))))))
 (Zx (Wp (own:=[]) zd rfl (W7 rfl T.b_range (Wn T.b_len (Zf (va 2) Zj))) (X7 jN rfl (qI rfl) (by decide))
 (Zx (WK (YM (Zho) (ZN (kH.mono (h:=ze (by decide) (qaO hlv))) trivial hr (Zf (va 1) (Zf (Z5 Z6 (va 3) (va 4)) Zj))) (Z5 Z6 (va 1) (Z5 Z6 (va 2) (va 4))))
 (Zx (Yh (ZN (kh) trivial hr (Zf (va 0) (Zf (va 1) (Zf (Z5 Z6 (va 2) (va 4)) (Zf (va 2) Zj))))))
 Ya)
 Ys)
 Ya))
 (Zx (YB (Jl jN rfl (qI rfl) rfl (bk ["aparts","weights","places","rows","i","counts","branching","with_it","without_it"] (Zy Ba).names ["row"] [none]) (Xz (va 3)) (λ_ _ _ _ _ _=>Y7) (λ_ _ _ _ _ _=>XW) (λ_ _ _ _ _ _=>(Wn T.b_len (Zf (va 0) Zj)))))
 (Zx (YB (Yt jN rfl (yc rfl) (Z5 Z6 (va 2) (ZlG (va 5) (XU (ZhG rfl) rfl T.b_max TF.boot_max (Zf (va 5) Zj))))))
 (Zx (YB (Yt jN rfl (qI rfl) (ZN (kh) trivial hr (Zf (va 0) (Zf (va 1) (Zf (va 6) (Zf (va 2) Zj)))))))
 (Zx (YB (Yt jN rfl (qI rfl) (ZN (jS.mono (h:=qbf _)) trivial hr (Zf (va 0) (Zf (va 1) (Zf (Xa (bk ["aparts","weights","places","rows","i","counts","branching","with_it","without_it"] (Zy Ba).names ["other","branching"] [none,some 6]) (Xz (va 2)) Y7 (W1 (YM (Uf hr.units) (va 0) (va 1))) (va 0)) Zj))))))
 (Zx (Yh (ZpQ (YM (Zo3) (ZN (kH.mono (h:=ze (by decide) (qaO hlv))) trivial hr (Zf (va 1) (Zf (va 7) Zj))) (ZN (kH.mono (h:=ze (by decide) (qaO hlv))) trivial hr (Zf (va 1) (Zf (va 8) Zj)))) (va 7) (va 8)))
 Ya))))))))
def ZaP:FnScope ["web","weights","aparts"] ["web","weights"] (Zy Zal):=YL
def Zcm (F:Fun K "heaviest_knot" "heaviest_knot" Zal jZ jO)(T:Txt mg){L:List (Addr×Str)}(lo:Wy L)(j7:ZD P w K mg base 3 "all_near" 1 true ZU Ur)(jS:ZD P w K mg base 53 "heaviest_among" 3 false ZU (UN 26))(km:ZD P w K mg base 6 "turned" 1 false (Ym L) Ua) :
  FnOk P w K mg base ZQ 54 jZ jO ["web","weights"] (Yf 2 true (Ym L) Bb):=
 have jN:=ZaP.nd
 Y1 (own:=[]) F ZaP λcdv A outer s H E hr G hG=>
 have hT:Ym L G:=hG
 (Zx (YB (Jl jN rfl (qI rfl) rfl (bk ["web","weights","aparts"] (Zy Zal).names ["row"] [none]) (Xz (ZN (j7.mono) trivial hr (Zf (ZN (km.mono) hT hr (Zf (va 0) Zj)) Zj))) (λ_ _ _ _ _ _=>Y7) (λ_ _ _ _ _ _=>XW) (λ_ _ _ _ _ _=>(Vk (Zdj rfl hr.units) rfl T.b_dict TF.boot_dict (Zf (Xa (bk ["row"] [((qbm ".0"),PySem.NameKind.local),((qbm "row"),PySem.NameKind.local),((qbm "dict"),PySem.NameKind.globalImplicit)] ["other"] [none]) (Xz (va 0)) Y7 XW (Y4 (Zf (va 0) (Zf WD Zj)))) Zj)))))
 (Zx (Yh (Vk (Be) rfl T.b_tuple TF.boot_tuple (Zf (XU (ZbR) rfl T.b_sorted TF.boot_sorted (Zf (ZN (jS.mono) trivial hr (Zf (va 2) (Zf (va 1) (Zf (Zar rfl rfl T.b_range rfl T.b_list TF.boot_list (Z5 Z6 (va 0) Z2)) Zj)))) Zj)) Zj)))
 Ya))
def ZiW:FnScope ["web","knot"] ["web"] (Zy Zl4):=YL
def ZnA (F:Fun K "most" "most" Zl4 jZ jO)(T:Txt mg){L:List (Addr×Str)}(lo:Wy L)(kq:ZD P w K mg base 54 "heaviest_knot" 2 true (Ym L) Bb) :
  FnOk P w K mg base ZQ 55 jZ jO ["web"] (Yf 1 true (Ym L) Vq):=
 have jN:=ZiW.nd
 Y1 (own:=[]) F ZiW λcdv A outer s H E hr G hG=>
 have hT:Ym L G:=hG
 (Zx (YB (Yt jN rfl (qI rfl) (ZN (kq.mono) hT hr (Zf (va 0) (Zf (W0 ZlY (Y4 (Zf Z2 Zj)) (Z5 Z6 (va 0) Z2)) Zj)))))
 (Zx (Yh (Y4 (Zf (Wn T.b_len (Zf (va 1) Zj)) (Zf (va 1) Zj))))
 Ya))
def Zeo:Zb->M Out:=(Zg (ZT 2 (Zn Bk (Zc (Za 0) (Zc (Za 1) Zd))))
 (Zg (ZT 3 (Zn Bc (Zc (Za 0) (Zc (Za 2) Zd))))
 (Zg (ZT 4 (ZR [none,some 0,some 2] (Z8 (Za 0)) (Zw 0) Z3 (Zn ZaN (Zc (Za 1) (Zc (Za 2) (Zc (Za 0) Zd))))))
 (Zg (ZT 5 (Zn Bf (Zc (Za 3) (Zc (Bq (Xd 2 (Ze Zl (Za 1) (Za 0))) [4] (Za 0)) Zd))))
 (Zg (ZT 6 (Zn Vq (Zc (Za 3) Zd)))
 (Zg (ZK (ZW (Zc (Ze Zl (Za 6) (dC (.int 0))) (Zc (By (Xd 2 (Ze Zl (Za 1) (Za 0))) [4] (Ze Zl (Za 6) (dC (.int 1)))) (Zc (Za 5) Zd)))))
 Zo))))))
def Ji:List D->M D:=runB 7 2 Zeo
def Zbe:FnScope ["n","pairs","below","web","ranks","hueing","told"] ["n","pairs"] (Zy Jh):=YL
def ZdK (F:Fun K "chains_told" "chains_told" Jh jZ jO)(T:Txt mg){L:List (Addr×Str)}(lo:Wy L)(ki:ZD P w K mg base 1 "all_below" 2 false ZU Bk)(kF:ZD P w K mg base 1 "count_below" 3 true ZU ZaN)(kJ:ZD P w K mg base 4 "hued_along" 2 true ZU Bf)(kC:ZD P w K mg base 55 "most" 1 true (Ym L) Vq)(jY:ZD P w K mg base 6 "web_of_below" 2 false (Ym L) Bc){tc tP:Addr}(hcode:jO.code=.ref tc)(hCd:zJ base tc tP)(hBm:Uo mg base)(hL:(tP,(qC "chains_told.<locals>.<lambda>"))∈L) :
  FnOk P w K mg base ZQ 56 jZ jO ["n","pairs"] (Yf 2 false (Ym L) Ji):=
 have jN:=Zbe.nd
 fnDC (own:=[]) F Zbe λA outer s H E hr G hG=>
 have hT:Ym L G:=hG;have TG9:=hT _ _ hL;have M9:Mk0 (W2 ZQ P w K mg base ["n","pairs","below","web","ranks","hueing","told"] "chains_told" (Zy Jh) jZ jO.code A outer s H E).nox tc tP:=⟨hcode,hCd,hBm⟩
 (Zx (YB (Yt jN rfl (yc rfl) (ZN (ki.mono) trivial hr (Zf (va 0) (Zf (va 1) Zj)))))
 (Zx (YB (Yt jN rfl (qI rfl) (ZN (jY.mono) hT hr (Zf (va 0) (Zf (va 2) Zj)))))
 (Zx (YB (Yt jN rfl (yc rfl) (Xa (bk ["n","pairs","below","web","ranks","hueing","told"] (Zy Jh).names ["place","n","below"] [none,some 0,some 2]) (V4 rfl T.b_range (va 0)) Y7 XW (ZN (kF.mono) trivial hr (Zf (va 1) (Zf (va 2) (Zf (va 0) Zj)))))))
 (Zx (YB (Yt jN rfl (qI rfl) (ZN (kJ.mono) trivial hr (Zf (va 3) (Zf (ZgK (kl:=3) (frb:=false) (N:=["place","ranks"]) (ps:=["place"]) (cix:=[4]) (q:="chains_told.<locals>.<lambda>") rfl rfl T.b_sorted TF.boot_sorted rfl T.b_range M9 TG9 (λ_=>rfl) (hr.mono (by decide)) (va 0) rfl (⟨rfl,rfl,rfl,by decide +kernel,rfl,by decide +kernel,by decide +kernel⟩:CloScope ["place","ranks"] ["place"] _) (⟨rfl,rfl,rfl,by decide +kernel,by decide +kernel⟩:CapS _ ["n","pairs","below","web","ranks","hueing","told"] (Zy Jh).names ["place","ranks"] ["place"] [4] _) rfl (λ_ _ _ _ us hl=>match us,hl with | [_],_=>rfl) (λbase f c cl G A outer s H E hr=>(Z5 Z6 (va 1) (va 0)))) Zj)))))
 (Zx (YB (Yt jN rfl (qI rfl) (ZN (kC.mono) hT hr (Zf (va 3) Zj))))
 (Zx (Yh (PD.weak (Y4 (Zf (Z5 Z6 (va 6) Z2) (Zf (ZhZ (kl:=3) (frb:=false) (N:=["place","ranks"]) (ps:=["place"]) (cix:=[4]) (q:="chains_told.<locals>.<lambda>") rfl rfl T.b_sorted TF.boot_sorted M9 TG9 (λ_=>rfl) (hr.mono (by decide)) (Z5 Z6 (va 6) Z2) rfl (⟨rfl,rfl,rfl,by decide +kernel,rfl,by decide +kernel,by decide +kernel⟩:CloScope ["place","ranks"] ["place"] _) (⟨rfl,rfl,rfl,by decide +kernel,by decide +kernel⟩:CapS _ ["n","pairs","below","web","ranks","hueing","told"] (Zy Jh).names ["place","ranks"] ["place"] [4] _) rfl (λ_ _ _ _ us hl=>match us,hl with | [_],_=>rfl) (λbase f c cl G A outer s H E hr=>(Z5 Z6 (va 1) (va 0)))) (Zf (va 5) Zj))))))
 Ya))))))
def ZaQ:FnScope ["web","places","ties"] ["web","places"] (Zy Zae):=YL
def Zcn (F:Fun K "numbered_anew" "numbered_anew" Zae jZ jO)(T:Txt mg){L:List (Addr×Str)}(lo:Wy L)(jQ:ZD P w K mg base 1 "marked_ties" 1 true ZU Vi)(jX:UJ P w K mg 5 "web_where" 2 false (UI P w K mg 4 2 Tl) VI)(kd:∀base,ZD P w K mg base 1 "are_tied" 3 false ZU W9){tc tP:Addr}(hcode:jO.code=.ref tc)(hCd:zJ base tc tP)(hBm:Uo mg base)(hL:(tP,(qC "numbered_anew.<locals>.<lambda>"))∈L) :
  FnOk P w K mg base ZQ 6 jZ jO ["web","places"] (Yf 2 false (Ym L) Zac):=
 have jN:=ZaQ.nd
 fnDC (own:=[]) F ZaQ λA outer s H E hr G hG=>
 have hT:Ym L G:=hG;have TG9:=hT _ _ hL;have M9:Mk0 (W2 ZQ P w K mg base ["web","places","ties"] "numbered_anew" (Zy Zae) jZ jO.code A outer s H E).nox tc tP:=⟨hcode,hCd,hBm⟩
 (Zx (YB (Yt jN rfl (yc rfl) (ZN (jQ.mono) trivial hr (Zf (va 0) Zj))))
 (Zx (Yh (ZbI (kl:=3) (frb:=false) (N:=["a","b","ties"]) (ps:=["a","b"]) (cix:=[2]) (T:=Tl) (t:=1) (q:="numbered_anew.<locals>.<lambda>") M9 TG9 (jX.mono) (λ_=>rfl) hr rfl (va 1) rfl (⟨rfl,rfl,rfl,by decide +kernel,rfl,by decide +kernel,by decide +kernel⟩:CloScope ["a","b","ties"] ["a","b"] _) (⟨rfl,rfl,rfl,by decide +kernel,by decide +kernel⟩:CapS _ ["web","places","ties"] (Zy Zae).names ["a","b","ties"] ["a","b"] [2] _) rfl (λ_ _ _ _ us hl=>match us,hl with | [_,_],_=>rfl) (λbase f c cl G A outer s H E hr=>(ZN ((kd base).mono) trivial hr (Zf (va 2) (Zf (va 0) (Zf (va 1) Zj)))))))
 Ya))
def ZgS:FnScope ["web","order"] ["web","order"] (Zy ZiU):=YL
def Zl5 (F:Fun K "moved" "moved" ZiU jZ jO)(T:Txt mg){L:List (Addr×Str)}(lo:Wy L)(kr:ZD P w K mg base 6 "numbered_anew" 2 false (Ym L) Zac) :
  FnOk P w K mg base ZQ 7 jZ jO ["web","order"] (Yf 2 false (Ym L) BG):=
 have jN:=ZgS.nd
 Y1 (own:=[]) F ZgS λcdv A outer s H E hr G hG=>
 have hT:Ym L G:=hG
 (Zx (Yh (ZN (kr.mono) hT hr (Zf (va 0) (Zf (va 1) Zj))))
 Ya)
def ZcB:FnScope ["thing"] ["thing"] (Zy Zdy):=YL
def ZgT (F:Fun K "is_whole" "is_whole" Zdy jZ jO)(T:Txt mg) :
  FnOk P w K mg base ZQ 1 jZ jO ["thing"] (Yf 1 false ZU Bl):=
 have jN:=ZcB.nd
 Y1 (own:=[]) F ZcB λcdv A outer s H E hr G hG=>
 (Zx (Yh (BK (XU (Zbm) rfl T.b_isinstance TF.boot_isinstance (Zf (va 0) (Zf (Ziy rfl T.b_int TF.boot_int) Zj))) (BJ (ZkW (XU (Zbm) rfl T.b_isinstance TF.boot_isinstance (Zf (va 0) (Zf (Ziy rfl T.b_bool TF.boot_bool) Zj)))))))
 Ya)
def ZcC:FnScope ["n","thing"] ["n","thing"] (Zy ZdA):=YL
def ZgU (F:Fun K "is_place" "is_place" ZdA jZ jO)(T:Txt mg)(kM:ZD P w K mg base 1 "is_whole" 1 false ZU Bl) :
  FnOk P w K mg base ZQ 2 jZ jO ["n","thing"] (Yf 2 false ZU V6):=
 have jN:=ZcC.nd
 Y1 (own:=[]) F ZcC λcdv A outer s H E hr G hG=>
 (Zx (Yh (BK (ZN (kM.mono) trivial hr (Zf (va 1) Zj)) (BK (Vo (Zho) Z2 (va 1)) (BJ (Vo (BM hr.units0) (va 1) (va 0))))))
 Ya)
def ZgV:FnScope ["row"] ["row"] (Zy ZfD):=YL
def Zl6 (F:Fun K "rises" "rises" ZfD jZ jO)(T:Txt mg) :
  FnOk P w K mg base ZQ 1 jZ jO ["row"] (Yf 1 false ZU BF):=
 have jN:=ZgV.nd
 Y1 (own:=[]) F ZgV λcdv A outer s H E hr G hG=>
 (Zx (Yh (PD.weak (XU (Bn rfl) rfl T.b_all TF.boot_all (Zf (Xa (bk ["row"] (Zy ZfD).names ["i","row"] [none,some 0]) (V4 rfl T.b_range (W0 Zm0 (Wn T.b_len (Zf (va 0) Zj)) Z2)) Y7 XW (Vo (BM hr.units0) (Z5 Z6 (va 1) (va 0)) (Z5 Z6 (va 1) (W0 VM (va 0) Z2)))) Zj))))
 Ya)
def ZdL:FnScope ["web","thing","ties"] ["web","thing"] (Zy Zbq):=YL
def Zh3 (F:Fun K "is_knot" "is_knot" Zbq jZ jO)(T:Txt mg)(kj:ZD P w K mg base 2 "is_place" 2 false ZU V6)(jQ:ZD P w K mg base 1 "marked_ties" 1 true ZU Vi)(kB:ZD P w K mg base 1 "pairs_of" 1 true ZU V5)(kQ:ZD P w K mg base 1 "rises" 1 false ZU BF) :
  FnOk P w K mg base ZQ 3 jZ jO ["web","thing"] (Yf 2 false ZU Jo):=
 have jN:=ZdL.nd
 Y1 (own:=[]) F ZdL λcdv A outer s H E hr G hG=>
 (Zx (WK (Uv (Vm (XU (Zbm) rfl T.b_isinstance TF.boot_isinstance (Zf (va 1) (Zf (Ziy rfl T.b_tuple TF.boot_tuple) Zj)))))
 (Zx (Yh (PD.weak WD))
 Ya)
 Ys)
 (Zx (WK (Wx.pt (Zfi (Uv (Vm (XU (Bn rfl) rfl T.b_all TF.boot_all (Zf (Xa (bk ["web","thing","ties"] (Zy Zbq).names ["place","web"] [none,some 0]) (ZcS (va 1)) Y7 XW (ZN (kj.mono) trivial hr (Zf (Z5 Z6 (va 1) Z2) (Zf (va 0) Zj)))) Zj)))) (Zfh (Uv (Vm (ZN (kQ.mono) trivial hr (Zf (va 1) Zj)))))))
 (Zx (Yh (PD.weak WD))
 Ya)
 Ys)
 (Zx (YB (Yt jN rfl (yc rfl) (ZN (jQ.mono) trivial hr (Zf (va 0) Zj))))
 (Zx (Yh (PD.weak (XU (Bn rfl) rfl T.b_all TF.boot_all (Zf (Xa (bk ["web","thing","ties"] (Zy Zbq).names ["pair","ties"] [none,some 2]) (Xz (ZN (kB.mono) trivial hr (Zf (va 1) Zj))) Y7 XW (Vo (VO hr.units) (va 0) (va 1))) Zj))))
 Ya))))
def Zbf:FnScope ["thing","length"] ["thing","length"] (Zy Zbw):=YL
def ZdM (F:Fun K "is_tuple_of" "is_tuple_of" Zbw jZ jO)(T:Txt mg) :
  FnOk P w K mg base ZQ 1 jZ jO ["thing","length"] (Yf 2 false ZU Jg):=
 have jN:=Zbf.nd
 Y1 (own:=[]) F Zbf λcdv A outer s H E hr G hG=>
 (Zx (Yh (BK (XU (Zbm) rfl T.b_isinstance TF.boot_isinstance (Zf (va 0) (Zf (Ziy rfl T.b_tuple TF.boot_tuple) Zj))) (BJ (Vo (UA hr.units) (Wn T.b_len (Zf (va 0) Zj)) (va 1)))))
 Ya)
def Zb3:FnScope ["web","thing"] ["web","thing"] (Zy ZaC):=YL
def ZfG (F:Fun K "is_hueing" "is_hueing" ZaC jZ jO)(T:Txt mg)(kj:ZD P w K mg base 2 "is_place" 2 false ZU V6)(kG:ZD P w K mg base 1 "is_tuple_of" 2 false ZU Jg) :
  FnOk P w K mg base ZQ 3 jZ jO ["web","thing"] (Yf 2 false ZU Bh):=
 have jN:=Zb3.nd
 Y1 (own:=[]) F Zb3 λcdv A outer s H E hr G hG=>
 (Zx (WK (Uv (Vm (ZN (kG.mono) trivial hr (Zf (va 1) (Zf (Z5 Z6 (va 0) Z2) Zj)))))
 (Zx (Yh (PD.weak WD))
 Ya)
 Ys)
 (Zx (WK (Uv (Vm (XU (Bn rfl) rfl T.b_all TF.boot_all (Zf (Xa (bk ["web","thing"] (Zy ZaC).names ["hue","web"] [none,some 0]) (ZcS (va 1)) Y7 XW (ZN (kj.mono) trivial hr (Zf (Z5 Z6 (va 1) Z2) (Zf (va 0) Zj)))) Zj))))
 (Zx (Yh (PD.weak WD))
 Ya)
 Ys)
 (Zx (Yh (PD.weak (XU (Bn rfl) rfl T.b_all TF.boot_all (Zf (Xa (bk ["web","thing"] (Zy ZaC).names ["tie","thing"] [none,some 1]) (ZcS (Z5 Z6 (va 0) Z2)) Y7 XW (Vo (Uf hr.units) (Z5 Z6 (va 1) (Z5 Z6 (va 0) Z2)) (Z5 Z6 (va 1) (Z5 Z6 (va 0) Z2)))) Zj))))
 Ya)))
def ZdN:FnScope ["nears","many","hues","place","taken","hue","hueing"] ["nears","many","hues"] (Zy Zck):=YL
def Zh4 (F:Fun K "hued_on" "hued_on" Zck jZ jO)(T:Txt mg){Fs:List D->M D}{lv:Nat}(hlv:0<=lv)(kt:ZD P w K mg base lv "hued_on" 3 false ZU Fs) :
  FnOk P w K mg base ZQ (lv+1) jZ jO ["nears","many","hues"] (Yf 3 false ZU (runB 7 3 (ZeO Fs))):=
 have jN:=ZdN.nd
 Y1 (own:=[]) F ZdN λcdv A outer s H E hr G hG=>
 (Zx (YB (Yt jN rfl (yc rfl) (Wn T.b_len (Zf (va 2) Zj))))
 (Zx (WK (YM (UA hr.units) (va 3) (Wn T.b_len (Zf (va 0) Zj)))
 (Zx (Yh (va 2))
 Ya)
 Ys)
 (Zx (YB (Jl jN rfl (qI rfl) rfl (bk ["nears","many","hues","place","taken","hue","hueing"] (Zy Zck).names ["other","hues","place"] [none,some 2,some 3]) (Xz (Z5 Z6 (va 0) (va 3))) (λ_ _ _ _ _ _=>Y7) (λ_ _ _ _ _ _=>(W1 (YM (BM hr.units0) (va 0) (va 2)))) (λ_ _ _ _ _ _=>(Z5 Z6 (va 1) (va 0)))))
 (Zx (Wp (own:=[]) zd rfl (W7 rfl T.b_range (XU (Zde rfl) rfl T.b_min TF.boot_min (Zf (va 1) (Zf (W0 VM (ZlM rfl rfl T.b_max TF.boot_max (va 2) Zpb) Z2) Zj)))) (X7 jN rfl (qI rfl) (by decide))
 (Zx (WK (YM (Zbo hr.units) (va 5) (va 4))
 (Zx (YB (Yt jN rfl (qI rfl) (ZN (kt) trivial hr (Zf (va 0) (Zf (va 1) (Zf (W0 VM (va 2) (Y4 (Zf (va 5) Zj))) Zj))))))
 (Zx (WK (YM (ZlJ) (va 6) Zhk)
 (Zx (Yh (va 6))
 Ya)
 Ys)
 Ya))
 Ys)
 Ya))
 (Zx (Yh (PD.weak Zhk))
 Ya)))))
def Zbg:FnScope ["web","nears","many","hueing"] ["web"] (Zy Zbx):=YL
def ZdO (F:Fun K "fewest_hues" "fewest_hues" Zbx jZ jO)(T:Txt mg){L:List (Addr×Str)}(lo:Wy L)(j7:ZD P w K mg base 3 "all_near" 1 true ZU Ur)(kt:ZD P w K mg base 11 "hued_on" 3 false ZU (V8 10))(kC:ZD P w K mg base 55 "most" 1 true (Ym L) Vq) :
  FnOk P w K mg base ZQ 56 jZ jO ["web"] (Yf 1 true (Ym L) Bd):=
 have jN:=Zbg.nd
 Y1 (own:=[]) F Zbg λcdv A outer s H E hr G hG=>
 have hT:Ym L G:=hG
 (Zx (YB (Yt jN rfl (qI rfl) (ZN (j7.mono) trivial hr (Zf (va 0) Zj))))
 (Zx (YB (Yt jN rfl (qI rfl) (Z5 Z6 (ZN (kC.mono) hT hr (Zf (va 0) Zj)) Z2)))
 (Zx (YB (Yt jN rfl (qI rfl) (ZN (kt.mono) trivial hr (Zf (va 1) (Zf (va 2) (Zf (Y4 Zj) Zj))))))
 (Zx (ZeN (own:=[]) zd (YM (Znl) (va 3) Zhk)
 (Zx (Znq (own:=[]) jN rfl (qI rfl) Z2)
 (Zx (YB (Yt jN rfl (qI rfl) (ZN (kt.mono) trivial hr (Zf (va 1) (Zf (va 2) (Zf (Y4 Zj) Zj))))))
 Ya)))
 (Zx (Yh (Y4 (Zf (va 2) (Zf (va 3) Zj))))
 Ya)))))
def Zl7:Zb->M Out:=(Zg (YZ (Z8 (dC (.int 3))) (Zw 2)
 (Zg (ZT 3 (Zn Yv (Zc (Za 1) (Zc (dC (.int 11)) Zd))))
 (Zg (ZT 4 (Zn Zaj (Zc (Za 1) (Zc (Za 3) (Zc (dC (.bl false)) Zd)))))
 (Zg (ZT 5 (Zn UO (Zc (Za 3) (Zc (Za 4) Zd))))
 (Zg (sUnp (Zok 6 7 8) (Zn Ji (Zc (Za 3) (Zc (Za 4) Zd))))
 (Zg (YF (VF (asB (Ze Xj (Ze Zl (Zn Vq (Zc (Za 5) Zd)) (dC (.int 0))) (Za 6))) (VF (Wu (asB (Zn Jo (Zc (Za 5) (Zc (ZE UX (Zc (ZE Jy (Zc (Za 7) Zd)) Zd)) Zd))))) (Wu (asB (Zn Bh (Zc (Za 5) (Zc (Za 8) Zd)))))))
 (Zg (ZK (dC (.bl false)))
 Zo)
 Zo)
 (Zg (ZT 9 (ZR [none,none] (ZV (Za 4)) (Ws 0 1) Z3 (ZW (Zc (Za 1) (Zc (Za 0) Zd)))))
 (Zg (ZT 10 (Zn Zak (Zc (Za 3) (Zc (Za 4) Zd))))
 (Zg (WI 11 (ZE Zn9 (Zc (Za 4) Zd)))
 (Zg (YZ (Z8 (Za 3)) (Zw 12)
 (Zg (UH 11 (fun ρ=>(ZR [none,some 12,some 1] (ZV (Ze Zl (Za 10) (Za 12))) (Zw 0) (asB (Ze Xc (Zn Yv (Zc (Za 2) (Zc (dC (.int 2)) Zd))) (dC (.int 0)))) (ZW (Zc (Za 0) (Zc (Za 1) Zd)))) (Yq [11] ρ)))
 Zo))
 (Zg (YZ (ZV (XC (Zc (Za 9) (Zc (Zol (Za 11)) Zd)))) (Zw 13)
 (Zg (YF (VF (asB (Ze Xj (Zn UO (Zc (Za 3) (Zc (Za 13) Zd))) (Za 5))) (asB (Ze Xj (Ze Zl (Zn Ji (Zc (Za 3) (Zc (Za 13) Zd))) (dC (.int 0))) (Za 6))))
 (Zg (ZK (dC (.bl false)))
 Zo)
 Zo)
 Zo))
 (Zg (ZT 14 (Zn WZ (Zc (Za 1) (Zc (Za 3) Zd))))
 (Zg (ZT 15 (ZE JD (Zc (ZR [none,none] (Jz (Za 14)) (Ws 0 1) Z3 (ZW (Zc (Za 1) (Zc (Za 0) Zd)))) Zd)))
 (Zg (YF (asB (Ze Xj (Zn UO (Zc (Za 3) (Zc (ZR [none,none,some 15] (ZV (Za 4)) (Ws 0 1) Z3 (ZW (Zc (Ze VD (Za 2) (Za 0)) (Zc (Ze VD (Za 2) (Za 1)) Zd)))) Zd))) (Zn BG (Zc (Za 5) (Zc (Za 14) Zd)))))
 (Zg (ZK (dC (.bl false)))
 Zo)
 Zo)
 (Zg (YF (XX (asB (Ze Jb (Za 3) (dC (.int 8)))) (asB (Ze Xj (Ze Zl (Zn Bd (Zc (Za 5) Zd)) (dC (.int 0))) (Za 6))))
 (Zg (ZK (dC (.bl false)))
 Zo)
 Zo)
 (Zg (YZ (ZV (Jq (Za 8))) (Zw 16)
 (Zg (YF (Wu (asB (Zn Jo (Zc (Zn Ua (Zc (Za 5) Zd)) (Zc (ZE UX (Zc (ZR [none,some 8,some 16] (Z8 (Za 3)) (Zw 0) (asB (Ze Xc (Ze Zl (Za 1) (Za 0)) (Za 2))) (Za 0)) Zd)) Zd)))))
 (Zg (ZK (dC (.bl false)))
 Zo)
 Zo)
 Zo))
 Zo))))))))))))))))
 (Zg (ZK (dC (.bl true)))
 Zo))
def Zh5:FnScope ["script","pen","turn","n","pairs","web","many","chain","hues","back","lower","more","place","some","order","at","hue"] ["script"] (Zy s_law):=YL
def ZnB {cdv:Value}{A:xF}{outer:List Env}{s:Shared}{H:Hp}{E:XK}{L:List (Addr×Str)}(lo:Wy L)(T:Txt mg)(hr:Room 56 (A.deeper (envOfC "law" (Zy s_law) s.heap.objs.size jZ cdv)))(jM:ZD P w K mg base 1 "_law_tdraw" 2 true (Wj XO L) Yv)(ke:ZD P w K mg base 1 "_law_tlower" 2 true ZU Zak)(jU:ZD P w K mg base 2 "_law_torder" 2 true (Wj XO L) WZ)(kf:ZD P w K mg base 3 "_law_tpairs" 3 true (Wj XO L) Zaj)(ka:ZD P w K mg base 56 "chains_told" 2 false (Ym L) Ji)(kg:ZD P w K mg base 56 "fewest_hues" 1 true (Ym L) Bd)(ko:ZD P w K mg base 3 "is_hueing" 2 false ZU Bh)(kx:ZD P w K mg base 3 "is_knot" 2 false ZU Jo)(kC:ZD P w K mg base 55 "most" 1 true (Ym L) Vq)(kN:ZD P w K mg base 7 "moved" 2 false (Ym L) BG)(km:ZD P w K mg base 6 "turned" 1 false (Ym L) Ua)(jW:ZD P w K mg base 7 "web_of_order" 2 false (Ym L) UO)(G:Gh)(hG:(Wj XO L) G) :
  Wh (W2 ZQ P w K mg base ["script","pen","turn","n","pairs","web","many","chain","hues","back","lower","more","place","some","order","at","hue"] "law" (Zy s_law) jZ cdv A outer s H E).nox G [] [] [] false ((WM s_law).drop 1) Zl7:=
 have jN:=Zh5.nd;have hT:Ym L G:=jB lo hG
 (Zx (Wp (own:=[]) zd rfl (W7 rfl T.b_range Z2) (X7 jN rfl (qI rfl) (by decide))
 (Zx (YB (Yt jN rfl (qI rfl) (ZN (jM.mono) hG hr (Zf (va 1) (Zf Z2 Zj)))))
 (Zx (YB (Yt jN rfl (qI rfl) (ZN (kf.mono) hG hr (Zf (va 1) (Zf (va 3) (Zf WD Zj))))))
 (Zx (YB (Yt jN rfl (qI rfl) (ZN (jW.mono) hT hr (Zf (va 3) (Zf (va 4) Zj)))))
 (Zx (Zlh (ZN (ka.mono) hT hr (Zf (va 3) (Zf (va 4) Zj))) (ZlO rfl (by decide) (by decide) (by decide) (hp:=WW (X0 jN rfl (qI rfl)) (WW (X0 jN rfl (qI rfl)) (WW (X0 jN rfl (yc rfl)) Js)))))
 (Zx (WK (Wx.pt (Zfi (YM (Uf hr.units) (Z5 Z6 (ZN (kC.mono) hT hr (Zf (va 5) Zj)) Z2) (va 6)) (Zfi (Uv (Vm (ZN (kx.mono) trivial hr (Zf (va 5) (Zf (Vk (Be) rfl T.b_tuple TF.boot_tuple (Zf (XU (ZbR) rfl T.b_sorted TF.boot_sorted (Zf (va 7) Zj)) Zj)) Zj))))) (Zfh (Uv (Vm (ZN (ko.mono) trivial hr (Zf (va 5) (Zf (va 8) Zj)))))))))
 (Zx (Yh (PD.weak WD))
 Ya)
 Ys)
 (Zx (YB (Jl jN rfl (qI rfl) rfl (bk ["script","pen","turn","n","pairs","web","many","chain","hues","back","lower","more","place","some","order","at","hue"] (Zy s_law).names ["a","b"] [none,none]) (Xz (va 4)) (λ_ _ _ _ _ _=>(Bx rfl (show(["a","b"]:List Str).Nodup by decide +kernel) rfl rfl (qI rfl) (qI rfl) rfl rfl (hp:=WW (X0 (show(["a","b"]:List Str).Nodup by decide +kernel) rfl (qI rfl)) (WW (X0 (show(["a","b"]:List Str).Nodup by decide +kernel) rfl (qI rfl)) Js)))) (λ_ _ _ _ _ _=>XW) (λ_ _ _ _ _ _=>(Y4 (Zf (va 1) (Zf (va 0) Zj))))))
 (Zx (YB (Yt jN rfl (qI rfl) (ZN (ke.mono) trivial hr (Zf (va 3) (Zf (va 4) Zj)))))
 (Yr (own2:=[11]) (Jp (Yt jN rfl (qI rfl) (Vk (Zf9) rfl T.b_list TF.boot_list (Zf (va 4) Zj))))
 (Yr (own2:=[11]) (Wp (own:=[11]) zd rfl (W7 rfl T.b_range (va 3)) (X7 jN rfl (yc rfl) (by decide))
 (Yr (own2:=[11]) (ZlP (own:=[11]) (i:=11) (by decide) (pv 11) (Xa (bk ["script","pen","turn","n","pairs","web","many","chain","hues","back","lower","more","place","some","order","at","hue"] (Zy s_law).names ["other","place","pen"] [none,some 12,some 1]) (Xz (Z5 Z6 (va 10) (va 12))) Y7 (W1 (YM (UA hr.units) (ZN (jM.mono) hG hr (Zf (va 2) (Zf Z2 Zj))) Z2)) (Y4 (Zf (va 0) (Zf (va 1) Zj)))))
 (Ys (own:=[11]))))
 (Zx (YE.frz (own:=[11]) (own2:=[]) (Wp (own:=[]) zd rfl (WS.n (Xz (Uc (Zf (va 9) (Zf (Znx (va 11)) Zj))))) (X7 jN rfl (qI rfl) (by decide))
 (Zx (WK (Wx.pt (Zfi (YM (Uf hr.units) (ZN (jW.mono) hT hr (Zf (va 3) (Zf (va 13) Zj))) (va 5)) (Zfh (YM (Uf hr.units) (Z5 Z6 (ZN (ka.mono) hT hr (Zf (va 3) (Zf (va 13) Zj))) Z2) (va 6)))))
 (Zx (Yh (PD.weak WD))
 Ya)
 Ys)
 Ya)))
 (Zx (YB (Yt jN rfl (qI rfl) (ZN (jU.mono) hG hr (Zf (va 1) (Zf (va 3) Zj)))))
 (Zx (YB (Yt jN rfl (yc rfl) (Vk (Zdj rfl hr.units) rfl T.b_dict TF.boot_dict (Zf (Xa (bk ["script","pen","turn","n","pairs","web","many","chain","hues","back","lower","more","place","some","order","at","hue"] (Zy s_law).names ["k","place"] [none,none]) (ZjR rfl T.b_enumerate (va 14)) (Bx rfl (show(["k","place"]:List Str).Nodup by decide +kernel) rfl rfl (qI rfl) (qI rfl) rfl rfl (hp:=WW (X0 (show(["k","place"]:List Str).Nodup by decide +kernel) rfl (qI rfl)) (WW (X0 (show(["k","place"]:List Str).Nodup by decide +kernel) rfl (qI rfl)) Js))) XW (Y4 (Zf (va 1) (Zf (va 0) Zj)))) Zj))))
 (Zx (WK (YM (Uf hr.units) (ZN (jW.mono) hT hr (Zf (va 3) (Zf (Xa (bk ["script","pen","turn","n","pairs","web","many","chain","hues","back","lower","more","place","some","order","at","hue"] (Zy s_law).names ["a","b","at"] [none,none,some 15]) (Xz (va 4)) (Bx rfl (show(["a","b","at"]:List Str).Nodup by decide +kernel) rfl rfl (qI rfl) (qI rfl) rfl rfl (hp:=WW (X0 (show(["a","b","at"]:List Str).Nodup by decide +kernel) rfl (qI rfl)) (WW (X0 (show(["a","b","at"]:List Str).Nodup by decide +kernel) rfl (qI rfl)) Js))) XW (Y4 (Zf (ZcY (L2.hu_of hr) (va 2) (va 0)) (Zf (ZcY (L2.hu_of hr) (va 2) (va 1)) Zj)))) Zj))) (ZN (kN.mono) hT hr (Zf (va 5) (Zf (va 14) Zj))))
 (Zx (Yh (PD.weak WD))
 Ya)
 Ys)
 (Zx (WK (Wx.pt (BD (YM (Zho) (va 3) Z2) (Bw (YM (Uf hr.units) (Z5 Z6 (ZN (kg.mono) hT hr (Zf (va 5) Zj)) Z2) (va 6)))))
 (Zx (Yh (PD.weak WD))
 Ya)
 Ys)
 (Zx (Wp (own:=[]) zd rfl (WS.n (Xz (Zdx rfl rfl T.b_sorted TF.boot_sorted rfl T.b_set TF.boot_set (va 8)))) (X7 jN rfl (yc rfl) (by decide))
 (Zx (WK (Uv (Vm (ZN (kx.mono) trivial hr (Zf (ZN (km.mono) hT hr (Zf (va 5) Zj)) (Zf (Vk (Be) rfl T.b_tuple TF.boot_tuple (Zf (Xa (bk ["script","pen","turn","n","pairs","web","many","chain","hues","back","lower","more","place","some","order","at","hue"] (Zy s_law).names ["place","hues","hue"] [none,some 8,some 16]) (V4 rfl T.b_range (va 3)) Y7 (W1 (YM (UA hr.units) (Z5 Z6 (va 1) (va 0)) (va 2))) (va 0)) Zj)) Zj)))))
 (Zx (Yh (PD.weak WD))
 Ya)
 Ys)
 Ya))
 Ya))))))))))))))))
 (Zx (Yh (PD.weak WD))
 Ya))
def ZbB:FnScope ["pen","many","found","one","two"] ["pen","many"] (Zy ZbZ):=⟨rfl,rfl,rfl,by decide +kernel,rfl,by decide +kernel,by decide +kernel⟩
def Zep {P:xE}{w:World}{K:ql}{mg:Str->Option Value}{base:Heap}{jZ:Addr}{jO:xD}(F:Fun K "_law_tdraw" "_law_tdraw" ZbZ jZ jO)(T:Txt mg) :
  FnOk P w K mg base ZQ 1 jZ jO ["pen","many"] (Yf 2 true XO Yv):=by
 have nd:=ZbB.nd;refine F.ok ZbB (λvs H Q E h=>?_) λcdv A outer s0 H vs Q E hr h=>?_
 ·obtain⟨G,Hf,ds,pn,d,pn',_,e,_⟩:=h
  exact e
 ·obtain⟨p,m,rfl,hs⟩:=ZjL (K:=K) (N:=λ_ H'=>Q .non H') h
  have hu:=L2.hu_of hr;refine⟨_,Va (ZkE (PW.pt (ZkB (BA ZkN (Bu Zaq rfl T.b_len TF.boot_len (YN (WY hu (pv 0) Wq (λ_ _=>rfl)) Y3)) Y8 (JB _)) (Zij (BA Zn0 (Ziq ZcP (WY hu (pv 0) Wq (λ_ _=>rfl)) Y8 (λ_ _=>rfl)) (pv 1) (JB _)))))
    (Jr (ZcO (JO yn qb9 qca ZfW (WY hu (pv 0) Wq (λ_ _=>rfl)) (YN Y8 Y3)))) Zfa)
   (Va (ZkE (BA ZkN (Bu Zaq rfl T.b_len TF.boot_len (YN (WY hu (pv 0) Wq (λ_ _=>rfl)) Y3)) Y8 (JB _))
    (Va (Ux (i:=2) nd rfl (qI rfl) (Xp UW (Ziq ZcP (WY hu (pv 0) Wq (λ_ _=>rfl)) Y8 (λ_ _=>rfl)) (pv 1)))
    (Va (ZkG (Xp Zik (Ziq ZcP (WY hu (pv 0) Wq (λ_ _=>rfl)) Y8 (λ_ _=>rfl)) (pv 1)) (ZoJ (WY hu (pv 0) Wq (λ_ _=>rfl)) Y8 ZkS))
    (Jr (JA (pv 2))))) Zfa)
   (Va (Zfg hu (pv 0) Wq (Xp Uy (WY hu (pv 0) Wq (λ_ _=>rfl)) Y8) rfl)
   (Va (Ux (i:=3) nd rfl (qI rfl) (Xp UW (Xp Uy (WY hu (pv 0) Wq (λ_ _=>rfl)) (Xp UV (Xp UV Y8 (WY hu (pv 0) Wq (λ_ _=>rfl))) (WY hu (pv 0) Wq (λ_ _=>rfl)))) Y8))
   (Va (Ux (i:=4) nd rfl (qI rfl) (Xp UW (Xp Uy (Xp Uy (Xp UV (pv 3) (pv 3)) (Xp UV Y8 (WY hu (pv 0) Wq (λ_ _=>rfl)))) Y8) Y8))
   (Jr (JA (Xp UW (Xp Zik (Xp UW (Xp Uy (Xp UV (pv 4) (pv 4)) (pv 3)) Y8) Y8) (pv 1)))))))),hs⟩
def Zb4:FnScope ["script","mixed","cell"] ["script"] (Zy Za8):=⟨rfl,rfl,rfl,by decide +kernel,rfl,by decide +kernel,by decide +kernel⟩
def ZfH {P:xE}{w:World}{K:ql}{mg:Str->Option Value}{base:Heap}{jZ:Addr}{jO:xD}(F:Fun K "_law_tpen" "_law_tpen" Za8 jZ jO)(T:Txt mg) :
  FnOk P w K mg base ZQ 1 jZ jO ["script"] (Zoe K):=by
 have nd:=Zb4.nd;refine F.ok Zb4 (λvs H Q E h=>?_) λcdv A outer s0 H vs Q E hr h=>?_
 ·obtain⟨a,ns,rfl,_⟩:=h
  rfl
 ·obtain⟨a,ns,rfl,hsq⟩:=id h
  refine⟨_,Va (Ux (i:=1) nd rfl (qI rfl) Y8)
   (Va (ZkK zd rfl (Zfb (pv 0)) (X0 (i:=2) nd rfl (qI rfl)) (Jr (Ux (i:=1) nd rfl (qI rfl) (Xp UW (Xp Uy (Xp Uy (Xp UV (pv 1) Y8) (Xp UW (pv 2) Y8)) Y8) Y8))))
   (Jr (JA (ZmV (Zdb Wq (pv 1) (Zdb Wq Y8 (Zdb Wq
    (Zgk (N':=["cell"]) (src:=[none]) rfl (⟨rfl,rfl,by decide +kernel,rfl,by decide +kernel,rfl,by decide +kernel,by decide +kernel⟩:BlkS _ ["script","mixed","cell"] (Zy Za8).names ["cell"] [none] _) (Zfb (pv 0)) (λ_ _ _ _ _ _=>X0 (i:=0) (show(["cell"]:List Str).Nodup by decide +kernel) rfl (qI rfl)) (λ_ _ _ _ _ _=>Zf1 (BA Zn1 (pv 0) (Xp ZoP Y8 Y8) (JB _))) (λ_ _ _ _ _ _=>pv 0)) ZmU))) rfl rfl (by simp) (by decide))))),Znh hsq.1 hsq.2.1 hsq.2.2⟩
def Zbh:FnScope ["pen","many","left"] ["pen","many"] (Zy ZaM):=⟨rfl,rfl,rfl,by decide +kernel,rfl,by decide +kernel,by decide +kernel⟩
def ZdP {P:xE}{w:World}{K:ql}{mg:Str->Option Value}{base:Heap}{jZ:Addr}{jO:xD}(F:Fun K "_law_torder" "_law_torder" ZaM jZ jO)(T:Txt mg)(jM:ZD P w K mg base 1 "_law_tdraw" 2 true XO Yv) :
  FnOk P w K mg base ZQ 2 jZ jO ["pen","many"] (Yf 2 true XO WZ):=by
 have nd:=Zbh.nd;refine F.ok Zbh (λvs H Q E h=>?_) λcdv A outer s0 H vs Q E hr h=>?_
 ·obtain⟨G,Hf,ds,pn,d,pn',_,e,_⟩:=h
  exact e
 ·obtain⟨fT,fdT,psT,FT,hmT,hkT,hbT⟩:=jM
  obtain⟨p,m,rfl,hs⟩:=ZhJ (K:=K) (E':=E0) (N:=λ_ H'=>Q .non H') h;refine⟨_,Va (Ux (i:=2) nd rfl (yc rfl) (Zbl (ZbN rfl) rfl T.b_list TF.boot_list (YN (Zcg rfl T.b_range (YN (pv 1) Y3)) Y3)))
   (Jr (JA (Zgk (te:=tPop K E0) (tt:=Zit) (N':=["k","left","pen"]) (src:=[none,some 2,some 0]) rfl (⟨rfl,rfl,by decide +kernel,rfl,by decide +kernel,rfl,by decide +kernel,by decide +kernel⟩:BlkS _ ["pen","many","left"] (Zy ZaM).names ["k","left","pen"] [none,some 2,some 0] _) (Zcc rfl T.b_range (YN (pv 1) Y3)) (λ_ _ _ _ _ _=>X0 (i:=0) (show(["k","left","pen"]:List Str).Nodup by decide +kernel) rfl (qI rfl)) (λ_ _ _ _ _ _=>Zf0)
    (λ_ _ _ _ _ _=>by unfold tPop;exact JO yn qb9 qca ZfW (pv 1) (YN (Zfd FT hr rfl hmT hkT hbT .nil Zis (YN (pv 2) (YN (Bu Zaq rfl T.b_len TF.boot_len (YN (pv 1) Y3)) Y3))) Y3))))),hs⟩
end K55
namespace TF
open L2
def ux0 {α:Type}(us:List α)(e:us.length=0):us=[]:=by cases us with | nil=>rfl | cons=>cases e
def ux1 {α:Type}(us:List α)(e:us.length=1):∃a,us=[a]:=by
 cases us with | nil=>cases e | cons a r=>cases ux0 r (qbJ e);exact⟨a,rfl⟩
def ux2 {α:Type}(us:List α)(e:us.length=2):∃a b,us=[a,b]:=by
 cases us with | nil=>cases e | cons a r=>obtain⟨b,rfl⟩:=ux1 r (qbJ e);exact⟨a,b,rfl⟩
def ux3 {α:Type}(us:List α)(e:us.length=3):∃a b c,us=[a,b,c]:=by
 cases us with | nil=>cases e | cons a r=>obtain⟨b,c,rfl⟩:=ux2 r (qbJ e);exact⟨a,b,c,rfl⟩
def ux4 {α:Type}(us:List α)(e:us.length=4):∃a b c d,us=[a,b,c,d]:=by
 cases us with | nil=>cases e | cons a r=>obtain⟨b,c,d,rfl⟩:=ux3 r (qbJ e);exact⟨a,b,c,d,rfl⟩
def IsC (K:ql)(x:Str)(st:Stmt)(c:Addr):Prop:=∃(f:Addr) (fd:xD),qbK K mainGlobals x=some (some (.ref f))/\Fun K x x st f fd/\fd.code=.ref c
def fnO (x:Str)(st:Stmt)(pm:Value)(c:Addr):Obj:=⟨.type "function",none,.func (yz x x (Vc st) (WM st) (Zy st) .none .none .none pm none (.ref c) .none),#[]⟩
def cdO (x:Str)(t:Nat)(ln ac:Int)(a:Addr)(tx k:Nat)(v:Bool):Obj:=
 ⟨.type "code",none,.fields #[.str x t,.str x (t+1),.str "/claim/cut.py" (t+2),.int ln 0,.int ac 0,.int 0 0,.int 0 0,.int 3 0,.ref a,.bool true,.int tx 0,.ref (a+1),.none,
  (match v with | true=>.ref (a+2) | false=>.none),(match v with | true=>.ref (a+3) | false=>.none),.ref (match v with | true=>a+4 | false=>a+2),.int k 0,.int ln 0,.str "/claim/cut.py" (k+1)],#[]⟩
structure DRow where
 x:Str
 i:Nat
 t:Nat
 ln:Int
 ac:Int
 a:Addr
 k:Nat
 v:Bool
 pm:Str
 pt:Nat
def DRow.c (r:DRow):Addr:=match r.v with | true=>r.a+5 | false=>r.a+3
def dE (P:Params)(x:Str)(t:Nat)(v:Value):DictEntry:=⟨PyData.keyHash P x,.str x t,v⟩
abbrev nE (x:Str)(t:Nat)(a:Addr):Str×Nat×Addr:=(x,t,a)
abbrev dR (x:Str)(i t:Nat)(ln ac:Int)(a:Addr)(k:Nat)(v:Bool)(pm:Str)(pt:Nat):DRow:=⟨x,i,t,ln,ac,a,k,v,pm,pt⟩
def dRs (P:Params)(l:List (Str×Nat×Addr)):List DictEntry:=l.map λe=>dE P e.1 e.2.1 (.ref e.2.2)
def Zp2 (Z4:Nat->Stmt)(tx:Nat)(m:List DictEntry)(n:Nat)(rs:List DRow):ql:=
 (mainNs,⟨.type "dict",none,.dict m.toArray n,#[]⟩)::rs.flatMap λr=>[(r.c,cdO r.x r.t r.ln r.ac r.a tx r.k r.v),(r.c+1,fnO r.x (Z4 r.i) (.str r.pm r.pt) r.c)]
def Zp3 {K:ql}{x:Str}{st:Stmt}{pm:Value}{c f:Addr}(a:qbK K mainGlobals x=some (some (.ref f)))(l:K.lookup f=some (fnO x st pm c))(cd:qaC K (.ref c) x=true):IsC K x st c:=
 ⟨f,_,a,ZoZ l cd (by unfold ym;dsimp only;rw[l];rfl),rfl⟩
def Zpq:Stmt->Pos
 | .FunctionDef _ _ _ _ _ _ _ _ _ p=>p
 | _=>⟨0,0,0,0⟩
abbrev Zh6 (st:Stmt):DefRec:=⟨"law",Vc st,WM st,Zy st,Zpq st⟩
def head_of {l:PySem.W.OpenLaw}{q:xE}{K:Params->ql}{as:List Addr}{e:∀P,as=(K P).map (·.1)}{N:Nat}{st:Stmt}(said:l.wellSaid=true)
  (left:PySem.W.LeftO l.prog q [] (λs=>PySem.W.xlAt q [] s&&PySem.W.recOk l.row.records s) (qad K as e).obs (qad K as e).val N)
  (hdef:PySem.W.defOf q l.row.name=some (Zh6 st,[])) (hp:l.row.prog.theDef l.row.name=some (Vc st,WM st,Zy st))
  (hk:PySem.W.kwWritten? (Vc st).kwonlyargs (Vc st).kw_defaults=some [])
  (ok:(PySem.W.chainsOk q&&PySem.W.opensWell l.row.prog&&(PySem.W.frees l.row.toRowW&&l.row.within.isEmpty))=true) (hb:l.row.prog.bare) (hw:l.row.toRowW.promised) (hwr:(!l.row.writes||l.row.records.isEmpty)=true)
  (call:qcl q [] (PySem.W.XL q []) (qad K as e).says l.row.toRowW (Zh6 st) [] λf vs=>qcg f vs):l.Holds:=
 PySem.W.holds_law said λsd=>PySem.W.holds_open left (qad K as e).of (qad K as e).keeps (λs z=>PySem.W.xl_of s (yQ.mp z).1) PySem.W.XL.keeps hdef hp hk (λs z=>PySem.W.recFacts_of (yQ.mp z).2) hwr sd ok hb hw call
def AtR (K:ql)(mg:Str->Option Value)(Z4:Nat->Stmt)(r:DRow):Prop:=∃(f:Addr) (fd:xD),Fun K r.x r.x (Z4 r.i) f fd/\mg r.x=some (.ref f)/\fd.code=.ref r.c
def Zop (K:ql)(Z4:Nat->Stmt)(r:DRow):Prop:=qbK K mainGlobals r.x=some (some (.ref (r.c+1)))/\K.lookup (r.c+1)=some (fnO r.x (Z4 r.i) (.str r.pm r.pt) r.c)/\qaC K (.ref r.c) r.x=true
def ZfI (K:ql)(Z4:Nat->Stmt):List DRow->Prop
 | []=>True
 | r::l=>Zop K Z4 r/\ZfI K Z4 l
def ZgW {K:ql}{Z4:Nat->Stmt}:∀{l:List DRow} {j:Nat} {r:DRow},ZfI K Z4 l->l[j]?=some r->Zop K Z4 r
 | _::_,0,_,h,e=>by cases e;exact h.1
 | _::l,j+1,_,h,e=>ZgW (l:=l) h.2 e
def Zpr {K:ql}{h:Heap}{mg:Str->Option Value}{Z4:Nat->Stmt}{l:List DRow}(ok:ZfI K Z4 l)(X:K.In h)(G:h.Ns mainGlobals mg)(j:Nat){r:DRow}(e:l[j]?=some r:=by rfl):AtR K mg Z4 r:=by
 obtain⟨a,b,c⟩:=ZgW ok e;obtain⟨f,fd,a,F,d⟩:=Zp3 a b c;exact⟨f,fd,F,PySem.W.mg_of X G a,d⟩
def bdc {K:ql}{x:Str}{st:Stmt}{f:Addr}{fd:xD}(ps:List Str)(F:Fun K x x st f fd)
  (h:∀(kV doc pm:Value) (an:Option Addr) (cdv ct:Value) (us:List Value),us.length=ps.length->bindArgs (yz x x (Vc st) (WM st) (Zy st) .none kV doc pm an cdv ct) ⟨us,[]⟩=pure (ps.zip us):=by
   intro _ _ _ _ _ _ us hl
   first
    | (obtain⟨_,rfl⟩:=TF.ux1 us hl;rfl)
    | (obtain⟨_,_,rfl⟩:=TF.ux2 us hl;rfl)
    | (obtain⟨_,_,_,rfl⟩:=TF.ux3 us hl;rfl)
    | (obtain⟨_,_,_,_,rfl⟩:=TF.ux4 us hl;rfl)
    | (obtain⟨_,_,_,_,_,rfl⟩:=TF.ux5 us hl;rfl)
    | (obtain⟨_,_,_,_,_,_,rfl⟩:=TF.ux6 us hl;rfl)
    | (obtain⟨_,_,_,_,_,_,_,rfl⟩:=TF.ux7 us hl;rfl)
    | (obtain rfl:=TF.ux0 us hl;rfl)):Wr K fd ps []:=F.binds h
def mkc {P:xE}{w:World}{K:ql}{mg:Str->Option Value}(base:Heap){x:Str}{st:Stmt}{f:Addr}{fd:xD}{k n:Nat}{ps:List Str}{fr:Bool}{GG:Gh->Prop}{F9:List D->M D}(F:Fun K x x st f fd)(m:mg x=some (.ref f))(ok:FnOk P w K mg base ZQ k f fd ps (Yf n fr GG F9))
  (h:∀(kV doc pm:Value) (an:Option Addr) (cdv ct:Value) (us:List Value),us.length=ps.length->bindArgs (yz x x (Vc st) (WM st) (Zy st) .none kV doc pm an cdv ct) ⟨us,[]⟩=pure (ps.zip us):=by
   intro _ _ _ _ _ _ us hl
   first
    | (obtain⟨_,rfl⟩:=TF.ux1 us hl;rfl)
    | (obtain⟨_,_,rfl⟩:=TF.ux2 us hl;rfl)
    | (obtain⟨_,_,_,rfl⟩:=TF.ux3 us hl;rfl)
    | (obtain⟨_,_,_,_,rfl⟩:=TF.ux4 us hl;rfl)
    | (obtain⟨_,_,_,_,_,rfl⟩:=TF.ux5 us hl;rfl)
    | (obtain⟨_,_,_,_,_,_,rfl⟩:=TF.ux6 us hl;rfl)
    | (obtain⟨_,_,_,_,_,_,_,rfl⟩:=TF.ux7 us hl;rfl)
    | (obtain rfl:=TF.ux0 us hl;rfl)):ZD P w K mg base k x n fr GG F9:=⟨f,fd,ps,ok,m,F.kp,F.binds h⟩
end TF
namespace TP2
open L2 TF TP
abbrev nD (i:Nat):D:=.int (i:Int)
def ZP (k:List Nat):D:=.tup (k.map nD)
def okK (jK:Qa)(i:Nat)(k:List Nat):Bool:=k.all λo=>decide ((o,i)∈jK)
def kn (jK:Qa):Nat->List (List Nat)
 | 0=>[[]]
 | i+1=>kn jK i++((kn jK i).filter (okK jK i)).map (· ++ [i])
def Zh7 {jK:Qa}:∀{i:Nat} {k:List Nat},k∈kn jK i->(∀o∈k,o<i)/\k.length<=i
 | 0,k,h=>by
  have:k=[]:=by simpa[kn]using h
  subst this;simp
 | i+1,k,h=>by
  rw[kn]at h;rcases qP.mp h with h | h
  ·have:=Zh7 h
   exact⟨λo ho=>zF (this.1 o ho),by omega⟩
  ·obtain⟨q,hq,rfl⟩:=qu.mp h
   have:=Zh7 (qA.mp hq).1;refine⟨λo ho=>?_,by simp;omega⟩;rcases qP.mp ho with ho | ho
   ·exact zF (this.1 o ho)
   ·rw[qK.mp ho];omega
def Zh8 (p:Nat×Nat)(jK:Qa):YI (Zp p) (.dt (ZZ [] jK))=some (.bl (decide (p∈jK))):=by
 have e:UG (Zp p) (.dt (ZZ [] jK))=some (decide (p∈jK)):=by
  show(Xt [.int (p.1:Int),.int (p.2:Int)]).map (λk=>(ZY (ZZ [] jK) k).isSome)=_;show some ((ZY (ZZ [] jK) (Wi p)).isSome)=_;rw[Zgf];simp[ZY]
 unfold YI;rw[e];rfl
def Br {α:Type}(l:List α)(p:α->Bool):VZ [.lst (l.map λx=>D.bl (p x))]=some (.bl (l.all p)):=by
 show(Xg _).map _=_;rw[show l.map (λx=>D.bl (p x))=(l.map p).map D.bl by rw[qE];rfl,Zcu];show some (D.bl _)=some (D.bl _);rw[qbC];rfl
def ZnC (k:List Nat)(i:Nat)(h:k.length<=1000):Y5 (ZP k) (.tup [nD i])=some (ZP (k ++ [i])):=by
 unfold ZP;show(if (k.map nD).length + [nD i].length<=xg then some (D.tup (k.map nD ++ [nD i]))else none)=_;rw[if_pos (by rw[qd,Yd];simp;omega),zK];rfl
def Yk (n:Nat)(jK:Qa)(p:Nat):List Nat:=(qk n).filter λo=>tied jK p o
def Xo (n:Nat)(jK:Qa):D:=.lst ((qk n).map λp=>.lst ((Yk n jK p).map nD))
def ZfJ (a b:Nat):ZM (nD a) (nD b)=decide (a=b):=by
 show((a:Int)==(b:Int))=_;rw[zq,beq_iff_eq,decide_eq_true_eq];constructor <;> intro h <;> omega
def Zl8 (o:Nat)(l:List Nat):VG (nD o) (l.map nD)=decide (o∈l):=by
 unfold VG
 induction l with
 | nil=>simp
 | cons t ts ih=>
  rw[zh,qao,ih,ZfJ];by_cases h:t=o
  ·subst h;simp
  ·have:¬o=t:=λz=>h z.symm
   simp[h,this]
def ZdQ (l:List Nat):YG (l.map nD)=true:=by
 induction l with
 | nil=>simp[YG]
 | cons a l ih=>simp[YG,Zs,ih]
def ZiX (l:List Nat):Xx (l.map nD)=0:=by
 induction l with
 | nil=>simp[Xx]
 | cons a l ih=>simp[Xx,Yl,ih]
def Zl9 (o:Nat)(l:List Nat):YI (nD o) (.lst (l.map nD))=some (.bl (decide (o∈l))):=by
 have h:VB (nD o) (l.map nD)=true:=by simp[VB,Zs,ZdQ,Yl,ZiX]
 simp only[YI,UG,h,if_true,Option.map,Zl8]
def Wz (l:List Nat):Nat:=l.foldl max 0
def ZfK (l:List Nat):∀a,a<=l.foldl max a/\∀x∈l,x<=l.foldl max a:=by
 induction l with
 | nil=>intro a;simp
 | cons b l ih=>
  intro a;obtain⟨h1,h2⟩:=ih (max a b);refine⟨?_,λx hx=>?_⟩
  ·show a<=l.foldl max (max a b);omega
  ·show x<=l.foldl max (max a b)
   rcases qm.mp hx with rfl | hx
   ·omega
   ·exact h2 x hx
def ZfL (l:List Nat)(b:Nat)(h:∀x∈l,x<=b):∀a,a<=b->l.foldl max a<=b:=by
 induction l with
 | nil=>intro a ha;exact ha
 | cons c l ih=>
  intro a ha;exact ih (λx hx=>h x (by simp[hx])) (max a c) (by have:=h c (by simp);omega)
def ZgX (l:List Nat):∀a:Nat,maxI (a:Int) (l.map λ(i:Nat)=>(i:Int))=((l.foldl max a:Nat):Int):=by
 induction l with
 | nil=>intro a;rfl
 | cons b l ih=>
  intro a;show maxI (max (a:Int) (b:Int)) (l.map λ(i:Nat)=>(i:Int))=_;rw[show max (a:Int) (b:Int)=((max a b:Nat):Int) by omega,ih];rfl
def ZaF (l:List Nat):ZG (l.map nD)=some (l.map λ(i:Nat)=>(i:Int)):=by
 have:=ZaR (l.map λ(i:Nat)=>(i:Int));rw[qE]at this;exact this
def Ze0 {α:Type}(q:α->Bool):∀l:List α,l.length=(l.filter q).length+(l.filter λx=>!q x).length
 | []=>rfl
 | a::l=>by
  have:=Ze0 q l
  cases h:q a with
  | true=>simp[List.filter_cons,h];omega
  | false=>simp[List.filter_cons,h];omega
def RT (jK:Qa)(a b:Nat):Prop:=a<b/\(a,b)∈jK
def UY {jK:Qa}:∀{n:Nat} {k:List Nat},k∈kn jK n↔k.Pairwise (RT jK)/\∀o∈k,o<n
 | 0,k=>by
  constructor
  ·intro h
   have:k=[]:=by simpa[kn]using h
   subst this;exact⟨.nil,by simp⟩
  ·rintro⟨_,h⟩
   cases k with
   | nil=>simp[kn]
   | cons a k=>exact absurd (h a (by simp)) (by omega)
 | n+1,k=>by
  rw[kn,qP];constructor
  ·rintro(h | h)
   ·have:=UY.mp h
    exact⟨this.1,λo ho=>zF (this.2 o ho)⟩
   ·obtain⟨q,hq,rfl⟩:=qu.mp h
    obtain⟨hq1,hq2⟩:=qA.mp hq;have:=UY.mp hq1;unfold okK at hq2;rw[zj]at hq2;refine⟨yR.mpr ⟨this.1,by simp,λa ha b hb=>?_⟩,λo ho=>?_⟩
    ·rw[qK.mp hb]
     exact⟨this.2 a ha,by simpa using hq2 a ha⟩
    ·rcases qP.mp ho with ho | ho
     ·exact zF (this.2 o ho)
     ·rw[qK.mp ho];omega
  ·rintro⟨h1,h2⟩
   by_cases hn:n∈k
   ·right
    obtain⟨a,b,rfl⟩:=List.append_of_mem hn;have hp:=yR.mp h1;have hb:b=[]:=by
     cases b with
     | nil=>rfl
     | cons y b=>
      have r1:=(yj.mp hp.2.1).1 y (by simp);have:=h2 y (by simp);have:=r1.1;omega
    subst hb;have ha:∀o∈a,RT jK o n:=λo ho=>hp.2.2 o ho n (by simp);refine qu.mpr ⟨a,qA.mpr ⟨UY.mpr ⟨hp.1,λo ho=>(ha o ho).1⟩,?_⟩,rfl⟩;unfold okK;rw[zj];exact λo ho=>by simpa using(ha o ho).2
   ·left
    refine UY.mpr ⟨h1,λo ho=>?_⟩;have:=h2 o ho;have:o≠n:=λz=>hn (z▸ho);omega
def ZnD {jK:Qa}{n:Nat}{k:List Nat}(h:k∈kn jK n):k.Pairwise (· < ·):=(UY.mp h).1.imp λh=>h.1
def Zma {R:Nat->Nat->Prop}{k:List Nat}(hr:k.Pairwise (· < ·))(h:k.Pairwise R){a b:Nat}(ha:a∈k)(hb:b∈k)(hab:a<b):R a b:=by
 obtain⟨i,hi,rfl⟩:=qar ha;obtain⟨j,hj,rfl⟩:=qar hb;have p1:=zf.mp hr;have p2:=zf.mp h;rcases qai i j with z | z | z
 ·exact p2 i j hi hj z
 ·subst z;exact absurd hab (yk _)
 ·have:=p1 j i hj hi z;omega
def IsWeb.irr {n:Nat}{jK:Qa}(h:IsWeb n jK)(a:Nat):tied jK a a=false:=by
 unfold tied;rw[decide_eq_false_iff_not];intro z;have h1:min a a<max a a:=(TP.IsWeb.mem h z).1;omega
end TP2
namespace TP3
open L2 TF TP TS
open TP2
def Zkf {α:Type}(l:List α)(p:α->Bool):JY [.lst (l.map λx=>D.bl (p x))]=some (.bl (l.any p)):=by
 show(Xg _).map _=_;rw[show l.map (λx=>D.bl (p x))=(l.map p).map D.bl by rw[qE];rfl,Zcu];show some (D.bl _)=some (D.bl _);rw[List.any_map];rfl
def YJ (k:List Nat):List Int:=k.map λ(x:Nat)=>(x:Int)
def Uw {n:Nat}{jK:Qa}{k:List Nat}:k∈kn jK n↔k.Pairwise (· < ·)/\(∀o∈k,o<n)/\∀a∈k,∀b∈k,a≠b->tied jK a b=true:=by
 rw[UY];constructor
 ·rintro⟨h1,h2⟩
  have hr:k.Pairwise (· < ·):=h1.imp λh=>h.1;refine⟨hr,h2,λa ha b hb hab=>?_⟩;by_cases hlt:a<b
  ·rw[Jx hlt];simpa using(Zma hr h1 ha hb hlt).2
  ·have hlt:b<a:=by omega
   rw[Us,Jx hlt];simpa using(Zma hr h1 hb ha hlt).2
 ·rintro⟨hr,h2,h3⟩
  refine⟨?_,h2⟩;refine yY (λ{a b} ha hb hab=>?_) hr;refine⟨hab,?_⟩;have:=h3 a ha b hb (by omega);rw[Jx hab]at this;simpa using this
def range_rise (n:Nat):(qk n).Pairwise (· < ·):=qaW
def ZdR {k:List Nat}(h:k.Pairwise (· < ·)):k.Nodup:=h.imp λh=>by omega
structure Emb (m n:Nat)(f:Nat->Nat)(tm tn:Qa):Prop where
 lt:∀a,a<m->f a<n
 inj:∀a b,a<m->b<m->f a=f b->a=b
 td:∀a b,a<m->b<m->tied tm a b=tied tn (f a) (f b)
section
variable {m n:Nat}{f:Nat->Nat}{tm tn:Qa}
def V9 {α:Type}[BEq α][LawfulBEq α]:∀{a b:List α},a.Nodup->(∀x∈a,x∈b)->a.length<=b.length
 | [],_,_,_=>by simp
 | x::a,b,nd,h=>by
  have nd':=zC.mp nd;have hx:=h x (by simp);have ih:=V9 (a:=a) (b:=b.erase x) nd'.2 λy hy=>(qck (λ(z:y=x)=>nd'.1 (by rw[<-z];exact hy))).mpr (h y (by simp[hy]));have:=List.length_erase_of_mem hx;have:0<b.length:=List.length_pos_of_mem hx;simp only[qN];omega
def ZnE {l:List Nat}(h:∃r,l=0::r):Wz l∈l:=by
 have key:∀(l:List Nat) (a:Nat),l.foldl max a=a∨l.foldl max a∈l:=by
  intro l
  induction l with
  | nil=>intro a;exact .inl rfl
  | cons b l ih=>
   intro a;show l.foldl max (max a b)=a∨l.foldl max (max a b)∈b::l;rcases ih (max a b)with e | e
   ·rcases Nat.le_total a b with h | h
    ·right;rw[e,qa0 h];simp
    ·left;rw[e,Nat.max_eq_left h]
   ·right;exact qO _ e
 obtain⟨r,rfl⟩:=h;rcases key (0::r) 0 with e | e
 ·unfold Wz;rw[e];simp
 ·exact e
def Zmb {l:List Nat}{x:Nat}(h:x∈l):x<=Wz l:=(ZfK l 0).2 x h
structure Iso (n:Nat)(f g:Nat->Nat)(tm tn:Qa):Prop where
 e:Emb n n f tm tn
 e':Emb n n g tn tm
 fg:∀a,a<n->f (g a)=a
 gf:∀a,a<n->g (f a)=a
end
def V0 (jK:Qa)(ps:List Nat):Qa:=(Xk ps.length).filter λp=>tied jK (ps.getD p.1 0) (ps.getD p.2 0)
def Zmc (jK:Qa)(ps:List Nat):IsWeb ps.length (V0 jK ps):=IsWeb.filter _
def Zkg {n:Nat}{jK:Qa}(hw:IsWeb n jK){ps:List Nat}{a b:Nat}(ha:a<ps.length)(hb:b<ps.length):tied (V0 jK ps) a b=tied jK (ps.getD a 0) (ps.getD b 0):=by
 have lt:∀{a b:Nat},a<b->b<ps.length->tied (V0 jK ps) a b=tied jK (ps.getD a 0) (ps.getD b 0):=λ{a b} hab hb=>by
  rw[Jx hab];unfold V0;rw[zq,decide_eq_true_eq,qA,WX];exact⟨λh=>h.2,λh=>⟨⟨hab,hb⟩,h⟩⟩
 rcases qai a b with h | h | h
 ·exact lt h hb
 ·subst h;rw[IsWeb.irr (Zmc jK ps),IsWeb.irr hw]
 ·rw[Us,lt h ha,Us]
def Zmd {n:Nat}{jK:Qa}(hw:IsWeb n jK){ps:List Nat}(nd:ps.Nodup)(hp:∀o∈ps,o<n):Emb ps.length n (λi=>ps.getD i 0) (V0 jK ps) jK where
 lt:=λa ha=>by
  rw[qf,qj ha];exact hp _ (zE ha)
 inj:=λa b ha hb e=>by
  rw[qf,qj ha,qf,qj hb]at e;exact(List.getElem_inj nd).mp e
 td:=λa b ha hb=>Zkg hw ha hb
def Xv (ps:List Nat)(x:Nat):Nat:=ps.idxOf x
def ZgY {n:Nat}{jK:Qa}(hw:IsWeb n jK){ps:List Nat}(hp:ps.Perm (qk n)):Iso n (Xv ps) (λi=>ps.getD i 0) jK (V0 jK ps):=by
 have hl:ps.length=n:=by rw[hp.length_eq,qG]
 have nd:ps.Nodup:=hp.nodup_iff.mpr zM;have hm:∀o,o∈ps↔o<n:=λo=>by rw[hp.mem_iff,qB]
 have E:=Zmd hw nd λo ho=>(hm o).mp ho;have lt:∀a,a<n->Xv ps a<n:=λa ha=>by
  have:=qbn ((hm a).mpr ha);unfold Xv;omega
 have gf:∀a,a<n->ps.getD (Xv ps a) 0=a:=λa ha=>by
  have h1:=qbn ((hm a).mpr ha);unfold Xv;rw[qf,qj h1];exact qbk h1
 have fg:∀a,a<n->Xv ps (ps.getD a 0)=a:=λa ha=>by
  refine E.inj _ _ ?_ (by omega) (gf _ (E.lt a (by omega)));rw[hl];exact lt _ (E.lt a (by omega))
 rw[hl]at E;refine⟨⟨lt,λa b ha hb e=>?_,λa b ha hb=>?_⟩,E,fg,gf⟩
 ·rw[<-gf a ha,e,gf b hb]
 ·rw[E.td _ _ (lt a ha) (lt b hb),gf a ha,gf b hb]
def ZaX (jK:Qa)(a b:Nat)(s:Pn):W9 [.dt (ZZ [] jK),.int a,.int b] s=some (.bl (tied jK a b),s):=by
 simp[W9,Zdn,runB,Zg,ZK,Zo,Ze,ZE,Zc,Zd,ZW,Za,Zq,ZA,YQ,U1,Zk2,two_le,ZhC,Zh8,tied]
def UU {as:List Nat}{j:Nat}(hj:j<as.length):XY (as.map nD) (j:Int)=some (nD (as.getD j 0)):=by
 refine X8 ?_;rw[qt,qf,qj hj];rfl
def Zkh (ps:List Nat):Yw [.lst (ps.map nD)]=some (nD ps.length):=by
 show some (D.int ((ps.map nD).length:Nat))=_;rw[qd]
def Zme {as:List Nat}:((qk (as.length-1)).all λi=>decide (as.getD i 0<as.getD (i+1) 0))=decide (as.Pairwise (· < ·)):=by
 rw[zq,zj,decide_eq_true_eq,zf];have g:∀j (h:j<as.length),as.getD j 0=as[j]:=λj h=>by rw[qf,qj h];rfl
 constructor
 ·intro h
  have step:∀d i (h1:i+d+1<as.length),as.getD i 0<as.getD (i+d+1) 0:=by
   intro d
   induction d with
   | zero=>intro i h1;simpa using h i (by rw[qB];omega)
   | succ d ih=>
    intro i h1;have q1:=ih i (by omega);have q2:as.getD (i+d+1) 0<as.getD (i+d+1+1) 0:=by simpa using h (i+d+1) (by rw[qB];omega)
    have:i+(d+1)+1=i+d+1+1:=by omega
    rw[this];omega
  intro i j hi hj hij;have:=step (j-i-1) i (by omega);rw[show i+(j-i-1)+1=j by omega,g i hi,g j hj]at this;exact this
 ·intro h i hi
  have hi:=qB.mp hi;rw[decide_eq_true_eq,g i (by omega),g (i+1) (by omega)];exact h i (i+1) (by omega) (by omega) (by omega)
def Zki (as:List Nat)(hl:as.length<=100000)(s:Pn):BF [ZP as] s=some (.bl (decide (as.Pairwise (· < ·))),s):=by
 refine YS rfl (Ye (YO ?_));have hi:Z8 (Ze JX (ZE Yw (Zc (Za 0) Zd)) (dC (.int 1))) [some (ZP as)] s=some (Yb 0 (as.length-1),s):=by
  by_cases h0:as.length=0
  ·have:as=[]:=zB.mp h0
   subst this;rfl
  ·refine XG (Zu (d:=.int as.length) (e:=.int 1) (Yi (Zh rfl rfl) ?_) rfl ?_) (by omega)
   ·show some (D.int ((as.map nD).length:Nat))=_
    rw[qd]
   ·show some (D.int _)=some (D.int _)
    congr 2;omega
 have hc:=YU (src:=[none,some 0]) (τ:=Zw 0) (ft:=Z3) (fe:=Ze WT (Ze Zl (Za 1) (Za 0)) (Ze Zl (Za 1) (Ze Y5 (Za 0) (dC (.int 1))))) (ρ:=[some (ZP as)]) (s:=s) (λd=>[some d,some (ZP as)]) (λ_=>true) (λd=>.bl (decide (as.getD (Yo d) 0<as.getD (Yo d+1) 0))) hi (Zfm (by omega)) λd hd=>by
  obtain⟨i,hi,rfl⟩:=V7 hd;refine⟨rfl,rfl,λ_=>?_⟩;refine Zu (Zu (d:=ZP as) (e:=.int (i:Int)) rfl rfl (UU (by omega))) (Zu (d:=ZP as) (e:=.int ((i+1:Nat):Int)) rfl (Zu (d:=.int (i:Int)) (e:=.int 1) rfl rfl (by simp[Y5])) (UU (by omega))) ?_;show some (D.bl (decide ((as.getD i 0:Int)<(as.getD (i+1) 0:Int))))=some (D.bl (decide (as.getD i 0<as.getD (i+1) 0)));congr 3;rw[Int.ofNat_lt]
 refine Yi (Zh hc rfl) ?_;rw[WV,VN,qE,<-Zme];exact Br (qk (as.length-1)) λi=>decide (as.getD i 0<as.getD (i+1) 0)
def ZgZ {as:List Nat}{p:Nat×Nat}(h1:p.1<as.length)(h2:p.2<as.length):W5 (as.map nD) p=Zp (as.getD p.1 0,as.getD p.2 0):=by
 have g:∀j,j<as.length->(as.map nD).getD j .non=nD (as.getD j 0):=λj hj=>by
  rw[qf,qt,qj hj,qf,qj hj];rfl
 unfold W5;rw[g _ h1,g _ h2];rfl
def Zh9 {n:Nat}{jK:Qa}{as:List Nat}(hr:as.Pairwise (· < ·))(hn:∀o∈as,o<n):((Xk as.length).all λp=>decide ((as.getD p.1 0,as.getD p.2 0)∈jK))=decide (as∈kn jK n):=by
 rw[zq,zj,decide_eq_true_eq,UY];have g:∀j (h:j<as.length),as.getD j 0=as[j]:=λj h=>by rw[qf,qj h];rfl
 constructor
 ·intro h
  refine⟨zf.mpr λi j hi hj hij=>⟨zf.mp hr i j hi hj hij,?_⟩,hn⟩;have:=h (i,j) (WX.mpr ⟨hij,hj⟩);rw[decide_eq_true_eq]at this;simp only[g i hi,g j hj]at this;exact this
 ·rintro⟨h,_⟩ ⟨i,j⟩ hp
  have hp:=WX.mp hp;simp only at hp;rw[decide_eq_true_eq];simp only[g i (by omega),g j (by omega)];exact(zf.mp h i j (by omega) (by omega) hp.1).2
def ZcD (n:Nat)(jK:Qa)(hl:jK.length<=100000)(as:List Nat)(hal:as.length<=1000)(s:Pn):Jo [ZH n jK,ZP as] s=some (.bl (decide (as∈kn jK n)),s):=by
 refine YS rfl ?_;refine YT (VS (BE (b:=true) (Yc (Yi (Zh rfl (Zh rfl rfl)) rfl))) rfl) ?_;have hc:=YU (src:=[none,some 0]) (fi:=WN (Za 1)) (τ:=Zw 0) (ft:=Z3) (fe:=Zn V6 (Zc (Ze Zl (Za 1) (dC (.int 0))) (Zc (Za 0) Zd))) (ρ:=[some (ZH n jK),some (ZP as),none]) (s:=s) (λd=>[some d,some (ZH n jK)]) (λ_=>true) (λd=>.bl (WC (n:Int) d)) (Zfp rfl) (by rw[qd,Yd];omega) λd hd=>by
  obtain⟨a,_,rfl⟩:=qu.mp hd;exact⟨rfl,rfl,λ_=>Z0 (Zh (Zu (d:=ZH n jK) (e:=.int 0) rfl rfl Uk) (Zh rfl rfl)) (Zcx rfl (n:Int) s)⟩
 rw[WV]at hc;have hp:=BE (Yc (Yi (Zh hc (rfl:Zd [some (ZH n jK),some (ZP as),none] s=some ([],s))) (Br (as.map nD) (WC (n:Int)))));have hpl:(as.map nD).all (WC (n:Int))=decide (∀o∈as,o<n):=by
  rw[zq,zj,decide_eq_true_eq];constructor
  ·intro h o ho
   have:=h (nD o) (qu.mpr ⟨o,ho,rfl⟩);simp only[WC,qV,decide_eq_true_eq]at this;omega
  ·intro h d hd
   obtain⟨o,ho,rfl⟩:=qu.mp hd;have:=h o ho;simp only[WC,qV,decide_eq_true_eq];omega
 rw[hpl]at hp;by_cases ha:∀o∈as,o<n
 ·rw[decide_eq_true ha]at hp
  have hr:Wu (asB (Zn BF (Zc (Za 1) Zd))) [some (ZH n jK),some (ZP as),none] s=some (!decide (as.Pairwise (· < ·)),s):=BE (Yc (Z0 (Zh rfl rfl) (Zki as (by omega) s)));by_cases hrr:as.Pairwise (· < ·)
  ·rw[decide_eq_true hrr]at hr
   refine YT (VS (Zob hp hr) rfl) (YT (X9 (Z0 (Zh rfl rfl) (Zbp n jK s hl))) (Ye (YO ?_)));have hps:Zn V5 (Zc (Za 1) Zd) [some (ZH n jK),some (ZP as),some (.dt (ZZ [] jK))] s=some (.lst ((Xk (as.map nD).length).map (W5 (as.map nD))),s):=Z0 (Zh rfl rfl) (Zcw (.tup (as.map nD)) (as.map nD) (.inr rfl) (by simpa using hal) s);have hap:=Zgi as.length (by omega);have hc2:=YU (src:=[none,some 2]) (fi:=ZV (Zn V5 (Zc (Za 1) Zd))) (τ:=Zw 0) (ft:=Z3) (fe:=Ze YI (Za 0) (Za 1)) (ρ:=[some (ZH n jK),some (ZP as),some (.dt (ZZ [] jK))]) (s:=s) (λd=>[some d,some (.dt (ZZ [] jK))]) (λ_=>true) (λd=>.bl (decide (Y0 d∈jK))) (XH hps) (by rw[qd,qd,Yd];omega) λd hd=>by
    obtain⟨p,hpm,rfl⟩:=qu.mp hd;rw[qd]at hpm;have hpp:=WX.mp hpm;rw[ZgZ (by omega) (by omega)];exact⟨rfl,rfl,λ_=>Zu (d:=Zp (as.getD p.1 0,as.getD p.2 0)) rfl rfl (Zh8 _ jK)⟩
   rw[WV,qE,qd]at hc2;refine Yi (Zh hc2 rfl) ?_;have e2:(Xk as.length).map ((λd=>D.bl (decide (Y0 d∈jK)))∘W5 (as.map nD))=(Xk as.length).map λp=>D.bl (decide ((as.getD p.1 0,as.getD p.2 0)∈jK)):=by
    refine zt λp hpm=>?_;have hpp:=WX.mp hpm;show D.bl (decide (Y0 (W5 (as.map nD) p)∈jK))=_;rw[ZgZ (by omega) (by omega),VJ]
   rw[e2,Br (Xk as.length) λp=>decide ((as.getD p.1 0,as.getD p.2 0)∈jK),Zh9 hrr ha]
  ·rw[decide_eq_false hrr]at hr
   have:decide (as∈kn jK n)=false:=decide_eq_false λz=>hrr (ZnD z);rw[this];exact Ye (Vt (Zob hp hr) (Ye rfl))
 ·rw[decide_eq_false ha]at hp
  have:decide (as∈kn jK n)=false:=decide_eq_false λz=>ha (Zh7 z).1;rw[this];exact Ye (Vt (ZpT hp) (Ye rfl))
def WU:Nat->List Nat->List (Zt×V)
 | _,[]=>[]
 | i,p::ps=>(zb (p:Int),V.int i)::WU (i+1) ps
def Zmf:∀(ps:List Nat) (i:Nat) (jP:List (Zt×V)),ps.Nodup->(∀x∈ps,ZY jP (zb (x:Int))=none)->Wg jP (ps.mapIdx λj x=>D.tup [nD x,nD (i+j)])=some (jP++WU i ps)
 | [],i,jP,_,_=>by simp[Wg,WU]
 | p::ps,i,jP,nd,h=>by
  have nd':=zC.mp nd;rw[List.mapIdx_cons];show(match ZiB (D.tup [nD p,nD (i+0)])with | some (k,v)=>Wg (Z9 jP k v) (ps.mapIdx λj x=>D.tup [nD x,nD (i+(j+1))]) | none=>none)=_;show Wg (Z9 jP (zb (p:Int)) (.int ((i+0:Nat):Int))) (ps.mapIdx λj x=>D.tup [nD x,nD (i+(j+1))])=_;have e:(λ(j:Nat) (x:Nat)=>D.tup [nD x,nD (i+(j+1))])=λj x=>D.tup [nD x,nD ((i+1)+j)]:=by
   funext j x;rw[show i+(j+1)=i+1+j by omega]
  rw[e,Zmf ps (i+1) _ nd'.2 λx hx=>?_,Zc9 _ (h p (by simp)),WU,Nat.add_zero]
  ·simp
  ·rw[Zc8,if_neg (λz=>nd'.1 (by
    have:=qaP z;have:x=p:=by omega
    exact this▸hx))]
   exact h x (by simp[hx])
def Zg0 {x:Nat}:∀{ps:List Nat} (i:Nat),x∈ps->ZY (WU i ps) (zb (x:Int))=some (.int ((i+ps.idxOf x:Nat):Int))
 | [],i,h=>by simp at h
 | p::ps,i,h=>by
  by_cases e:p=x
  ·subst e
   rw[WU,X5 rfl];simp
  ·have hn:¬((zb (p:Int):Zt)=zb (x:Int)):=λz=>by
    have:=qaP z;omega
   have hx:x∈ps:=by
    rcases qm.mp h with h | h
    ·exact absurd h.symm e
    ·exact h
   rw[WU,X6 hn,Zg0 (i+1) hx];have:(p==x)=false:=by simpa using e
   rw[qbU,this];simp only[cond_false];congr 3;omega
def Zco (ps:List Nat):VW (ps.map nD)=ps.mapIdx λi x=>D.tup [nD i,nD x]:=by
 unfold VW;apply yD;intro i;rw[yC,yC,qt]
 cases ps[i]? <;> rfl
def Zp4 {ps:List Nat}{ρ:Zb}{s:Pn}{f:Zb->M D}(hf:f ρ s=some (.lst (ps.map nD),s))(nd:ps.Nodup)(hl:ps.length<=100000):ZE JD (Zc (ZR [none,none] (Jz f) (Ws 0 1) Z3 (ZW (Zc (Za 1) (Zc (Za 0) Zd)))) Zd) ρ s=some (.dk (WU 0 ps),s):=by
 have hi:Jz f ρ s=some (VW (ps.map nD),s):=by
  unfold Jz Zq;rw[hf];rfl
 have jT:(VW (ps.map nD)).length<=xg:=by rw[Zco,qbj,Yd];omega
 have hc:=YU (src:=[none,none]) (fi:=Jz f) (τ:=Ws 0 1) (ft:=Z3) (fe:=ZW (Zc (Za 1) (Zc (Za 0) Zd))) (ρ:=ρ) (s:=s) (ds:=VW (ps.map nD)) (λd=>match d with | .tup [a,b]=>[some a,some b] | _=>[]) (λ_=>true) (λd=>match d with | .tup [a,b]=>.tup [b,a] | _=>.non) hi jT (λd hd=>by
  rw[Zco,List.mem_mapIdx]at hd;obtain⟨i,hi,rfl⟩:=hd;exact⟨rfl,rfl,λ_=>Zfq rfl rfl⟩)
 rw[WV]at hc;have e:(VW (ps.map nD)).map (λd=>match d with | .tup [a,b]=>D.tup [b,a] | _=>.non)=ps.mapIdx λj x=>D.tup [nD x,nD (0+j)]:=by
  rw[Zco];apply yD;intro i;rw[qt,yC,yC,qak]
  cases ps[i]? <;> rfl
 rw[e]at hc;refine Yi (Zh hc rfl) ?_;show(if (ps.mapIdx λj x=>D.tup [nD x,nD (0+j)]).length<=xg then (Wg [] _).map D.dk else none)=_;rw[if_pos (by rw[qbj,Yd];omega),Zmf ps 0 [] nd λ_ _=>rfl];rfl
def Zoq {ps:List Nat}{x:Nat}(h:x∈ps):VD (.dk (WU 0 ps)) (nD x)=some (nD (Xv ps x)):=by
 show(ZY (WU 0 ps) (zb (x:Int))).bind vD=_;rw[Zg0 0 h,qak];rfl
def ZiY {d:D}(h:Zs d=true)(hd:Yl d<=60):Xj d d=some (.bl false):=by
 unfold Xj Vf;rw[if_pos (by simp[h,hd]),Zdh d h];rfl
def UD (l:List Nat):List Nat:=(qk (l.length+1)).filter λh=>!decide (h∈l)
def ZiZ (l:List Nat):UD l≠[]:=λh=>by
 have:=V9 (a:=qk (l.length+1)) (b:=l) zM λx hx=>by
  by_cases m:x∈l
  ·exact m
  ·have:x∈UD l:=qA.mpr ⟨hx,by simpa using m⟩
   rw[h]at this;simp at this
 rw[qG]at this;omega
def XS (l:List Nat):Nat:=(UD l).headD 0
def Bz (l:List Nat):XS l∉l/\∀x<XS l,x∈l:=by
 have hne:=ZiZ l
 cases e:UD l with
 | nil=>exact absurd e hne
 | cons m r=>
  have hm:XS l=m:=by unfold XS;rw[e];rfl
  have h1:m∈UD l:=by rw[e];simp
  have h2:=qA.mp h1;rw[hm];refine⟨by simpa using h2.2,λx hx=>?_⟩;by_cases mx:x∈l
  ·exact mx
  ·have hr:=qB.mp h2.1
   have h3:x∈UD l:=qA.mpr ⟨qB.mpr (by omega),by simpa using mx⟩;have h4:(UD l).Pairwise (· < ·):=(range_rise _).sublist zD;rw[e]at h3 h4;rcases qm.mp h3 with z | z
   ·omega
   ·have:=(yj.mp h4).1 x z
    omega
def Zmg {l:List Nat}{m:Nat}(h1:m∉l)(h2:∀x<m,x∈l):m=XS l:=by
 obtain⟨g1,g2⟩:=Bz l;rcases qai m (XS l)with h | h | h
 ·exact absurd (g2 m h) h1
 ·exact h
 ·exact absurd (h2 _ h) g1
def Ze1 {l l':List Nat}(h:∀x,x∈l↔x∈l'):XS l=XS l':=by
 obtain⟨g1,g2⟩:=Bz l;exact Zmg (λz=>g1 ((h _).mpr z)) λx hx=>(h x).mp (g2 x hx)
def Zps (l:List Nat):XS l<=l.length:=by
 have h:=V9 (a:=qk (XS l)) (b:=l) zM λx hx=>(Bz l).2 x (qB.mp hx);rw[qG]at h;exact h
def Zkj {n:Int}{r:List Int}(h:∀a∈r,n<=a):Wk n r=n:=(Zgq (by simp) λa ha=>by
 rcases qm.mp ha with rfl | ha
 ·exact qcx _
 ·exact h a ha).symm
def Zmh {l:List Nat}(hr:l.Pairwise (· < ·))(hn:l≠[]):ZlE [.lst (l.map nD)]=some (nD (l.headD 0)):=by
 cases l with
 | nil=>exact absurd rfl hn
 | cons m r=>
  have e:ZG ((m::r).map nD)=some ((m:Int)::r.map λ(i:Nat)=>(i:Int)):=ZaF (m::r);show(match ZG ((m::r).map nD)with | some (n::r)=>some (D.int (Wk n r)) | _=>none)=_;rw[e];show some (D.int (Wk (m:Int) (r.map λ(i:Nat)=>(i:Int))))=_;rw[Zkj λa ha=>?_]
  ·rfl
  ·obtain⟨x,hx,rfl⟩:=qu.mp ha
   have:=(yj.mp hr).1 x hx;omega
def ZnF (l:List D):Yw [.lst l]=some (nD l.length):=rfl
def ZaG (o:Nat)(l:List Nat):Wa (nD o) (.lst (l.map nD))=some (.bl (!decide (o∈l))):=by
 have h:=Zl9 o l;unfold YI at h;unfold Wa
 cases e:UG (nD o) (.lst (l.map nD))with
 | none=>rw[e]at h;cases h
 | some b=>
  rw[e]at h;have h:=zo h;have h:=D.bl.inj h;subst h;rfl
def Zeq (l:List Nat)(hl:l.length<=1000)(s:Pn):Jj [.lst (l.map nD)] s=some (nD (XS l),s):=by
 have hc:=YU (src:=[none,some 0]) (fi:=Z8 (Ze Y5 (ZE Yw (Zc (Za 0) Zd)) (dC (.int 1)))) (τ:=Zw 0) (ft:=asB (Ze Wa (Za 0) (Za 1))) (fe:=Za 0) (ρ:=[some (.lst (l.map nD))]) (s:=s) (ds:=Yb 0 (l.length+1)) (λd=>[some d,some (.lst (l.map nD))]) (λd=>!decide (Yo d∈l)) (λd=>d)
  (XG (n:=l.length+1) (Zu (d:=nD l.length) (e:=.int 1) (Yi (Zh rfl rfl) (by rw[ZnF,qd])) rfl rfl) (by omega)) (by rw[Xm,Yd];omega) (λd hd=>by
  obtain⟨i,hi,rfl⟩:=V7 hd;exact⟨rfl,Yc (Zu (d:=nD i) (e:=.lst (l.map nD)) rfl rfl (ZaG i l)),λ_=>rfl⟩)
 rw[Zaz (l.length+1) λh=>!decide (h∈l)]at hc;refine YS rfl (Ye (YO (Yi (Zh hc rfl) ?_)));exact Zmh (l:=UD l) ((range_rise _).sublist zD) (ZiZ l)
def hr (jK:Qa):List Nat->Nat->Nat
 | [],_=>0
 | p::qs,x=>if x=p then XS ((qs.filter λo=>tied jK p o).map (hr jK qs))else hr jK qs x
def Y2 (qs:List Nat)(f:Nat->Nat):List (Zt×V):=qs.map λ(q:Nat)=>(zb (q:Int),V.int (f q))
def ZcZ {f:Nat->Nat}{x:Nat}:∀qs:List Nat,ZY (Y2 qs f) (zb (x:Int))=if x∈qs then some (.int (f x))else none
 | []=>rfl
 | q::qs=>by
  by_cases e:q=x
  ·subst e
   show ZY ((zb (q:Int),V.int (f q))::Y2 qs f) _=_;rw[X5 rfl];simp
  ·have hn:¬((zb (q:Int):Zt)=zb (x:Int)):=λz=>by
    have:=qaP z;omega
   show ZY ((zb (q:Int),V.int (f q))::Y2 qs f) _=_;rw[X6 hn,ZcZ qs];have:x≠q:=λz=>e z.symm;simp[this]
def Zkk {f g:Nat->Nat}{qs:List Nat}(h:∀q∈qs,f q=g q):Y2 qs f=Y2 qs g:=zt λq hq=>by rw[h q hq]
def Zpt (qs:List Nat)(f:Nat->Nat)(x:Nat):YI (nD x) (.dk (Y2 qs f))=some (.bl (decide (x∈qs))):=by
 show((some (zb (x:Int):Zt)).map λk=>(ZY (Y2 qs f) k).isSome).map D.bl=_;simp only[zS];rw[ZcZ];by_cases h:x∈qs <;> simp[h]
def Zmi {qs:List Nat}{f:Nat->Nat}{x:Nat}(h:x∈qs):VD (.dk (Y2 qs f)) (nD x)=some (nD (f x)):=by
 show(ZY (Y2 qs f) (zb (x:Int))).bind vD=_;rw[ZcZ,if_pos h];rfl
def ZnG {qs:List Nat}{f:Nat->Nat}{p h:Nat}(hp:p∉qs):Z9 (Y2 qs f) (zb (p:Int)) (.int (h:Int))=Y2 (qs ++ [p]) λx=>if x=p then h else f x:=by
 rw[Zc9 _ (by rw[ZcZ,if_neg hp])];have e:Y2 qs (λx=>if x=p then h else f x)=Y2 qs f:=Zkk λq hq=>if_neg λ(z:q=p)=>hp (z▸hq);show Y2 qs f++_=(qs ++ [p]).map _;rw[zK,<-e];show _++_=Y2 qs _ ++ [(zb (p:Int),V.int ((if p=p then h else f p:Nat):Int))];rw[if_pos rfl]
def Zcp {ps:List Nat}{k p:Nat}(h:ps[k]?=some p):ps.take (k+1)=ps.take k ++ [p]:=by
 obtain⟨hl,e⟩:=qM.mp h;rw[yZ hl,e]
def Zia {ps:List Nat}{k p:Nat}(nd:ps.Nodup)(h:ps[k]?=some p):p∉ps.take k:=λm=>by
 have h2:(ps.take (k+1)).Nodup:=nd.sublist (qaJ _ _);rw[Zcp h]at h2;have:=(qbw.mp h2).2.2 p m p (by simp);exact this rfl
def ZnH {i:Nat}{fx fv:Zb->M D}{ρ:Zb}{s:Pn}{x v:D}{kvs:List (Zt×V)}{key:Zt}{w:V}(h1:fv ρ s=some (v,s))(h2:fx ρ s=some (x,s))(h3:(ρ[i]?).bind id=some (.dk kvs))(h4:XJ x=some key)(h5:X3 v=some w)(hl:kvs.length<xg) :
  JS i fx fv ρ s=some (.nx (ρ.set i (some (.dk (Z9 kvs key w)))),s):=by
 unfold JS Zq;rw[h1];simp only;rw[h2];simp only;rw[h3];simp only;rw[h4,h5];simp only;rw[if_pos hl];rfl
def ZnI (jK:Qa){ps:List Nat}{k p:Nat}(h:ps[k]?=some p):hr jK (ps.take (k+1)).reverse=λx=>if x=p then XS (((ps.take k).filter λo=>tied jK p o).map (hr jK (ps.take k).reverse))else hr jK (ps.take k).reverse x:=by
 rw[Zcp h,List.reverse_append];funext x;show(if x=p then XS (((ps.take k).reverse.filter λo=>tied jK p o).map (hr jK (ps.take k).reverse))else _)=_;by_cases e:x=p
 ·rw[if_pos e,if_pos e]
  refine Ze1 λy=>?_;simp only[qu,qA,yJ]
 ·rw[if_neg e,if_neg e];rfl
def Wt (n:Nat)(jK:Qa)(ps:List Nat):List Nat:=(qk n).map (hr jK ps.reverse)
def ZdS {n:Nat}{xs:List Int}(h:xs.Perm (WO n)):∃ps:List Nat,xs=YJ ps/\ps.Perm (qk n):=by
 refine⟨xs.map qbV,?_,?_⟩
 ·unfold YJ
  rw[qE];have:∀x∈xs,((λ(x:Nat)=>(x:Int))∘qbV) x=x:=λx hx=>by
   obtain⟨a,_,rfl⟩:=qu.mp (h.mem_iff.mp hx);rfl
  rw[zt this];exact(qbE xs).symm
 ·have:=h.map qbV
  unfold WO at this;rw[qE]at this;have e:(qk n).map (qbV∘λ(i:Nat)=>(i:Int))=qk n:=qbE _;rw[e]at this;exact this
section
variable (ap:Nat->Nat->Bool)
def Xu (ps:List Nat)(p:Nat):Nat:=(ps.filter λo=>ap p o).length
def Xb (ps:List Nat)(p:Nat):List Nat:=ps.filter λo=>!decide (o=p) && !ap p o
def Yu (ps:List Nat):Nat:=ps.getD ((ps.map (Xu ap ps)).idxOf (Wz (ps.map (Xu ap ps)))) 0
structure KnA (ps K:List Nat):Prop where
 nd:K.Nodup
 sub:∀x∈K,x∈ps
 two:∀x∈K,∀y∈K,x≠y->ap x y=false
end
section
variable {ap:Nat->Nat->Bool}
def Zib {l:List Nat}(h:l≠[]):Wz l∈l:=by
 have:=ZnE (l:=0::l) ⟨l,rfl⟩;have e:Wz (0::l)=Wz l:=rfl;rw[e]at this;rcases qm.mp this with z | z
 ·cases l with
  | nil=>exact absurd rfl h
  | cons a r=>
   have h1:=Zmb (l:=a::r) (x:=a) (by simp);have h2:a=0:=by omega
   rw[z,h2];simp
 ·exact z
def ZnJ {ps:List Nat}(f:Nat->Nat){v:Nat}(h:v∈ps.map f):ps.getD ((ps.map f).idxOf v) 0∈ps/\f (ps.getD ((ps.map f).idxOf v) 0)=v:=by
 have hl:=qaA.mpr h;have e:=qbk hl;rw[List.getElem_map]at e;have hl':(ps.map f).idxOf v<ps.length:=by simpa using hl
 rw[qf,qj hl'];exact⟨zE hl',e⟩
def Zau {ps:List Nat}(h:ps≠[]):Yu ap ps∈ps:=(ZnJ (Xu ap ps) (Zib (by simpa using h))).1
def UR {ps:List Nat}{p:Nat}:∀x∈Xb ap ps p,x∈ps/\x≠p/\ap p x=false:=λx hx=>by
 obtain⟨h1,h2⟩:=qA.mp hx;simp only[qV,qby,decide_eq_false_iff_not]at h2;exact⟨h1,h2.1,h2.2⟩
def Ze2 {ps:List Nat}{p:Nat}(h:p∈ps)(f:Nat->Bool)(hf:f p=false):(ps.filter f).length<ps.length:=by
 induction ps with
 | nil=>simp at h
 | cons a r ih=>
  have hr:=qZ f r;rcases qm.mp h with e | h
  ·subst e
   rw[yF (by simpa using hf)];simp only[qN];omega
  ·have:=ih h
   by_cases fa:f a=true
   ·rw[qab fa];simp only[qN];omega
   ·rw[yF fa];simp only[qN];omega
def Zg1 {ps:List Nat}{p:Nat}(h:p∈ps):(Xb ap ps p).length<ps.length:=Ze2 h _ (by simp)
def ZdT {ps:List Nat}{p:Nat}(h:p∈ps):(ps.filter λo=>!decide (o=p)).length<ps.length:=Ze2 h _ (by simp)
def jF {ps K:List Nat}{p:Nat}(sy:∀a b,ap a b=ap b a)(hp:p∈ps)(h:KnA ap (Xb ap ps p) K):KnA ap ps (p::K) where
 nd:=zC.mpr ⟨λz=>(UR p (h.sub p z)).2.1 rfl,h.nd⟩
 sub:=λx hx=>by
  rcases qm.mp hx with e | hx
  ·rw[e];exact hp
  ·exact(UR x (h.sub x hx)).1
 two:=λx hx y hy ne=>by
  rcases qm.mp hx with e | hx
  ·rcases qm.mp hy with e' | hy
   ·exact absurd (e.trans e'.symm) ne
   ·rw[e];exact(UR y (h.sub y hy)).2.2
  ·rcases qm.mp hy with e' | hy
   ·rw[e',sy];exact(UR x (h.sub x hx)).2.2
   ·exact h.two x hx y hy ne
def KnA.mono {ps qs K:List Nat}(h:KnA ap ps K)(s:∀x∈ps,x∈qs):KnA ap qs K:=⟨h.nd,λx hx=>s x (h.sub x hx),h.two⟩
def KnA.rest {ps K:List Nat}{p:Nat}(h:KnA ap ps K):KnA ap (Xb ap ps p) (K.filter λo=>!decide (o=p) && !ap p o) where
 nd:=h.nd.sublist zD
 sub:=λx hx=>by
  obtain⟨h1,h2⟩:=qA.mp hx;exact qA.mpr ⟨h.sub x h1,h2⟩
 two:=λx hx y hy=>h.two x (qA.mp hx).1 y (qA.mp hy).1
def Zkl (ir:∀a,ap a a=false){K:List Nat}{p:Nat}{ps:List Nat}(h:KnA ap ps K)(hm:p∈K∨Xu ap ps p<=1):K.length<=(K.filter λo=>!decide (o=p) && !ap p o).length+1:=by
 have e:=Ze0 (λo=>!decide (o=p) && !ap p o) K;have hd:(K.filter λo=>!(!decide (o=p) && !ap p o)).length<=1:=by
  have nd:(K.filter λo=>!(!decide (o=p) && !ap p o)).Nodup:=h.nd.sublist zD;by_cases hp:p∈K
  ·have:=V9 (b:=[p]) nd λx hx=>by
    obtain⟨h1,h2⟩:=qA.mp hx;by_cases z:x=p
    ·simp[z]
    ·have:=h.two p hp x h1 (zg z)
     simp[z,this]at h2
   simpa using this
  ·have hc:=hm.resolve_left hp
   have:=V9 (b:=ps.filter λo=>ap p o) nd λx hx=>by
    obtain⟨h1,h2⟩:=qA.mp hx;have z:x≠p:=λz=>hp (z▸h1);simp[z]at h2;exact qA.mpr ⟨h.sub x h1,h2⟩
   unfold Xu at hc;omega
 omega
end
def XF (l:List Nat):List (Zt×V):=l.map λ(o:Nat)=>(zb (o:Int),V.bl true)
def ZfM {x:Nat}:∀l:List Nat,ZY (XF l) (zb (x:Int))=if x∈l then some (.bl true)else none
 | []=>rfl
 | q::qs=>by
  by_cases e:q=x
  ·subst e
   show ZY ((zb (q:Int),V.bl true)::XF qs) _=_;rw[X5 rfl];simp
  ·have hn:¬((zb (q:Int):Zt)=zb (x:Int)):=λz=>by
    have:=qaP z;omega
   show ZY ((zb (q:Int),V.bl true)::XF qs) _=_;rw[X6 hn,ZfM qs];have:x≠q:=λz=>e z.symm;simp[this]
def Zmj:∀(l:List Nat) (jP:List (Zt×V)),l.Nodup->(∀x∈l,ZY jP (zb (x:Int))=none)->Wg jP (l.map λo=>D.tup [nD o,.bl true])=some (jP++XF l)
 | [],jP,_,_=>by simp[Wg,XF]
 | p::ps,jP,nd,h=>by
  have nd':=zC.mp nd;show Wg (Z9 jP (zb (p:Int)) (.bl true)) (ps.map λo=>D.tup [nD o,.bl true])=_;rw[Zmj ps _ nd'.2 λx hx=>?_,Zc9 _ (h p (by simp))]
  ·show some ((jP ++ [_])++XF ps)=some (jP++(_::XF ps))
   simp
  ·rw[Zc8,if_neg (λz=>nd'.1 (by
    have:=qaP z;have:x=p:=by omega
    exact this▸hx))]
   exact h x (by simp[hx])
def Zpu (l:List Nat)(x:Nat):YI (nD x) (.dk (XF l))=some (.bl (decide (x∈l))):=by
 show((some (zb (x:Int):Zt)).map λk=>(ZY (XF l) k).isSome).map D.bl=_;simp only[zS];rw[ZfM];by_cases h:x∈l <;> simp[h]
def Zkm (l:List Nat)(x:Nat):Wa (nD x) (.dk (XF l))=some (.bl (!decide (x∈l))):=by
 show((some (zb (x:Int):Zt)).map λk=>(ZY (XF l) k).isSome).map (λb=>D.bl (!b))=_;simp only[zS];rw[ZfM];by_cases h:x∈l <;> simp[h]
def Xr (n:Nat)(A:Nat->List Nat):D:=.lst ((qk n).map λp=>.dk (XF (A p)))
def Zmk {n p:Nat}{A:Nat->List Nat}(h:p<n):Zl (Xr n A) (nD p)=some (.dk (XF (A p))):=by
 show XY _ (p:Int)=_;refine X8 ?_;rw[qt,zT h];rfl
section
variable {n:Nat}{A:Nat->List Nat}{ap:Nat->Nat->Bool}
def JK (a b:Nat):Xj (nD a) (nD b)=some (.bl (!decide (a=b))):=by
 rw[nei];congr 3;rw[zq,beq_iff_eq,decide_eq_true_eq];constructor <;> intro h <;> omega
def ZnK {ds es:List D}(h:ds.length+es.length<=100000):Y5 (.lst ds) (.lst es)=some (.lst (ds++es)):=by
 show(if ds.length+es.length<=xg then some (D.lst (ds++es))else none)=_;rw[if_pos (by rw[Yd];omega)]
def Zpv (ds:List D)(hp:YG ds=true)(hd:Xx ds<=10):Xc (.lst ds) (.lst [])=some (.bl (decide (ds=[]))):=by
 have hok:Vf (.lst ds) (.lst [])=true:=by
  unfold Vf;simp[Zs,Yl,YG,Xx,hp];omega
 unfold Xc;rw[if_pos hok]
 cases ds with
 | nil=>rfl
 | cons a r=>rfl
def Zml {l:List Nat}(h:l≠[]):ZiL [.lst (l.map nD)]=some (nD (Wz l)):=by
 cases l with
 | nil=>exact absurd rfl h
 | cons m r=>
  have e:ZG ((m::r).map nD)=some ((m:Int)::r.map λ(i:Nat)=>(i:Int)):=ZaF (m::r);show(match ZG ((m::r).map nD)with | some (n::r)=>some (D.int (maxI n r)) | _=>none)=_;rw[e];show some (D.int (maxI (m:Int) (r.map λ(i:Nat)=>(i:Int))))=_;rw[ZgX r m];have e2:Wz (m::r)=r.foldl max m:=by
   show r.foldl max (max 0 m)=_;rw[qa0 (zl m)]
  rw[e2]
def Zic {l:List Nat}{v:Nat}(h:v∈l):Zfv (.lst (l.map nD)) (nD v)=some (nD (l.idxOf v)):=by
 show((ZG (l.map nD)).bind λns=>if (v:Int)∈ns then some (D.int (ns.idxOf (v:Int):Nat))else none)=_;rw[ZaF];show(if (v:Int)∈l.map (λ(i:Nat)=>(i:Int))then some (D.int ((l.map λ(i:Nat)=>(i:Int)).idxOf (v:Int):Nat))else none)=_;rw[if_pos (qu.mpr ⟨v,h,rfl⟩)];have:(l.map λ(i:Nat)=>(i:Int)).idxOf (v:Int)=l.idxOf v:=by
  clear h
  induction l with
  | nil=>rfl
  | cons a r ih=>
   rw[zh,qbU,qbU,ih];have:((a:Int)==(v:Int))=(a==v):=by
    rw[zq,beq_iff_eq,beq_iff_eq];constructor <;> intro h <;> omega
   rw[this]
 rw[this]
end
def Yn (n:Nat)(jK:Qa):Qa:=(Xk n).filter λp=>!decide (p∈jK)
def Ze3 (n:Nat)(jK:Qa):IsWeb n (Yn n jK):=IsWeb.filter _
def Zg2 {jK:Qa}{a b:Nat}:tied jK a b=true↔(min a b,max a b)∈jK:=by unfold tied;exact decide_eq_true_iff
def Bs {n:Nat}{jK:Qa}{a b:Nat}:tied (Yn n jK) a b=true↔a<n/\b<n/\a≠b/\tied jK a b=false:=by
 rw[Zg2];unfold Yn;rw[qA,WX];have e:tied jK a b=decide ((min a b,max a b)∈jK):=rfl;rw[e];simp only[qby,decide_eq_false_iff_not];constructor
 ·rintro⟨⟨h1,h2⟩,h3⟩
  exact⟨by omega,by omega,by omega,h3⟩
 ·rintro⟨h1,h2,h3,h4⟩
  exact⟨⟨by omega,by omega⟩,h4⟩
def Zer {n:Nat}{jK:Qa}(p o:Nat):tied (Yn n jK) p o=decide (o∈Yk n (Yn n jK) p):=by
 unfold Yk;rw[zq,decide_eq_true_iff,qA,qB];exact⟨λh=>⟨(Bs.mp h).2.1,h⟩,λh=>h.2⟩
def Zmm {n:Nat}{jK:Qa}(a:Nat):tied (Yn n jK) a a=false:=by
 cases h:tied (Yn n jK) a a with
 | false=>rfl
 | true=>exact absurd rfl (Bs.mp h).2.2.1
def JL (n:Nat)(b:List Nat):List Nat:=(qk n).filter λx=>decide (x∈b)
def Zbi {n:Nat}{b:List Nat}(nd:b.Nodup)(h:∀x∈b,x<n):(JL n b).Perm b:=by
 refine(List.perm_ext_iff_of_nodup (zM.sublist zD) nd).mpr λa=>?_;rw[qA,qB,decide_eq_true_iff];exact⟨λz=>z.2,λz=>⟨h a z,z⟩⟩
def ZcE (n:Nat)(b:List Nat):(JL n b).Pairwise (· < ·):=(range_rise n).sublist zD
def Vd (a k:List Nat):List Nat:=if a.length<k.length then k else a
def BW (n:Nat)(jK:Qa):List Nat:=(kn jK n).foldl Vd []
def ZcF:∀(l:List (List Nat)) (a:List Nat),(l.foldl Vd a=a∨l.foldl Vd a∈l)/\a.length<=(l.foldl Vd a).length/\∀k∈l,k.length<=(l.foldl Vd a).length
 | [],a=>⟨.inl rfl,qq _,λk h=>by cases h⟩
 | x::r,a=>by
  obtain⟨h1,h2,h3⟩:=ZcF r (Vd a x);have h4:a.length<=(Vd a x).length/\x.length<=(Vd a x).length/\(Vd a x=a∨Vd a x=x):=by
   unfold Vd;split
   ·exact⟨by omega,qq _,.inr rfl⟩
   ·exact⟨qq _,by omega,.inl rfl⟩
  rw[List.foldl_cons];refine⟨?_,by omega,λk hk=>?_⟩
  ·rcases h1 with h | h
   ·rcases h4.2.2 with z | z
    ·exact .inl (h.trans z)
    ·exact .inr (by rw[h,z];simp)
   ·exact .inr (by simp[h])
  ·rcases qm.mp hk with rfl | hk
   ·omega
   ·exact h3 k hk
def Zkn {n:Nat}{b:List Nat}(nd:b.Nodup)(h:∀x∈b,x<n)(hl:b.length<64):Jy [.lst (b.map nD)]=some (.lst ((JL n b).map nD)):=by
 have e:ZG (b.map nD)=some (YJ b):=by
  have:b.map nD=(YJ b).map D.int:=by unfold YJ;rw[qE];rfl
  rw[this,ZaR]
 show(match ZG (b.map nD)with | some ns=>if ns.length<64 then some (D.lst ((YX ns).map .int))else none | none=>none)=_;rw[e];show(if (YJ b).length<64 then some (D.lst ((YX (YJ b)).map .int))else none)=_;rw[if_pos (by unfold YJ;simp;omega)];have q:YJ (JL n b)=YX (YJ b):=ZaU ((Zbi nd h).map _) (qaj.mpr ((ZcE n b).imp λh=>by omega));rw[<-q];unfold YJ;rw[qE];rfl
def ZbM {n:Nat}{jK:Qa}(hw:IsWeb n jK)(hn:n<=24):BW n jK∈kn jK n/\∀K∈kn jK n,K.length<=(BW n jK).length:=by
 obtain⟨h1,_,h3⟩:=ZcF (kn jK n) [];refine⟨?_,h3⟩;rcases h1 with h | h
 ·show(kn jK n).foldl Vd []∈_
  rw[h];exact Uw.mpr ⟨qaL,(λo h=>by cases h),λa h=>by cases h⟩
 ·exact h
def Zpw {l:List Nat}{b:Nat}(h:∀x∈l,x<=b):Wz l<=b:=ZfL l b h 0 (zl _)
def Zpx (p:Nat×Nat)(jK:Qa):YI (Zp p) (.du (ZZ [] jK))=some (.bl (decide (p∈jK))):=Zh8 p jK
def ZnL (jK:Qa):∀jP:List (List Zt×V),(ZZ jP jK).length<=jP.length+jK.length:=by
 induction jK with
 | nil=>intro jP;exact qq _
 | cons t r ih=>
  intro jP;have h:=ih (Z9 jP (Wi t) (.bl true));have h2:=Up jP (Wi t) (.bl true);show(ZZ (Z9 jP (Wi t) (.bl true)) r).length<=_;simp only[qN];omega
def Zmn (jK:Qa)(t:Nat×Nat):ZZ [] (jK ++ [t])=Z9 (ZZ [] jK) (Wi t) (.bl true):=by
 unfold ZZ;rw[List.foldl_append];rfl
def Zcq (k:List Nat):ZG (k.map nD)=some (YJ k):=by
 have:k.map nD=(YJ k).map D.int:=by unfold YJ;rw[qE];rfl
 rw[this,ZaR]
section
variable (jK:Qa)
def uq (w:List Nat):Nat:=Wz (w.map (· + 1))
def Wd (w:List Nat):List Nat:=((qk w.length).filter λo=>tied jK w.length o).map λo=>w.getD o 0
def VX (many:Nat)(w:List Nat):List Nat:=(qk (min many (uq w+1))).filter λh=>!decide (h∈Wd jK w)
def YR (many:Nat):Nat->List Nat->Option (List Nat)
 | 0,w=>some w
 | r+1,w=>(VX jK many w).findSome? λh=>YR many r (w ++ [h])
def YD (many:Nat)(w:List Nat):Prop:=∀i<w.length,w.getD i 0∈VX jK many (w.take i)
end
section
variable {jK:Qa}{many:Nat}
def Zko {w:List Nat}{i j:Nat}(h:j<i):(w.take i).getD j 0=w.getD j 0:=by
 rw[qf,qf,yU h]
def Zav {w:List Nat}{h j:Nat}(hj:j<w.length):(w ++ [h]).getD j 0=w.getD j 0:=by
 rw[qf,qf,zH hj]
def Zbr {w:List Nat}{h:Nat}:(w ++ [h]).getD w.length 0=h:=by
 rw[qf,yb (qq _),qcu];rfl
def Bg {w:List Nat}{h i:Nat}(hi:i<=w.length):(w ++ [h]).take i=w.take i:=List.take_append_of_le_length hi
def YD.snoc {w:List Nat}{h:Nat}:YD jK many (w ++ [h])↔YD jK many w/\h∈VX jK many w:=by
 constructor
 ·intro R
  refine⟨λi hi=>?_,?_⟩
  ·have:=R i (by simp;omega)
   rw[Zav hi,Bg (by omega)]at this;exact this
  ·have:=R w.length (by simp)
   rw[Zbr,Bg (qq _),yw]at this;exact this
 ·rintro⟨R,hh⟩ i hi
  by_cases e:i<w.length
  ·rw[Zav e,Bg (by omega)];exact R i e
  ·have:i=w.length:=by simp at hi;omega
   subst this;rw[Zbr,Bg (qq _),yw];exact hh
def YD.nil:YD jK many []:=λi hi=>by simp at hi
def ZnM {w:List Nat}{i:Nat}(h:w.length=i+1):∃v x,w=v ++ [x]/\v.length=i:=by
 refine⟨w.take i,w.getD i 0,?_,by rw[z0];omega⟩;have hi:i<w.length:=by omega
 have e:=yZ hi;rw[<-h,yw]at e;rw[qf,qj hi];exact e
def Zg3:∀{r:Nat} {w f:List Nat},YD jK many w->YR jK many r w=some f->YD jK many f/\f.length=w.length+r/\f.take w.length=w
 | 0,w,f,R,h=>by
  unfold YR at h
  cases h
  exact⟨R,rfl,yw⟩
 | r+1,w,f,R,h=>by
  unfold YR at h;obtain⟨x,hx,he⟩:=List.exists_of_findSome?_eq_some h;obtain⟨h1,h2,h3⟩:=Zg3 (YD.snoc.mpr ⟨R,hx⟩) he;refine⟨h1,by simp at h2;omega,?_⟩;have:=congrArg (List.take w.length) h3;rw[List.take_take,Bg (qq _),yw]at this;have e:min w.length (w ++ [x]).length=w.length:=by simp
  rw[e]at this;exact this
def Zg4:∀{r:Nat} {w f:List Nat},YR jK many r w=none->f.length=w.length+r->f.take w.length=w->¬YD jK many f
 | 0,w,f,h,_,_=>by unfold YR at h;cases h
 | r+1,w,f,h,hl,ht=>by
  intro R;unfold YR at h;rw[List.findSome?_eq_none_iff]at h;have hx:=R w.length (by omega);rw[ht]at hx;have e:f.take (w ++ [f.getD w.length 0]).length=w ++ [f.getD w.length 0]:=by
   have hlt:w.length<f.length:=by omega
   rw[qJ,zW,yZ hlt,ht,qf,qj hlt];rfl
  exact Zg4 (h _ hx) (by simp;omega) e R
def Zi0 {w:List Nat}{x:Nat}(h:x∈w):x<uq w:=by
 have:=Zmb (l:=w.map (· + 1)) (x:=x+1) (qu.mpr ⟨x,h,rfl⟩);unfold uq;omega
def Zor {w:List Nat}{b:Nat}(h:∀x∈w,x<b):uq w<=b:=Zpw λx hx=>by
 obtain⟨y,hy,rfl⟩:=qu.mp hx;have:=h y hy;omega
def ZfN (w:List Nat)(h:Nat):uq (w ++ [h])=max (uq w) (h+1):=by
 unfold uq Wz;rw[zK,List.foldl_append];rfl
def Uu {w:List Nat}{h:Nat}:h∈VX jK many w↔h<many/\h<=uq w/\h∉Wd jK w:=by
 unfold VX;rw[qA,qB];simp only[qby,decide_eq_false_iff_not];constructor
 ·rintro⟨h1,h2⟩;exact⟨by omega,by omega,h2⟩
 ·rintro⟨h1,h2,h3⟩;exact⟨by omega,h3⟩
def YD.all:∀{n:Nat} {w:List Nat},w.length=n->YD jK many w->∀x,x∈w↔x<uq w
 | 0,w,h,_,x=>by
  have:=zB.mp h;subst this;simp[uq,Wz]
 | n+1,w,h,R,x=>by
  obtain⟨v,y,rfl,hv⟩:=ZnM h;obtain⟨h1,h2⟩:=YD.snoc.mp R;have ih:=YD.all hv h1 x;obtain⟨g1,g2,g3⟩:=Uu.mp h2;rw[ZfN,qP,ih,qK];omega
def YD.lt {w:List Nat}(R:YD jK many w):∀x∈w,x<many:=λx hx=>by
 obtain⟨i,hi,e⟩:=qar hx;have:=R i hi;rw[qf,qj hi]at this;have h2:w[i]∈VX jK many (w.take i):=this;rw[e]at h2;exact(Uu.mp h2).1
def YD.hues {m:Nat}{w:List Nat}(R:YD jK many w)(h:uq w<=m):YD jK m w:=λi hi=>by
 obtain⟨g1,g2,g3⟩:=Uu.mp (R i hi);refine Uu.mpr ⟨?_,g2,g3⟩;have hm:w.getD i 0∈w:=by rw[qf,qj hi];exact zE hi
 have:=Zi0 hm;omega
def YD.right {w:List Nat}(R:YD jK many w){a b:Nat}(hab:a<b)(hb:b<w.length)(ht:tied jK a b=true):w.getD a 0≠w.getD b 0:=λe=>by
 obtain⟨_,_,g3⟩:=Uu.mp (R b hb);refine g3 (qu.mpr ⟨a,qA.mpr ⟨qB.mpr (by rw[z0];omega),?_⟩,?_⟩)
 ·rw[z0,qbT (by omega),Us];exact ht
 ·rw[Zko hab];exact e
def YD.knot {n:Nat}{w K:List Nat}(R:YD jK many w)(hl:w.length=n)(hK:K∈kn jK n):K.length<=uq w:=by
 obtain⟨h1,h2,h3⟩:=Uw.mp hK;have nd:(K.map λp=>w.getD p 0).Nodup:=qaj.mpr (yY (λ{a b} ha hb hab=>R.right hab (by rw[hl];exact h2 b hb) (h3 a ha b hb (by omega))) h1);have:=V9 (b:=qk (uq w)) nd λx hx=>by
  obtain⟨p,hp,rfl⟩:=qu.mp hx;have hpl:p<w.length:=by rw[hl];exact h2 p hp
  refine qB.mpr (Zi0 ?_);rw[qf,qj hpl];exact zE hpl
 rw[qd,qG]at this;exact this
def Zmo (n:Nat):uq (qk n)=n:=by
 refine Nat.le_antisymm (Zor λx hx=>qB.mp hx) ?_
 cases n with
 | zero=>simp
 | succ n=>exact Zi0 (qB.mpr (yg n))
def YD.own (n:Nat):∀m≤n,YD jK n (qk m):=λm=>by
 induction m with
 | zero=>intro _;exact YD.nil
 | succ m ih=>
  intro h;rw[qa7];refine YD.snoc.mpr ⟨ih (by omega),Uu.mpr ⟨by omega,by rw[Zmo];omega,λz=>?_⟩⟩;obtain⟨o,ho,e⟩:=qu.mp z;have ho:=qB.mp (qA.mp ho).1;rw[qf,qj ho]at e;simp at e ho;omega
end
def XT (n:Nat)(jK:Qa):Nat:=((qk (n+1)).filter λm=>(YR jK m n []).isSome).headD 0
def UE (n:Nat)(jK:Qa):List Nat:=(YR jK (XT n jK) n []).getD []
def ZaY {n m:Nat}{jK:Qa}{f:List Nat}(hl:f.length=n)(R:YD jK m f):(YR jK m n []).isSome=true:=by
 cases e:YR jK m n []with
 | some _=>rfl
 | none=>exact absurd R (Zg4 e (by simpa using hl) rfl)
def ZdU (n:Nat)(jK:Qa):XT n jK<=n/\(YR jK (XT n jK) n []).isSome=true/\∀m<XT n jK,YR jK m n []=none:=by
 have hn:n∈(qk (n+1)).filter λm=>(YR jK m n []).isSome:=qA.mpr ⟨qB.mpr (by omega),ZaY (qG) (YD.own n n (qq n))⟩;have hr:((qk (n+1)).filter λm=>(YR jK m n []).isSome).Pairwise (· < ·):=(range_rise _).sublist zD
 cases e:(qk (n+1)).filter λm=>(YR jK m n []).isSome with
 | nil=>rw[e]at hn;simp at hn
 | cons c r=>
  have hc:XT n jK=c:=by unfold XT;rw[e];rfl
  have h1:c∈(qk (n+1)).filter λm=>(YR jK m n []).isSome:=by rw[e];simp
  obtain⟨g1,g2⟩:=qA.mp h1;have g1:=qB.mp g1;rw[hc];refine⟨by omega,g2,λm hm=>?_⟩
  cases em:YR jK m n []with
  | none=>rfl
  | some f=>
   have:m∈(qk (n+1)).filter λm=>(YR jK m n []).isSome:=qA.mpr ⟨qB.mpr (by omega),by rw[em];rfl⟩;rw[e]at this hr;rcases qm.mp this with z | z
   ·omega
   ·have:=(yj.mp hr).1 m z;omega
def ZdV (n:Nat)(jK:Qa):YR jK (XT n jK) n []=some (UE n jK)/\YD jK (XT n jK) (UE n jK)/\(UE n jK).length=n/\uq (UE n jK)=XT n jK:=by
 obtain⟨h1,h2,h3⟩:=ZdU n jK;obtain⟨f,hf⟩:=zL.mp h2;have e:UE n jK=f:=by unfold UE;rw[hf];rfl
 obtain⟨g1,g2,_⟩:=Zg3 YD.nil hf;rw[e];simp at g2;refine⟨hf,g1,g2,?_⟩;have hle:=Zor g1.lt;rcases Nat.lt_or_ge (uq f) (XT n jK)with z | z
 ·have:=h3 _ z
  have h4:=ZaY g2 (g1.hues (qq _));rw[this]at h4;cases h4
 ·omega
def Zpy {n m:Nat}{jK:Qa}{f:List Nat}(hl:f.length=n)(R:YD jK m f):XT n jK<=m:=by
 rcases Nat.lt_or_ge m (XT n jK)with z | z
 ·have h4:=ZaY hl R
  rw[(ZdU n jK).2.2 m z]at h4;cases h4
 ·exact z
def ZcG {n:Nat}{jK:Qa}(hw:IsWeb n jK)(hn:n<=24):(BW n jK).length<=XT n jK:=by
 obtain⟨h1,h2,h3,h4⟩:=ZdV n jK;have:=h2.knot h3 (ZbM hw hn).1;omega
def Zi1 {n p:Nat}{jK:Qa}(h:p<n):Zl (Xo n jK) (nD p)=some (.lst ((Yk n jK p).map nD)):=by
 show XY _ (p:Int)=_;refine X8 ?_;rw[qt,zT h];rfl
def Zid {n:Nat}{jK:Qa}{w:List Nat}(hw:w.length<n):((Yk n jK w.length).filter λo=>decide (o<w.length)).map (λo=>w.getD o 0)=Wd jK w:=by
 unfold Wd Yk;congr 1;rw[List.filter_filter];have e:qk n=qk w.length++(qk (n-w.length)).map (w.length + ·):=by
  rw[<-List.range_add];congr 1;omega
 rw[e,List.filter_append];have h2:((qk (n-w.length)).map (w.length + ·)).filter (λo=>decide (o<w.length)&&tied jK w.length o)=[]:=List.filter_eq_nil_iff.mpr λx hx=>by
  obtain⟨a,_,rfl⟩:=qu.mp hx;simp only[qV,decide_eq_true_eq,not_and];intro z;omega
 rw[h2,zp];refine yP λx hx=>?_;have:=qB.mp hx;simp[this]
def Zmp (a b:Nat):WT (nD a) (nD b)=some (.bl (decide (a<b))):=by
 show some (D.bl (decide ((a:Int)<(b:Int))))=_;congr 2;exact decide_eq_decide.mpr (by omega)
def Zmq {n:Nat}{jK:Qa}{w:List Nat}(hw:w.length<n)(hn:n<=24){ρ:Zb}{s:Pn}(h0:(ρ[0]?).bind id=some (Xo n jK))(h2:(ρ[2]?).bind id=some (ZP w))(h3:(ρ[3]?).bind id=some (nD w.length)) :
  ZR [none,some 2,some 3] (ZV (Ze Zl (Za 0) (Za 3))) (Zw 0) (asB (Ze WT (Za 0) (Za 2))) (Ze Zl (Za 1) (Za 0)) ρ s=some (.lst ((Wd jK w).map nD),s):=by
 have hc:=YU (src:=[none,some 2,some 3]) (fi:=ZV (Ze Zl (Za 0) (Za 3))) (τ:=Zw 0) (ft:=asB (Ze WT (Za 0) (Za 2))) (fe:=Ze Zl (Za 1) (Za 0)) (ρ:=ρ) (s:=s) (ds:=(Yk n jK w.length).map nD) (λd=>[some d,some (ZP w),some (nD w.length)]) (λd=>decide (Yo d<w.length)) (λd=>nD (w.getD (Yo d) 0))
  (XH (Zu (d:=Xo n jK) (e:=nD w.length) (by unfold Za YQ;rw[h0]) (by unfold Za YQ;rw[h3]) (Zi1 hw))) (by
   have:=qZ (λo=>tied jK w.length o) (qk n);rw[qG]at this;rw[qd,Yd];unfold Yk;omega) (λd hd=>by
  obtain⟨x,hx,rfl⟩:=qu.mp hd;refine⟨?_,Yc (Zu (d:=nD x) (e:=nD w.length) rfl rfl (Zmp _ _)),λhb=>Zu (d:=ZP w) (e:=nD x) rfl rfl (UU (of_decide_eq_true hb))⟩;show some ((X1 [none,some 2,some 3] ρ).set 0 _)=_;unfold X1;simp only[zh,qa4,qbB,h2,h3];rfl)
 rw[hc];congr 3;rw[yp,qE,<-Zid hw,qE];rfl
def Zmr {w:List Nat}{f:Zb->M D}{ρ:Zb}{s:Pn}(h:f ρ s=some (ZP w,s)):BO f (dC (.int (-1))) ρ s=some (.int ((uq w:Int)-1),s):=by
 unfold BO Zq;rw[h];show(match ZG (w.map nD)with | some (n::r)=>ZA (D.int (maxI n r)) | some []=>ZA (D.int (-1)) | none=>Zv) s=_
 cases w with
 | nil=>rfl
 | cons a r=>
  have e:ZG ((a::r).map nD)=some ((a:Int)::r.map λ(i:Nat)=>(i:Int)):=ZaF (a::r);rw[e];show some (D.int (maxI (a:Int) (r.map λ(i:Nat)=>(i:Int))),s)=_;rw[ZgX r a];congr 3;have hg:∀(r:List Nat) (a:Nat),(r.map (· + 1)).foldl max (a+1)=r.foldl max a+1:=by
   intro r
   induction r with
   | nil=>intro a;rfl
   | cons b r ih=>
    intro a;show(r.map (· + 1)).foldl max (max (a+1) (b+1))=r.foldl max (max a b)+1;rw[show max (a+1) (b+1)=max a b+1 by omega,ih]
  have:uq (a::r)=r.foldl max a+1:=by
   unfold uq Wz;show(r.map (· + 1)).foldl max (max 0 (a+1))=_;rw[qa0 (by omega),hg]
  omega
def optT:Option (List Nat)->D
 | some f=>ZP f
 | none=>.non
def Zms (a:Nat)(b:Int)(h:0<=b):U1 [nD a,.int b]=some (nD (min a b.toNat)):=by
 show some (D.int (if b<(a:Int)then b else a))=_;congr 2;split <;> omega
def Zcr {τ:D->Zb->Option Zb}{body:Zb->M Out}{s:Pn}(I:Zb->Prop)(g:Nat->Option D):∀(l:List Nat) (ρ:Zb),I ρ->
  (∀x∈l,∀ρ,I ρ->∃ρ1,τ (nD x) ρ=some ρ1/\match g x with | some d=>body ρ1 s=some (.rt d,s) | none=>∃ρ2,body ρ1 s=some (.nx ρ2,s)/\I ρ2)->
  match l.findSome? g with | some d=>WQ τ body (l.map nD) ρ s=some (.rt d,s) | none=>∃ρ2,WQ τ body (l.map nD) ρ s=some (.nx ρ2,s)/\I ρ2
 | [],ρ,h0,_=>⟨ρ,rfl,h0⟩
 | x::l,ρ,h0,h=>by
  obtain⟨ρ1,e1,e2⟩:=h x (by simp) ρ h0;rw[y9]
  cases hg:g x with
  | some d=>
   rw[hg]at e2;exact Zfo e1 e2
  | none=>
   rw[hg]at e2;obtain⟨ρ2,e3,h2⟩:=e2;have ih:=Zcr I g l ρ2 h2 λy hy=>h y (by simp[hy]);simp only
   cases hl:l.findSome? g with
   | some d=>rw[hl]at ih;exact ZbQ e1 e3 ih
   | none=>
    rw[hl]at ih;obtain⟨ρ3,e4,h3⟩:=ih;exact⟨ρ3,ZbQ e1 e3 e4,h3⟩
def Zan {α β:Type}(p:α->Bool)(g:α->Option β):∀l:List α,(l.filter p).findSome? g=l.findSome? λx=>if p x=true then g x else none
 | []=>rfl
 | a::l=>by
  by_cases h:p a=true
  ·rw[qab h,y9,y9,Zan p g l]
   simp[h]
  ·rw[yF h,y9,Zan p g l]
   simp[h]
def ZdW {n:Nat}{jK:Qa}(hn:n<=24)(many:Nat)(hm:many<=1000)(s:Pn):∀(r k:Nat) (w:List Nat),w.length+r=n->r<k->V8 k [Xo n jK,nD many,ZP w] s=some (optT (YR jK many r w),s)
 | r,0,w,_,h=>by omega
 | r,k+1,w,hl,hk=>by
  have jT:Yw [ZP w]=some (nD w.length):=by show some (D.int _)=_;rw[qd]
  have hlenN:Yw [Xo n jK]=some (nD n):=by show some (D.int _)=_;rw[qd,qG]
  refine YS rfl (YT (X9 (Yi (Zh rfl rfl) jT)) ?_);have heq:Xc (nD w.length) (nD n)=some (.bl (decide (w.length=n))):=by
   rw[eqi];congr 2;rw[zq,beq_iff_eq,decide_eq_true_iff];constructor <;> intro h <;> omega
  cases r with
  | zero=>
   rw[decide_eq_true (by omega)]at heq;exact Ye (Vt (Yc (Zu (d:=nD w.length) (e:=nD n) rfl (Yi (Zh rfl rfl) hlenN) heq)) (Ye (YO rfl)))
  | succ r=>
   rw[decide_eq_false (by omega)]at heq;refine YT (VS (Yc (Zu (d:=nD w.length) (e:=nD n) rfl (Yi (Zh rfl rfl) hlenN) heq)) rfl) ?_;refine YT (X9 (Zmq (w:=w) (jK:=jK) (n:=n) (by omega) hn rfl rfl rfl)) ?_;have hrg:Z8 (ZE U1 (Zc (Za 1) (Zc (Ze Y5 (BO (Za 2) (dC (.int (-1)))) (dC (.int 2))) Zd))) [some (Xo n jK),some (nD many),some (ZP w),some (nD w.length),some (.lst ((Wd jK w).map nD)),none,none] s=some (Yb 0 (min many (uq w+1)),s):=
    XG (Yi (c:=nD (min many (uq w+1))) (Zh rfl (Zh (Zu (d:=.int ((uq w:Int)-1)) (e:=.int 2) (c:=.int ((uq w:Int)+1)) (Zmr rfl) rfl (by show some (D.int _)=_;congr 2;omega)) rfl)) (by rw[Zms _ _ (by omega)];congr 3)) (by omega)
   have hgo:=Zcr (τ:=Zw 5) (body:=(Zg (YF (asB (Ze Wa (Za 5) (Za 4)))
 (Zg (ZT 6 (Zn (V8 k) (Zc (Za 0) (Zc (Za 1) (Zc (Ze Y5 (Za 2) (ZW (Zc (Za 5) Zd))) Zd)))))
 (Zg (YF (asB (Ze ZlI (Za 6) (dC .non)))
 (Zg (ZK (Za 6))
 Zo)
 Zo)
 Zo))
 Zo)
 Zo)) (s:=s) (fun ρ=>∃o5 o6,ρ=[some (Xo n jK),some (nD many),some (ZP w),some (nD w.length),some (.lst ((Wd jK w).map nD)),o5,o6]) (λh=>if (!decide (h∈Wd jK w))=true then (YR jK many r (w ++ [h])).map ZP else none) (qk (min many (uq w+1))) [some (Xo n jK),some (nD many),some (ZP w),some (nD w.length),some (.lst ((Wd jK w).map nD)),none,none] ⟨none,none,rfl⟩ (λx hx ρ hI=>by
    obtain⟨o5,o6,rfl⟩:=hI;refine⟨_,rfl,?_⟩;by_cases ht:x∈Wd jK w
    ·simp only[ht,decide_true,Bool.not_true,yh,if_false]
     exact⟨_,YT (VS (Yc (Zu (d:=nD x) (e:=.lst ((Wd jK w).map nD)) rfl rfl (by rw[ZaG,decide_eq_true ht];rfl))) rfl) rfl,some (nD x),o6,rfl⟩
    ·simp only[ht,decide_false,Bool.not_false,if_true]
     have ih:=ZdW (jK:=jK) hn many hm s r k (w ++ [x]) (by simp;omega) (by omega);have hin:asB (Ze Wa (Za 5) (Za 4)) [some (Xo n jK),some (nD many),some (ZP w),some (nD w.length),some (.lst ((Wd jK w).map nD)),some (nD x),o6] s=some (true,s):=Yc (Zu (d:=nD x) (e:=.lst ((Wd jK w).map nD)) rfl rfl (by rw[ZaG,decide_eq_false ht];rfl));have hcall:Zn (V8 k) (Zc (Za 0) (Zc (Za 1) (Zc (Ze Y5 (Za 2) (ZW (Zc (Za 5) Zd))) Zd))) [some (Xo n jK),some (nD many),some (ZP w),some (nD w.length),some (.lst ((Wd jK w).map nD)),some (nD x),o6] s=some (optT (YR jK many r (w ++ [x])),s):=Z0 (Zh rfl (Zh rfl (Zh (Zu (d:=ZP w) (e:=.tup [nD x]) rfl (Znf rfl) (ZnC w x (by omega))) rfl))) ih
     cases hd:YR jK many r (w ++ [x])with
     | some f=>
      rw[hd]at hcall;exact Ye (Vt hin (YT (X9 hcall) (Ye (Vt (Yc (Zu (d:=ZP f) (e:=.non) (c:=.bl true) rfl rfl rfl)) (Ye (YO rfl))))))
     | none=>
      rw[hd]at hcall;exact⟨_,YT (Vt hin (YT (X9 hcall) (YT (VS (Yc (Zu (d:=.non) (e:=.non) (c:=.bl false) rfl rfl rfl)) rfl) rfl))) rfl,some (nD x),some .non,rfl⟩)
   have e:(qk (min many (uq w+1))).findSome? (λh=>if (!decide (h∈Wd jK w))=true then (YR jK many r (w ++ [h])).map ZP else none)=(YR jK many (r+1) w).map ZP:=by
    show _=((VX jK many w).findSome? λh=>YR jK many r (w ++ [h])).map ZP;unfold VX;rw[Zan,List.map_findSome?];congr 1;funext h;show _=(if (!decide (h∈Wd jK w))=true then YR jK many r (w ++ [h])else none).map ZP;split <;> rfl
   rw[e]at hgo;rw[VN]at hrg
   cases hd:YR jK many (r+1) w with
   | some f=>
    rw[hd]at hgo;exact Ye (ZcW hrg hgo)
   | none=>
    rw[hd]at hgo;obtain⟨ρ2,e2,o5,o6,rfl⟩:=hgo;exact YT (ZcW hrg e2) (Ye (YO rfl))
def hueB (n:Nat)(jK:Qa):D->Bool
 | .tup ds=>decide (ds.length=n)&&(ds.all (WC (n:Int))&&jK.all λp=>!decide (Yo (ds.getD p.1 .non)=Yo (ds.getD p.2 .non)))
 | _=>false
def ZdX {n:Int}:∀{ds:List D},ds.all (WC n)=true->∃as:List Nat,ds=as.map nD
 | [],_=>⟨[],rfl⟩
 | d::ds,h=>by
  rw[qbp,qV]at h;obtain⟨i,rfl⟩:=ZjI h.1;have h0:0<=i:=by
   have:=h.1;simp only[WC,qV,decide_eq_true_eq]at this;exact this.1
  obtain⟨a,rfl⟩:=qaI h0;obtain⟨as,rfl⟩:=ZdX h.2;exact⟨a::as,rfl⟩
def Zmt (p:Nat×Nat):Zl (Zp p) (.int 0)=some (nD p.1):=Ug _ _
def Zmu (p:Nat×Nat):Zl (Zp p) (.int 1)=some (nD p.2):=JQ _ _ _
def Zkp {n:Nat}{jK:Qa}(hw:IsWeb n jK){f:List Nat}(hl:f.length=n):hueB n jK (ZP f)=(f.all (λx=>decide (x<n))&&jK.all λp=>!decide (f.getD p.1 0=f.getD p.2 0)):=by
 show(decide ((f.map nD).length=n)&&((f.map nD).all (WC (n:Int))&&jK.all λp=>!decide (Yo ((f.map nD).getD p.1 .non)=Yo ((f.map nD).getD p.2 .non))))=_;have gg:∀i,i<n->(f.map nD).getD i .non=nD (f.getD i 0):=λi hi=>by
  rw[qf,qt,qf,qj (by omega)];rfl
 rw[qd,decide_eq_true hl,qaq,qbC];congr 1
 ·congr 1
  funext x;show(decide (0<=(x:Int))&&decide ((x:Int)<(n:Int)))=_;rw[decide_eq_true (by omega),qaq];exact decide_eq_decide.mpr (by omega)
 ·rw[zq,zj,zj]
  constructor
  ·intro h p hp
   obtain⟨g1,g2⟩:=TP.IsWeb.mem hw hp;have:=h p hp;rw[gg p.1 (by omega),gg p.2 g2]at this;exact this
  ·intro h p hp
   obtain⟨g1,g2⟩:=TP.IsWeb.mem hw hp;rw[gg p.1 (by omega),gg p.2 g2];exact h p hp
def Zkq (ds:List D)(hp:YG ds=true)(hd:Xx ds<=10):Xj (.lst ds) (.lst [])=some (.bl (!decide (ds=[]))):=by
 have hok:Vf (.lst ds) (.lst [])=true:=by
  unfold Vf;simp[Zs,Yl,YG,Xx,hp];omega
 unfold Xj;rw[if_pos hok]
 cases ds with
 | nil=>rfl
 | cons a r=>rfl
def canon {n:Nat}{jK:Qa}(c:Nat->Nat)(vals:List Nat)(hr:∀a b,a<b->b<n->tied jK a b=true->c a≠c b)(hv:∀i<n,c i∈vals) :
  ∀k≤n,∃(f:List Nat) (g:Nat->Nat),f.length=k/\YD jK vals.length f/\(∀i<k,c i=g (f.getD i 0))/\(∀x<uq f,∀y<uq f,g x=g y->x=y):=by
 intro k
 induction k with
 | zero=>intro _;exact⟨[],λ_=>0,rfl,YD.nil,λi hi=>by omega,λx hx=>by simp[uq,Wz]at hx⟩
 | succ k ih=>
  intro hk;obtain⟨f,g,hl,R,hc,hg⟩:=ih (by omega);have hmem:∀x,x<uq f->∃i,i<k/\f.getD i 0=x:=λx hx=>by
   obtain⟨i,hi,e⟩:=qar ((R.all rfl x).mpr hx);exact⟨i,by omega,by rw[qf,qj hi];exact e⟩
  have hlt:∀i,i<k->f.getD i 0<uq f:=λi hi=>by
   refine Zi0 ?_;rw[qf,qj (by omega)];exact zE _
  have notTaken:∀h,(∀o<k,f.getD o 0=h->c o=c k)->h∉Wd jK f:=λh hh z=>by
   obtain⟨o,ho,e⟩:=qu.mp z;obtain⟨h1,h2⟩:=qA.mp ho;have h1:=qB.mp h1;rw[hl]at h1 h2;exact hr o k h1 (by omega) (by rw[Us];exact h2) (hh o h1 e)
  by_cases old:∃j,j<k/\c j=c k
  ·obtain⟨j,hj,ej⟩:=old
   have hx:=hlt j hj;have hin:f.getD j 0∈VX jK vals.length f:=Uu.mpr ⟨R.lt _ ((R.all rfl _).mpr hx),by omega,notTaken _ λo ho e=>by rw[hc o ho,e,<-hc j hj,ej]⟩;have hu:uq (f ++ [f.getD j 0])=uq f:=by rw[ZfN];omega
   refine⟨f ++ [f.getD j 0],g,by simp[hl],YD.snoc.mpr ⟨R,hin⟩,λi hi=>?_,by rw[hu];exact hg⟩;by_cases e:i<k
   ·rw[Zav (by omega)];exact hc i e
   ·have:i=f.length:=by omega
    subst this;rw[Zbr,<-hc j hj,ej,hl]
  ·have hnew:∀j,j<k->c j≠c k:=λj hj e=>old ⟨j,hj,e⟩
   have hgk:∀x<uq f,g x≠c k:=λx hx e=>by
    obtain⟨i,hi,ei⟩:=hmem x hx;exact hnew i hi (by rw[hc i hi,ei,e])
   have hcount:uq f+1<=vals.length:=by
    have nd:((qk (uq f)).map g ++ [c k]).Nodup:=by
     refine qbw.mpr ⟨?_,by simp,λa ha b hb e=>?_⟩
     ·refine qaj.mpr (yY (λ{a b} ha hb hab e=>?_) (zM (n:=uq f)))
      exact hab (hg a (qB.mp ha) b (qB.mp hb) e)
     ·obtain⟨x,hx,rfl⟩:=qu.mp ha
      rw[qK.mp hb]at e;exact hgk x (qB.mp hx) e
    have:=V9 (b:=vals) nd λy hy=>by
     rcases qP.mp hy with hy | hy
     ·obtain⟨x,hx,rfl⟩:=qu.mp hy
      obtain⟨i,hi,ei⟩:=hmem x (qB.mp hx);rw[<-ei,<-hc i hi];exact hv i (by omega)
     ·rw[qK.mp hy];exact hv k (by omega)
    simpa using this
   have hin:uq f∈VX jK vals.length f:=Uu.mpr ⟨by omega,qq _,notTaken _ λo ho e=>by have:=hlt o ho;omega⟩;have hu:uq (f ++ [uq f])=uq f+1:=by rw[ZfN];omega
   refine⟨f ++ [uq f],λx=>if x=uq f then c k else g x,by simp[hl],YD.snoc.mpr ⟨R,hin⟩,λi hi=>?_,λx hx y hy e=>?_⟩
   ·by_cases e:i<k
    ·rw[Zav (by omega)]
     have:=hlt i e;show c i=if f.getD i 0=uq f then c k else g (f.getD i 0);rw[if_neg (by omega)];exact hc i e
    ·have:i=f.length:=by omega
     subst this;rw[Zbr,hl];show c k=if uq f=uq f then c k else _;rw[if_pos rfl]
   ·rw[hu]at hx hy
    have e:(if x=uq f then c k else g x)=if y=uq f then c k else g y:=e;by_cases h1:x=uq f
    ·by_cases h2:y=uq f
     ·omega
     ·rw[if_pos h1,if_neg h2]at e
      exact absurd e.symm (hgk y (by omega))
    ·by_cases h2:y=uq f
     ·rw[if_neg h1,if_pos h2]at e
      exact absurd e (hgk x (by omega))
     ·rw[if_neg h1,if_neg h2]at e
      exact hg x (by omega) y (by omega) e
def Zkr {n:Nat}{jK:Qa}(c:Nat->Nat)(vals:List Nat)(hr:∀a b,a<b->b<n->tied jK a b=true->c a≠c b)(hv:∀i<n,c i∈vals):XT n jK<=vals.length:=by
 obtain⟨f,g,h1,h2,_⟩:=canon c vals hr hv n (qq n);exact Zpy h1 h2
def ZfO {d:D}(h:VT d=true)(n:Nat)(s:Pn):Jg [d,nD n] s=some (.bl (match d with | .tup ds=>decide (ds.length=n) | _=>false),s):=by
 refine YS rfl (Ye (YO ?_));have hw:ZE Uj (Zc (Za 0) (Zc (dC (.ty "tuple")) Zd)) [some d,some (nD n)] s=_:=Yi (Zh rfl (Zh rfl rfl)) (ZjH h)
 cases d with
 | tup ds=>
  refine ZhE hw (Zu (d:=nD ds.length) (e:=nD n) (Yi (Zh rfl rfl) rfl) rfl ?_);rw[eqi];congr 2;rw[zq,beq_iff_eq,decide_eq_true_iff];constructor <;> intro h <;> omega
 | pen=>cases h
 | ty _=>cases h
 | clo _ _=>cases h
 | dk _=>cases h
 | dt _=>cases h
 | du _=>cases h
 | df _=>cases h
 | _=>exact ZhF hw
def ZfP {n:Nat}{jK:Qa}(hw:IsWeb n jK)(hn:n<=24){t:D}(hk:VT t=true)(hks:∀ds,t=.tup ds->∀d∈ds,VT d=true)(hl:∀ds,t=.tup ds->ds.length<=100000)(s:Pn):Bh [ZH n jK,t] s=some (.bl (hueB n jK t),s):=by
 have htl:=hw.len hn;have h0:=ZfO hk n s;have h00:∀b,Jg [t,nD n] s=some (.bl b,s)->Wu (asB (Zn Jg (Zc (Za 1) (Zc (Ze Zl (Za 0) (dC (.int 0))) Zd)))) [some (ZH n jK),some t] s=some (!b,s):=λb h=>BE (Yc (Z0 (Zh rfl (Zh (Zu (d:=ZH n jK) (e:=.int 0) rfl rfl Uk) rfl)) h))
 cases t with
 | tup ds=>
  have hB:hueB n jK (.tup ds)=(decide (ds.length=n)&&(ds.all (WC (n:Int))&&jK.all λp=>!decide (Yo (ds.getD p.1 .non)=Yo (ds.getD p.2 .non)))):=rfl;by_cases jT:ds.length=n
  ·have h1:=h00 true (by rw[h0];simp[jT])
   rw[hB,decide_eq_true jT,qaq];have hc:=YU (src:=[none,some 0]) (fi:=WN (Za 1)) (τ:=Zw 0) (ft:=Z3) (fe:=Zn V6 (Zc (Ze Zl (Za 1) (dC (.int 0))) (Zc (Za 0) Zd))) (ρ:=[some (ZH n jK),some (.tup ds)]) (s:=s) (ds:=ds) (λd=>[some d,some (ZH n jK)]) (λ_=>true) (λd=>.bl (WC (n:Int) d)) (Zfp rfl) (by rw[Yd];omega) (λd hd=>⟨rfl,rfl,λ_=>Z0 (Zh (Zu (d:=ZH n jK) (e:=.int 0) rfl rfl Uk) (Zh rfl rfl)) (Zcx (hks ds rfl d hd) (n:Int) s)⟩);rw[WV]at hc;have h2:Wu (asB (ZE VZ (Zc (ZR [none,some 0] (WN (Za 1)) (Zw 0) Z3 (Zn V6 (Zc (Ze Zl (Za 1) (dC (.int 0))) (Zc (Za 0) Zd)))) Zd))) [some (ZH n jK),some (.tup ds)] s=some (!ds.all (WC (n:Int)),s):=BE (Yc (Yi (Zh hc rfl) (Br ds _)))
   cases ha:ds.all (WC (n:Int))with
   | false=>
    rw[ha]at h2;exact YS rfl (YT (VS h1 rfl) (Ye (Vt h2 (Ye (YO rfl)))))
   | true=>
    rw[ha]at h2;obtain⟨as,rfl⟩:=ZdX ha;rw[qd]at jT;have gg:∀i,i<n->(as.map nD).getD i .non=nD (as.getD i 0):=λi hi=>by
     rw[qf,qt,qf,qj (by omega)];rfl
    refine YS rfl (YT (VS h1 rfl) (YT (VS h2 rfl) (Ye (YO ?_))));have hc2:=YU (src:=[none,some 1]) (fi:=WN (Ze Zl (Za 0) (dC (.int 1)))) (τ:=Zw 0) (ft:=Z3) (fe:=Ze Xj (Ze Zl (Za 1) (Ze Zl (Za 0) (dC (.int 0)))) (Ze Zl (Za 1) (Ze Zl (Za 0) (dC (.int 1))))) (ρ:=[some (ZH n jK),some (ZP as)]) (s:=s) (ds:=jK.map Zp) (λd=>[some d,some (ZP as)]) (λ_=>true) (λd=>.bl (!decide (as.getD (p2 d).1.toNat 0=as.getD (p2 d).2.toNat 0))) (Zfp (Zu (d:=ZH n jK) (e:=.int 1) rfl rfl web1)) (by rw[qd,Yd];omega) (λd hd=>by
     obtain⟨p,hp,rfl⟩:=qu.mp hd;obtain⟨g1,g2⟩:=TP.IsWeb.mem hw hp;have i1:Zl (ZP as) (nD p.1)=some (nD (as.getD p.1 0)):=UU (by omega);have i2:Zl (ZP as) (nD p.2)=some (nD (as.getD p.2 0)):=UU (by omega);refine⟨rfl,rfl,λ_=>Zu (d:=nD (as.getD p.1 0)) (e:=nD (as.getD p.2 0)) (Zu (d:=ZP as) (e:=nD p.1) rfl (Zu (d:=Zp p) (e:=.int 0) rfl rfl (Zmt p)) i1) (Zu (d:=ZP as) (e:=nD p.2) rfl (Zu (d:=Zp p) (e:=.int 1) rfl rfl (Zmu p)) i2) ?_⟩;rw[JK];show _=some (D.bl (!decide (as.getD (p.1:Int).toNat 0=as.getD (p.2:Int).toNat 0)));rw[zG,zG])
    rw[WV,qE]at hc2;have e3:jK.map ((λd=>D.bl (!decide (as.getD (p2 d).1.toNat 0=as.getD (p2 d).2.toNat 0)))∘Zp)=jK.map λp=>D.bl (!decide (as.getD p.1 0=as.getD p.2 0)):=rfl;rw[e3]at hc2;refine Yi (Zh hc2 rfl) ?_;rw[Br jK λp=>!decide (as.getD p.1 0=as.getD p.2 0),qaq];congr 2;rw[zq,zj,zj];constructor
    ·intro h p hp
     obtain⟨g1,g2⟩:=TP.IsWeb.mem hw hp;have:=h p hp;rw[gg p.1 (by omega),gg p.2 g2];exact this
    ·intro h p hp
     obtain⟨g1,g2⟩:=TP.IsWeb.mem hw hp;have:=h p hp;rw[gg p.1 (by omega),gg p.2 g2]at this;exact this
  ·have h1:=h00 false (by rw[h0];simp[jT])
   rw[hB,decide_eq_false jT,Bool.false_and];exact YS rfl (Ye (Vt h1 (Ye (YO rfl))))
 | pen=>cases hk
 | ty _=>cases hk
 | clo _ _=>cases hk
 | dk _=>cases hk
 | dt _=>cases hk
 | du _=>cases hk
 | df _=>cases hk
 | _=>exact YS rfl (Ye (Vt (h00 false h0) (Ye (YO rfl))))
def Ze4 (f:List Nat):VT (ZP f)=true/\∀ds,ZP f=.tup ds->∀d∈ds,VT d=true:=⟨rfl,λds e d hd=>by
 cases e
 obtain⟨x,_,rfl⟩:=qu.mp hd;rfl⟩
end TP3
namespace TQ
open L2 TF TS
open TP
open TP2
open TP3
def Zpz {T:Nat->List D->M D}{i t:Nat}{fs:Zb->M (List D)}{ρ:Zb}{s s1:Pn}{ds cds:List D}{r:Option (D×Pn)}(h1:(ρ[i]?).bind id=some (.clo t cds))(h2:fs ρ s=some (ds,s1))(h3:T t (ds++cds) s1=r):BZ T i fs ρ s=r:=by
 unfold BZ Zq Za YQ;rw[h1];simp only[h2];exact h3
def Zie {F:List D->M D}{t:Nat}{cix:List Nat}{f:Zb->M D}{ρ:Zb}{s s1 s2:Pn}{d c:D}{cds:List D}(h1:f ρ s=some (d,s1))(h2:Vs ρ cix=some cds)(n1:YH d=true)(n2:YV cds=true)(h3:F [d,.clo t cds] s1=some (c,s2))(n3:YH c=true):U6 F t cix f ρ s=some (c,s2):=by
 unfold U6 Zq YQ;rw[h1,h2];simp only;rw[if_pos (by rw[n1,n2];rfl),h3];simp only;rw[if_pos n3];rfl
def Bt:∀{ds:List D},(∀d∈ds,YH d=true)->YV ds=true
 | [],_=>rfl
 | d::ds,h=>by
  show(YH d&&YV ds)=true;rw[h d zI,Bt λx (hx:x∈ds)=>h x (qO _ hx)];rfl
def Zc0 {n:Nat}{f:Zb->M D}{ds:List D}{s:Pn}{r:Option (D×Pn)}(hl:ds.length=n)(h:f (ds.map some) s=r):Xd n f ds s=r:=by
 unfold Xd;rw[if_pos hl];exact h
def Zcs (n:Nat)(jK:Qa):YH (ZH n jK)=true:=by
 have:YV (jK.map Zp)=true:=Bt λd hd=>by obtain⟨p,_,rfl⟩:=qu.mp hd;rfl
 simp only[ZH,YH,YV,this];rfl
def Zb5 (lo:Int)(n:Nat):YV (Yb lo n)=true:=Bt λd hd=>by
 unfold Yb at hd;obtain⟨i,_,rfl⟩:=qu.mp hd;rfl
def Zg5 (l:List Nat):YV (l.map nD)=true:=Bt λd hd=>by obtain⟨p,_,rfl⟩:=qu.mp hd;rfl
def ZaZ {row:D}{ds cds:List D}{t:Nat}(h:JZ row ds)(hn:ds.length<=1000)(b:Nat×Nat->Bool)(s:Pn)(hb:∀p∈Xk ds.length,Tl t ([ds.getD p.1 .non,ds.getD p.2 .non]++cds) s=some (.bl (b p),s)):VI [row,.clo t cds] s=some (ZH ds.length ((Xk ds.length).filter b),s):=by
 have hln:∀r,ZE Yw (Zc (Za 0) Zd) (some row::r) s=some (nD ds.length,s):=λr=>Yi (Zh rfl rfl) h.len;refine YS rfl (YT (X9 (Z0 (Zh (ZaS (hln _) hn) rfl) (Zgh s hn))) (Ye (YO ?_)));have hap:=Zgi ds.length hn;have hc:=YU (src:=[none,some 1,some 0]) (fi:=ZV (Za 2)) (τ:=Zw 0) (ft:=asB (BZ Tl 1 (Zc (Ze Zl (Za 2) (Ze Zl (Za 0) (dC (.int 0)))) (Zc (Ze Zl (Za 2) (Ze Zl (Za 0) (dC (.int 1)))) Zd)))) (fe:=Za 0) (ρ:=[some row,some (.clo t cds),some (.lst ((Xk ds.length).map Zp))]) (s:=s) (ds:=(Xk ds.length).map Zp) (λd=>[some d,some (.clo t cds),some row]) (λd=>b (Y0 d)) (λd=>d) (XH rfl) (by rw[qd,Yd];omega) λd hd=>by
  obtain⟨p,hpm,rfl⟩:=qu.mp hd;have hpp:=WX.mp hpm;refine⟨rfl,Yc (Zpz (t:=t) (cds:=cds) rfl (Zh (Zu (d:=row) (e:=nD p.1) rfl (Zu (d:=Zp p) (e:=.int 0) rfl rfl (Ug _ _)) (h.ix (by omega))) (Zh (Zu (d:=row) (e:=nD p.2) rfl (Zu (d:=Zp p) (e:=.int 1) rfl rfl (JQ _ _ _)) (h.ix (by omega))) rfl)) (hb p hpm)),λ_=>rfl⟩
 rw[Zfn (Xk ds.length) _ b λp=>by rw[VJ]]at hc;exact Wc (Zh (hln _) (Zh (Yi (Zh hc rfl) rfl) rfl)) two_le
def range_getD {n i:Nat}(h:i<n):(Yb 0 n).getD i .non=nD i:=by
 rw[VN];simp[qbh,h]
def ZdY (n:Nat)(jK:Qa)(s:Pn)(hn:n<=1000)(hl:jK.length<=100000):Ua [ZH n jK] s=some (ZH n ((Xk n).filter λp=>!decide (p∈jK)),s):=by
 refine YS rfl (YT (X9 (Z0 (Zh rfl rfl) (Zbp n jK s hl))) (Ye (YO ?_)));refine Zie (d:=.lst (Yb 0 n)) (cds:=[.dt (ZZ [] jK)]) (ZaS (Zu (d:=ZH n jK) (e:=.int 0) rfl rfl Uk) hn) rfl (by simp only[YH];exact Zb5 _ _) rfl ?_ (Zcs _ _);have:=ZaZ (row:=.lst (Yb 0 n)) (ds:=Yb 0 n) (cds:=[.dt (ZZ [] jK)]) (t:=0) (.inl rfl) (by rw[Xm];exact hn) (λp=>!decide (p∈jK)) s (λp hp=>by
  rw[Xm]at hp;have hpp:=WX.mp hp;rw[range_getD (by omega),range_getD (by omega)];show ZbV [nD p.1,nD p.2,.dt (ZZ [] jK)] s=_;refine Zc0 rfl ?_;refine ZiJ (a:=decide (p∈jK)) (Z0 (Zh rfl (Zh rfl (Zh rfl rfl))) ?_);rw[ZaX,Jx hpp.1])
 rw[Xm]at this;exact this
def Ze5 {ps:List Nat}{i:Nat}(h:i<ps.length):(ps.map nD).getD i .non=nD (ps.getD i 0):=by
 rw[qf,qt,qf,qj h];rfl
def Zmv (n:Nat)(jK:Qa)(ps:List Nat)(hp:ps.length<=1000)(hl:jK.length<=100000)(s:Pn):Zac [ZH n jK,.lst (ps.map nD)] s=some (ZH ps.length (V0 jK ps),s):=by
 refine YS rfl (YT (X9 (Z0 (Zh rfl rfl) (Zbp n jK s hl))) (Ye (YO ?_)));refine Zie (d:=.lst (ps.map nD)) (cds:=[.dt (ZZ [] jK)]) rfl rfl (by simp only[YH];exact Zg5 _) rfl ?_ (Zcs _ _);have:=ZaZ (row:=.lst (ps.map nD)) (ds:=ps.map nD) (cds:=[.dt (ZZ [] jK)]) (t:=1) (.inl rfl) (by rw[qd];exact hp) (λp=>tied jK (ps.getD p.1 0) (ps.getD p.2 0)) s (λp hpm=>by
  rw[qd]at hpm;have hpp:=WX.mp hpm;rw[Ze5 (by omega),Ze5 (by omega)];show Zap [nD _,nD _,.dt (ZZ [] jK)] s=_;refine Zc0 rfl ?_;exact Z0 (Zh rfl (Zh rfl (Zh rfl rfl))) (ZaX jK _ _ s))
 rw[qd]at this;exact this
def Zks (n:Nat)(jK:Qa)(ps:List Nat)(hp:ps.length<=1000)(hl:jK.length<=100000)(s:Pn):BG [ZH n jK,.lst (ps.map nD)] s=some (ZH ps.length (V0 jK ps),s):=
 YS rfl (Ye (YO (Z0 (Zh rfl (Zh rfl rfl)) (Zmv n jK ps hp hl s))))
def ZpA {f g:Zb->M D}{ρ:Zb}{s:Pn}{a b:Bool}(h:f ρ s=some (.bl a,s))(h2:a=false->g ρ s=some (.bl b,s)):J5 f g ρ s=some (.bl (a||b),s):=by
 unfold J5 Zq;rw[h]
 cases a with
 | true=>rfl
 | false=>exact h2 rfl
def jH {fs:Zb->M (List D)}{gs:Zb->M (List D)}{ρ:Zb}{s:Pn}{m T:Nat}{ds:List D}{Q:D->Pn->Prop}(hl:gs ρ s=some (ds,s))(hm1:ds.length=m)(ok:Xe T s)(hT:T<1000000000)(h1:fs ρ s=some ([.pen,.int (m:Int)],s))(hm:0<m)(hm2:m<1000)(h:∀d s',d∈ds->Xe (T+1) s'->Q d s'):Ok (Ze Zl (XC gs) (Zn Yv fs) ρ) s Q:=by
 refine .op (.eq (JE hl (by rw[Yd];omega)) (.drawD ok hT h1 hm (by omega) λr s' hr ok'=>?_));obtain⟨d,hd,e⟩:=Znd (ds:=ds) (r:=r) (by omega);exact⟨d,e,h d s' hd ok'⟩
def Ze6 (n:Nat)(jK:Qa):Zs (ZH n jK)=true:=by
 simp only[ZH,Zs,YG,plain_pairs];rfl
def ZcH {N:Nat}{B:Nat×Nat->Bool}{a b:Nat}(h:a<b)(hb:b<N):tied ((Xk N).filter B) a b=B (a,b):=by
 rw[Jx h,zq,decide_eq_true_eq,qA];exact⟨λz=>z.2,λz=>⟨WX.mpr ⟨h,hb⟩,z⟩⟩
abbrev UM (n:Nat)(jK:Qa):D:=.tup [nD n,.dt (ZZ [] jK)]
def mk0 {n:Nat}{jK:Qa}:Zl (UM n jK) (.int 0)=some (nD n):=Ug _ _
def mk1 {n:Nat}{jK:Qa}:Zl (UM n jK) (.int 1)=some (.dt (ZZ [] jK)):=JQ _ _ _
def Zmw (n:Nat)(jK:Qa)(p:Nat)(s:Pn)(hn:n<=100000):JF [UM n jK,.int p] s=some (.lst ((Yk n jK p).map nD),s):=by
 refine YS rfl (Ye (YO ?_));unfold Yk;show _=some (D.lst (((qk n).filter λo=>tied jK p o).map λ(i:Nat)=>D.int (i:Int)),s);rw[<-Zaz];refine YU (ds:=Yb 0 n) (λd=>[some d,some (UM n jK),some (.int p)]) (λd=>tied jK p (Yo d)) (λd=>d) (XG (Zu (d:=UM n jK) (e:=.int 0) rfl rfl mk0) hn) (Zfm hn) ?_;intro d hd;obtain⟨i,hi,rfl⟩:=V7 hd;exact⟨rfl,Yc (Z0 (Zh (Zu (d:=UM n jK) (e:=.int 1) rfl rfl mk1) (Zh rfl (Zh rfl rfl))) (ZaX jK p i s)),λ_=>rfl⟩
def gN:Zb->M Out:=(Zg (ZT 1 (ZW (Zc (Ze Zl (Za 0) (dC (.int 0))) (Zc (Zn Vi (Zc (Za 0) Zd)) Zd))))
 (Zg (ZK (ZR [none,some 1] (Z8 (Ze Zl (Za 0) (dC (.int 0)))) (Zw 0) Z3 (Zn JF (Zc (Za 1) (Zc (Za 0) Zd)))))
 Zo))
def Zb6 (n:Nat)(jK:Qa)(hn:n<=1000)(hl:jK.length<=100000)(s:Pn):runB 2 1 gN [ZH n jK] s=some (Xo n jK,s):=by
 refine YS rfl (YT (X9 (Wc (Zh (Zu (d:=ZH n jK) (e:=.int 0) rfl rfl Uk) (Zh (Z0 (Zh rfl rfl) (Zbp n jK s hl)) rfl)) two_le)) (Ye (YO ?_)));have hc:=YU (src:=[none,some 1]) (fi:=Z8 (Ze Zl (Za 0) (dC (.int 0)))) (τ:=Zw 0) (ft:=Z3) (fe:=Zn JF (Zc (Za 1) (Zc (Za 0) Zd))) (ρ:=[some (ZH n jK),some (UM n jK)]) (s:=s) (ds:=Yb 0 n) (λd=>[some d,some (UM n jK)]) (λ_=>true) (λd=>.lst ((Yk n jK (Yo d)).map nD)) (XG (Zu (d:=ZH n jK) (e:=.int 0) rfl rfl Uk) (by omega)) (Zfm (by omega)) λd hd=>by
  obtain⟨i,hi,rfl⟩:=V7 hd;exact⟨rfl,rfl,λ_=>Z0 (Zh rfl (Zh rfl rfl)) (Zmw n jK i s (by omega))⟩
 rw[WV,VN,qE]at hc;exact hc
section
variable (ap:Nat->Nat->Bool)
def one? (ps:List Nat):Option Nat:=ps.find? λp=>decide (Xu ap ps p<=1)
def Yx:Nat->List Nat->List Nat
 | 0,_=>[]
 | m+1,ps=>if ps=[]then []else match one? ap ps with
  | some p=>p::Yx m (Xb ap ps p)
  | none=>if (Yx m (ps.filter λo=>!decide (o=Yu ap ps))).length<=(Yu ap ps::Yx m (Xb ap ps (Yu ap ps))).length then Yu ap ps::Yx m (Xb ap ps (Yu ap ps))
   else Yx m (ps.filter λo=>!decide (o=Yu ap ps))
end
section
variable {ap:Nat->Nat->Bool}
def Zb7 {ps:List Nat}{p:Nat}(h:one? ap ps=some p):p∈ps/\Xu ap ps p<=1:=⟨List.mem_of_find?_eq_some h,by have:=List.find?_some h;simpa using this⟩
def Zb8 (sy:∀a b,ap a b=ap b a):∀(m:Nat) (ps:List Nat),KnA ap ps (Yx ap m ps)
 | 0,ps=>⟨qbc,λx hx=>by simp[Yx]at hx,λx hx=>by simp[Yx]at hx⟩
 | m+1,ps=>by
  unfold Yx;by_cases h0:ps=[]
  ·rw[if_pos h0];exact⟨qbc,λx hx=>by simp at hx,λx hx=>by simp at hx⟩
  ·rw[if_neg h0]
   have w:=λp (hp:p∈ps)=>jF sy hp (Zb8 sy m (Xb ap ps p));split
   ·rename_i p hp
    exact w _ (Zb7 hp).1
   ·split
    ·exact w _ (Zau h0)
    ·exact(Zb8 sy m _).mono λx hx=>(qA.mp hx).1
def ZdZ (sy:∀a b,ap a b=ap b a)(ir:∀a,ap a a=false):∀(m:Nat) (ps K:List Nat),ps.length<m->KnA ap ps K->K.length<=(Yx ap m ps).length
 | 0,ps,K,h,_=>by omega
 | m+1,ps,K,hl,h=>by
  unfold Yx;by_cases h0:ps=[]
  ·rw[if_pos h0]
   cases K with
   | nil=>simp
   | cons a r=>have:=h.sub a (by simp);rw[h0]at this;simp at this
  ·rw[if_neg h0]
   have w:∀p,p∈ps->(p∈K∨Xu ap ps p<=1)->K.length<=(p::Yx ap m (Xb ap ps p)).length:=λp hp hm=>by
    have h1:=Zkl ir h hm;have h2:=ZdZ sy ir m (Xb ap ps p) _ (by have:=Zg1 (ap:=ap) hp;omega) (h.rest (p:=p));simp only[qN];omega
   split
   ·rename_i p hp
    exact w _ (Zb7 hp).1 (.inr (Zb7 hp).2)
   ·have hb:=Zau (ap:=ap) h0
    by_cases hk:Yu ap ps∈K
    ·have:=w _ hb (.inl hk)
     split
     ·exact this
     ·omega
    ·have h3:=ZdZ sy ir m (ps.filter λo=>!decide (o=Yu ap ps)) K (by have:=ZdT hb;omega) ⟨h.nd,λx hx=>qA.mpr ⟨h.sub x hx,by
      have:x≠Yu ap ps:=λz=>hk (z▸hx);simpa using this⟩,h.two⟩
     split
     ·omega
     ·exact h3
def Zc1 (m:Nat):∀(ps:List Nat),(Yx ap m ps).length<=m:=by
 induction m with
 | zero=>intro ps;simp[Yx]
 | succ m ih=>
  intro ps;unfold Yx;split
  ·simp
  ·split
   ·rename_i p hp
    have:=ih (Xb ap ps p);simp only[qN];omega
   ·split
    ·have:=ih (Xb ap ps (Yu ap ps));simp only[qN];omega
    ·have:=ih (ps.filter λo=>!decide (o=Yu ap ps));omega
end
abbrev Xi (n:Nat):D:=.tup (qw n (nD 1))
def Zi2 {n p:Nat}(h:p<n):Zl (Xi n) (nD p)=some (nD 1):=by
 show XY _ (p:Int)=_;refine X8 ?_;rw[yE,if_pos h]
def Zi3:∀k:Nat,(qw k (1:Int)).sum=(k:Int)
 | 0=>rfl
 | k+1=>by rw[ye,List.sum_cons,Zi3 k];omega
def Zmx (k:Nat):dSum [.lst (qw k (nD 1))]=some (nD k):=by
 have h1:ZG (qw k (nD 1))=some (qw k 1):=by
  rw[show qw k (nD 1)=(qw k (1:Int)).map D.int by rw[List.map_replicate];rfl];exact ZaR _
 show(match ZG (qw k (nD 1))with | some ns=>if Vu ns=true then some (D.int ns.sum)else none | none=>none)=_;rw[h1];have h2:Vu (qw k 1)=true:=zj.mpr λx hx=>by rw[(List.mem_replicate.mp hx).2];rfl
 show(if Vu (qw k 1)=true then some (D.int (qw k (1:Int)).sum)else none)=_;rw[if_pos h2,Zi3]
def Zg6:Zb->M Out:=(Zg (ZK (ZE dSum (Zc (ZR [none,some 0] (ZV (Za 1)) (Zw 0) Z3 (Ze Zl (Za 1) (Za 0))) Zd)))
 Zo)
def Za0 {n:Nat}{ps:List Nat}(hp:∀p∈ps,p<n)(hl:ps.length<=1000)(s:Pn):runB 2 2 Zg6 [Xi n,.lst (ps.map nD)] s=some (nD ps.length,s):=by
 have hc:=YU (src:=[none,some 0]) (fi:=ZV (Za 1)) (τ:=Zw 0) (ft:=Z3) (fe:=Ze Zl (Za 1) (Za 0)) (ρ:=[some (Xi n),some (.lst (ps.map nD))]) (s:=s) (ds:=ps.map nD) (λd=>[some d,some (Xi n)]) (λ_=>true) (λ_=>nD 1) (XH rfl) (by rw[qd,Yd];omega) (λd hd=>by
  obtain⟨x,hx,rfl⟩:=qu.mp hd;exact⟨rfl,rfl,λ_=>Zu (d:=Xi n) (e:=nD x) rfl rfl (Zi2 (hp x hx))⟩)
 rw[WV,List.map_const',qd]at hc;exact YS rfl (Ye (YO (Yi (Zh hc rfl) (Zmx _))))
def ZpB:Zb->M Out:=(Zg (ZK (ZR [none,some 0,some 1] (ZV (Za 2)) (Zw 0) (asB (Ze YI (Za 0) (Ze Zl (Za 1) (Za 2)))) (Za 0)))
 Zo)
def Zif:List D->M D:=runB 3 3 ZpB
def VL:List D->M D:=runB 2 2 Zg6
def gHW (Fs:List D->M D):Zb->M Out:=(Zg (ZT 4 (ZR [none,some 2,some 0] (ZV (Za 3)) (Zw 0) (XX (asB (Ze Xj (Za 0) (Za 1))) (asB (Ze Wa (Za 0) (Ze Zl (Za 2) (Za 1))))) (Za 0)))
 (Zg (ZK (Ze Y5 (XC (Zc (Za 2) Zd)) (Zn Fs (Zc (Za 0) (Zc (Za 1) (Zc (Za 4) Zd))))))
 Zo))
def FHW (Fs:List D->M D):List D->M D:=runB 5 4 (gHW Fs)
def Zos (Fs:List D->M D):Zb->M Out:=(Zg (YF (asB (Ze Jb (Zn VL (Zc (Za 1) (Zc (Ze Zl (Za 3) (Za 4)) Zd))) (Ze Zl (Za 1) (Ze Zl (Za 2) (Za 4)))))
 (Zg (ZK (Zn (FHW Fs) (Zc (Za 0) (Zc (Za 1) (Zc (Ze Zl (Za 2) (Za 4)) (Zc (Za 2) Zd))))))
 Zo)
 Zo)
 Zo)
def gHA (Fs:List D->M D):Zb->M Out:=(Zg (YF (asB (Ze Xc (Za 2) (XC Zd)))
 (Zg (ZK (XC Zd))
 Zo)
 Zo)
 (Zg (ZT 3 (ZR [none,some 0,some 2] (ZV (Za 2)) (Zw 0) Z3 (Zn Zif (Zc (Za 1) (Zc (Za 0) (Zc (Za 2) Zd))))))
 (Zg (YZ (Z8 (ZE Yw (Zc (Za 2) Zd))) (Zw 4) (Zos Fs))
 (Zg (ZT 5 (ZR [none] (ZV (Za 3)) (Zw 0) Z3 (ZE Yw (Zc (Za 0) Zd))))
 (Zg (ZT 6 (Ze Zl (Za 2) (Ze Zfv (Za 5) (ZE ZiL (Zc (Za 5) Zd)))))
 (Zg (ZT 7 (Zn (FHW Fs) (Zc (Za 0) (Zc (Za 1) (Zc (Za 6) (Zc (Za 2) Zd))))))
 (Zg (ZT 8 (Zn Fs (Zc (Za 0) (Zc (Za 1) (Zc (ZR [none,some 6] (ZV (Za 2)) (Zw 0) (asB (Ze Xj (Za 0) (Za 1))) (Za 0)) Zd)))))
 (Zg (ZK (B5 (asB (Ze Jc (Zn VL (Zc (Za 1) (Zc (Za 7) Zd))) (Zn VL (Zc (Za 1) (Zc (Za 8) Zd))))) (Za 7) (Za 8)))
 Zo))))))))
def Je:Nat->List D->M D
 | 0=>λ_=>Zv
 | n+1=>runB 9 3 (gHA (Je n))
def geN (a b:Nat):Jc (nD a) (nD b)=some (.bl (decide (b<=a))):=by
 show some (D.bl (decide ((b:Int)<=(a:Int))))=_;rw[show decide ((b:Int)<=(a:Int))=decide (b<=a)from decide_eq_decide.mpr (by omega)]
def Zig (P:Nat->Bool)(h:Nat->D)(ps:List Nat):(qk ps.length).findSome? (λi=>if P (ps.getD i 0)=true then some (h (ps.getD i 0))else none)=(ps.find? P).map h:=by
 have e:(qk ps.length).map (λi=>ps.getD i 0)=ps:=by
  apply yD;intro i;rw[qt];by_cases hi:i<ps.length
  ·rw[zT hi]
   show some (ps.getD i 0)=_;rw[qf,qj hi];rfl
  ·rw[yy (by simp;omega),yy (by omega)];rfl
 have k:∀l:List Nat,l.findSome? (λx=>if P x=true then some (h x)else none)=(l.find? P).map h:=λl=>by
  induction l with
  | nil=>rfl
  | cons x l ih=>
   rw[y9,yM]
   cases hx:P x with
   | true=>rfl
   | false=>exact ih
 rw[<-k ps]
 conv=>rhs;rw[<-e]
 rw[List.findSome?_map];rfl
section
variable {n:Nat}{A:Nat->List Nat}{ap:Nat->Nat->Bool}
def Zmy (hA:∀p o,ap p o=decide (o∈A p)){p:Nat}(hp:p<n)(ps:List Nat)(hl:ps.length<=1000)(s:Pn):Zif [Xr n A,nD p,.lst (ps.map nD)] s=some (.lst ((ps.filter λo=>ap p o).map nD),s):=by
 have hc:=YU (src:=[none,some 0,some 1]) (fi:=ZV (Za 2)) (τ:=Zw 0) (ft:=asB (Ze YI (Za 0) (Ze Zl (Za 1) (Za 2)))) (fe:=Za 0) (ρ:=[some (Xr n A),some (nD p),some (.lst (ps.map nD))]) (s:=s) (ds:=ps.map nD) (λd=>[some d,some (Xr n A),some (nD p)]) (λd=>ap p (Yo d)) (λd=>d) (XH rfl) (by rw[qd,Yd];omega) (λd hd=>by
  obtain⟨x,hx,rfl⟩:=qu.mp hd;exact⟨rfl,Yc (Zu (d:=nD x) (e:=.dk (XF (A p))) rfl (Zu (d:=Xr n A) (e:=nD p) rfl rfl (Zmk hp)) (by rw[Zpu,<-hA];rfl)),λ_=>rfl⟩)
 rw[yp,qE]at hc;exact YS rfl (Ye (YO hc))
def Zp5 (hA:∀p o,ap p o=decide (o∈A p)){Fs:List D->M D}{p:Nat}(hp:p<n){ps r:List Nat}(hl:ps.length<=1000)(hr:r.length<=1000){s:Pn}(hF:Fs [Xr n A,Xi n,.lst ((Xb ap ps p).map nD)] s=some (.lst (r.map nD),s)):FHW Fs [Xr n A,Xi n,nD p,.lst (ps.map nD)] s=some (.lst ((p::r).map nD),s):=by
 have hc:=YU (src:=[none,some 2,some 0]) (fi:=ZV (Za 3)) (τ:=Zw 0) (ft:=XX (asB (Ze Xj (Za 0) (Za 1))) (asB (Ze Wa (Za 0) (Ze Zl (Za 2) (Za 1))))) (fe:=Za 0) (ρ:=[some (Xr n A),some (Xi n),some (nD p),some (.lst (ps.map nD)),none]) (s:=s) (ds:=ps.map nD) (λd=>[some d,some (nD p),some (Xr n A)]) (λd=>!decide (Yo d=p) && !ap p (Yo d)) (λd=>d) (XH rfl) (by rw[qd,Yd];omega) (λd hd=>by
  obtain⟨x,hx,rfl⟩:=qu.mp hd;refine⟨rfl,ZcV (Yc (Zu (d:=nD x) (e:=nD p) rfl rfl (JK x p))) λ_=>Yc (Zu (d:=nD x) (e:=.dk (XF (A p))) rfl (Zu (d:=Xr n A) (e:=nD p) rfl rfl (Zmk hp)) (by rw[Zkm,<-hA];rfl)),λ_=>rfl⟩)
 rw[yp,qE]at hc;have e:(ps.filter ((λd=>!decide (Yo d=p) && !ap p (Yo d))∘nD)).map ((λd=>d)∘nD)=(Xb ap ps p).map nD:=rfl;rw[e]at hc;refine YS rfl (YT (X9 hc) (Ye (YO (Zu (d:=.lst [nD p]) (e:=.lst (r.map nD)) (JE (Zh rfl rfl) (by show 1<=xg;decide)) (Z0 (Zh rfl (Zh rfl (Zh rfl rfl))) hF) ?_))));rw[ZnK (by rw[qd];simp;omega)];rfl
def Zc2:∀(m:Nat) (ps:List Nat),∀x∈Yx ap m ps,x∈ps
 | 0,ps,x,hx=>by simp[Yx]at hx
 | m+1,ps,x,hx=>by
  unfold Yx at hx;by_cases h0:ps=[]
  ·rw[if_pos h0]at hx;cases hx
  ·rw[if_neg h0]at hx
   have w:=λp (hp:p∈ps) (h:x∈p::Yx ap m (Xb ap ps p))=>show x∈ps from by
    rcases qm.mp h with e | h
    ·rw[e];exact hp
    ·exact(UR x (Zc2 m _ x h)).1
   split at hx
   ·rename_i p hp
    exact w _ (Zb7 hp).1 hx
   ·split at hx
    ·exact w _ (Zau h0) hx
    ·exact(qA.mp (Zc2 m _ x hx)).1
def Zbj (hA:∀p o,ap p o=decide (o∈A p))(s:Pn):∀(m:Nat) (ps:List Nat),ps.length<m->m<=100->(∀p∈ps,p<n)->Je m [Xr n A,Xi n,.lst (ps.map nD)] s=some (.lst ((Yx ap m ps).map nD),s)
 | 0,_,h,_,_=>by omega
 | m+1,ps,hl,hm,hn=>by
  have hpl:YG (ps.map nD)=true:=ZdQ ps;have hdp:Xx (ps.map nD)<=10:=by rw[ZiX];omega
  have heq:=Zpv (ps.map nD) hpl hdp;by_cases h0:ps=[]
  ·subst h0
   refine YS rfl (Ye (Vt (Yc (Zu (d:=.lst []) (e:=.lst []) rfl (JE rfl (zl _)) heq)) (Ye (YO (d:=.lst []) (JE rfl (zl _))))))
  ·have hf:decide (ps.map nD=[])=false:=by simpa using h0
   rw[hf]at heq;have hcs:ps.map (Xu ap ps)≠[]:=by simpa using h0
   have hc:=YU (src:=[none,some 0,some 2]) (fi:=ZV (Za 2)) (τ:=Zw 0) (ft:=Z3) (fe:=Zn Zif (Zc (Za 1) (Zc (Za 0) (Zc (Za 2) Zd)))) (ρ:=[some (Xr n A),some (Xi n),some (.lst (ps.map nD)),none,none,none,none,none,none]) (s:=s) (ds:=ps.map nD) (λd=>[some d,some (Xr n A),some (.lst (ps.map nD))]) (λ_=>true) (λd=>.lst ((ps.filter λo=>ap (Yo d) o).map nD)) (XH rfl) (by rw[qd,Yd];omega) (λd hd=>by
    obtain⟨x,hx,rfl⟩:=qu.mp hd;exact⟨rfl,rfl,λ_=>Z0 (Zh rfl (Zh rfl (Zh rfl rfl))) (Zmy hA (hn x hx) ps (by omega) s)⟩)
   rw[WV,qE]at hc;generalize hR:ps.map ((λd=>D.lst ((ps.filter λo=>ap (Yo d) o).map nD))∘nD)=R at hc;have kw:∀p,p∈ps->FHW (Je m) [Xr n A,Xi n,nD p,.lst (ps.map nD)] s=some (.lst ((p::Yx ap m (Xb ap ps p)).map nD),s):=λp hp=>by
    have hlt:=Zg1 (ap:=ap) hp;have hb:=Zc1 (ap:=ap) m (Xb ap ps p);exact Zp5 hA (hn p hp) (by omega) (by omega) (Zbj hA s m (Xb ap ps p) (by omega) (by omega) λx hx=>hn x (UR x hx).1)
   have hrow:∀i,i<ps.length->Zl (.lst R) (nD i)=some (.lst ((ps.filter λo=>ap (ps.getD i 0) o).map nD)):=λi hi=>by
    refine X8 ?_;rw[<-hR,qt,qf,qj hi];rfl
   have hpl2:∀i,i<ps.length->Zl (.lst (ps.map nD)) (nD i)=some (nD (ps.getD i 0)):=λi hi=>UU hi;have hgm:∀i,i<ps.length->ps.getD i 0∈ps:=λi hi=>by
    rw[qf,qj hi];exact zE hi
   have hfind:=Zcr (τ:=Zw 4) (body:=Zos (Je m)) (s:=s) (fun ρ=>∃o4,ρ=[some (Xr n A),some (Xi n),some (.lst (ps.map nD)),some (.lst R),o4,none,none,none,none]) (λi=>if decide (Xu ap ps (ps.getD i 0)<=1)=true then some (.lst ((ps.getD i 0::Yx ap m (Xb ap ps (ps.getD i 0))).map nD))else none) (qk ps.length) [some (Xr n A),some (Xi n),some (.lst (ps.map nD)),some (.lst R),none,none,none,none,none] ⟨none,rfl⟩ (λi hi ρ hρ=>by
    obtain⟨o4,rfl⟩:=hρ;have hi:=qB.mp hi;refine⟨_,rfl,?_⟩;have hcond:asB (Ze Jb (Zn VL (Zc (Za 1) (Zc (Ze Zl (Za 3) (Za 4)) Zd))) (Ze Zl (Za 1) (Ze Zl (Za 2) (Za 4)))) [some (Xr n A),some (Xi n),some (.lst (ps.map nD)),some (.lst R),some (nD i),none,none,none,none] s=some (decide (Xu ap ps (ps.getD i 0)<=1),s):=by
     refine Yc (Zu (Z0 (Zh rfl (Zh (Zu (d:=.lst R) (e:=nD i) rfl rfl (hrow i hi)) rfl)) (Za0 (λp hp=>hn p (qA.mp hp).1) (by have:=qZ (λo=>ap (ps.getD i 0) o) ps;omega) s)) (Zu (d:=Xi n) rfl (Zu (d:=.lst (ps.map nD)) (e:=nD i) rfl rfl (hpl2 i hi)) (Zi2 (hn _ (hgm i hi)))) ?_);show some (D.bl (decide (((ps.filter λo=>ap (ps.getD i 0) o).length:Int)<=(1:Int))))=_;congr 2;exact decide_eq_decide.mpr (by unfold Xu;omega)
    by_cases hq:Xu ap ps (ps.getD i 0)<=1
    ·rw[decide_eq_true hq]at hcond⊢
     rw[if_pos rfl];exact Ye (Vt hcond (Ye (YO (Z0 (Zh rfl (Zh rfl (Zh (Zu (d:=.lst (ps.map nD)) (e:=nD i) rfl rfl (hpl2 i hi)) (Zh rfl rfl)))) (kw _ (hgm i hi))))))
    ·rw[decide_eq_false hq]at hcond⊢
     rw[if_neg zZ];exact⟨_,YT (VS hcond rfl) rfl,some (nD i),rfl⟩)
   rw[Zig (λp=>decide (Xu ap ps p<=1)) (λp=>.lst ((p::Yx ap m (Xb ap ps p)).map nD)) ps]at hfind;have hit:Z8 (ZE Yw (Zc (Za 2) Zd)) [some (Xr n A),some (Xi n),some (.lst (ps.map nD)),some (.lst R),none,none,none,none,none] s=some ((qk ps.length).map nD,s):=by
    have:=XG (f:=ZE Yw (Zc (Za 2) Zd)) (ρ:=[some (Xr n A),some (Xi n),some (.lst (ps.map nD)),some (.lst R),none,none,none,none,none]) (s:=s) (n:=ps.length) (Yi (Zh rfl rfl) (Zkh ps)) (by omega);rw[VN]at this;exact this
   unfold Yx;rw[if_neg h0];refine YS rfl (YT (VS (Yc (Zu (d:=.lst (ps.map nD)) (e:=.lst []) rfl (JE rfl (zl _)) heq)) rfl) (YT (X9 hc) ?_));show Zg _ _ [some (Xr n A),some (Xi n),some (.lst (ps.map nD)),some (.lst R),none,none,none,none,none] s=_
   cases ho:one? ap ps with
   | some p=>
    have ho':ps.find? (λp=>decide (Xu ap ps p<=1))=some p:=ho;rw[ho']at hfind;exact Ye (ZcW hit hfind)
   | none=>
    have ho':ps.find? (λp=>decide (Xu ap ps p<=1))=none:=ho;rw[ho']at hfind;obtain⟨ρ2,hf2,o4,rfl⟩:=hfind;refine YT (ZcW hit hf2) ?_;have hmax:=Zml hcs;have hp1:=Zau (ap:=ap) h0;have hix:Zl (.lst (ps.map nD)) (nD ((ps.map (Xu ap ps)).idxOf (Wz (ps.map (Xu ap ps)))))=some (nD (Yu ap ps)):=UU (by
     have:=qaA.mpr (Zib hcs);simpa using this)
    have hcc:=YU (src:=[none]) (fi:=ZV (Za 3)) (τ:=Zw 0) (ft:=Z3) (fe:=ZE Yw (Zc (Za 0) Zd)) (ρ:=[some (Xr n A),some (Xi n),some (.lst (ps.map nD)),some (.lst R),o4,none,none,none,none]) (s:=s) (ds:=R) (λd=>[some d]) (λ_=>true) (λd=>match d with | .lst l=>nD l.length | _=>.non) (XH rfl) (by rw[<-hR,qd,Yd];omega) (λd hd=>by
     rw[<-hR]at hd;obtain⟨x,hx,rfl⟩:=qu.mp hd;exact⟨rfl,rfl,λ_=>Yi (Zh rfl rfl) rfl⟩)
    rw[WV,<-hR,qE]at hcc;have e5:ps.map ((λd=>match d with | .lst l=>nD l.length | _=>D.non)∘((λd=>D.lst ((ps.filter λo=>ap (Yo d) o).map nD))∘nD))=(ps.map (Xu ap ps)).map nD:=by
     rw[qE];refine zt λx _=>?_;show nD ((ps.filter λo=>ap x o).map nD).length=nD (Xu ap ps x);rw[qd];rfl
    rw[e5,hR]at hcc;have hwo:=ZdT hp1;have ih2:=Zbj hA s m (ps.filter λo=>!decide (o=Yu ap ps)) (by omega) (by omega) λx hx=>hn x (qA.mp hx).1;have hc2:=YU (src:=[none,some 6]) (fi:=ZV (Za 2)) (τ:=Zw 0) (ft:=asB (Ze Xj (Za 0) (Za 1))) (fe:=Za 0) (ρ:=[some (Xr n A),some (Xi n),some (.lst (ps.map nD)),some (.lst R),o4,some (.lst ((ps.map (Xu ap ps)).map nD)),some (nD (Yu ap ps)),some (.lst ((Yu ap ps::Yx ap m (Xb ap ps (Yu ap ps))).map nD)),none]) (s:=s) (ds:=ps.map nD) (λd=>[some d,some (nD (Yu ap ps))]) (λd=>!decide (Yo d=Yu ap ps)) (λd=>d) (XH rfl) (by rw[qd,Yd];omega) (λd hd=>by
     obtain⟨x,hx,rfl⟩:=qu.mp hd;exact⟨rfl,Yc (Zu (d:=nD x) (e:=nD (Yu ap ps)) rfl rfl (JK _ _)),λ_=>rfl⟩)
    have e2:((ps.map nD).filter λd=>!decide (Yo d=Yu ap ps)).map (λd=>d)=(ps.filter λo=>!decide (o=Yu ap ps)).map nD:=by rw[yp,qE];rfl
    rw[e2]at hc2;have bl1:=Zc1 (ap:=ap) m (Xb ap ps (Yu ap ps));have bl2:=Zc1 (ap:=ap) m (ps.filter λo=>!decide (o=Yu ap ps));have w1:=Za0 (n:=n) (ps:=Yu ap ps::Yx ap m (Xb ap ps (Yu ap ps))) (λp hp=>by
     rcases qm.mp hp with e | hp
     ·rw[e];exact hn _ hp1
     ·exact hn p (UR p (Zc2 m _ p hp)).1) (by simp only[qN];omega) s
    have w2:=Za0 (n:=n) (ps:=Yx ap m (ps.filter λo=>!decide (o=Yu ap ps))) (λp hp=>hn p (qA.mp (Zc2 m _ p hp)).1) (by omega) s;refine YT (X9 hcc) (YT (X9 (Zu (d:=.lst (ps.map nD)) rfl (Zu (d:=.lst ((ps.map (Xu ap ps)).map nD)) rfl (Yi (Zh rfl rfl) hmax) (Zic (Zib hcs))) hix)) (YT (X9 (Z0 (Zh rfl (Zh rfl (Zh rfl (Zh rfl rfl)))) (kw _ hp1))) (YT (X9 (Z0 (Zh rfl (Zh rfl (Zh hc2 rfl))) ih2)) (Ye (YO ?_)))));have hge:=geN (Yu ap ps::Yx ap m (Xb ap ps (Yu ap ps))).length (Yx ap m (ps.filter λo=>!decide (o=Yu ap ps))).length;have ht:=Yc (Zu (g:=Jc) (ρ:=[some (Xr n A),some (Xi n),some (.lst (ps.map nD)),some (.lst R),o4,some (.lst ((ps.map (Xu ap ps)).map nD)),some (nD (Yu ap ps)),some (.lst ((Yu ap ps::Yx ap m (Xb ap ps (Yu ap ps))).map nD)),some (.lst ((Yx ap m (ps.filter λo=>!decide (o=Yu ap ps))).map nD))]) (s:=s) (Z0 (F:=VL) (fs:=Zc (Za 1) (Zc (Za 7) Zd)) (Zh rfl (Zh rfl rfl)) w1) (Z0 (F:=VL) (fs:=Zc (Za 1) (Zc (Za 8) Zd)) (Zh rfl (Zh rfl rfl)) w2) hge);generalize hX:Yu ap ps::Yx ap m (Xb ap ps (Yu ap ps))=X at ht⊢;generalize hY:Yx ap m (ps.filter λo=>!decide (o=Yu ap ps))=Y at ht⊢;have hfin:∀ρ:Zb,(ρ[7]?).bind id=some (.lst (X.map nD))->(ρ[8]?).bind id=some (.lst (Y.map nD))->asB (Ze Jc (Zn VL (Zc (Za 1) (Zc (Za 7) Zd))) (Zn VL (Zc (Za 1) (Zc (Za 8) Zd)))) ρ s=some (decide (Y.length<=X.length),s)->B5 (asB (Ze Jc (Zn VL (Zc (Za 1) (Zc (Za 7) Zd))) (Zn VL (Zc (Za 1) (Zc (Za 8) Zd))))) (Za 7) (Za 8) ρ s=some (.lst ((if Y.length<=X.length then X else Y).map nD),s):=fun ρ h7 h8 ht=>by
     unfold B5 Zq;rw[ht];by_cases hq:Y.length<=X.length
     ·simp only[hq,decide_true,if_true]
      unfold Za YQ;rw[h7]
     ·simp only[hq,decide_false,if_false,yh]
      unfold Za YQ;rw[h8]
    exact hfin _ rfl rfl ht
end
def We (n:Nat)(jK:Qa):List Nat:=JL n (Yx (tied (Yn n jK)) 26 (qk n))
def gHK:Zb->M Out:=(Zg (ZT 2 (ZR [none] (ZV (Zn (runB 2 1 gN) (Zc (Zn Ua (Zc (Za 0) Zd)) Zd))) (Zw 0) Z3 (ZE JD (Zc (ZR [none] (ZV (Za 0)) (Zw 0) Z3 (ZW (Zc (Za 0) (Zc (dC (.bl true)) Zd)))) Zd))))
 (Zg (ZK (ZE UX (Zc (ZE Jy (Zc (Zn (Je 26) (Zc (Za 2) (Zc (Za 1) (Zc (Vj (Ze Zl (Za 0) (dC (.int 0)))) Zd)))) Zd)) Zd)))
 Zo))
def Zbk {n:Nat}{jK:Qa}(hw:IsWeb n jK)(hn:n<=24):We n jK∈kn jK n/\∀K∈kn jK n,K.length<=(We n jK).length:=by
 have sy:∀a b,tied (Yn n jK) a b=tied (Yn n jK) b a:=Us _;have hk:=Zb8 sy 26 (qk n);have hlt:∀x∈Yx (tied (Yn n jK)) 26 (qk n),x<n:=λx hx=>qB.mp (hk.sub x hx);have hp:=Zbi hk.nd hlt;constructor
 ·refine Uw.mpr ⟨ZcE _ _,λo ho=>hlt o (hp.mem_iff.mp ho),λa ha b hb ne=>?_⟩
  have ha':=hp.mem_iff.mp ha;have hb':=hp.mem_iff.mp hb;have:=hk.two a ha' b hb' ne
  cases h:tied jK a b with
  | true=>rfl
  | false=>
   have:=Bs.mpr ⟨hlt a ha',hlt b hb',ne,h⟩;simp_all
 ·intro K hK
  obtain⟨h1,h2,h3⟩:=Uw.mp hK;have:=ZdZ sy Zmm 26 (qk n) K (by rw[qG];omega) ⟨ZdR h1,λx hx=>qB.mpr (h2 x hx),λx hx y hy ne=>by
   cases h:tied (Yn n jK) x y with
   | false=>rfl
   | true=>
    have h4:=(Bs.mp h).2.2.2;rw[h3 x hx y hy ne]at h4;cases h4⟩
  have e:=hp.length_eq;show K.length<=(JL n _).length;omega
def Zd0 {n:Nat}{jK:Qa}:(We n jK).length<=n:=by
 have:=qZ (λx=>decide (x∈Yx (tied (Yn n jK)) 26 (qk n))) (qk n);rw[qG]at this;exact this
def Zmz (n:Nat)(jK:Qa)(hn:n<=24)(hl:jK.length<=100000)(s:Pn):runB 3 2 gHK [ZH n jK,Xi n] s=some (ZP (We n jK),s):=by
 have sy:∀a b,tied (Yn n jK) a b=tied (Yn n jK) b a:=Us _;have hk:=Zb8 sy 26 (qk n);have hlt:∀x∈Yx (tied (Yn n jK)) 26 (qk n),x<n:=λx hx=>qB.mp (hk.sub x hx);have hp:=Zbi hk.nd hlt;have htl:=(Ze3 n jK).len hn;have hc:=YU (src:=[none]) (fi:=ZV (Zn (runB 2 1 gN) (Zc (Zn Ua (Zc (Za 0) Zd)) Zd))) (τ:=Zw 0) (ft:=Z3) (fe:=ZE JD (Zc (ZR [none] (ZV (Za 0)) (Zw 0) Z3 (ZW (Zc (Za 0) (Zc (dC (.bl true)) Zd)))) Zd)) (ρ:=[some (ZH n jK),some (Xi n),none]) (s:=s) (ds:=(qk n).map λp=>D.lst ((Yk n (Yn n jK) p).map nD)) (λd=>[some d]) (λ_=>true) (λd=>match d with | .lst ds=>.dk (XF (ds.map Yo)) | _=>.non)
  (XH (Z0 (Zh (Z0 (Zh rfl rfl) (ZdY n jK s (by omega) hl)) rfl) (Zb6 n (Yn n jK) (by omega) (by omega) s))) (by rw[qd,qG,Yd];omega) (λd hd=>by
  obtain⟨p,hp,rfl⟩:=qu.mp hd;refine⟨rfl,rfl,λ_=>?_⟩;have hnl:(Yk n (Yn n jK) p).length<=n:=by
   have:=qZ (λo=>tied (Yn n jK) p o) (qk n);rw[qG]at this;exact this
  have hc2:=YU (src:=[none]) (fi:=ZV (Za 0)) (τ:=Zw 0) (ft:=Z3) (fe:=ZW (Zc (Za 0) (Zc (dC (.bl true)) Zd))) (ρ:=[some (D.lst ((Yk n (Yn n jK) p).map nD))]) (s:=s) (ds:=(Yk n (Yn n jK) p).map nD) (λd=>[some d]) (λ_=>true) (λd=>D.tup [d,.bl true]) (XH rfl) (by rw[qd,Yd];omega) (λd hd=>⟨rfl,rfl,λ_=>Wc (Zh rfl (Zh rfl rfl)) two_le⟩);rw[WV,qE]at hc2;refine Yi (Zh hc2 rfl) ?_;show(if ((Yk n (Yn n jK) p).map ((λd=>D.tup [d,.bl true])∘nD)).length<=xg then (Wg [] _).map D.dk else none)=_;rw[if_pos (by rw[qd,Yd];omega)];have e:=Zmj (Yk n (Yn n jK) p) [] (zM.sublist zD) λ_ _=>rfl;show(Wg [] ((Yk n (Yn n jK) p).map λo=>D.tup [nD o,.bl true])).map D.dk=_;rw[e];show some (D.dk (XF (Yk n (Yn n jK) p)))=some (D.dk (XF (((Yk n (Yn n jK) p).map nD).map Yo)));rw[qE];have:(Yk n (Yn n jK) p).map (Yo∘nD)=Yk n (Yn n jK) p:=qb0 _;rw[this])
 rw[WV,qE]at hc;have e1:(qk n).map ((λd=>match d with | .lst ds=>D.dk (XF (ds.map Yo)) | _=>.non)∘λp=>D.lst ((Yk n (Yn n jK) p).map nD))=(qk n).map λp=>.dk (XF (Yk n (Yn n jK) p)):=by
  refine zt λp _=>?_;show D.dk (XF (((Yk n (Yn n jK) p).map nD).map Yo))=_;rw[qE];have:(Yk n (Yn n jK) p).map (Yo∘nD)=Yk n (Yn n jK) p:=qb0 _;rw[this]
 rw[e1]at hc;have hb:=Zbj (n:=n) (A:=Yk n (Yn n jK)) (ap:=tied (Yn n jK)) Zer s 26 (qk n) (by rw[qG];omega) (by omega) λp hp=>qB.mp hp;have hlr:Vj (Ze Zl (Za 0) (dC (.int 0))) [some (ZH n jK),some (Xi n),some (Xr n (Yk n (Yn n jK)))] s=some (.lst ((qk n).map nD),s):=by
  unfold Vj Zq;rw[Zu (d:=ZH n jK) (e:=.int 0) rfl rfl Uk];show(if -(2 ^ 62)<=(n:Int)/\(n:Int)<=2 ^ 24 then ZA (D.lst (Yb 0 (n:Int).toNat))else Zv) s=_;rw[if_pos ⟨by omega,by omega⟩,zG,VN];rfl
 have hbl:=Zc1 (ap:=tied (Yn n jK)) 26 (qk n);have hs:=Zkn hk.nd hlt (by omega);exact YS rfl (YT (X9 hc) (Ye (YO (Yi (c:=ZP (We n jK)) (Zh (Yi (Zh (Z0 (Zh rfl (Zh rfl (Zh hlr rfl))) hb) rfl) hs) rfl) rfl))))
def Zkt (n:Nat)(hn:n<=1000):ZiQ (.tup [nD 1]) (nD n)=some (Xi n):=by
 show(if (n:Int)=1 then some (D.tup [nD 1])else if (n:Int)=0/\[nD 1]≠[]then some (.tup [])else JR (.tup [nD 1]) (.int (n:Int)))=_;by_cases h1:n=1
 ·subst h1;rw[if_pos (by omega)];rfl
 ·rw[if_neg (by omega)]
  by_cases h0:n=0
  ·subst h0;rw[if_pos ⟨by omega,by simp⟩];rfl
  ·rw[if_neg (by omega)]
   show(if [nD 1]≠[]/\2<=(n:Int)/\(n:Int)<2 ^ 62/\[nD 1].length*(n:Int).toNat<=xg then some (D.tup (qw (n:Int).toNat [nD 1]).flatten)else none)=_;rw[if_pos ⟨by simp,by omega,by omega,by simp only[zW,zG,Yd];omega⟩,zG,List.flatten_replicate_singleton]
def Zku {n:Nat}{jK:Qa}(hw:IsWeb n jK)(hn:n<=24):(BW n jK).length=(We n jK).length:=by
 obtain⟨a1,a2⟩:=ZbM hw hn;obtain⟨b1,b2⟩:=Zbk hw hn;have:=a2 _ b1;have:=b2 _ a1;omega
end TQ
namespace TP3
open L2 TF TP TS
open TP2
abbrev om (n:Nat)(jK:Qa):Nat:=(BW n jK).length
section
variable {n:Nat}{jK:Qa}
def Zp6 (hw:IsWeb n jK)(hn:n<=24){K:List Nat}(h:K∈kn jK n):K.length<=om n jK:=(ZbM hw hn).2 K h
def VH (n:Nat)(p:Nat->Bool):List Nat:=(qk n).filter p
def Zd1 (n:Nat)(p:Nat->Bool):(VH n p).Pairwise (· < ·):=(range_rise n).sublist zD
def Vn {p:Nat->Bool}{x:Nat}:x∈VH n p↔x<n/\p x=true:=by unfold VH;rw[qA,qB]
def ZnN (n:Nat)(p:Nat->Bool):(VH n p).length<=n:=by
 have:=qZ p (qk n);rw[qG]at this;exact this
end
end TP3
namespace TQ
open L2 TF TS
open TP
open TP2
open TP3
def Zot (n:Nat)(jK:Qa)(hn:n<=1000)(hl:jK.length<=100000)(s:Pn):Ur [ZH n jK] s=some (Xo n jK,s):=Zb6 n jK hn hl s
def Zou:∀m,UN m=Je m
 | 0=>rfl
 | m+1=>by
  show runB 9 3 (Zah (UN m))=runB 9 3 (gHA (Je m));rw[Zou m];rfl
def Zp7:Bb=runB 3 2 gHK:=by
 unfold Bb Za2;rw[Zou];rfl
def ZmA (n:Nat)(jK:Qa)(hn:n<=24)(hl:jK.length<=100000)(s:Pn):Vq [ZH n jK] s=some (.tup [nD (We n jK).length,ZP (We n jK)],s):=by
 have h:=Zmz n jK hn hl s;rw[<-Zp7]at h;exact YS rfl (YT (X9 (Z0 (Zh rfl (Zh (Zu (Wc (ds:=[nD 1]) (Zh rfl rfl) (by show 1<=xg;decide)) (Zu (d:=ZH n jK) (e:=.int 0) rfl rfl Uk) (Zkt n (by omega))) rfl)) h)) (Ye (YO (Wc (ds:=[nD (We n jK).length,ZP (We n jK)]) (Zh (Yi (Zh rfl rfl) (by show some (D.int _)=_;rw[qd])) (Zh rfl rfl)) two_le))))
def Zd2 {n:Nat}{jK:Qa}(hw:IsWeb n jK)(hn:n<=24)(s:Pn):Vq [ZH n jK] s=some (.tup [nD (om n jK),ZP (We n jK)],s):=by
 have hl:=hw.len hn;have h:=ZmA n jK hn (by omega) s;rw[<-Zku hw hn]at h;exact h
def ZnO {n:Nat}{jK:Qa}(hw:IsWeb n jK)(hn:n<=8)(s:Pn):Bd [ZH n jK] s=some (.tup [nD (XT n jK),ZP (UE n jK)],s):=by
 have htl:=hw.len (by omega:n<=24);have hm:=Zd2 hw (by omega) s;have hon:∀many≤1000,∀(ρ:Zb),(ρ[1]?).bind id=some (Xo n jK)->(ρ[2]?).bind id=some (nD many)->Zn (V8 10) (Zc (Za 1) (Zc (Za 2) (Zc (ZW Zd) Zd))) ρ s=some (optT (YR jK many n []),s):=λmany hmany ρ h1 h2=>
  Z0 (ds:=[Xo n jK,nD many,ZP []]) (Zh (by unfold Za YQ;rw[h1]) (Zh (by unfold Za YQ;rw[h2]) (Zh (Wc rfl (by decide)) rfl))) (ZdW (by omega) many hmany s n 10 [] (by simp) (by omega))
 obtain⟨c1,c2,c3⟩:=ZdU n jK;obtain⟨f1,f2,f3,f4⟩:=ZdV n jK;have hmc:om n jK<=XT n jK:=ZcG hw (by omega:n<=24);apply jy;refine Ok.runB rfl ?_;refine Ok.seq (.sset (.eq (Z0 (Zh rfl rfl) (Zot n jK (by omega) (by omega) s)) ?_));refine Ok.seq (.sset (.eq (Zu (d:=.tup [nD (om n jK),ZP (We n jK)]) (e:=.int 0) (Z0 (Zh rfl rfl) hm) rfl (Ug _ _)) ?_));refine Ok.seq (.sset (.eq (hon _ (by omega) _ rfl rfl) ?_));refine Ok.seq (.swhile (λm ρ s'=>s'=s/\∃k,m+k=XT n jK/\ρ=[some (ZH n jK),some (Xo n jK),some (nD k),some (optT (YR jK k n []))]) (XT n jK-om n jK) (by omega) ⟨rfl,om n jK,by omega,rfl⟩ λm ρ s' hI=>?_);obtain⟨rfl,k,hk,rfl⟩:=hI
 cases m with
 | zero=>
  have:k=XT n jK:=by omega
  subst this;rw[f1];refine .eq (a:=false) (Yc (Zu (d:=ZP (UE n jK)) (e:=.non) (c:=.bl false) rfl rfl rfl)) ?_;rw[if_neg (by decide)];exact Ok.seq (.sret (.eq (Zfq rfl rfl) ⟨rfl,rfl⟩))
 | succ m=>
  rw[c3 k (by omega)];refine .eq (a:=true) (Yc (Zu (d:=.non) (e:=.non) (c:=.bl true) rfl rfl rfl)) ?_;rw[if_pos rfl];have ha:sAug 2 (Y6 true (dC (.int 1))) [some (ZH n jK),some (Xo n jK),some (nD k),some .non] s'=some (.nx [some (ZH n jK),some (Xo n jK),some (nD (k+1)),some .non],s'):=rfl;refine Ok.seq (.eq ha ?_);refine Ok.seq (.sset (.eq (hon (k+1) (by omega) _ rfl rfl) (.next ⟨m,by omega,rfl,k+1,by omega,rfl⟩)))
def ZnP {n:Nat}{jK:Qa}{p:Nat}{qs:List Nat}{f:Nat->Nat}(hn:n<=24)(hpn:p<n)(hp:p∉qs)(hq:∀q∈qs,q<n)(hl:qs.length<=1000)(o1:Option D)(s:Pn) :
  (JS 3 (fun ρ=>(Za 4) (Yq [3] ρ)) (Y6 true (Zn Jj (Zc (ZR [none,some 3] (ZV (Ze Zl (Za 2) (Za 4))) (Zw 0) (asB (Ze YI (Za 0) (Za 1))) (Ze VD (Za 1) (Za 0))) Zd)))) [some (ZH n jK),o1,some (Xo n jK),some (.dk (Y2 qs f)),some (nD p)] s
   = some (.nx [some (ZH n jK),o1,some (Xo n jK),some (.dk (Y2 (qs ++ [p]) λx=>if x=p then XS ((qs.filter λo=>tied jK p o).map f)else f x)),some (nD p)],s):=by
 have hc:=YU (src:=[none,some 3]) (fi:=ZV (Ze Zl (Za 2) (Za 4))) (τ:=Zw 0) (ft:=asB (Ze YI (Za 0) (Za 1))) (fe:=Ze VD (Za 1) (Za 0)) (ρ:=[some (ZH n jK),o1,some (Xo n jK),some (.dk (Y2 qs f)),some (nD p)]) (s:=s) (ds:=(Yk n jK p).map nD) (λd=>[some d,some (.dk (Y2 qs f))]) (λd=>decide (Yo d∈qs)) (λd=>nD (f (Yo d)))
  (XH (Zu (d:=Xo n jK) (e:=nD p) rfl rfl (Zi1 hpn))) (by
   have:=qZ (λo=>tied jK p o) (qk n);rw[qd,Yd];rw[qG]at this;show(Yk n jK p).length<=_;unfold Yk;omega) (λd hd=>by
  obtain⟨x,hx,rfl⟩:=qu.mp hd;exact⟨rfl,Yc (Zu (d:=nD x) (e:=.dk (Y2 qs f)) rfl rfl (Zpt qs f x)),λhb=>Zu (d:=.dk (Y2 qs f)) (e:=nD x) rfl rfl (Zmi (of_decide_eq_true hb))⟩)
 have e:(((Yk n jK p).map nD).filter λd=>decide (Yo d∈qs)).map (λd=>nD (f (Yo d)))=(((Yk n jK p).filter λo=>decide (o∈qs)).map f).map nD:=by
  rw[yp,qE,qE];rfl
 rw[e]at hc;have jT:(((Yk n jK p).filter λo=>decide (o∈qs)).map f).length<=1000:=by
  rw[qd];have h1:=qZ (λo=>decide (o∈qs)) (Yk n jK p);have h2:=qZ (λo=>tied jK p o) (qk n);rw[qG]at h2;unfold Yk at h1;unfold Yk;omega
 have hm:XS (((Yk n jK p).filter λo=>decide (o∈qs)).map f)=XS ((qs.filter λo=>tied jK p o).map f):=Ze1 λx=>by
  simp only[Yk,qu,qA,qB,decide_eq_true_eq];constructor
  ·rintro⟨a,⟨⟨_,h2⟩,h3⟩,rfl⟩;exact⟨a,⟨h3,h2⟩,rfl⟩
  ·rintro⟨a,⟨h3,h2⟩,rfl⟩;exact⟨a,⟨⟨hq a h3,h2⟩,h3⟩,rfl⟩
 have hf:=Zeq (((Yk n jK p).filter λo=>decide (o∈qs)).map f) jT s;rw[hm]at hf;have hv:(Y6 true (Zn Jj (Zc (ZR [none,some 3] (ZV (Ze Zl (Za 2) (Za 4))) (Zw 0) (asB (Ze YI (Za 0) (Za 1))) (Ze VD (Za 1) (Za 0))) Zd))) [some (ZH n jK),o1,some (Xo n jK),some (.dk (Y2 qs f)),some (nD p)] s=some (nD (XS ((qs.filter λo=>tied jK p o).map f)),s):=ZkY (Z0 (Zh hc rfl) hf) rfl;rw[ZnH hv (x:=nD p) rfl (kvs:=Y2 qs f) rfl rfl rfl (by unfold Y2;rw[qd,Yd];omega),ZnG hp];rfl
def ZmB (n:Nat)(jK:Qa)(hw:IsWeb n jK)(hn:n<=24){ps:List Nat}(hp:ps.Perm (qk n))(s:Pn):Bf [ZH n jK,.lst (ps.map nD)] s=some (ZP (Wt n jK ps),s):=by
 have nd:ps.Nodup:=hp.nodup_iff.mpr zM;have hl:ps.length=n:=by rw[hp.length_eq,qG]
 have hlt:∀q∈ps,q<n:=λq hq=>qB.mp (hp.mem_iff.mp hq);have hlt2:=hw.len hn;refine jy (Ok.runB rfl (Ok.seq (.sset (.eq (Z0 (Zh rfl rfl) (Zot n jK (by omega) (by omega) s)) (Ok.seq (Ok.sown (.eq (a:=.dk []) rfl ⟨rfl,?_⟩)))))));refine Ok.seq (.sfor (λk ρ s'=>s'=s/\k<=ps.length/\∃o3,ρ=[some (ZH n jK),some (.lst (ps.map nD)),some (Xo n jK),some (.dk (Y2 (ps.take k) (hr jK (ps.take k).reverse))),o3]) (.eq (a:=ps.map nD) (s':=s) (XH rfl) ⟨⟨rfl,zl _,none,by rw[List.take_zero];rfl⟩,λk d ρ s' hd hI=>?_,fun ρ' s' hI=>?_⟩))
 ·obtain⟨rfl,_,o3,rfl⟩:=hI
  rw[qt]at hd
  cases e:ps[k]? with
  | none=>rw[e]at hd;cases hd
  | some p=>
   rw[e]at hd
   cases hd
   refine⟨_,rfl,Ok.seq (.eq (ZnP (f:=hr jK (ps.take k).reverse) hn (hlt p (z9 e)) (Zia nd e) (λq hq=>hlt q (List.take_subset _ _ hq)) (by rw[z0];omega) _ s') (.next ⟨_,rfl,rfl,?_,some (nD p),?_⟩))⟩
   ·have:=(qM.mp e).1;omega
   ·rw[ZnI jK e,Zcp e]
 ·obtain⟨rfl,_,o3,rfl⟩:=hI
  rw[qd,yw];have hc:=YU (src:=[none,some 3]) (fi:=Z8 (Ze Zl (Za 0) (dC (.int 0)))) (τ:=Zw 0) (ft:=Z3) (fe:=Ze VD (Za 1) (Za 0)) (ρ:=[some (ZH n jK),some (.lst (ps.map nD)),some (Xo n jK),some (.dk (Y2 ps (hr jK ps.reverse))),o3]) (s:=s') (ds:=Yb 0 n) (λd=>[some d,some (.dk (Y2 ps (hr jK ps.reverse)))]) (λ_=>true) (λd=>nD (hr jK ps.reverse (Yo d)))
   (XG (Zu (d:=ZH n jK) (e:=.int 0) rfl rfl Uk) (by omega)) (by rw[Xm,Yd];omega) (λd hd=>by
   obtain⟨i,hi,rfl⟩:=V7 hd;exact⟨rfl,rfl,λ_=>Zu (d:=.dk (Y2 ps (hr jK ps.reverse))) (e:=nD i) rfl rfl (Zmi (hp.mem_iff.mpr (qB.mpr hi)))⟩)
  rw[WV,VN,qE]at hc;refine Ok.seq (.sret (.eq (Yi (Zh hc rfl) (c:=ZP (Wt n jK ps)) ?_) ⟨rfl,rfl⟩));show some (D.tup _)=some (D.tup _);unfold Wt;rw[qE];rfl
section
variable {jK:Qa}{ws:List Wb}
end
section
variable {n m:Nat}{t1 t2 T:Qa}
end
end TQ
namespace TF
open L2
section
variable {X:Cx}{G:Gh}
end
section
variable {X:Cx}{G:Gh}
end
end TF
namespace TQ
open L2 TF TQ
open TP
open TP2
open TP3
end TQ
namespace TQ
open L2 TF TS
open TP
open TP2
open TP3
section
variable {jK:Qa}
def Zi4 (p:Nat)(b:List Nat):hr jK (p::b) p=XS ((b.filter λo=>tied jK p o).map (hr jK b)):=by
 show(if p=p then _ else _)=_;rw[if_pos rfl]
def Zc3 {p x:Nat}{b:List Nat}(h:x≠p):hr jK (p::b) x=hr jK b x:=by
 show(if x=p then _ else _)=_;rw[if_neg h]
def Zg7:∀{qs:List Nat},qs.Nodup->∀x∈qs,∀y∈qs,x≠y->tied jK x y=true->hr jK qs x≠hr jK qs y
 | [],_,x,hx,_,_,_,_=>by simp at hx
 | p::b,nd,x,hx,y,hy,ne,ht=>by
  have nd':=zC.mp nd;have key:∀z∈b,tied jK p z=true->hr jK (p::b) p≠hr jK (p::b) z:=λz hz hp=>by
   have hzp:z≠p:=λe=>nd'.1 (e▸hz);rw[Zi4,Zc3 hzp];intro e;exact(Bz _).1 (by rw[e];exact qu.mpr ⟨z,qA.mpr ⟨hz,hp⟩,rfl⟩)
  by_cases ex:x=p
  ·subst ex
   have hy':y∈b:=(qm.mp hy).resolve_left λz=>ne z.symm;exact key y hy' ht
  ·have hx':x∈b:=(qm.mp hx).resolve_left ex
   by_cases ey:y=p
   ·subst ey
    exact(key x hx' (by rw[Us];exact ht)).symm
   ·have hy':y∈b:=(qm.mp hy).resolve_left ey
    rw[Zc3 ex,Zc3 ey];exact Zg7 nd'.2 x hx' y hy' ne ht
def Zov:∀{qs:List Nat},∀x∈qs,hr jK qs x<qs.length
 | [],x,hx=>by simp at hx
 | p::b,x,hx=>by
  by_cases ex:x=p
  ·subst ex
   rw[Zi4];have h1:=Zps ((b.filter λo=>tied jK x o).map (hr jK b));have h2:=qZ (λo=>tied jK x o) b;rw[qd]at h1;rw[qN];omega
  ·have hx':x∈b:=(qm.mp hx).resolve_left ex
   rw[Zc3 ex,qN];have:=Zov x hx';omega
variable {n:Nat}{ps:List Nat}
def Zkv:(Wt n jK ps).length=n:=by unfold Wt;simp
def Zbs {i:Nat}(h:i<n):(Wt n jK ps).getD i 0=hr jK ps.reverse i:=by
 unfold Wt;rw[qf,qt,zT h];rfl
def Zi5 (hp:ps.Perm (qk n)):ps.reverse.Nodup/\(∀i,i∈ps.reverse↔i<n)/\ps.reverse.length=n:=
 ⟨(List.reverse_perm ps).nodup_iff.mpr (hp.nodup_iff.mpr zM),λi=>by rw[yJ,hp.mem_iff,qB],by rw[qbb,hp.length_eq,qG]⟩
def Zg8 (hp:ps.Perm (qk n)){a b:Nat}(ha:a<n)(hb:b<n)(ne:a≠b)(ht:tied jK a b=true):(Wt n jK ps).getD a 0≠(Wt n jK ps).getD b 0:=by
 obtain⟨nd,mm,_⟩:=Zi5 hp;rw[Zbs ha,Zbs hb];exact Zg7 nd a ((mm a).mpr ha) b ((mm b).mpr hb) ne ht
def ZmC (hp:ps.Perm (qk n)){a:Nat}(ha:a<n):(Wt n jK ps).getD a 0<n:=by
 obtain⟨nd,mm,ll⟩:=Zi5 hp;rw[Zbs ha];have:=Zov (jK:=jK) a ((mm a).mpr ha);omega
structure RightH (n:Nat)(jK:Qa)(f:List Nat):Prop where
 len:f.length=n
 lt:∀a<n,f.getD a 0<n
 ri:∀a<n,∀b<n,a≠b->tied jK a b=true->f.getD a 0≠f.getD b 0
def Zb9 (hp:ps.Perm (qk n)):RightH n jK (Wt n jK ps):=⟨Zkv,λa ha=>ZmC hp ha,λa ha b hb ne ht=>Zg8 hp ha hb ne ht⟩
def RightH.hueB {f:List Nat}(R:RightH n jK f)(hw:IsWeb n jK):hueB n jK (ZP f)=true:=by
 rw[Zkp hw R.len,qV,zj,zj];constructor
 ·intro y hy
  obtain⟨i,hi,rfl⟩:=qa9.mp hy;have:=R.lt i (by rw[<-R.len];exact hi);rw[qf,qj hi]at this;exact decide_eq_true this
 ·intro p hp
  obtain⟨q1,q2⟩:=hw.mem hp;have:=R.ri p.1 (by omega) p.2 q2 (by omega) (by rw[Zg2,qbT (by omega),qa0 (by omega)];exact hp);simpa using this
end
end TQ
namespace TF
open L2
section
variable {X:Cx}{G:Gh}{f:Zb->M D}
end
end TF
namespace TQ
open L2 TF TS
open TP
open TP2
open TP3
section
variable (ap:Nat->Nat->Bool)(W:List Nat)
end
section
variable {ap:Nat->Nat->Bool}{W:List Nat}
end
section
variable {n:Nat}{A:Nat->List Nat}{ap:Nat->Nat->Bool}
end
def Zg9 {F:List D->M D}{cds:List D}{s:Pn}(key:Nat->D):∀(ps:List Nat),(∀p∈ps,F (nD p::cds) s=some (key p,s))->BV F cds (ps.map λ(i:Nat)=>(i:Int)) s=some (ps.map key,s)
 | [],_=>rfl
 | p::ps,h=>by
  show Zq (F (nD p::cds)) (λk=>Zq (BV F cds (ps.map λ(i:Nat)=>(i:Int))) λks=>ZA (k::ks)) s=_;unfold Zq;rw[h p zI];dsimp only;rw[Zg9 key ps λq hq=>h q (qO _ hq)];rfl
def ZmD (ns:List Int):ZG (ns.map D.int)=some ns:=by
 induction ns with
 | nil=>rfl
 | cons n r ih=>show(ZG (r.map D.int)).map (n :: ·)=_;rw[ih];rfl
abbrev ltS (ns:List Int):Nat->Nat->Bool:=λi j=>decide (ns.getD i 0<ns.getD j 0)
def ZnQ (ns:List Int):OrdW (ltS ns):=by
 refine⟨λa b c h1 h2=>?_,λa b h=>?_⟩
 ·have h1:=of_decide_eq_false h1
  have h2:=of_decide_eq_false h2;exact decide_eq_false (by omega)
 ·have h:=of_decide_eq_true h
  exact decide_eq_false (by omega)
namespace PC
end PC
end TQ
namespace TQ
open L2 TF TS
open TP
open TP2
open TP3
def gWb:Zb->M Out:=(Zg (ZK (U6 VI 5 [1] (Vj (Za 0))))
 Zo)
def FWb:List D->M D:=runB 2 2 gWb
def gAb:Zb->M Out:=(Zg (WI 2 (ZE ZfC (Zc (ZR [none] (ZV (Za 1)) (Zw 0) Z3 (ZW (Zc (Za 0) (Zc (dC (.bl true)) Zd)))) Zd)))
 (Zg (YZ (Z8 (Za 0)) (Zw 3)
 (Zg (YZ (Z8 (Za 0)) (Zw 4)
 (Zg (YZ (Z8 (Za 0)) (Zw 5)
 (Zg (YF (XX (asB (Ze YI (ZW (Zc (Za 4) (Zc (Za 3) Zd))) (Za 2))) (asB (Ze YI (ZW (Zc (Za 3) (Zc (Za 5) Zd))) (Za 2))))
 (Zg (JT 2 (fun ρ=>(ZW (Zc (Za 4) (Zc (Za 5) Zd))) (Yq [2] ρ)) (fun ρ=>(dC (.bl true)) (Yq [2] ρ)))
 Zo)
 Zo)
 Zo))
 Zo))
 Zo))
 (Zg (YF (asB (ZE JY (Zc (ZR [none,some 2] (Z8 (Za 0)) (Zw 0) Z3 (Ze YI (ZW (Zc (Za 0) (Zc (Za 0) Zd))) (Za 1))) Zd)))
 (λ_=>Zv)
 Zo)
 (Zg (ZK (Za 2))
 Zo))))
def FAb:List D->M D:=runB 6 2 gAb
def gWo:Zb->M Out:=(Zg (ZK (Zn FWb (Zc (Za 0) (Zc (Zn FAb (Zc (Za 0) (Zc (Za 1) Zd))) Zd))))
 Zo)
def FWo:List D->M D:=runB 2 2 gWo
def gCb:Zb->M Out:=(Zg (ZK (ZE Yw (Zc (ZR [none,some 2,some 1] (Z8 (Za 0)) (Zw 0) (asB (Ze YI (ZW (Zc (Za 0) (Zc (Za 1) Zd))) (Za 2))) (Za 0)) Zd)))
 Zo)
def FCb:List D->M D:=runB 3 3 gCb
def gCt:Zb->M Out:=(Zg (ZT 2 (Zn FAb (Zc (Za 0) (Zc (Za 1) Zd))))
 (Zg (ZT 3 (Zn FWb (Zc (Za 0) (Zc (Za 2) Zd))))
 (Zg (ZT 4 (ZR [none,some 0,some 2] (Z8 (Za 0)) (Zw 0) Z3 (Zn FCb (Zc (Za 1) (Zc (Za 2) (Zc (Za 0) Zd))))))
 (Zg (ZT 5 (Zn Bf (Zc (Za 3) (Zc (Bq (Xd 2 (Ze Zl (Za 1) (Za 0))) [4] (Za 0)) Zd))))
 (Zg (ZT 6 (Zn Vq (Zc (Za 3) Zd)))
 (Zg (ZK (ZW (Zc (Ze Zl (Za 6) (dC (.int 0))) (Zc (By (Xd 2 (Ze Zl (Za 1) (Za 0))) [4] (Ze Zl (Za 6) (dC (.int 1)))) (Zc (Za 5) Zd)))))
 Zo))))))
def FCt:List D->M D:=runB 7 2 gCt
inductive Pth (L:Qa)(k:Nat):Nat->Nat->Prop
 | one {a b:Nat} (h:(a,b)∈L):Pth L k a b
 | two {a c b:Nat} (hc:c<k) (h1:Pth L k a c) (h2:Pth L k c b):Pth L k a b
def Pth.zero {L:Qa}{a b:Nat}(h:Pth L 0 a b):(a,b)∈L:=by
 cases h with
 | one h=>exact h
 | two hc _ _=>omega
def Pth.split {L:Qa}{k a b:Nat}(h:Pth L (k+1) a b):Pth L k a b∨(Pth L k a k/\Pth L k k b):=by
 induction h with
 | one h=>exact .inl (.one h)
 | @two a c b hc _ _ i1 i2=>
  by_cases e:c=k
  ·subst e
   exact .inr ⟨i1.elim id λz=>z.1,i2.elim id λz=>z.2⟩
  ·have hk:c<k:=by omega
   rcases i1 with p | ⟨p,q⟩
   ·rcases i2 with u | ⟨u,v⟩
    ·exact .inl (.two hk p u)
    ·exact .inr ⟨.two hk p u,v⟩
   ·rcases i2 with u | ⟨u,v⟩
    ·exact .inr ⟨p,.two hk q u⟩
    ·exact .inr ⟨p,v⟩
def Pth.trans {L:Qa}{n a c b:Nat}(hL:∀p∈L,p.1<n/\p.2<n)(h1:Pth L n a c)(h2:Pth L n c b):Pth L n a b:=by
 have hc:c<n:=by
  clear h2
  induction h1 with
  | one h=>exact(hL _ h).2
  | two _ _ _ _ i2=>exact i2
 exact .two hc h1 h2
def jG {i:Nat}{fx fv:Zb->M D}{ρ:Zb}{s:Pn}{T:Qa}{p:Nat×Nat}{Q:Out->Pn->Prop}(h3:(ρ[i]?).bind id=some (.du (ZZ [] T)))(hv:fv ρ s=some (.bl true,s))(hx:fx ρ s=some (Zp p,s))(hl:T.length<=1000000)(h:Q (.nx (ρ.set i (some (.du (ZZ [] (T ++ [p])))))) s):Ok (JT i fx fv ρ) s Q:=by
 refine .eq (a:=.nx (ρ.set i (some (.du (ZZ [] (T ++ [p])))))) ?_ h;have hk:=ZnL T [];rw[yA,qak]at hk;unfold JT Zq;rw[hv];dsimp only;rw[hx];dsimp only;rw[h3];show(match B1 (Zp p),X3 (.bl true)with | some k,some w=>if (ZZ [] T).length<xg then ZA (Out.nx (ρ.set i (some (.du (Z9 (ZZ [] T) k w)))))else Zv | _,_=>Zv) s=_;rw[show B1 (Zp p)=some (Wi p)from rfl,show X3 (.bl true)=some (.bl true)from rfl];dsimp only;rw[if_pos (by rw[Yd];omega),Zmn];rfl
def JU {f:Zb->M D}{fa fb:Zb->M D}{ρ:Zb}{s:Pn}{a b:Nat}{T:Qa}(ha:fa ρ s=some (nD a,s))(hb:fb ρ s=some (nD b,s))(hf:f ρ s=some (.du (ZZ [] T),s)):Ze YI (ZW (Zc fa (Zc fb Zd))) f ρ s=some (.bl (decide ((a,b)∈T)),s):=
 Zu (Wc (ds:=[nD a,nD b]) (Zh ha (Zh hb rfl)) two_le) hf (Zpx (a,b) T)
def ZnR (L:Qa)(hl:L.length<=100000){o0 o2 o3 o4 o5:Option D}(s:Pn):ZE ZfC (Zc (ZR [none] (ZV (Za 1)) (Zw 0) Z3 (ZW (Zc (Za 0) (Zc (dC (.bl true)) Zd)))) Zd) [o0,some (.lst (L.map Zp)),o2,o3,o4,o5] s=some (.du (ZZ [] L),s):=by
 have hc:=YU (src:=[none]) (fi:=ZV (Za 1)) (τ:=Zw 0) (ft:=Z3) (fe:=ZW (Zc (Za 0) (Zc (dC (.bl true)) Zd))) (ρ:=[o0,some (.lst (L.map Zp)),o2,o3,o4,o5]) (s:=s) (ds:=L.map Zp) (λd=>[some d]) (λ_=>true) (λd=>D.tup [d,.bl true]) (XH rfl) (by rw[qd,Yd];omega) λd hd=>⟨rfl,rfl,λ_=>Zfq rfl rfl⟩;rw[yG.mpr λ_ _=>rfl,qE]at hc;refine Yi (Zh hc rfl) ?_;show(if (L.map ((λd=>D.tup [d,.bl true])∘Zp)).length<=xg then (WE [] (L.map ((λd=>D.tup [d,.bl true])∘Zp))).map D.du else none)=_;rw[if_pos (by rw[qd,Yd];omega)];have:=Zch L [];rw[show(L.map ((λd=>D.tup [d,.bl true])∘Zp))=L.map λp=>D.tup [Zp p,.bl true]from rfl,this];rfl
def Zca {n:Nat}{L:Qa}(hn:n<=24)(hl:L.length<=1000)(hL:∀p∈L,p.1<n/\p.2<n)(r:Nat->Nat->Bool)(hr:∀a b,r a b=true↔Pth L n a b)(irr:∀a,r a a=false)(s:Pn):∃T:Qa,FAb [nD n,.lst (L.map Zp)] s=some (.du (ZZ [] T),s)/\∀a b,decide ((a,b)∈T)=r a b:=by
 have main:Ok (FAb [nD n,.lst (L.map Zp)]) s λd s'=>s=s'/\∃T:Qa,d=.du (ZZ [] T)/\∀a b,decide ((a,b)∈T)=r a b:=by
  refine Ok.runB rfl ?_;refine Ok.seq (.sown (.eq (ZnR L (by omega) s) ⟨rfl,?_⟩));refine Ok.seq (.sfor (λk ρ s'=>s=s'/\∃(T:Qa) (o3 o4 o5:Option D),T.length<=1000+k*10000/\(∀p∈T,Pth L n p.1 p.2)/\(∀a b,Pth L k a b->(a,b)∈T)/\ρ=[some (nD n),some (.lst (L.map Zp)),some (.du (ZZ [] T)),o3,o4,o5]) (.eq (XG (n:=n) rfl (by omega)) ⟨⟨rfl,L,none,none,none,by omega,λp hp=>.one hp,λa b h=>h.zero,rfl⟩,λk d ρ s' hd hI=>?_,fun ρ' s' hI=>?_⟩))
  ·obtain⟨rfl,T,o3,o4,o5,hT,snd,cpl,rfl⟩:=hI
   obtain⟨hk,rfl⟩:=Uq hd;refine⟨_,rfl,?_⟩;refine Ok.seq (.sfor (λx ρ s'=>s=s'/\∃(T:Qa) (o4 o5:Option D),T.length<=1000+k*10000+x*100/\(∀p∈T,Pth L n p.1 p.2)/\(∀a b,Pth L k a b->(a,b)∈T)/\(∀a<x,∀b<n,Pth L (k+1) a b->(a,b)∈T)/\ρ=[some (nD n),some (.lst (L.map Zp)),some (.du (ZZ [] T)),some (nD k),o4,o5]) (.eq (XG (n:=n) rfl (by omega)) ⟨⟨rfl,T,o4,o5,by omega,snd,cpl,λa ha=>by omega,rfl⟩,λx d ρ s' hd hJ=>?_,fun ρ' s' hJ=>?_⟩))
   ·obtain⟨rfl,T,o4,o5,hT,snd,cpl,dn,rfl⟩:=hJ
    obtain⟨hx,rfl⟩:=Uq hd;refine⟨_,rfl,?_⟩;refine Ok.seq (.sfor (λy ρ s'=>s=s'/\∃(T:Qa) (o5:Option D),T.length<=1000+k*10000+x*100+y/\(∀p∈T,Pth L n p.1 p.2)/\(∀a b,Pth L k a b->(a,b)∈T)/\(∀a<x,∀b<n,Pth L (k+1) a b->(a,b)∈T)/\(∀b<y,Pth L (k+1) x b->(x,b)∈T)/\ρ=[some (nD n),some (.lst (L.map Zp)),some (.du (ZZ [] T)),some (nD k),some (nD x),o5]) (.eq (XG (n:=n) rfl (by omega)) ⟨⟨rfl,T,o5,by omega,snd,cpl,dn,λb hb=>by omega,rfl⟩,λy d ρ s' hd hK=>?_,fun ρ' s' hK=>?_⟩))
    ·obtain⟨rfl,T,o5,hT,snd,cpl,dn,dm,rfl⟩:=hK
     obtain⟨hy,rfl⟩:=Uq hd;refine⟨_,rfl,?_⟩;refine Ok.seq (.sif (.eq (s':=s) (a:=decide ((x,k)∈T)&&decide ((k,y)∈T)) (ZcV (Yc (JU rfl rfl rfl)) λ_=>Yc (JU rfl rfl rfl)) ?_));by_cases hc:(x,k)∈T/\(k,y)∈T
     ·rw[decide_eq_true hc.1,decide_eq_true hc.2,if_pos (by rfl)]
      refine .seq (jG (T:=T) (p:=(x,y)) rfl rfl (Wc (Zh rfl (Zh rfl rfl)) two_le) (by omega) (.next (.next ⟨_,rfl,rfl,T ++ [(x,y)],_,?_,?_,?_,?_,?_,rfl⟩)))
      ·rw[qJ,zW];omega
      ·intro p hp
       rcases qP.mp hp with h | h
       ·exact snd p h
       ·rw[qK.mp h]
        exact .two hk (snd _ hc.1) (snd _ hc.2)
      ·exact λa b h=>qY _ (cpl a b h)
      ·exact λa ha b hb h=>qY _ (dn a ha b hb h)
      ·intro b hb h
       by_cases e:b=y
       ·subst e;simp
       ·exact qY _ (dm b (by omega) h)
     ·rw[if_neg (by
       rw[qV,decide_eq_true_eq,decide_eq_true_eq];exact hc)]
      refine .next (.next ⟨_,rfl,rfl,T,_,by omega,snd,cpl,dn,?_,rfl⟩);intro b hb h;by_cases e:b=y
      ·subst e
       rcases h.split with z | ⟨z1,z2⟩
       ·exact cpl _ _ z
       ·exact absurd ⟨cpl _ _ z1,cpl _ _ z2⟩ hc
      ·exact dm b (by omega) h
    ·obtain⟨rfl,T,o5,hT,snd,cpl,dn,dm,rfl⟩:=hK
     rw[Xm]at hT dm;refine .next ⟨_,rfl,rfl,T,_,_,by omega,snd,cpl,?_,rfl⟩;intro a ha b hb h;by_cases e:a=x
     ·subst e;exact dm b hb h
     ·exact dn a (by omega) b hb h
   ·obtain⟨rfl,T,o4,o5,hT,snd,cpl,dn,rfl⟩:=hJ
    rw[Xm]at hT dn;refine .next ⟨_,rfl,rfl,T,_,_,_,by omega,snd,?_,rfl⟩;intro a b h;have hab:a<n/\b<n:=by
     have:∀{a b:Nat},Pth L (k+1) a b->a<n/\b<n:=λh=>by
      induction h with
      | one h=>exact hL _ h
      | two _ _ _ i1 i2=>exact⟨i1.1,i2.2⟩
     exact this h
    exact dn a hab.1 b hab.2 h
  obtain⟨rfl,T,o3,o4,o5,hT,snd,cpl,rfl⟩:=hI;rw[Xm]at cpl;have hmem:∀a b,decide ((a,b)∈T)=r a b:=λa b=>by
   rw[zq,decide_eq_true_eq,hr];exact⟨λh=>snd _ h,cpl a b⟩
  have hc:=YU (src:=[none,some 2]) (fi:=Z8 (Za 0)) (τ:=Zw 0) (ft:=Z3) (fe:=Ze YI (ZW (Zc (Za 0) (Zc (Za 0) Zd))) (Za 1)) (ρ:=[some (nD n),some (.lst (L.map Zp)),some (.du (ZZ [] T)),o3,o4,o5]) (s:=s) (ds:=Yb 0 n) (λd=>[some d,some (.du (ZZ [] T))]) (λ_=>true) (λ_=>.bl false) (XG (n:=n) rfl (by omega)) (by rw[Xm,Yd];omega) λd hd=>by
   obtain⟨q,hq,rfl⟩:=V7 hd;exact⟨rfl,rfl,λ_=>(JU (a:=q) (b:=q) rfl rfl rfl).trans (by rw[hmem,irr])⟩
  rw[yG.mpr λ_ _=>rfl]at hc;refine Ok.seq (.sif (.eq (a:=false) (Yc (Yi (Zh hc rfl) ((Zkf (Yb 0 n) λ_=>false).trans (by simp)))) (.next ?_)));exact Ok.seq (.sret (.eq rfl ⟨rfl,T,rfl,hmem⟩))
 obtain⟨d,s',e,rfl,T,rfl,h⟩:=main;exact⟨T,e,h⟩
abbrev ZX (n:Nat)(r:Nat->Nat->Bool):Qa:=(Xk n).filter λp=>r p.1 p.2||r p.2 p.1
def Xy (n:Nat)(r:Nat->Nat->Bool)(p:Nat):Nat:=(VH n λo=>r o p).length
def Ze7 {n:Nat}{T:Qa}{r:Nat->Nat->Bool}(hn:n<=1000)(hT:∀a b,decide ((a,b)∈T)=r a b)(s:Pn):FWb [nD n,.du (ZZ [] T)] s=some (ZH n (ZX n r),s):=by
 refine YS rfl (Ye (YO ?_));refine Zie (d:=.lst (Yb 0 n)) (cds:=[.du (ZZ [] T)]) (ZaS rfl hn) rfl (by simp only[YH];exact Zb5 _ _) rfl ?_ (Zcs _ _);have:=ZaZ (row:=.lst (Yb 0 n)) (ds:=Yb 0 n) (cds:=[.du (ZZ [] T)]) (t:=5) (.inl rfl) (by rw[Xm];exact hn) (λp=>r p.1 p.2||r p.2 p.1) s (λp hp=>by
  rw[Xm]at hp;have hpp:=WX.mp hp;rw[range_getD (by omega),range_getD (by omega)];show Zax [nD p.1,nD p.2,.du (ZZ [] T)] s=_;refine Zc0 rfl ?_;rw[<-hT,<-hT];exact ZpA (JU rfl rfl rfl) λ_=>JU rfl rfl rfl)
 rw[Xm]at this;exact this
section
variable {n:Nat}{L:Qa}
def Za1 (hn:n<=24)(hl:L.length<=1000)(hL:∀p∈L,p.1<n/\p.2<n)(r:Nat->Nat->Bool)(hr:∀a b,r a b=true↔Pth L n a b)(irr:∀a,r a a=false)(s:Pn):FWo [nD n,.lst (L.map Zp)] s=some (ZH n (ZX n r),s):=by
 obtain⟨T,e,hT⟩:=Zca hn hl hL r hr irr s;exact YS rfl (Ye (YO (Z0 (Zh rfl (Zh (Z0 (Zh rfl (Zh rfl rfl)) e) rfl)) (Ze7 (by omega) hT s))))
def Zd3 {T:Qa}{r:Nat->Nat->Bool}(hn:n<=1000)(hT:∀a b,decide ((a,b)∈T)=r a b)(p:Nat)(s:Pn):FCb [nD n,.du (ZZ [] T),nD p] s=some (nD (Xy n r p),s):=by
 have hc:=YU (src:=[none,some 2,some 1]) (fi:=Z8 (Za 0)) (τ:=Zw 0) (ft:=asB (Ze YI (ZW (Zc (Za 0) (Zc (Za 1) Zd))) (Za 2))) (fe:=Za 0) (ρ:=[some (nD n),some (.du (ZZ [] T)),some (nD p)]) (s:=s) (ds:=Yb 0 n) (λd=>[some d,some (nD p),some (.du (ZZ [] T))]) (λd=>r (Yo d) p) (λd=>d) (XG (n:=n) rfl (by omega)) (by rw[Xm,Yd];omega) λd hd=>by
  obtain⟨q,hq,rfl⟩:=V7 hd;exact⟨rfl,Yc ((JU (a:=q) (b:=p) rfl rfl rfl).trans (by rw[hT];rfl)),λ_=>rfl⟩
 rw[Zaz n λo=>r o p]at hc;refine YS rfl (Ye (YO (Yi (Zh hc rfl) ?_)));show some (D.int _)=some (D.int _);rw[qd];rfl
end
def Zd4 {F:List D->M D}{cds:List D}{s:Pn}(K:List Nat)(rk:Nat->Nat)(hF:∀p∈K,F (nD p::cds) s=some (nD (rk p),s))(hl:K.length<64)(hc:YV cds=true):∃C:List Nat,Vl F cds (K.map λ(i:Nat)=>(i:Int)) s=some (.lst (C.map nD),s)/\C.Perm K/\C.Pairwise λa b=>rk a<=rk b:=by
 have hk:=Zg9 (F:=F) (cds:=cds) (s:=s) (λp=>nD (rk p)) K hF;have e1:K.map (λp=>nD (rk p))=(K.map λp=>((rk p:Nat):Int)).map D.int:=by rw[qE];rfl
 have o:=ZnQ (K.map λp=>((rk p:Nat):Int));have pm:=Bi (n:=K.length) o;refine⟨(Yy (ltS (K.map λp=>((rk p:Nat):Int))) K.length).map λi=>K.getD i 0,?_,?_,?_⟩
 ·unfold Vl
  rw[if_pos (by rw[hc,qd,decide_eq_true hl];rfl)];unfold Zq;rw[hk,e1];dsimp only;unfold B8;rw[ZmD];dsimp only;rw[qd,qE];show some (D.lst _,s)=some (D.lst _,s);congr 3;refine zt λi hi=>?_;have hi:=qB.mp (pm.mem_iff.mp hi);show D.int _=D.int ((K.getD i 0:Nat):Int);rw[qf,qt,qf,qj hi];rfl
 ·have:=pm.map λi=>K.getD i 0
  rwa[TS.range_getD K 0]at this
 ·refine qaj.mpr (yY (λ{a b} ha hb h=>?_) (ZgH (n:=K.length) o))
  have ha:=qB.mp (pm.mem_iff.mp ha);have hb:=qB.mp (pm.mem_iff.mp hb);have h:=of_decide_eq_false h;have g:∀i,i<K.length->(K.map λp=>((rk p:Nat):Int)).getD i 0=((rk (K.getD i 0):Nat):Int):=λi hi=>by
   rw[qf,qt,qf,qj hi];rfl
  rw[g a ha,g b hb]at h;omega
def Zi6 {n p:Nat}{rk:Nat->Nat}(h:p<n){s:Pn}:Xd 2 (Ze Zl (Za 1) (Za 0)) (nD p :: [.lst ((qk n).map λp=>nD (rk p))]) s=some (nD (rk p),s):=by
 refine Zc0 rfl (Zu (d:=.lst ((qk n).map λp=>nD (rk p))) (e:=nD p) rfl rfl (X8 ?_));rw[qt,zT h];rfl
def Zct (n:Nat)(rk:Nat->Nat):YV [.lst ((qk n).map λp=>nD (rk p))]=true:=by
 show(YV ((qk n).map λp=>nD (rk p))&&true)=true;rw[Bt λd hd=>by obtain⟨p,_,rfl⟩:=qu.mp hd;rfl];rfl
def Ze8 {n:Nat}{L:Qa}(hn:n<=24)(hl:L.length<=1000)(hL:∀p∈L,p.1<n/\p.2<n)(r:Nat->Nat->Bool)(hr:∀a b,r a b=true↔Pth L n a b)(irr:∀a,r a a=false)(s:Pn) :
  ∃C ps:List Nat,FCt [nD n,.lst (L.map Zp)] s=some (.tup [nD (om n (ZX n r)),.lst (C.map nD),ZP (Wt n (ZX n r) ps)],s)/\C.Perm (We n (ZX n r))/\C.Pairwise (λa b=>Xy n r a<=Xy n r b)/\ps.Perm (qk n)/\ps.Pairwise λa b=>Xy n r a<=Xy n r b:=by
 obtain⟨T,eT,hT⟩:=Zca hn hl hL r hr irr s;have hw:IsWeb n (ZX n r):=.filter _;obtain⟨ps,e1,p1,q1⟩:=Zd4 (F:=Xd 2 (Ze Zl (Za 1) (Za 0))) (cds:=[.lst ((qk n).map λp=>nD (Xy n r p))]) (s:=s) (qk n) (Xy n r) (λp hp=>Zi6 (qB.mp hp)) (by rw[qG];omega) (Zct _ _);have hmk:=(Zbk hw hn).1;obtain⟨k1,k2,k3⟩:=Uw.mp hmk;have hkl:(We n (ZX n r)).length<=n:=Zd0;obtain⟨C,e2,p2,q2⟩:=Zd4 (F:=Xd 2 (Ze Zl (Za 1) (Za 0))) (cds:=[.lst ((qk n).map λp=>nD (Xy n r p))]) (s:=s) (We n (ZX n r)) (Xy n r) (λp hp=>Zi6 (k2 p hp)) (by omega) (Zct _ _);refine⟨C,ps,?_,p2,q2,p1,q1⟩;have hrk:=YU (src:=[none,some 0,some 2]) (fi:=Z8 (Za 0)) (τ:=Zw 0) (ft:=Z3) (fe:=Zn FCb (Zc (Za 1) (Zc (Za 2) (Zc (Za 0) Zd)))) (ρ:=[some (nD n),some (.lst (L.map Zp)),some (.du (ZZ [] T)),some (ZH n (ZX n r)),none,none,none]) (s:=s) (ds:=Yb 0 n) (λd=>[some d,some (nD n),some (.du (ZZ [] T))]) (λ_=>true) (λd=>nD (Xy n r (Yo d))) (XG (n:=n) rfl (by omega)) (by rw[Xm,Yd];omega) λd hd=>by
  obtain⟨q,hq,rfl⟩:=V7 hd;exact⟨rfl,rfl,λ_=>Z0 (Zh rfl (Zh rfl (Zh rfl rfl))) (Zd3 (by omega) hT q s)⟩
 rw[yG.mpr λ_ _=>rfl,VN,qE]at hrk;have hrk':ZR [none,some 0,some 2] (Z8 (Za 0)) (Zw 0) Z3 (Zn FCb (Zc (Za 1) (Zc (Za 2) (Zc (Za 0) Zd)))) [some (nD n),some (.lst (L.map Zp)),some (.du (ZZ [] T)),some (ZH n (ZX n r)),none,none,none] s=some (.lst ((qk n).map λp=>nD (Xy n r p)),s):=hrk;clear hrk;have hncl:=Zct n (Xy n r);generalize hrl:((qk n).map λp=>nD (Xy n r p))=RL at hrk' e1 e2 hncl;have hso:Bq (Xd 2 (Ze Zl (Za 1) (Za 0))) [4] (Za 0) [some (nD n),some (.lst (L.map Zp)),some (.du (ZZ [] T)),some (ZH n (ZX n r)),some (.lst RL),none,none] s=some (.lst (ps.map nD),s):=by
  unfold Bq Zq;rw[show Za 0 [some (nD n),some (.lst (L.map Zp)),some (.du (ZZ [] T)),some (ZH n (ZX n r)),some (.lst RL),none,none] s=some (nD n,s)from rfl];dsimp only;rw[show YQ (Vs [some (nD n),some (.lst (L.map Zp)),some (.du (ZZ [] T)),some (ZH n (ZX n r)),some (.lst RL),none,none] [4]) s=some ([.lst RL],s)from rfl];dsimp only;rw[if_pos (by omega)];rw[zG];exact e1
 have hmo:=Zd2 hw hn s;have hh:=ZmB n (ZX n r) hw hn p1 s;have hW:=Ze7 (n:=n) (by omega) hT s;generalize Wt n (ZX n r) ps=hs at hh;generalize We n (ZX n r)=MK at hmo e2;generalize hWb:ZX n r=WB at hW hmo hh hrk' hso;have hsc:By (Xd 2 (Ze Zl (Za 1) (Za 0))) [4] (Ze Zl (Za 6) (dC (.int 1))) [some (nD n),some (.lst (L.map Zp)),some (.du (ZZ [] T)),some (ZH n WB),some (.lst RL),some (ZP hs),some (.tup [nD (om n WB),ZP MK])] s=some (.lst (C.map nD),s):=by
  unfold By Zq;rw[show Ze Zl (Za 6) (dC (.int 1)) [some (nD n),some (.lst (L.map Zp)),some (.du (ZZ [] T)),some (ZH n WB),some (.lst RL),some (ZP hs),some (.tup [nD (om n WB),ZP MK])] s=some (ZP MK,s)from Zu rfl rfl (JQ _ _ _)];dsimp only;rw[show YQ (Vs [some (nD n),some (.lst (L.map Zp)),some (.du (ZZ [] T)),some (ZH n WB),some (.lst RL),some (ZP hs),some (.tup [nD (om n WB),ZP MK])] [4]) s=some ([.lst RL],s)from rfl];dsimp only;show(match ZG (MK.map nD)with | some ns=>Vl (Xd 2 (Ze Zl (Za 1) (Za 0))) [D.lst RL] ns | none=>Zv) s=_;rw[Zcq MK];exact e2
 refine YS rfl (jy ?_);refine Ok.seq (.sset (.eq (Z0 (Zh rfl (Zh rfl rfl)) eT) ?_));refine Ok.seq (.sset (.eq (Z0 (Zh rfl (Zh rfl rfl)) hW) ?_));refine Ok.seq (.sset (.eq hrk' ?_));refine Ok.seq (.sset (.eq (Z0 (Zh rfl (Zh hso rfl)) hh) ?_));refine Ok.seq (.sset (.eq (Z0 (Zh rfl rfl) hmo) ?_));exact Ok.seq (.sret (.eq (Wc (ds:=[nD (om n WB),.lst (C.map nD),ZP hs]) (Zh (Zu rfl rfl (Ug _ _)) (Zh hsc (Zh rfl rfl))) (by show 3<=xg;decide)) ⟨rfl,rfl⟩))
structure OrdN (n:Nat)(r:Nat->Nat->Bool):Prop where
 irr:∀a,r a a=false
 tr:∀a b c,r a b=true->r b c=true->r a c=true
 lt:∀a b,r a b=true->a<n/\b<n
section
variable {n:Nat}{r:Nat->Nat->Bool}
def Zc4 (n:Nat)(r:Nat->Nat->Bool):IsWeb n (ZX n r):=.filter _
def Zd5 {a b:Nat}(h:a≠b)(ha:a<n)(hb:b<n):tied (ZX n r) a b=(r a b||r b a):=by
 rcases Nat.lt_or_gt_of_ne h with z | z
 ·exact ZcH z hb
 ·have:=ZcH (N:=n) (B:=λp=>r p.1 p.2||r p.2 p.1) z ha
  rw[Bool.or_comm];rw[<-this];unfold tied;rw[Nat.min_comm,Nat.max_comm]
def Zp8 (o:OrdN n r){a b:Nat}(h:r a b=true):Xy n r a<Xy n r b:=by
 unfold Xy;have hna:a∉VH n λx=>r x a:=λz=>by
  have:=(Vn.mp z).2;rw[o.irr]at this
  cases this
 have:=V9 (a:=a::VH n λx=>r x a) (b:=VH n λx=>r x b) (zC.mpr ⟨hna,ZdR (Zd1 _ _)⟩) λx hx=>by
   rcases qm.mp hx with rfl | hx
   ·exact Vn.mpr ⟨(o.lt _ _ h).1,h⟩
   ·obtain⟨h1,h2⟩:=Vn.mp hx
    exact Vn.mpr ⟨h1,o.tr _ _ _ h2 h⟩
 rw[qN]at this;exact this
end
section
variable {n:Nat}{r:Nat->Nat->Bool}
def ZmE (o:OrdN n r)(hn:n<=24){c:List Nat}(hc:c.Pairwise λa b=>r a b=true)(hlt:∀x∈c,x<n):c.length<=om n (ZX n r):=by
 have nd:c.Nodup:=hc.imp λ{a b} h e=>by rw[e,o.irr]at h;cases h
 have hK:(VH n λx=>decide (x∈c))∈kn (ZX n r) n:=Uw.mpr ⟨Zd1 _ _,λx hx=>(Vn.mp hx).1,λa ha b hb ne=>by
  obtain⟨a1,a2⟩:=Vn.mp ha;obtain⟨b1,b2⟩:=Vn.mp hb;rw[Zd5 ne a1 b1,qat];obtain⟨i,hi,rfl⟩:=qa9.mp (of_decide_eq_true a2);obtain⟨j,hj,rfl⟩:=qa9.mp (of_decide_eq_true b2);have pw:=zf.mp hc;rcases qai i j with z | z | z
  ·exact .inl (pw i j hi hj z)
  ·subst z;exact absurd rfl ne
  ·exact .inr (pw j i hj hi z)⟩
 exact ze (V9 nd λx hx=>Vn.mpr ⟨hlt x hx,decide_eq_true hx⟩) (Zp6 (Zc4 n r) hn hK)
def Zha (o:OrdN n r):∀qs:List Nat,qs.Nodup->(∀q∈qs,q<n)->(qs.Pairwise λa b=>Xy n r b<=Xy n r a)->∀x∈qs,∃c:List Nat,(c ++ [x]).Pairwise (λa b=>r a b=true)/\c.length=hr (ZX n r) qs x/\∀y∈c,y<n
 | [],_,_,_,x,hx=>by simp at hx
 | p::qs,nd,hlt,hs,x,hx=>by
  have nd':=zC.mp nd;have hs':=yj.mp hs;have ih:=Zha o qs nd'.2 (λq hq=>hlt q (qO _ hq)) hs'.2;unfold hr;by_cases e:x=p
  ·rw[if_pos e]
   subst e;generalize hh:XS ((qs.filter λo=>tied (ZX n r) x o).map (hr (ZX n r) qs))=h
   cases h with
   | zero=>exact⟨[],by simp,rfl,by simp⟩
   | succ h=>
    have hm:=(Bz ((qs.filter λo=>tied (ZX n r) x o).map (hr (ZX n r) qs))).2 h (by rw[hh];omega);obtain⟨q,hq,hqh⟩:=qu.mp hm;obtain⟨q1,q2⟩:=qA.mp hq;obtain⟨c,c1,c2,c3⟩:=ih q q1;have ne:x≠q:=λz=>nd'.1 (z▸q1);have hqn:=hlt q (qO _ q1);have hxn:=hlt x zI;have hrq:r q x=true:=by
     rw[Zd5 ne hxn hqn,qat]at q2;rcases q2 with z | z
     ·have:=Zp8 o z
      have:=hs'.1 q q1;omega
     ·exact z
    refine⟨c ++ [q],yR.mpr ⟨c1,by simp,λa ha b hb=>?_⟩,by rw[qJ,c2,hqh];rfl,λy hy=>?_⟩
    ·rw[qK.mp hb]
     rcases qP.mp ha with z | z
     ·exact o.tr a q x ((yR.mp c1).2.2 a z q (by simp)) hrq
     ·rw[qK.mp z];exact hrq
    ·rcases qP.mp hy with z | z
     ·exact c3 y z
     ·rw[qK.mp z];exact hqn
  ·rw[if_neg e]
   rcases qm.mp hx with z | z
   ·exact absurd z e
   ·exact ih x z
def ZnS (o:OrdN n r)(hn:n<=24){ps:List Nat}(pm:ps.Perm (qk n))(hs:ps.Pairwise λa b=>Xy n r a<=Xy n r b):∀x<n,(Wt n (ZX n r) ps).getD x 0<om n (ZX n r):=λx hx=>by
 rw[Zbs hx];have nd:ps.Nodup:=pm.nodup_iff.mpr zM;obtain⟨c,c1,c2,c3⟩:=Zha o ps.reverse (qa1.mpr (List.Pairwise.imp (λh=>zg h) nd)) (λq hq=>qB.mp (pm.mem_iff.mp (yJ.mp hq))) (qa1.mpr hs) x (yJ.mpr (pm.mem_iff.mpr (qB.mpr hx)));have:=ZmE o hn c1 λy hy=>by
  rcases qP.mp hy with z | z
  ·exact c3 y z
  ·rw[qK.mp z];exact hx
 rw[qJ,zW,c2]at this;omega
def ZpC (o:OrdN n r)(hn:n<=24){ps:List Nat}(pm:ps.Perm (qk n))(hs:ps.Pairwise λa b=>Xy n r a<=Xy n r b):XT n (ZX n r)=om n (ZX n r):=by
 refine Nat.le_antisymm ?_ (ZcG (Zc4 n r) hn);have R:=Zb9 (jK:=ZX n r) pm;have:=Zkr (n:=n) (jK:=ZX n r) (λy=>(Wt n (ZX n r) ps).getD y 0) (qk (om n (ZX n r))) (λa b hab hb ht=>R.ri a (by omega) b hb (by omega) ht) λi hi=>qB.mpr (ZnS o hn pm hs i hi)
 rwa[qG]at this
end
def Pth.mono {L L':Qa}{n a b:Nat}(h:∀p∈L,Pth L' n p.1 p.2)(q:Pth L n a b):Pth L' n a b:=by
 induction q with
 | one z=>exact h _ z
 | two hc _ _ i1 i2=>exact .two hc i1 i2
def Pth.swap {L:Qa}{n a b:Nat}(q:Pth L n a b):Pth (L.map λp=>(p.2,p.1)) n b a:=by
 induction q with
 | one z=>exact .one (qu.mpr ⟨_,z,rfl⟩)
 | two hc _ _ i1 i2=>exact .two hc i2 i1
def gTpr:Zb->M Out:=(Zg (ZT 3 (Zn WZ (Zc (Za 0) (Zc (Za 1) Zd))))
 (Zg (ZT 4 (Ze Y5 (dC (.int 1)) (Zn Yv (Zc (Za 0) (Zc (dC (.int 5)) Zd)))))
 (Zg (WI 5 (XC Zd))
 (Zg (YZ (Z8 (Za 1)) (Zw 6)
 (Zg (YZ (Z8 (Za 6)) (Zw 7)
 (Zg (YF (asB (Ze WT (Zn Yv (Zc (Za 0) (Zc (dC (.int 8)) Zd))) (Za 4)))
 (Zg (U9 5 (Y6 true (Zn Yv (Zc (Za 0) (Zc (Ze Y5 (ZE Yw (Zc (Za 5) Zd)) (dC (.int 1))) Zd)))) (Y6 true (ZW (Zc (Ze Zl (Za 3) (Za 7)) (Zc (Ze Zl (Za 3) (Za 6)) Zd)))))
 Zo)
 Zo)
 Zo))
 Zo))
 (Zg (YF (XX (asB (Ze Xj (Za 5) (XC Zd))) (asB (Ze Xc (Zn Yv (Zc (Za 0) (Zc (dC (.int 3)) Zd))) (dC (.int 0)))))
 (Zg (VY 5 (Y6 false (Ze Zl (Za 5) (Zn Yv (Zc (Za 0) (Zc (ZE Yw (Zc (Za 5) Zd)) Zd))))))
 Zo)
 Zo)
 (Zg (YZ (Z8 (Ze dMul (Ze Zl (XC (Zc (dC (.int 0)) (Zc (dC (.int 0)) (Zc (dC (.int 0)) (Zc (dC (.int 1)) (Zc (dC (.int 1)) (Zc (dC (.int 2)) (Zc (dC (.int 3)) Zd)))))))) (Zn Yv (Zc (Za 0) (Zc (dC (.int 7)) Zd)))) (ZE Zk3 (Zc (WH (Za 2) (Ze dGt (Za 1) (dC (.int 0)))) Zd)))) (Zw 8)
 (Zg (U9 5 (Y6 true (Zn Yv (Zc (Za 0) (Zc (Ze Y5 (ZE Yw (Zc (Za 5) Zd)) (dC (.int 1))) Zd)))) (Y6 true (ZW (Zc (Zn Yv (Zc (Za 0) (Zc (Za 1) Zd))) (Zc (Zn Yv (Zc (Za 0) (Zc (Za 1) Zd))) Zd)))))
 Zo))
 (Zg (ZK (Za 5))
 Zo)))))))
def FTpr:List D->M D:=runB 9 3 gTpr
def gTlo:Zb->M Out:=(Zg (WI 2 (XC Zd))
 (Zg (YZ (Z8 (Za 0)) (Zw 3)
 (Zg (WI 4 (fun ρ=>(ZR [none,none,some 3] (ZV (Za 1)) (Ws 0 1) (asB (Ze Xc (Za 1) (Za 2))) (Za 0)) (Yq [2] ρ)))
 (Zg (ZT 5 (fun ρ=>(dC (.int 0)) (Yq [4,2] ρ)))
 (Zg (BN 1000000 (asB (Ze WT (Za 5) (ZE Yw (Zc (Za 4) Zd))))
 (Zg (UH 4 (Y6 true (ZR [none,none,some 4,some 5] (ZV (Za 1)) (Ws 0 1) (XX (asB (Ze Xc (Za 1) (Ze Zl (Za 2) (Za 3)))) (asB (Ze Wa (Za 0) (Za 2)))) (Za 0))))
 (Zg (ZT 5 (fun ρ=>(Ze Y5 (Za 5) (dC (.int 1))) (Yq [4,2] ρ)))
 Zo)))
 (Zg (VY 2 (fun ρ=>(Jq (Za 4)) (Yq [2] ρ)))
 Zo)))))
 (Zg (ZK (Za 2))
 Zo)))
def FTlo:List D->M D:=runB 6 2 gTlo
def jA {fr:Bool}{f:Zb->M D}{ρ:Zb}{s:Pn}{Q:D->Pn->Prop}(h:Ok (f ρ) s λd s1=>XV d=true/\Q d s1):Ok (Y6 fr f ρ) s Q:=
 .bind (h.mono λd s1 q=>.ite (by simp[q.1]) (.ret q.2))
def jI {i:Nat}{f g:Zb->M D}{ρ:Zb}{s:Pn}{ds:List D}{Q:Out->Pn->Prop}(h3:(ρ[i]?).bind id=some (.lst ds))(hl:ds.length<100000)(h:Ok (f ρ) s λd s1=>Ok (g ρ) s1 λe s2=>∃r:Nat,d=.int (r:Int)/\r<=100000/\Q (.nx (ρ.set i (some (.lst (ds.take r++e::ds.drop r))))) s2):Ok (U9 i f g ρ) s Q:=by
 refine .bind (h.mono λd s1 q=>.bind (q.mono λe s2 z=>?_));obtain⟨r,rfl,hr,hQ⟩:=z;simp only[h3];refine .ite ⟨by rw[Yd];omega,by omega,by omega⟩ (.ret ?_);rw[zG];exact hQ
def B9:Nat->Nat
 | 0=>0
 | j+1=>B9 j+j
def ZpD:∀n,n<11->B9 n<=45:=by decide
def ZmF {j:Nat}(h:j<11):B9 j<=45:=ZpD j h
def ZnT (L:Qa)(r:Nat)(p:Nat×Nat):(L.map Zp).take r++Zp p::(L.map Zp).drop r=(L.take r++p::L.drop r).map Zp:=by
 rw[zK,zh,List.map_take,List.map_drop]
def ZnU {α:Type}{L:List α}{r:Nat}{p x:α}(h:x∈L.take r++p::L.drop r):x∈L∨x=p:=by
 rcases qP.mp h with z | z
 ·exact .inl (List.mem_of_mem_take z)
 ·rcases qm.mp z with z | z
  ·exact .inr z
  ·exact .inl (List.mem_of_mem_drop z)
def plain_pairs (F:Qa):YG (F.map Zp)=true/\Xx (F.map Zp)<=10:=by
 induction F with
 | nil=>exact⟨rfl,qcb rfl⟩
 | cons a l ih=>
  refine⟨?_,?_⟩
  ·show(Zs (Zp a)&&YG (l.map Zp))=true
   rw[ih.1];rfl
  ·show max (Yl (Zp a)) (Xx (l.map Zp))<=10
   exact Nat.max_le.mpr ⟨qcb rfl,ih.2⟩
def Fr (ps:List Nat)(n:Nat)(p:Nat×Nat):Prop:=∃i j,i<j/\j<n/\p=(ps.getD i 0,ps.getD j 0)
def Zkw {T n:Nat}{s:Pn}(ok:Xe T s)(hT:T<800000000)(hn:n<=10):Ok (FTpr [.pen,nD n,.bl false]) s λd s'=>Xe (T+1000) s'/\∃(L:Qa) (ps:List Nat),d=.lst (L.map Zp)/\ps.Perm (qk n)/\L.length<=46/\∀p∈L,Fr ps n p:=by
 refine Ok.runB rfl ?_;refine Ok.seq (.sset (.fn (Zh rfl (Zh rfl rfl)) ((Zgn ok (by omega) (by omega)).mono λd s1 q=>?_)));obtain⟨ok1,xs,rfl,hpx⟩:=q;obtain⟨ps,rfl,hpp⟩:=ZdS hpx;have hps:(YJ ps).map D.int=ps.map nD:=by unfold YJ;rw[qE];rfl
 rw[hps];have hpl:ps.length=n:=by rw[hpp.length_eq,qG]
 have hix:∀i,i<n->Zl (.lst (ps.map nD)) (nD i)=some (nD (ps.getD i 0)):=λi hi=>by
  refine X8 ?_;rw[qt,qf,qj (by omega)];rfl
 refine Ok.seq (.sset (.op (.eq (a:=.int 1) rfl (.drawD (m:=5) ok1 (by omega) (Zh rfl (Zh rfl rfl)) (by omega) (by omega) λq s2 hq ok2=>⟨nD (1+q),rfl,?_⟩))));refine Ok.seq (.sown (.eq (a:=.lst []) rfl ⟨rfl,?_⟩));refine Ok.seq (.sfor (λj ρ s'=>Xe (T+20+j*40) s'/\∃(L:Qa) (o6 o7:Option D),L.length<=B9 j/\(∀p∈L,Fr ps n p)/\ρ=[some .pen,some (nD n),some (.bl false),some (.lst (ps.map nD)),some (nD (1+q)),some (.lst (L.map Zp)),o6,o7,none]) (.eq (XG (n:=n) rfl (by omega)) ⟨⟨ok2.mono (by omega),[],none,none,by simp,by simp,rfl⟩,λj d ρ s' hd hI=>?_,fun ρ' s' hI=>?_⟩))
 ·obtain⟨ok3,L,o6,o7,hL,hF,rfl⟩:=hI
  obtain⟨hj,rfl⟩:=Uq hd;have ht:=ZmF (j:=j) (by omega);refine⟨_,rfl,?_⟩;refine Ok.seq (.sfor (λi ρ s'=>Xe (T+20+j*40+i*2) s'/\∃(L:Qa) (o7:Option D),L.length<=B9 j+i/\(∀p∈L,Fr ps n p)/\ρ=[some .pen,some (nD n),some (.bl false),some (.lst (ps.map nD)),some (nD (1+q)),some (.lst (L.map Zp)),some (nD j),o7,none]) (.eq (XG (n:=j) rfl (by omega)) ⟨⟨ok3.mono (by omega),L,o7,by omega,hF,rfl⟩,λi d ρ s' hd hJ=>?_,fun ρ' s' hJ=>?_⟩))
  ·obtain⟨ok4,L,o7,hL,hF,rfl⟩:=hJ
   obtain⟨hi,rfl⟩:=Uq hd;refine⟨_,rfl,?_⟩;refine Ok.seq (.sif (.asB (.op (.drawD (m:=8) ok4 (by omega) (Zh rfl (Zh rfl rfl)) (by omega) (by omega) λz s5 hz ok5=>.eq (a:=nD (1+q)) rfl ⟨_,rfl,_,rfl,?_⟩))));split
   ·refine .seq (jI (ds:=L.map Zp) rfl (by rw[qd];omega) (jA (.drawD (m:=L.length+1) ok5 (by omega) (Zh rfl (Zh (Zu (d:=nD L.length) (e:=.int 1) (Yi (Zh rfl rfl) (show some (D.int _)=some (D.int _) by rw[qd])) rfl rfl) rfl)) (by omega) (by omega) λr s6 hr ok6=>⟨rfl,jA (.eq (a:=Zp (ps.getD i 0,ps.getD j 0)) (Wc (Zh (Zu rfl rfl (hix i (by omega))) (Zh (Zu rfl rfl (hix j hj)) rfl)) two_le) ⟨rfl,r,rfl,by omega,.next (.next ⟨_,rfl,ok6.mono (by omega),L.take r++(ps.getD i 0,ps.getD j 0)::L.drop r,some (nD i),?_,?_,?_⟩)⟩)⟩)))
    ·rw[qJ,qN,z0,List.length_drop];omega
    ·intro p hp
     rcases ZnU hp with w | w
     ·exact hF p w
     ·exact⟨i,j,hi,hj,w⟩
    ·rw[<-ZnT];rfl
   ·exact .next (.next ⟨_,rfl,ok5.mono (by omega),L,some (nD i),by omega,hF,rfl⟩)
  ·obtain⟨ok4,L,o7,hL,hF,rfl⟩:=hJ
   rw[Xm]at ok4 hL;exact .next ⟨_,rfl,ok4.mono (by omega),L,some (nD j),o7,hL,hF,rfl⟩
 obtain⟨ok3,L,o6,o7,hL,hF,rfl⟩:=hI;rw[Xm]at ok3 hL;have ht:=ZmF (j:=n) (by omega);refine Ok.seq (Ok.mono (Q:=λo s'=>Xe (T+500) s'/\∃L:Qa,L.length<=46/\(∀p∈L,Fr ps n p)/\o=.nx [some .pen,some (nD n),some (.bl false),some (.lst (ps.map nD)),some (nD (1+q)),some (.lst (L.map Zp)),o6,o7,none]) ?_ λo s' z=>?_)
 ·have hpp2:=plain_pairs L
  refine .sif (.bind (.eq (Yc (Zu (d:=.lst (L.map Zp)) (e:=.lst []) rfl rfl (Zkq _ hpp2.1 hpp2.2))) ?_));by_cases hne:L.map Zp=[]
  ·rw[decide_eq_true hne]
   refine .ret ?_;exact .next ⟨ok3.mono (by omega),L,by omega,hF,rfl⟩
  ·rw[decide_eq_false hne]
   have hpos:0<L.length:=by
    cases L with
    | nil=>exact absurd rfl hne
    | cons a r=>exact Nat.succ_pos _
   refine .asB (.op (.drawD (m:=3) ok3 (by omega) (Zh rfl (Zh rfl rfl)) (by omega) (by omega) λz s5 hz ok5=>.eq (a:=.int 0) rfl ⟨_,eqi _ _,_,rfl,?_⟩));split
   ·refine .seq (.sapp (ds:=L.map Zp) rfl (by rw[qd,Yd];omega) (jA (.op (.eq (a:=.lst (L.map Zp)) rfl (.drawD (m:=L.length) ok5 (by omega) (Zh rfl (Zh (Yi (Zh rfl rfl) (show some (D.int _)=some (D.int _) by rw[qd])) rfl)) hpos (by omega) λr s6 hr ok6=>⟨Zp (L.getD r (0,0)),?_,rfl,.next ⟨ok6.mono (by omega),L ++ [L.getD r (0,0)],?_,?_,?_⟩⟩)))))
    ·refine X8 ?_
     rw[qt,qf,qj hr];rfl
    ·rw[qJ,zW];omega
    ·intro p hp
     rcases qP.mp hp with w | w
     ·exact hF p w
     ·rw[qK.mp w,qf,qj hr]
      exact hF _ (zE hr)
    ·rw[zK];rfl
   ·exact .next ⟨ok5.mono (by omega),L,by omega,hF,rfl⟩
 obtain⟨ok4,L,hL,hF,rfl⟩:=z;refine Ok.seq (.sfor (λk ρ s'=>Xe (T+600) s'/\ρ=[some .pen,some (nD n),some (.bl false),some (.lst (ps.map nD)),some (nD (1+q)),some (.lst (L.map Zp)),o6,o7,none]) (.range1 (.op (jH (m:=7) (ds:=[nD 0,nD 0,nD 0,nD 1,nD 1,nD 2,nD 3]) rfl rfl ok4 (by omega) rfl (by omega) (by omega) λd s5 hd ok5=>.eq (a:=.int 0) ?_ ⟨.int 0,?_,0,rfl,by omega,⟨ok5.mono (by omega),rfl⟩,λk d ρ s' hd hI=>?_,fun ρ' s' hI=>?_⟩))))
 ·exact Yi (Zh (d:=.bl false) rfl rfl) rfl
 ·simp only[qm,zm,or_false]at hd
  rcases hd with rfl | rfl | rfl | rfl | rfl | rfl | rfl <;> rfl
 ·simp[Yb]at hd
 ·obtain⟨ok6,rfl⟩:=hI
  exact Ok.seq (.sret (.eq rfl ⟨ok6.mono (by omega),L,ps,rfl,hpp,hL,hF⟩))
def ZnV {L:Qa}(hl:L.length<=1000)(k:Nat){ρ:Zb}(s:Pn)(h1:(ρ[1]?).bind id=some (.lst (L.map Zp)))(hb:X1 [none,none,some 3] ρ=[none,none,some (nD k)]):ZR [none,none,some 3] (ZV (Za 1)) (Ws 0 1) (asB (Ze Xc (Za 1) (Za 2))) (Za 0) ρ s=some (.lst (((L.filter λp=>decide (p.2=k)).map (·.1)).map nD),s):=by
 have hc:=YU (src:=[none,none,some 3]) (fi:=ZV (Za 1)) (τ:=Ws 0 1) (ft:=asB (Ze Xc (Za 1) (Za 2))) (fe:=Za 0) (ρ:=ρ) (s:=s) (ds:=L.map Zp) (λd=>[some (nD (Y0 d).1),some (nD (Y0 d).2),some (nD k)]) (λd=>decide ((Y0 d).2=k)) (λd=>nD (Y0 d).1) (XH (by unfold Za YQ;rw[h1])) (by rw[qd,Yd];omega) λd hd=>by
  obtain⟨p,_,rfl⟩:=qu.mp hd;rw[VJ,hb];exact⟨rfl,Yc (Zu (d:=nD p.2) (e:=nD k) rfl rfl (by show some (D.bl (ZM _ _))=_;rw[ZfJ])),λ_=>rfl⟩
 rw[yp,qE]at hc;rw[hc,qE];have e1:((λd=>decide ((Y0 d).2=k))∘Zp)=λp:Nat×Nat=>decide (p.2=k):=by funext p;show decide ((Y0 (Zp p)).2=k)=_;rw[VJ]
 have e2:((λd=>nD (Y0 d).1)∘Zp)=nD∘λp:Nat×Nat=>p.1:=by funext p;show nD (Y0 (Zp p)).1=_;rw[VJ];rfl
 rw[e1,e2]
def Zhb (l:List Nat):Ud (l.map nD)=true:=by
 induction l with
 | nil=>rfl
 | cons a l ih=>show(XV (nD a)&&Ud (l.map nD))=true;rw[ih];rfl
def ZnW {L:Qa}(hl:L.length<=1000){lw:List Nat}{at':Nat}(hat:at'<lw.length){ρ:Zb}(s:Pn)(h1:(ρ[1]?).bind id=some (.lst (L.map Zp)))(hb:X1 [none,none,some 4,some 5] ρ=[none,none,some (.lst (lw.map nD)),some (nD at')]):ZR [none,none,some 4,some 5] (ZV (Za 1)) (Ws 0 1) (XX (asB (Ze Xc (Za 1) (Ze Zl (Za 2) (Za 3)))) (asB (Ze Wa (Za 0) (Za 2)))) (Za 0) ρ s=some (.lst (((L.filter λp=>decide (p.2=lw.getD at' 0) && !decide (p.1∈lw)).map (·.1)).map nD),s):=by
 have hix:Zl (.lst (lw.map nD)) (nD at')=some (nD (lw.getD at' 0)):=by
  refine X8 ?_;rw[qt,qf,qj hat];rfl
 have hc:=YU (src:=[none,none,some 4,some 5]) (fi:=ZV (Za 1)) (τ:=Ws 0 1) (ft:=XX (asB (Ze Xc (Za 1) (Ze Zl (Za 2) (Za 3)))) (asB (Ze Wa (Za 0) (Za 2)))) (fe:=Za 0) (ρ:=ρ) (s:=s) (ds:=L.map Zp) (λd=>[some (nD (Y0 d).1),some (nD (Y0 d).2),some (.lst (lw.map nD)),some (nD at')]) (λd=>decide ((Y0 d).2=lw.getD at' 0) && !decide ((Y0 d).1∈lw)) (λd=>nD (Y0 d).1) (XH (by unfold Za YQ;rw[h1])) (by rw[qd,Yd];omega) λd hd=>by
  obtain⟨p,_,rfl⟩:=qu.mp hd;rw[VJ,hb];exact⟨rfl,ZcV (Yc (Zu (d:=nD p.2) (e:=nD (lw.getD at' 0)) rfl (Zu rfl rfl hix) (by show some (D.bl (ZM _ _))=_;rw[ZfJ]))) λ_=>Yc (Zu (d:=nD p.1) (e:=.lst (lw.map nD)) rfl rfl (ZaG _ _)),λ_=>rfl⟩
 rw[yp,qE]at hc;rw[hc,qE];have e1:((λd=>decide ((Y0 d).2=lw.getD at' 0) && !decide ((Y0 d).1∈lw))∘Zp)=λp:Nat×Nat=>decide (p.2=lw.getD at' 0) && !decide (p.1∈lw):=by funext p;show(decide ((Y0 (Zp p)).2=_) && !decide ((Y0 (Zp p)).1∈lw))=_;rw[VJ]
 have e2:((λd=>nD (Y0 d).1)∘Zp)=nD∘λp:Nat×Nat=>p.1:=by funext p;show nD (Y0 (Zp p)).1=_;rw[VJ];rfl
 rw[e1,e2]
def Zi7 {α:Type}{p q r:α->Bool}(h:∀x,p x=true->r x=true)(h2:∀x,q x=true->r x=true)(h3:∀x,p x=true->q x=true->False):∀l:List α,(l.filter p).length+(l.filter q).length<=(l.filter r).length
 | []=>by simp
 | a::l=>by
  have ih:=Zi7 h h2 h3 l;have f:∀g:α->Bool,((a::l).filter g).length=(l.filter g).length+if g a=true then 1 else 0:=λg=>by
   by_cases z:g a=true
   ·rw[qab z,if_pos z];rfl
   ·rw[yF z,if_neg z];rfl
  rw[f p,f q,f r];by_cases a1:p a=true
  ·rw[if_pos a1,if_pos (h a a1),if_neg (λz=>h3 a a1 z)];omega
  ·rw[if_neg a1]
   by_cases a2:q a=true
   ·rw[if_pos a2,if_pos (h2 a a2)];omega
   ·rw[if_neg a2];omega
def Zcb {lw:List Nat}(h:lw.length<64){f:Zb->M D}{ρ:Zb}{s:Pn}(hf:f ρ s=some (.lst (lw.map nD),s)∨f ρ s=some (ZP lw,s)):∃K:List Nat,Jq f ρ s=some (.lst (K.map nD),s)/\K.length<=lw.length/\(∀x,x∈K↔x∈lw):=by
 have hm:∀x,x∈YX (YW (YJ lw))↔x∈YJ lw:=λx=>by
  rw[(Bm _).mem_iff];exact(ZbT (YJ lw)).2 x
 refine⟨(YX (YW (YJ lw))).map qbV,?_,?_,λx=>?_⟩
 ·unfold Jq Zq
  have e:f ρ s=some (.lst (lw.map nD),s)∨f ρ s=some (.tup (lw.map nD),s):=hf;suffices hh:(match ZG (lw.map nD)with | some ns=>if ns.length<64 then ZA (D.lst ((YX (YW ns)).map .int))else Zv | none=>Zv) s=_ by
   rcases e with e | e <;> rw[e] <;> exact hh
  rw[Zcq];show(if (YJ lw).length<64 then ZA (D.lst ((YX (YW (YJ lw))).map .int))else Zv) s=_;rw[if_pos (by unfold YJ;rw[qd];exact h)];show some (D.lst _,s)=some (D.lst _,s);rw[qE];refine congrArg (λl=>some (D.lst l,s)) (zt λx hx=>?_);obtain⟨y,_,rfl⟩:=qu.mp ((hm x).mp hx);show D.int (y:Int)=D.int ((((y:Int).toNat:Nat)):Int);rw[zG]
 ·rw[qd,(Bm _).length_eq]
  have:=ZeT (YJ lw);unfold YJ at this⊢;rw[qd]at this;exact this
 ·rw[qu]
  constructor
  ·rintro⟨y,hy,rfl⟩
   obtain⟨z,hz,rfl⟩:=qu.mp ((hm y).mp hy);rw[zG];exact hz
  ·intro hx
   exact⟨(x:Int),(hm _).mpr (qu.mpr ⟨x,hx,rfl⟩),zG x⟩
def Zkx {n:Nat}{L:Qa}(hn:n<=10)(hl:L.length<=46){r:Nat->Nat->Bool}(h1:∀p∈L,r p.1 p.2=true)(tr:∀a b c,r a b=true->r b c=true->r a c=true)(s:Pn):∃Ks:List (List Nat),FTlo [nD n,.lst (L.map Zp)] s=some (.lst (Ks.map λK=>.lst (K.map nD)),s)/\Ks.length=n/\(∀k<n,∀x∈Ks.getD k [],r x k=true)/\∀K∈Ks,K.length<=46:=by
 have main:Ok (FTlo [nD n,.lst (L.map Zp)]) s λd s'=>s=s'/\∃Ks:List (List Nat),d=.lst (Ks.map λK=>.lst (K.map nD))/\Ks.length=n/\(∀k<n,∀x∈Ks.getD k [],r x k=true)/\∀K∈Ks,K.length<=46:=by
  refine Ok.runB rfl ?_;refine Ok.seq (.sown (.eq (a:=.lst []) rfl ⟨rfl,?_⟩));refine Ok.seq (.sfor (λk ρ s'=>s=s'/\∃(Ks:List (List Nat)) (o3 o4 o5:Option D),Ks.length=k/\(∀j<k,∀x∈Ks.getD j [],r x j=true)/\(∀K∈Ks,K.length<=46)/\ρ=[some (nD n),some (.lst (L.map Zp)),some (.lst (Ks.map λK=>.lst (K.map nD))),o3,o4,o5]) (.eq (XG (n:=n) rfl (by omega)) ⟨⟨rfl,[],none,none,none,rfl,λj hj=>by omega,by simp,rfl⟩,λk d ρ s' hd hI=>?_,fun ρ' s' hI=>?_⟩))
  ·obtain⟨rfl,Ks,o3,o4,o5,hK,hr,hKl,rfl⟩:=hI
   obtain⟨hk,rfl⟩:=Uq hd;refine⟨_,rfl,?_⟩;refine Ok.seq (.sown (.eq (ZnV (L:=L) (by omega) k s rfl rfl) ⟨rfl,?_⟩));refine Ok.seq (.sset (.eq (a:=nD 0) rfl ?_));refine Ok.seq (Ok.swhile (λm ρ s'=>s=s'/\∃(lw:List Nat) (at':Nat),m=100-at'/\at'<=lw.length/\lw.length<=(L.filter λp=>decide (p.1∈lw)).length/\(∀x∈lw,r x k=true)/\ρ=[some (nD n),some (.lst (L.map Zp)),some (.lst (Ks.map λK=>.lst (K.map nD))),some (nD k),some (.lst (lw.map nD)),some (nD at')]) 100 (by omega) ⟨rfl,(L.filter λp=>decide (p.2=k)).map (·.1),0,rfl,by omega,?_,λx hx=>?_,rfl⟩ λm ρ s' hI=>?_)
   ·rw[qd]
    have e:(L.filter λp=>decide (p.2=k))=((L.filter λp=>decide (p.1∈(L.filter λp=>decide (p.2=k)).map (·.1))).filter λp=>decide (p.2=k)):=by
     rw[List.filter_filter];refine yP λp hp=>?_;by_cases z:p.2=k
     ·rw[decide_eq_true z,decide_eq_true (qu.mpr ⟨p,qA.mpr ⟨hp,decide_eq_true z⟩,rfl⟩)];rfl
     ·rw[decide_eq_false z];rfl
    have e2:=qZ (λp:Nat×Nat=>decide (p.2=k)) (L.filter λp=>decide (p.1∈(L.filter λp=>decide (p.2=k)).map (·.1)));have e3:=congrArg qaQ e;omega
   ·obtain⟨p,hp,rfl⟩:=qu.mp hx
    obtain⟨p1,p2⟩:=qA.mp hp;have:=h1 p p1
    rwa[of_decide_eq_true p2]at this
   obtain⟨rfl,lw,at',hm,hat,hlw,hrr,rfl⟩:=hI;have hlw2:lw.length<=46:=ze hlw (ze (qZ _ _) hl);refine .eq (s':=s) (a:=decide (at'<lw.length)) (Yc (Zu (d:=nD at') (e:=nD lw.length) rfl (Yi (Zh rfl rfl) (show some (D.int _)=some (D.int _) by rw[qd])) (Zmp _ _))) ?_;by_cases hc:at'<lw.length
   ·rw[decide_eq_true hc,if_pos rfl]
    have hnw:((L.filter λp=>decide (p.2=lw.getD at' 0) && !decide (p.1∈lw)).map (·.1)).length<=46:=by
     rw[qd];exact ze (qZ _ _) hl
    refine Ok.seq (.sext (ds:=lw.map nD) rfl (.eq (ZkY (ZnW (L:=L) (by omega) hc s rfl rfl) (by
     show(XV (.lst _)||(true&&Ud _))=true;rw[Zhb];rfl)) ⟨_,rfl,by rw[qd,qd,Yd];omega,?_⟩))
    refine Ok.seq (.sset (.eq (a:=nD (at'+1)) (Zu (d:=nD at') (e:=.int 1) rfl rfl rfl) (.next ⟨100-(at'+1),by omega,rfl,lw++(L.filter λp=>decide (p.2=lw.getD at' 0) && !decide (p.1∈lw)).map (·.1),at'+1,rfl,?_,?_,?_,?_⟩)))
    ·rw[qJ];omega
    ·have:=Zi7 (p:=λp:Nat×Nat=>decide (p.1∈lw)) (q:=λp:Nat×Nat=>(decide (p.2=lw.getD at' 0) && !decide (p.1∈lw))&&decide (p∈L)) (r:=λp:Nat×Nat=>decide (p.1∈lw++(L.filter λp=>decide (p.2=lw.getD at' 0) && !decide (p.1∈lw)).map (·.1))) (λx hx=>by
      have:=of_decide_eq_true hx;exact decide_eq_true (qY _ this)) (λx hx=>by
      rw[qV,decide_eq_true_eq]at hx;exact decide_eq_true (qp _ (qu.mpr ⟨x,qA.mpr ⟨hx.2,hx.1⟩,rfl⟩))) (λx a1 a2=>by
      rw[qV,qV]at a2;rw[a1]at a2;exact absurd a2.1.2 (by decide)) L
     have e:(L.filter λp:Nat×Nat=>(decide (p.2=lw.getD at' 0) && !decide (p.1∈lw))&&decide (p∈L))=L.filter λp=>decide (p.2=lw.getD at' 0) && !decide (p.1∈lw):=yP λp hp=>by rw[decide_eq_true hp,Bool.and_true]
     rw[e]at this;rw[qJ,qd];omega
    ·intro x hx
     rcases qP.mp hx with w | w
     ·exact hrr x w
     ·obtain⟨p,hp,rfl⟩:=qu.mp w
      obtain⟨p1,p2⟩:=qA.mp hp;rw[qV,decide_eq_true_eq]at p2;have e1:=h1 p p1;have e2:=hrr (lw.getD at' 0) (by rw[qf,qj hc];exact zE hc);rw[<-p2.1]at e2;exact tr _ _ _ e1 e2
    ·rw[zK];rfl
   ·rw[decide_eq_false hc,if_neg (by decide)]
    obtain⟨K,hK1,hK2,hK3⟩:=Zcb (lw:=lw) (by omega) (f:=Za 4) (ρ:=[some (nD n),some (.lst (L.map Zp)),none,some (nD k),some (.lst (lw.map nD)),some (nD at')]) (s:=s) (.inl rfl);refine Ok.seq (.sapp (ds:=Ks.map λK=>.lst (K.map nD)) rfl (by rw[qd,Yd];omega) (.eq hK1 (.next ⟨_,rfl,rfl,Ks ++ [K],some (nD k),some (.lst (lw.map nD)),some (nD at'),?_,?_,?_,?_⟩)))
    ·rw[qJ,hK];rfl
    ·intro j hj x hx
     by_cases z:j<k
     ·refine hr j z x ?_
      rwa[qf,zH (by omega),<-qf]at hx
     ·have:j=k:=by omega
      subst this;rw[qf,yb (by omega),hK,qcu]at hx;exact hrr x ((hK3 x).mp hx)
    ·intro K' hK'
     rcases qP.mp hK' with w | w
     ·exact hKl K' w
     ·rw[qK.mp w];omega
    ·rw[zK];rfl
  ·obtain⟨rfl,Ks,o3,o4,o5,hK,hr,hKl,rfl⟩:=hI
   rw[Xm]at hK hr;exact Ok.seq (.sret (.eq rfl ⟨rfl,Ks,rfl,hK,hr,hKl⟩))
 obtain⟨d,s',e,rfl,Ks,rfl,a,b,c⟩:=main;exact⟨Ks,e,a,b,c⟩
end TQ
namespace K55
open L2 TF TQ TS
open TP
open TP2
open TP3
noncomputable def rL (L:Qa)(n a b:Nat):Bool:=@decide (Pth L n a b) (qbP _)
def XA {L:Qa}{n a b:Nat}:rL L n a b=true↔Pth L n a b:=@decide_eq_true_iff _ (qbP _)
def ZmG {ps:List Nat}{n:Nat}(pm:ps.Perm (qk n)){p:Nat×Nat}(h:Fr ps n p):p.1<n/\p.2<n:=by
 obtain⟨i,j,hij,hj,rfl⟩:=h;have hl:ps.length=n:=by rw[pm.length_eq,qG]
 have g:∀i,i<n->ps.getD i 0<n:=λi hi=>by
  rw[qf,qj (by omega)];exact qB.mp (pm.mem_iff.mp (zE _))
 exact⟨g i (by omega),g j hj⟩
def ZmH {L:Qa}{ps:List Nat}{n:Nat}(pm:ps.Perm (qk n))(hF:∀p∈L,Fr ps n p){a b:Nat}(h:Pth L n a b):Fr ps n (a,b):=by
 have nd:ps.Nodup:=pm.nodup_iff.mpr zM;have hl:ps.length=n:=by rw[pm.length_eq,qG]
 induction h with
 | one z=>exact hF _ z
 | two _ _ _ i1 i2=>
  obtain⟨i,j,h1,h2,e1⟩:=i1;obtain⟨i',j',h3,h4,e2⟩:=i2
  cases e1
  injection e2 with e3 e4;have:j=i':=by
   rw[qf,qj (by omega),qf,qj (by omega)]at e3;have pw:=zf.mp nd;rcases qai j i' with z | z | z
   ·exact absurd e3 (pw j i' (by omega) (by omega) z)
   ·exact z
   ·exact absurd e3.symm (pw i' j (by omega) (by omega) z)
  exact⟨i,j',by omega,h4,by rw[e4]⟩
def Zp9 {L:Qa}{ps:List Nat}{n:Nat}(pm:ps.Perm (qk n))(hF:∀p∈L,Fr ps n p):OrdN n (rL L n):=by
 have nd:ps.Nodup:=pm.nodup_iff.mpr zM;have hl:ps.length=n:=by rw[pm.length_eq,qG]
 refine⟨λa=>?_,λa b c h1 h2=>XA.mpr (Pth.trans (λp hp=>ZmG pm (hF p hp)) (XA.mp h1) (XA.mp h2)),λa b h=>ZmG pm (ZmH pm hF (XA.mp h))⟩
 cases e:rL L n a a with
 | false=>rfl
 | true=>
  obtain⟨i,j,h1,h2,e1⟩:=ZmH pm hF (XA.mp e);injection e1 with e2 e3;have e4:=e2.symm.trans e3;rw[qf,qj (by omega),qf,qj (by omega)]at e4;exact absurd e4 (zf.mp nd i j (by omega) (by omega) h1)
def Zky {n:Nat}{Z:Qa}{W:Qa}(hn:n<=24)(hl:Z.length<=1000)(hZ:∀p∈Z,p.1<n/\p.2<n)(irr:∀a,rL Z n a a=false)(e:ZX n (rL Z n)=W)(s:Pn) :
  UO [nD n,.lst (Z.map Zp)] s=some (ZH n W,s)/\∃c h,Ji [nD n,.lst (Z.map Zp)] s=some (.tup [nD (om n W),c,h],s):=by
 have h1:=Za1 hn hl hZ (rL Z n) (λ_ _=>XA) irr s;obtain⟨C,ps,h2,_⟩:=Ze8 hn hl hZ (rL Z n) (λ_ _=>XA) irr s;rw[e]at h1 h2;exact⟨h1,_,_,h2⟩
def Zkz {C K:List Nat}(pm:C.Perm K)(hr:K.Pairwise (· < ·))(hl:K.length<64):Jy [.lst (C.map nD)]=some (.lst (K.map nD)):=by
 have e:YJ K=YX (YJ C):=ZaU (pm.symm.map _) (qaj.mpr (hr.imp λh=>by omega));show(match ZG (C.map nD)with | some ns=>if ns.length<64 then some (D.lst ((YX ns).map .int))else none | none=>none)=_;rw[Zcq];show(if (YJ C).length<64 then some (D.lst ((YX (YJ C)).map .int))else none)=_;rw[if_pos (by unfold YJ;rw[qd,pm.length_eq];exact hl),<-e];unfold YJ;rw[qE];rfl
def Zd6 {τ:D->Zb->Option Zb}{ft:Zb->M Bool}{fe:Zb->M D}{ρ:Zb}{P:D->Prop}:∀(ds:List D) (T:Nat) (s:Pn),Xe T s->T+ds.length<1000000000->
  (∀d∈ds,∀T s,Xe T s->T<1000000000->∃ρ1,τ d ρ=some ρ1/\Ok (ft ρ1) s λb s1=>Xe (T+1) s1/\(b=true->∃c,fe ρ1 s1=some (c,s1)/\P c))->
  Ok (UB τ ft fe ρ ds) s λr s'=>r.length<=ds.length/\(∀c∈r,P c)/\Xe (T+ds.length) s'
 | [],T,s,ok,_,_=>.ret ⟨by simp,by simp,ok⟩
 | d::ds,T,s,ok,hT,h=>by
  have hT':T+(ds.length+1)<1000000000:=hT;obtain⟨ρ1,e1,ok1⟩:=h d (by simp) T s ok (by omega);refine Ok.bind (.of e1 (.bind (ok1.mono λb s1 q=>?_)));have ih:=Zd6 ds (T+1) s1 q.1 (by omega) λd hd=>h d (by simp[hd])
  cases b with
  | true=>
   rw[if_pos rfl];obtain⟨c,hc,hP⟩:=q.2 rfl;refine .bind (.eq hc (.bind (ih.mono λr s' z=>.ret ⟨by simp;exact z.1,?_,z.2.2.mono (by simp;omega)⟩)));intro x hx;rcases qm.mp hx with rfl | hx
   ·exact hP
   ·exact z.2.1 x hx
  | false=>
   rw[if_neg (by decide)];exact ih.mono λr s' z=>⟨by simp;omega,z.2.1,z.2.2.mono (by simp;omega)⟩
def Zd7 {P:Nat×Nat->Prop}:∀{r:List D},(∀c∈r,∃p,c=Zp p/\P p)->∃X:Qa,r=X.map Zp/\X.length=r.length/\∀p∈X,P p
 | [],_=>⟨[],rfl,rfl,by simp⟩
 | c::r,h=>by
  obtain⟨p,rfl,hp⟩:=h c zI;obtain⟨X,rfl,hl,hX⟩:=Zd7 (r:=r) λc hc=>h c (qO _ hc);exact⟨p::X,rfl,by simp,λq hq=>by
   rcases qm.mp hq with rfl | hq
   ·exact hp
   ·exact hX q hq⟩
def Zhc {src:List (Option Nat)}{f fe:Zb->M D}{ρ u:Zb}{s:Pn}{L:Qa}(c:Nat×Nat->D)(hb:X1 src ρ=none::none::u)(h:f ρ s=some (.lst (L.map Zp),s))(hl:L.length<=1000)(he:∀p∈L,fe (some (nD p.1)::some (nD p.2)::u) s=some (c p,s)):ZR src (ZV f) (Ws 0 1) Z3 fe ρ s=some (.lst (L.map c),s):=by
 have hc:=YU (src:=src) (fi:=ZV f) (τ:=Ws 0 1) (ft:=Z3) (fe:=fe) (ρ:=ρ) (s:=s) (ds:=L.map Zp) (λd=>some (nD (Y0 d).1)::some (nD (Y0 d).2)::u) (λ_=>true) (λd=>c (Y0 d)) (XH h) (by rw[qd,Yd];omega) λd hd=>by
  obtain⟨p,hp,rfl⟩:=qu.mp hd;rw[VJ,hb];exact⟨rfl,rfl,λ_=>he p hp⟩
 rw[yG.mpr λ_ _=>rfl,qE]at hc;rw[hc];refine congrArg (λl=>some (D.lst l,s)) (zt λp _=>?_);show c (Y0 (Zp p))=_;rw[VJ]
abbrev sw (p:Nat×Nat):Nat×Nat:=(p.2,p.1)
def Zih (L:Qa)(n a b:Nat):rL (L.map sw) n a b=rL L n b a:=by
 rw[zq,XA,XA];refine⟨λh=>?_,λh=>h.swap⟩;have:=h.swap;rw[qE,show((λp:Nat×Nat=>(p.2,p.1))∘sw)=id from rfl,qb0]at this;exact this
def Zi8 {L:Qa}{n a b:Nat}{f:Nat->Nat}(hf:∀c<n,f c<n)(h:Pth L n a b):Pth (L.map λp=>(f p.1,f p.2)) n (f a) (f b):=by
 induction h with
 | one z=>exact .one (qu.mpr ⟨_,z,rfl⟩)
 | two hc _ _ i1 i2=>exact .two (hf _ hc) i1 i2
def ZmI {L:Qa}{n:Nat}{f g:Nat->Nat}(hg:∀c<n,g c<n)(gf:∀a<n,g (f a)=a)(hL:∀p∈L,p.1<n/\p.2<n){a b:Nat}(h:rL (L.map λp=>(f p.1,f p.2)) n a b=true):rL L n (g a) (g b)=true:=by
 have:=Zi8 hg (XA.mp h);rw[qE,zt (g:=id) λp hp=>by
  show(g (f p.1),g (f p.2))=p;rw[gf _ (hL p hp).1,gf _ (hL p hp).2],qb0]at this
 exact XA.mpr this
def ZmJ {L:Qa}{n:Nat}{ps:List Nat}(pm:ps.Perm (qk n))(o:OrdN n (rL L n))(hL:∀p∈L,p.1<n/\p.2<n):(∀a,rL (L.map λp=>(Xv ps p.1,Xv ps p.2)) n a a=false)/\ZX n (rL (L.map λp=>(Xv ps p.1,Xv ps p.2)) n)=V0 (ZX n (rL L n)) ps:=by
 have I:=ZgY (Zc4 n (rL L n)) pm;have hl:ps.length=n:=by rw[pm.length_eq,qG]
 have up:∀{a b:Nat},rL (L.map λp=>(Xv ps p.1,Xv ps p.2)) n a b=true->rL L n (ps.getD a 0) (ps.getD b 0)=true:=λh=>ZmI (g:=λi=>ps.getD i 0) (λc hc=>I.e'.lt c hc) I.gf hL h;have dn:∀{a b:Nat},a<n->b<n->rL (L.map λp=>(Xv ps p.1,Xv ps p.2)) n a b=rL L n (ps.getD a 0) (ps.getD b 0):=λ{a b} ha hb=>by
  rw[zq];refine⟨up,λh=>XA.mpr ?_⟩;have:=Zi8 (f:=Xv ps) (λc hc=>I.e.lt c hc) (XA.mp h);rw[I.fg a ha,I.fg b hb]at this;exact this
 constructor
 ·intro a
  cases e:rL (L.map λp=>(Xv ps p.1,Xv ps p.2)) n a a with
  | false=>rfl
  | true=>exact absurd (up e) (by rw[o.irr];decide)
 ·unfold V0
  rw[hl];refine yP λp hp=>?_;have hpp:=WX.mp hp;have h1:p.1<n:=by omega
  have ne:ps.getD p.1 0≠ps.getD p.2 0:=λe=>by
   have:=congrArg (Xv ps) e;have a1:=I.fg p.1 h1;have a2:=I.fg p.2 hpp.2;omega
  rw[dn h1 hpp.2,dn hpp.2 h1,Zd5 ne (I.e'.lt _ h1) (I.e'.lt _ hpp.2)]
def ZmK {n:Nat}{jK:Qa}{hs:List Nat}(R:RightH n jK hs)(k:Nat):(VH n λx=>decide (hs.getD x 0=k))∈kn (Yn n jK) n:=
 Uw.mpr ⟨Zd1 _ _,λo ho=>(Vn.mp ho).1,λa ha b hb ne=>by
  obtain⟨a1,a2⟩:=Vn.mp ha;obtain⟨b1,b2⟩:=Vn.mp hb;refine Bs.mpr ⟨a1,b1,ne,?_⟩
  cases e:tied jK a b with
  | false=>rfl
  | true=>exact absurd ((of_decide_eq_true a2).trans (of_decide_eq_true b2).symm) (R.ri a a1 b b1 ne e)⟩
def leN (a b:Nat):Jb (nD a) (nD b)=some (.bl (decide (a<=b))):=by
 show some (D.bl (decide _))=_;congr 2;exact decide_eq_decide.mpr (by omega)
abbrev En (i n:Nat)(L t:Qa)(C hs:List Nat)(u:Zb):Zb:=none::some .pen::some (nD i)::some (nD n)::some (.lst (L.map Zp))::some (ZH n t)::some (nD (om n t))::some (.lst (C.map nD))::some (ZP hs)::u
def ZmL (m:Int)(w:List Int):∃s',Zl7 (none::some .pen::qw 15 none) ([m,0],w)=some (.rt (.bl true),s'):=by
 have ok0:Xe 0 ([m,0],w):=⟨m,0,rfl,by omega,by omega⟩;suffices hh:Ok (Zl7 (none::some .pen::qw 15 none)) ([m,0],w) λo s'=>o=.rt (.bl true) by
  obtain⟨o,s',e,rfl⟩:=hh;exact⟨s',e⟩
 refine Ok.seq (.sfor (λi ρ s'=>Xe (i*3000) s'/\∃o2 o3 o4 o5 o6 o7 o8 o9 o10 o11 o12 o13 o14 o15 o16,ρ=[none,some .pen,o2,o3,o4,o5,o6,o7,o8,o9,o10,o11,o12,o13,o14,o15,o16]) (.eq (XG (n:=3) rfl (by omega)) ⟨⟨ok0.mono (by omega),none,none,none,none,none,none,none,none,none,none,none,none,none,none,none,rfl⟩,λi d ρ s' hd hI=>?_,fun ρ' s' hI=>?_⟩))
 ·obtain⟨ok1,o2,o3,o4,o5,o6,o7,o8,o9,o10,o11,o12,o13,o14,o15,o16,rfl⟩:=hI
  obtain⟨hi,rfl⟩:=Uq hd;refine⟨_,rfl,?_⟩;refine Ok.seq (.sset (.drawD (m:=11) ok1 (by omega) (Zh rfl (Zh rfl rfl)) (by omega) (by omega) λn s1 hn ok2=>?_));refine Ok.seq (.sset (.fn (Zh rfl (Zh rfl (Zh rfl rfl))) ((Zkw (n:=n) ok2 (by omega) (by omega)).mono λd s q=>?_)));obtain⟨ok3,L,qs,rfl,pm,hl,hF⟩:=q;have o:=Zp9 pm hF;have hL:∀p∈L,p.1<n/\p.2<n:=λp hp=>ZmG pm (hF p hp);have hweb:=Zc4 n (rL L n);have htl:=hweb.len (by omega);refine Ok.seq (.sset (.eq (Z0 (Zh rfl (Zh rfl rfl)) (Za1 (by omega) (by omega) hL (rL L n) (λ_ _=>XA) o.irr s)) ?_));obtain⟨C,os,hC,pC,_,pO,hO⟩:=Ze8 (by omega) (by omega) hL (rL L n) (λ_ _=>XA) o.irr s;have hchi:=ZpC o (by omega) pO hO;have hR:=Zb9 (jK:=ZX n (rL L n)) pO;generalize Wt n (ZX n (rL L n)) os=hs at hC hR;have hhl:=hR.len;refine Ok.seq (.sunp (.eq (Z0 (Zh rfl (Zh rfl rfl)) hC) ⟨_,rfl,?_⟩));have hK:=Zbk hweb (by omega);have hKl:=Zd0 (n:=n) (jK:=ZX n (rL L n));refine Ok.seq (.sif (.bor (.eq (a:=false) (Yc (Zu (d:=nD (om n (ZX n (rL L n)))) (e:=nD (om n (ZX n (rL L n)))) (Zu (e:=.int 0) (Z0 (Zh rfl rfl) (Zd2 hweb (by omega) s)) rfl (Ug _ _)) rfl (by rw[JK];simp))) ?_)));rw[if_neg (by decide)];refine .bor (.bnot (.eq (a:=true) (Yc (Z0 (Zh rfl (Zh (Yi (Zh (Yi (Zh rfl rfl) (Zkz pC (Uw.mp hK.1).1 (by omega))) rfl) rfl) rfl)) ((ZcD _ _ (by omega) (We n (ZX n (rL L n))) (by omega) s).trans (by rw[decide_eq_true hK.1])))) ?_));rw[if_neg (by decide)];refine .bnot (.eq (a:=true) (Yc (Z0 (Zh rfl (Zh rfl rfl)) ((ZfP hweb (by omega) (Ze4 hs).1 (Ze4 hs).2 (λds e=>by
   have:ds=hs.map nD:=by injection e with e;exact e.symm
   rw[this,qd];omega) s).trans (by rw[hR.hueB hweb])))) ?_)
  rw[if_neg (by decide)];refine .next ?_;refine Ok.seq (.sset (.eq (Zhc (L:=L) (u:=[]) (λp=>Zp (sw p)) rfl rfl (by omega) λp _=>Wc (Zh rfl (Zh rfl rfl)) two_le) ?_));obtain⟨Ks,hT,hKs,hk1,hk2⟩:=Zkx (n:=n) (L:=L) (by omega) hl (λp hp=>XA.mpr (.one hp)) o.tr s;refine Ok.seq (.sset (.eq (Z0 (Zh rfl (Zh rfl rfl)) hT) ?_));refine Ok.seq (.sown (.eq (a:=.lst (L.map Zp)) (Yi (Zh rfl rfl) rfl) ⟨rfl,?_⟩));refine Ok.seq (.sfor (λk ρ s'=>Xe (i*3000+1001+46*k) s'/\∃(X:Qa) (o12:Option D),X.length<=46*k/\(∀p∈X,rL L n p.1 p.2=true)/\ρ=En i n L (ZX n (rL L n)) C hs [some (.lst (L.map λp=>Zp (sw p))),some (.lst (Ks.map λK=>.lst (K.map nD))),some (.lst ((L++X).map Zp)),o12,o13,o14,o15,o16]) (.eq (XG (n:=n) rfl (by omega)) ⟨⟨ok3.mono (by omega),[],o12,by simp,by simp,by rw[zp];rfl⟩,λk d ρ s' hd hI=>?_,fun ρ' s' hI=>?_⟩))
  ·obtain⟨okk,X,o12,hX,hX2,rfl⟩:=hI
   obtain⟨hk,rfl⟩:=Uq hd;refine⟨_,rfl,?_⟩;have hkk:(Ks.getD k [])∈Ks:=by
    rw[qf,qj (by omega)];exact zE _
   have hk3:=hk2 _ hkk;refine Ok.seq (.sext (ds:=(L++X).map Zp) rfl ?_);refine .bind (.eq (a:=(Ks.getD k []).map nD) (s':=s') (XH (Zu rfl rfl ?_)) (.ite (by rw[qd,Yd];omega) (.bind ((Zd6 (P:=λc=>∃p,c=Zp p/\rL L n p.1 p.2=true) _ _ s' okk (by rw[qd];omega) λd hd T s ok hT=>?_).mono λr s1 q=>.ret ?_))))
   ·refine X8 ?_
    rw[qt,qf,qj (by omega)];rfl
   ·obtain⟨x,hx,rfl⟩:=qu.mp hd
    refine⟨_,rfl,?_⟩;obtain⟨z,s1,e,_,_,ok1⟩:=Zfr ok hT (show(0:Int)<2 by omega) (by omega);exact .eq (a:=z==0) (Yc (Zu (d:=.int z) (e:=.int 0) (Z0 (Zh rfl (Zh rfl rfl)) e) rfl (by rw[eqi]))) ⟨ok1,λ_=>⟨Zp (x,k),Wc (Zh rfl (Zh rfl rfl)) two_le,(x,k),rfl,hk1 k hk x hx⟩⟩
   ·obtain⟨q1,q2,q3⟩:=q
    rw[qd]at q1 q3;obtain⟨Y,rfl,hY,hY2⟩:=Zd7 q2;refine⟨_,rfl,by rw[qd,qd,qJ,Yd];rw[qd]at q1;omega,.next ⟨_,rfl,q3.mono (by omega),X++Y,_,by rw[qJ];rw[qd]at q1;omega,λp hp=>?_,by rw[<-zK,yO];rfl⟩⟩;rcases qP.mp hp with h | h
    ·exact hX2 p h
    ·exact hY2 p h
  obtain⟨ok4,X,o12,hX,hX2,rfl⟩:=hI;rw[Xm]at ok4 hX;refine Ok.seq (.sfor (λk ρ s4=>s'=s4/\∃o13,ρ=En i n L (ZX n (rL L n)) C hs [some (.lst (L.map λp=>Zp (sw p))),some (.lst (Ks.map λK=>.lst (K.map nD))),some (.lst ((L++X).map Zp)),o12,o13,o14,o15,o16]) (.eq (XH (JE (ds:=[.lst ((L.map sw).map Zp),.lst ((L++X).reverse.map Zp)]) (Zh (d:=.lst ((L.map sw).map Zp)) (by rw[qE];rfl) (Zh (by rw[List.map_reverse];rfl) rfl)) two_le)) ⟨⟨rfl,o13,rfl⟩,λk d ρ s4 hd hI=>?_,fun ρ' s4 hI=>?_⟩))
  ·obtain⟨rfl,o13,rfl⟩:=hI
   obtain⟨Z,rfl,hZl,hZ,hZi,hZe⟩:∃Z:Qa,d=.lst (Z.map Zp)/\Z.length<=1000/\(∀p∈Z,p.1<n/\p.2<n)/\(∀a,rL Z n a a=false)/\ZX n (rL Z n)=ZX n (rL L n):=by
    have hdm:=z9 hd;simp only[qm,zm,or_false]at hdm;rcases hdm with rfl | rfl
    ·refine⟨_,rfl,by rw[qd];omega,λp hp=>?_,λa=>by rw[Zih];exact o.irr a,yP λp _=>by rw[Zih,Zih,Bool.or_comm]⟩
     obtain⟨q,hq,rfl⟩:=qu.mp hp;exact(hL q hq).symm
    ·have hin:∀p∈(L++X).reverse,rL L n p.1 p.2=true:=λp hp=>by
      rcases qP.mp (yJ.mp hp)with h | h
      ·exact XA.mpr (.one h)
      ·exact hX2 p h
     have e:rL (L++X).reverse n=rL L n:=by
      funext a b;rw[zq,XA,XA];exact⟨λh=>h.mono λp hp=>XA.mp (hin p hp),λh=>h.mono λp hp=>.one (yJ.mpr (qY _ hp))⟩
     exact⟨_,rfl,by rw[qbb,qJ];omega,λp hp=>o.lt _ _ (hin p hp),λa=>by rw[e];exact o.irr a,by rw[e]⟩
   obtain⟨t1,c,h,t2⟩:=Zky (by omega) hZl hZ hZi hZe s';refine⟨_,rfl,?_⟩;refine Ok.seq (.sif (.bor (.eq (a:=false) (Yc (Zu (d:=ZH n (ZX n (rL L n))) (e:=ZH n (ZX n (rL L n))) (Z0 (Zh rfl (Zh rfl rfl)) t1) rfl (ZiY (Ze6 _ _) (ze (ZiH _ _) (by omega))))) ?_)));rw[if_neg (by decide)];refine .eq (a:=false) (Yc (Zu (d:=nD (om n (ZX n (rL L n)))) (e:=nD (om n (ZX n (rL L n)))) (Zu (e:=.int 0) (Z0 (Zh rfl (Zh rfl rfl)) t2) rfl (Ug _ _)) rfl (by rw[JK];simp))) ?_;rw[if_neg (by decide)];exact .next (.next ⟨_,rfl,rfl,_,rfl⟩)
  obtain⟨rfl,o13,rfl⟩:=hI;refine Ok.seq (.sset (.fn (Zh rfl (Zh rfl rfl)) ((Zgn (n:=n) ok4 (by omega) (by omega)).mono λd s7 q=>?_)));obtain⟨ok7,xs,rfl,hpx⟩:=q;obtain⟨ps,rfl,hpp⟩:=ZdS hpx;have hps:(YJ ps).map D.int=ps.map nD:=by unfold YJ;rw[qE];rfl
  rw[hps];have nd:ps.Nodup:=hpp.nodup_iff.mpr zM;have hpl:ps.length=n:=by rw[hpp.length_eq,qG]
  have hpm:∀x<n,x∈ps:=λx hx=>hpp.mem_iff.mpr (qB.mpr hx);refine Ok.seq (.sset (.eq (Zp4 (ps:=ps) rfl nd (by omega)) ?_));obtain⟨mi,me⟩:=ZmJ hpp o hL;have t3:=Za1 (L:=L.map λp=>(Xv ps p.1,Xv ps p.2)) (n:=n) (by omega) (by rw[qd];omega) (λp hp=>by
   obtain⟨q,hq,rfl⟩:=qu.mp hp;have I:=ZgY hweb hpp;exact⟨I.e.lt _ (hL q hq).1,I.e.lt _ (hL q hq).2⟩) _ (λ_ _=>XA) mi s7
  rw[me,qE]at t3;have t4:=Zks n (ZX n (rL L n)) ps (by omega) (by omega) s7;rw[hpl]at t4;refine Ok.seq (.sif (.eq (a:=false) (Yc (Zu (Z0 (Zh rfl (Zh (Zhc (L:=L) (u:=[some (.dk (WU 0 ps))]) (λp=>Zp (Xv ps p.1,Xv ps p.2)) rfl rfl (by omega) λp hp=>Wc (Zh (Zu rfl rfl (Zoq (hpm _ (hL p hp).1))) (Zh (Zu rfl rfl (Zoq (hpm _ (hL p hp).2))) rfl)) two_le) rfl)) t3) (Z0 (Zh rfl (Zh rfl rfl)) t4) (ZiY (Ze6 _ _) (ze (ZiH _ _) (by omega))))) (.next ?_)));refine Ok.seq (.sif (.eq (s':=s7) (a:=false) ((ZcV (a:=decide (n<=8)) (b:=false) (Yc (Zu (d:=nD n) (e:=nD 8) rfl rfl (leN _ _))) λh8=>?_).trans (by rw[Bool.and_false])) (.next ?_)))
  ·have hf:=ZnO hweb (of_decide_eq_true h8) s7
   rw[hchi]at hf;exact Yc (Zu (d:=nD (om n (ZX n (rL L n)))) (e:=nD (om n (ZX n (rL L n)))) (Zu (e:=.int 0) (Z0 (Zh rfl rfl) hf) rfl (Ug _ _)) rfl (by rw[JK];simp))
  obtain⟨HS,hH,hHl,_⟩:=Zcb (lw:=hs) (by omega) (f:=Za 8) (ρ:=En i n L (ZX n (rL L n)) C hs [some (.lst (L.map λp=>Zp (sw p))),some (.lst (Ks.map λK=>.lst (K.map nD))),some (.lst ((L++X).map Zp)),o12,o13,some (.lst (ps.map nD)),some (.dk (WU 0 ps)),o16]) (s:=s7) (.inr rfl);refine Ok.seq (.sfor (λk ρ s4=>s7=s4/\∃o16,ρ=En i n L (ZX n (rL L n)) C hs [some (.lst (L.map λp=>Zp (sw p))),some (.lst (Ks.map λK=>.lst (K.map nD))),some (.lst ((L++X).map Zp)),o12,o13,some (.lst (ps.map nD)),some (.dk (WU 0 ps)),o16]) (.eq (XH hH) ⟨⟨rfl,o16,rfl⟩,λk d ρ s4 hd hI=>?_,fun ρ' s4 hI=>?_⟩))
  ·obtain⟨rfl,o16,rfl⟩:=hI
   obtain⟨h,_,rfl⟩:=qu.mp (z9 hd);refine⟨_,rfl,?_⟩;have hc:=YU (src:=[none,some 8,some 16]) (fi:=Z8 (Za 3)) (τ:=Zw 0) (ft:=asB (Ze Xc (Ze Zl (Za 1) (Za 0)) (Za 2))) (fe:=Za 0) (ρ:=En i n L (ZX n (rL L n)) C hs [some (.lst (L.map λp=>Zp (sw p))),some (.lst (Ks.map λK=>.lst (K.map nD))),some (.lst ((L++X).map Zp)),o12,o13,some (.lst (ps.map nD)),some (.dk (WU 0 ps)),some (nD h)]) (s:=s7) (ds:=Yb 0 n) (λd=>[some d,some (ZP hs),some (nD h)]) (λd=>decide (hs.getD (Yo d) 0=h)) (λd=>d) (XG (n:=n) rfl (by omega)) (by rw[Xm,Yd];omega) λd hd=>by
    obtain⟨q,hq,rfl⟩:=V7 hd;refine⟨rfl,Yc (Zu (d:=nD (hs.getD q 0)) (e:=nD h) (Zu (d:=ZP hs) (e:=nD q) rfl rfl (X8 ?_)) rfl (by show some (D.bl (ZM _ _))=_;rw[ZfJ];rfl)),λ_=>rfl⟩;rw[qt,qf,qj (by omega)];rfl
   rw[Zaz n λq=>decide (hs.getD q 0=h)]at hc;have hsl:=ZnN n λq=>decide (hs.getD q 0=h);have ttl:=(Ze3 n (ZX n (rL L n))).len (by omega);refine Ok.seq (.sif (.bnot (.eq (a:=true) (Yc (Z0 (Zh (Z0 (Zh rfl rfl) (ZdY n _ s7 (by omega) (by omega))) (Zh (Yi (Zh hc rfl) rfl) rfl)) ((ZcD n (Yn n (ZX n (rL L n))) (by omega) (VH n λq=>decide (hs.getD q 0=h)) (by omega) s7).trans (by rw[decide_eq_true (ZmK hR h)])))) ?_)));rw[if_neg (by decide)];exact .next (.next ⟨_,rfl,rfl,_,rfl⟩)
  obtain⟨rfl,o16,rfl⟩:=hI;exact .next ⟨_,rfl,ok7.mono (by omega),_,_,_,_,_,_,_,_,_,_,_,_,_,_,_,rfl⟩
 ·obtain⟨ok,o2,o3,o4,o5,o6,o7,o8,o9,o10,o11,o12,o13,o14,o15,o16,rfl⟩:=hI
  exact Ok.seq (.sret (.eq rfl rfl))
end K55
namespace K55
open L2 TF TQ
open TP
open TP2
open TP3
def ZpE {P:xE}{w:World}{K:ql}{mg:Str->Option Value}{base:Heap}{jZ a_p:Addr}{jO fd_p:xD}{L:List (Addr×Str)}(lo:Wy L)(F:Fun K "law" "law" s_law jZ jO)(T:Txt mg)(FP:FnOk P w K mg base ZQ 1 a_p fd_p ["script"] (Zoe K))(hmp:mg "_law_tpen" = some (.ref a_p))(hkp:ym K (.ref a_p)=true)(hbp:Wr K fd_p ["script"] [])(jM:ZD P w K mg base 1 "_law_tdraw" 2 true (Wj XO L) Yv)(ke:ZD P w K mg base 1 "_law_tlower" 2 true ZU Zak)(jU:ZD P w K mg base 2 "_law_torder" 2 true (Wj XO L) WZ)(kf:ZD P w K mg base 3 "_law_tpairs" 3 true (Wj XO L) Zaj)(ka:ZD P w K mg base 56 "chains_told" 2 false (Ym L) Ji)(kg:ZD P w K mg base 56 "fewest_hues" 1 true (Ym L) Bd)(ko:ZD P w K mg base 3 "is_hueing" 2 false ZU Bh)(kx:ZD P w K mg base 3 "is_knot" 2 false ZU Jo)(kC:ZD P w K mg base 55 "most" 1 true (Ym L) Vq)(kN:ZD P w K mg base 7 "moved" 2 false (Ym L) BG)(km:ZD P w K mg base 6 "turned" 1 false (Ym L) Ua)(jW:ZD P w K mg base 7 "web_of_order" 2 false (Ym L) UO) :
  FnOk P w K mg base ZQ 57 jZ jO ["script"] (ZhP K L):=by
 have nd:=Zh5.nd;refine F.ok Zh5 (λvs H Q E h=>?_) λcdv A outer s0 H vs Q E hr h=>?_
 ·obtain⟨a,ns,rfl,_⟩:=h
  rfl
 ·obtain⟨a,ns,rfl,sq,hl,hTb,hQ⟩:=h
  refine⟨_,Va (Ux (i:=1) nd rfl (yc rfl) (Zfd (FP.mono (by decide)) hr rfl hmp hkp hbp .nil Zis (YN (pv 0) Y3))) (Zll (GG:=(Wj XO L)) λG hG=>ZnB lo T hr jM ke jU kf ka kg ko kx kC kN km jW G hG),?_⟩;refine⟨.ref a,rfl,a,ns,rfl,sq,hl,λp wa m H' st kp hp hw=>?_⟩;obtain⟨s',hs'⟩:=ZmL m (Vp ns);exact Zj1 (n:=15) st hTb kp hp hw hQ hs'
def Zow:List DRow:=[dR "is_whole" 4 225 7 1 40 229 true "tiefold.things" 223,
 dR "is_tuple_of" 5 232 9 2 47 237 true "tiefold.things" 223,
 dR "rises" 6 240 11 1 54 243 false "tiefold.things" 223,
 dR "pairs_of" 7 246 13 1 59 253 true "tiefold.things" 223,
 dR "is_place" 9 258 20 2 66 263 true "tiefold.webs" 256,
 dR "near" 10 266 22 2 73 269 false "tiefold.webs" 256,
 dR "all_near" 11 272 24 1 78 275 false "tiefold.webs" 256,
 dR "are_tied" 12 278 27 3 83 284 true "tiefold.webs" 256,
 dR "marked_ties" 13 287 29 1 90 290 false "tiefold.webs" 256,
 dR "turned" 14 293 31 1 95 298 true "tiefold.webs" 256,
 dR "moved" 15 301 34 2 102 306 true "tiefold.webs" 256,
 dR "numbered_anew" 16 309 36 2 109 315 true "tiefold.webs" 256,
 dR "web_where" 17 318 39 2 116 321 false "tiefold.webs" 256,
 dR "most" 19 326 43 1 121 331 true "tiefold.most" 324,
 dR "heaviest_knot" 20 334 46 2 128 337 false "tiefold.most" 324,
 dR "heaviest_among" 21 340 49 3 133 343 false "tiefold.most" 324,
 dR "apart_among" 22 346 61 3 138 349 false "tiefold.most" 324,
 dR "heaviest_with" 23 352 63 4 143 355 false "tiefold.most" 324,
 dR "weighed" 24 358 66 2 148 361 false "tiefold.most" 324,
 dR "is_hueing" 26 366 69 2 153 369 false "tiefold.hues" 364,
 dR "hued_along" 27 372 75 2 158 375 false "tiefold.hues" 364,
 dR "least_free" 28 378 81 1 163 381 false "tiefold.hues" 364,
 dR "fewest_hues" 29 384 83 1 168 391 true "tiefold.hues" 364,
 dR "hued_on" 30 394 91 3 175 397 false "tiefold.hues" 364,
 dR "web_of_order" 32 402 103 2 180 407 true "tiefold.chains" 400,
 dR "chains_told" 33 410 105 2 187 413 false "tiefold.chains" 400,
 dR "count_below" 34 416 112 3 192 419 false "tiefold.chains" 400,
 dR "web_of_below" 35 422 114 2 197 428 true "tiefold.chains" 400,
 dR "all_below" 36 431 116 2 204 434 false "tiefold.chains" 400,
 dR "is_knot" 38 439 127 2 209 442 false "tiefold.knots" 437,
 dR "_law_tpen" 40 447 135 1 214 450 false "law_tiefold_k55_whole_orders_turned" 445,
 dR "_law_tdraw" 41 453 140 2 219 461 true "law_tiefold_k55_whole_orders_turned" 445,
 dR "_law_torder" 42 464 151 2 226 467 false "law_tiefold_k55_whole_orders_turned" 445,
 dR "_law_tpairs" 43 470 154 3 231 482 true "law_tiefold_k55_whole_orders_turned" 445,
 dR "_law_tlower" 44 485 167 2 238 488 false "law_tiefold_k55_whole_orders_turned" 445,
 dR "law" 45 491 177 1 243 494 false "law_tiefold_k55_whole_orders_turned" 445]
def KF (P:Params):ql:=Zp2 Z4 181 ([dE P "__name__" 165 (.str "law_tiefold_k55_whole_orders_turned" 445)] ++ [dE P "__doc__" 166 (.none)] ++ [dE P "__package__" 167 (.none)] ++ [dE P "__loader__" 168 (.builtin "__main__.__loader__#opaque")] ++ [dE P "__spec__" 169 (.none)]++dRs P [nE "__annotations__" 170 6,nE "__builtins__" 171 4] ++ [dE P "__file__" 173 (.str "/claim/cut.py" 172)] ++ [dE P "__cached__" 174 (.none)]++dRs P [nE "TieError" 206 24,nE "Round" 222 37,nE "is_whole" 231 46,nE "is_tuple_of" 239 53,nE "rises" 245 58,nE "pairs_of" 255 65,nE "is_place" 265 72,nE "near" 271 77,nE "all_near" 277 82,nE "are_tied" 286 89,nE "marked_ties" 292 94,nE "turned" 300 101,nE "moved" 308 108,nE "numbered_anew" 317 115,nE "web_where" 323 120,nE "most" 333 127,nE "heaviest_knot" 339 132,nE "heaviest_among" 345 137,nE "apart_among" 351 142,nE "heaviest_with" 357 147,nE "weighed" 363 152,nE "is_hueing" 371 157,nE "hued_along" 377 162,nE "least_free" 383 167,nE "fewest_hues" 393 174,nE "hued_on" 399 179,nE "web_of_order" 409 186,nE "chains_told" 415 191,nE "count_below" 421 196,nE "web_of_below" 430 203,nE "all_below" 436 208,nE "is_knot" 444 213,nE "_law_tpen" 452 218,nE "_law_tdraw" 463 225,nE "_law_torder" 469 230,nE "_law_tpairs" 484 237,nE "_law_tlower" 490 242,nE "law" 496 247]) 47 Zow
def asF:List Addr:=[3,45,46,52,53,57,58,64,65,71,72,76,77,81,82,88,89,93,94,100,101,107,108,114,115,119,120,126,127,131,132,136,137,141,142,146,147,151,152,156,157,161,162,166,167,173,174,178,179,185,186,190,191,195,196,202,203,207,208,212,213,217,218,224,225,229,230,236,237,241,242,246,247]
def eF:∀P,asF=(KF P).map (·.1):=λ_=>by kernel_rfl
def okF (P:Params):ZfI (KF P) Z4 Zow:=by
 repeat refine⟨⟨by kernel_rfl,by kernel_rfl,by kernel_rfl⟩,?_⟩
 exact trivial
abbrev LF:List (Addr×Str):=[(96,(qC "turned.<locals>.<lambda>")),(198,(qC "web_of_below.<locals>.<lambda>")),(188,(qC "chains_told.<locals>.<lambda>")),(110,(qC "numbered_anew.<locals>.<lambda>"))]
def ZpF {P:xE}{w:World}{h:Heap}{mg:Str->Option Value}{fa:Addr}(X:(KF w.params).In h)(G:h.Ns mainGlobals mg)(hfa:mg "law" = some (.ref fa)) :
  ∃fd:xD,(∀(s:Shared) (v:Value),BindsTo s fd ⟨[v],[]⟩ [("script",v)])/\∀base:Heap,(KF w.params).In base->base.Ns mainGlobals mg->zJ base 100 96->zJ base 202 198->zJ base 190 188->zJ base 114 110->Uo mg base->FnOk P w (KF w.params) mg base ZQ 57 fa fd ["script"] (ZhP (KF w.params) LF):=by
 have lo:Wy LF:=TF.lok_nd (by decide);have zn:∀x,qbK (KF w.params) mainGlobals x=some none->mg x=none:=λ_ z=>PySem.W.mg_none_of X G z;have T:Txt mg:=⟨zn _ (by kernel_rfl),zn _ (by kernel_rfl),zn _ (by kernel_rfl),zn _ (by kernel_rfl),zn _ (by kernel_rfl),zn _ (by kernel_rfl),zn _ (by kernel_rfl),zn _ (by kernel_rfl),zn _ (by kernel_rfl),zn _ (by kernel_rfl),zn _ (by kernel_rfl),zn _ (by kernel_rfl),zn _ (by kernel_rfl),zn _ (by kernel_rfl),zn _ (by kernel_rfl),zn _ (by kernel_rfl)⟩;have mk:=@mkc P w (KF w.params) mg;have at_:=λj {r} e=>@Zpr _ h mg _ _ (okF w.params) X G j r e;obtain⟨f1,_,F1,m1,_⟩:=at_ 31 rfl;obtain⟨f2,_,F2,m2,_⟩:=at_ 34 rfl;obtain⟨f3,_,F3,m3,_⟩:=at_ 32 rfl;obtain⟨f4,_,F4,m4,_⟩:=at_ 33 rfl;obtain⟨f5,_,F5,m5,_⟩:=at_ 28 rfl;obtain⟨f6,_,F6,m6,_⟩:=at_ 26 rfl;obtain⟨f7,_,F7,m7,_⟩:=at_ 8 rfl;obtain⟨f8,_,F8,m8,_⟩:=at_ 7 rfl;obtain⟨f9,_,F9,m9,_⟩:=at_ 5 rfl;obtain⟨f10,_,F10,m10,_⟩:=at_ 6 rfl;obtain⟨f11,_,F11,m11,_⟩:=at_ 21 rfl;obtain⟨f12,_,F12,m12,_⟩:=at_ 20 rfl;obtain⟨f13,_,F13,m13,_⟩:=at_ 16 rfl;obtain⟨f14,_,F14,m14,_⟩:=at_ 18 rfl;obtain⟨f15,_,F15,m15,_⟩:=at_ 17 rfl;obtain⟨f16,_,F16,m16,_⟩:=at_ 15 rfl;obtain⟨f17,_,F17,m17,_⟩:=at_ 3 rfl;obtain⟨f18,_,F18,m18,_⟩:=at_ 12 rfl;obtain⟨f19,_,F19,m19,e19⟩:=at_ 9 rfl;obtain⟨f20,_,F20,m20,_⟩:=at_ 14 rfl;obtain⟨f21,_,F21,m21,_⟩:=at_ 13 rfl;obtain⟨f22,_,F22,m22,e22⟩:=at_ 27 rfl;obtain⟨f23,_,F23,m23,e23⟩:=at_ 25 rfl;obtain⟨f24,_,F24,m24,_⟩:=at_ 23 rfl;obtain⟨f25,_,F25,m25,_⟩:=at_ 22 rfl;obtain⟨f26,_,F26,m26,_⟩:=at_ 0 rfl;obtain⟨f27,_,F27,m27,_⟩:=at_ 4 rfl;obtain⟨f28,_,F28,m28,_⟩:=at_ 1 rfl;obtain⟨f29,_,F29,m29,_⟩:=at_ 19 rfl;obtain⟨f30,_,F30,m30,_⟩:=at_ 2 rfl;obtain⟨f31,_,F31,m31,_⟩:=at_ 29 rfl;obtain⟨f32,_,F32,m32,e32⟩:=at_ 11 rfl;obtain⟨f33,_,F33,m33,_⟩:=at_ 10 rfl;obtain⟨f34,_,F34,m34,_⟩:=at_ 24 rfl;obtain⟨f35,_,F35,m35,_⟩:=at_ 30 rfl;obtain⟨f36,_,F36,m36,_⟩:=at_ 35 rfl
 cases hfa.symm.trans m36
 have kd:=λb=>mk b F8 m8 (ZgQ F8 T );have kO:=λb=>mk b F17 m17 (ZgO F17 T );have kR:UJ P w (KF w.params) mg 5 "web_where" 2 false (UI P w (KF w.params) mg 4 2 Tl) VI:=⟨f18,_,_,λb=>ZfE F18 T (kO b),m18,F18.kp,bdc ["row","tied"] F18⟩;obtain⟨oc,od,kV,doc,pm,an,cdv,ct,osl,rfl,lk,hcd⟩:=F36.ex;refine⟨yz "law" "law" (Vc s_law) (WM s_law) (Zy s_law) .none kV doc pm an cdv ct,λs v=>.of_eq rfl,λbase _ _ hC19 hC22 hC23 hC32 hBm=>?_⟩;have kK:=mk base F1 m1 (Zep F1 T );have jM:ZD P w (KF w.params) mg base 1 "_law_tdraw" 2 true (Wj XO LF) Yv:=Zgm kK Zlt;have ke:=mk base F2 m2 (ZdD F2 T );have kP:=mk base F3 m3 (ZdP F3 T kK);have jU:ZD P w (KF w.params) mg base 2 "_law_torder" 2 true (Wj XO LF) WZ:=Zgm kP Zj2;have kf:=mk base F4 m4 (ZdC F4 T lo jM jU);have ki:=mk base F5 m5 (ZfF F5 T );have kF:=mk base F6 m6 (ZdG F6 T );have jQ:=mk base F7 m7 (ZdH F7 T );have kL:=kd base;have kT:=mk base F9 m9 (Znz F9 T kL);have j7:=mk base F10 m10 (ZgR F10 T jQ kT);have kI:=mk base F11 m11 (Zem F11 T );have kJ:=mk base F12 m12 (Zen F12 T j7 kI);have kE:=mk base F13 m13 (ZdI F13 T );have kH:=mk base F14 m14 (Zh2 F14 T );have rr:∀j:Nat,ZD P w (KF w.params) mg base (1+2*j) "heaviest_among" 3 false ZU (UN j):=by
  intro j
  induction j with
  | zero=>exact ZD.none m16 F16.kp (bdc ["aparts","weights","places"] F16)
  | succ j ih=>
   have kh:=mk base F15 m15 (Zcl F15 T (by omega) ih);have z:ZD P w (KF w.params) mg base (1+2*j+2) "heaviest_among" 3 false ZU (UN (j+1)):=mk base F16 m16 (Zb2 F16 T (by omega) kE ih kh kH);exact z.mono (h:=by omega)
 have jS:=(rr 26).mono (k:=53);have kB:=kO base;have jX:=kR;have km:=mk base F19 m19 (Zke F19 T lo jQ jX kd (tP:=96) e19 hC19 hBm (by simp));have kq:=mk base F20 m20 (Zcm F20 T lo j7 jS km);have kC:=mk base F21 m21 (ZnA F21 T lo kq);have jY:=mk base F22 m22 (ZcM F22 T lo jX (tP:=198) e22 hC22 hBm (by simp));have ka:=mk base F23 m23 (ZdK F23 T lo ki kF kJ kC jY (tP:=188) e23 hC23 hBm (by simp));have kU:∀j:Nat,ZD P w (KF w.params) mg base (0+j) "hued_on" 3 false ZU (V8 j):=by
  intro j
  induction j with
  | zero=>exact ZD.none m24 F24.kp (bdc ["nears","many","hues"] F24)
  | succ j ih=>exact mk base F24 m24 (Zh4 F24 T (qbG _ _) ih)
 have kt:=(kU 10).mono (k:=11);have kg:=mk base F25 m25 (ZdO F25 T lo j7 kt kC);have kM:=mk base F26 m26 (ZgT F26 T );have kj:=mk base F27 m27 (ZgU F27 T kM);have kG:=mk base F28 m28 (ZdM F28 T );have ko:=mk base F29 m29 (ZfG F29 T kj kG);have kQ:=mk base F30 m30 (Zl6 F30 T );have kx:=mk base F31 m31 (Zh3 F31 T kj jQ kB kQ);have kr:=mk base F32 m32 (Zcn F32 T lo jQ jX kd (tP:=110) e32 hC32 hBm (by simp));have kN:=mk base F33 m33 (Zl5 F33 T lo kr);have jW:=mk base F34 m34 (ZcN F34 T lo ki jY);exact ZpE lo F36 T (ZfH F35 T) m35 F35.kp (bdc ["script"] F35) jM ke jU kf ka kg ko kx kC kN km jW
def tb:List (Str×Addr×Addr):=[("turned",100,96),("web_of_below",202,198),("chains_told",190,188),("numbered_anew",114,110)]
def ZpG:∀P q,(P,q)∈LF->∃x c,(x,c,P)∈tb:=by
 intro P q h;simp only[qm,Prod.mk.injEq,zm,or_false]at h;rcases h with⟨rfl,_⟩ | ⟨rfl,_⟩ | ⟨rfl,_⟩ | ⟨rfl,_⟩
 ·exact⟨"turned",100,by simp[tb]⟩
 ·exact⟨"web_of_below",202,by simp[tb]⟩
 ·exact⟨"chains_told",190,by simp[tb]⟩
 ·exact⟨"numbered_anew",114,by simp[tb]⟩
def qF:xE:=PySem.W.view PySem.Challenge.pw_tiefold_k55_whole_orders_turned [1,2,4,5,6,7,9,10,11,12,13,14,15,16,17,19,20,21,22,23,24,26,27,28,29,30,32,33,34,35,36,38,40,41,42,43,44,45]
def walk {loose:List Str}{XP:(Str->Option Value)->Heap->Prop}{YP:World->Heap->Prop}(hY:∀(w:World) (h:Heap),YP w h->(KF w.params).In h) :
  qcl qF loose XP YP PySem.Challenge.rw_tiefold_k55_whole_orders_turned.row.toRowW (Zh6 s_law) [] (λf vs=>qcg f vs):=
 Zlv (K:=KF) (tb:=tb) (n:=63) (k:=57) (x:="script") (CX:=λ_=>ZQ) (sp:=λw=>ZhP (KF w.params) LF) rfl (by decide) rfl ⟨rfl,by decide,by decide,rfl⟩ hY
  (ya.mpr ⟨zL.mp (by kernel_rfl),ya.mpr ⟨zL.mp (by kernel_rfl),ya.mpr ⟨zL.mp (by kernel_rfl),ya.mpr ⟨zL.mp (by kernel_rfl),(λ_ h=>nomatch h)⟩⟩⟩⟩)
  (λw=>ya.mpr ⟨by kernel_rfl,ya.mpr ⟨by kernel_rfl,ya.mpr ⟨by kernel_rfl,ya.mpr ⟨by kernel_rfl,(λ_ h=>nomatch h)⟩⟩⟩⟩) (λw=>by kernel_rfl)
  (λw mg fa h h1 h2 h3=>let ⟨fd,hb,hF⟩:=ZpF h1 h2 h3;⟨fd,hb,λbase g1 g2 g3 g4=>hF base g1 g2 (g3 ("turned",100,96) (by simp[tb])) (g3 ("web_of_below",202,198) (by simp[tb])) (g3 ("chains_told",190,188) (by simp[tb])) (g3 ("numbered_anew",114,110) (by simp[tb])) g4⟩)
  (λ_ _ a ns hl hS hTb=>⟨a,ns,rfl,hS,hl,ZhQ (tb:=tb) ZpG hTb,λ_=>rfl⟩) λ_ _ _ _ _ z=>z
def left:PySem.W.LeftO PySem.Challenge.rw_tiefold_k55_whole_orders_turned.prog qF [] (λs=>PySem.W.xlAt qF [] s&&PySem.W.recOk PySem.Challenge.rw_tiefold_k55_whole_orders_turned.row.records s) (qad KF asF eF).obs (qad KF asF eF).val 3084:=λw=>by kernel_rfl
def said:PySem.Challenge.rw_tiefold_k55_whole_orders_turned.wellSaid=true:=by kernel_rfl
end K55
open PySem.W
set_option maxRecDepth 100000 in
set_option maxHeartbeats 0 in
theorem PySem.Challenge.cw_tiefold_k55_whole_orders_turned_holds : PySem.Challenge.rw_tiefold_k55_whole_orders_turned.Holds := by
 refine TF.head_of (q:=K55.qF) (K:=K55.KF) (st:=K55.s_law) K55.said K55.left (by kernel_rfl) (by kernel_rfl) (by kernel_rfl) (by decide +kernel) ⟨rfl,rfl,rfl,rfl,rfl,by decide +kernel⟩ ?hw rfl (K55.walk λw h Y=>kIn_of Y)
 case hw=>w_witness2
