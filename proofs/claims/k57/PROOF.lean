import PyProof.Rows.All
import Wide.All
import OpenK.AllK
import Wide.FinOn
import Lean
import PyProof.EqAt
import PyProof.EqKinds
import PyProof.TupleCall
import KE.KLam
import PyProof.ZipIter
import PyProof.WalksEnum
import PyProof.WalkInts
import PyProof.SeqI3
import PyProof.Rows.SeqMore
import PyProof.Rows.SortWalk
import PyProof.Draws
import PyProof.EnumMake
import PyProof.DictIter
import KE.KSortTup
import PyProof.Rows.SeqMore2
import PyProof.Rows.RuleIs
import PyProof.Rows.SetFrom
import PyProof.WalksMore
import PyProof.MinMaxWalk
import OpenK.KMore
import PyProof.Rows.SortRuns
import PyProof.Rows.SortRunsK
import KE.KMinKey
import KE.KListMore
import KE.KDictSum
import PySem.Challenge.RW_tiefold_k57_whole_chains_and_apart_sets
-- CHANGE: your row's module here,as the last of these rows
open PySem.Heap renaming get?_push_of_some->qd,get?_push_size->qz,lt_size->qC,get?_update_other->zj,get?_update_self->zD,SameBut->zG,size_push->zN,get?_update_ne->zX,ExtBut->qaB
open List renaming range->qf,length_map->qj,mem_filter->qm,mem_append_right->qp,mem_map->qt,mem_range->qu,map_map->qw,mem_cons->qy,replicate->qA,getElem?_eq_getElem->qB,getD_eq_getElem?_getD->qE,getElem?_eq_some_iff->qG,length_range->qI,toArray->qK,getElem?_map->qM,filter_sublist->qP,mem_singleton->qQ,mem_append_left->qW,size_toArray->qX,mem_cons_of_mem->qY,mem_append->qZ,length_filter_le->za,getElem?_set_ne->zb,pairwise_iff_getElem->zf,length_append->zl,map_congr_left->zm,length_cons->zo,nodup_cons->zq,pairwise_map->zr,pairwise_cons->zt,lookup_cons->zu,nodup_range->zw,length_eq_zero_iff->zF,getElem?_set_self->zH,not_mem_nil->zI,getElem?_append_left->zK,Pairwise->zL,map_append->zQ,filter_map->zR,append_nil->z0,map_cons->yc,mem_of_getElem?->ye,length_take->ym,getElem_mem->yn,length_singleton->yq,length_nil->yt,pairwise_append->yw,forall_mem_cons->yy,all_eq_true->yz,getElem?_append_right->yB,take_succ_eq_append_getElem->yJ,filter_eq_self->yK,getElem_of_mem->yM,getElem?_replicate->yO,Perm->yT,range_succ_eq_map->yU,ext_getElem?->yW,findSome?_cons->qab,drop_eq_getElem_cons->qac,getElem?_zip_eq_some->qad,mem_filterMap->qag,getElem?_take_of_lt->qah,mem_cons_self->qak,idxOf_lt_length_iff->qam,take_sublist->qat,filter_congr->qav,pairwise_lt_range->qaE,any_cons->qaF,mem_reverse->qaJ,take_length->qaK,pairwise_reverse->qaL,of_mem_zip->qaN,foldl->qaO,range_succ->qaR,filterMap_cons->qaS,mem_map_of_mem->qaT,length->qaW,map_id->qaX,perm_ext_iff_of_nodup->qa5,append_assoc->qa8,nodup_append->qa9,length_drop->qbe,getElem_map->qbh,any_eq_true->qbi,pairwise_mergeSort->qbo,forIn_cons->qbu,nodup_nil->qbC,getElem?_zipWith->qbE,mem_iff_getElem?->qbJ,drop_eq_nil_iff->qbU,mem_iff_getElem->qbX,all_cons->qbY,mergeSort_perm->qb3,toList_toArray->qb5,map_id'->qb9,lookup->qcc
open PySem.W renaming Frag->qk,kla_fn->zi,CodeHd->zO,envX->yb,keepIn->yd,fnOf->yr,kHook->yQ,codeIn->qao,tabObj->qaU,nsIn->qbl,cellsFrom_some->qbx,hideAll_size->qbP,hideAll_none->qbQ,WalkO->qbZ,hideAll_get->qb0,callWith_of->qb4
open Nat renaming le_refl->qq,ne_of_lt->qD,lt_of_lt_of_le->qT,le_trans->qV,zero_le->zk,lt_succ_of_lt->zB,lt_succ_self->z9,lt_irrefl->yk,lt_trichotomy->yC,lt_trans->yI,le_succ_of_le->qay,le_succ->qaA,ne_of_gt->qaM,le_of_lt->qbd,le_antisymm->qbw,mul_le_mul->qbD,le_of_ble_eq_true->qbO,pow_le_pow_right->qbW,mul_comm->qb6,le_of_eq->qb7,zero_add->qb8
open PySem.Str renaming ofString->qH,ofString->qa0
open Or renaming inl->qJ,inr->yi
open Classical renaming propDecidable->qL,byContradiction->qaf
open PySem.SetTable renaming below->qN,grown->yF
open Array renaming length_toList->qO,getElem?_eq_getElem->zg,getD_eq_getD_getElem?->zS,getElem?_toList->yp,getElem?_eq_none->qbB,toList_append->qb2
open PySem.Value renaming none->qR,ref->qS,bool->zT,type->yj,int->qbr,notImplemented->qbS,isInt->qcb
open PySem.Obj renaming mapSeq->qU,mapFields->qaG
open PySem.F renaming called_set->zd,plain_max_loop->zW,plainAttrs_list->yf,slot_int_rmul->yu,slot_tuple_mul->yV,args_tuple_add_2->qai,slot_list_getattribute->qaj,args_tuple_mul_2->qal,entry_tuple_add->qap,entry_tuple_mul->qas,args_int_rmul_2->qau,plain_list_iadd->qaw,slot_tuple_add->qaz,entry_max_loop->qaD,slot_int_index->qaH,entry_int_rmul->qaI,fills_int_mul->qaP,slot_list_insert->qbk,slot_list_index->qbp,entry_type_call->qbq,typeCall_set_1->qbz,entry_set_init->qbA,entry_proto_collect->qbH,plain_proto_collect->qbI,plain_set_new->qbK,slot_set_iter->qbL,slot_list_pop->qbM,type_list_pop->qbN
open PySem.PassesOwn renaming never->ze
open Ne renaming symm->zh
open PySem.Around renaming under_plainId->zp,frames_deeper->qbR
open PySem renaming mem_of_lookup->zC,call->qbT
open PyProof.Rows renaming slot_tuple_getitem->zE,callWith_type1->yg
open Sum renaming inl->zJ,inr->qaa
open Option renaming isSome_iff_exists->zM,bind_eq_some_iff->yP,isSome_map->qa6,map_some->qbt,map_eq_some_iff->qby
open List.Pairwise renaming imp_of_mem->zP,nil->qa7
open Bool renaming and_eq_true->zU,false_eq_true->yo,and_eq_true_iff->yE,false_ne_true->yR,eq_iff_iff->qae,or_eq_true->qaQ,or_eq_true_iff->qb1
open PySem.NameKind renaming free->zV,cell->y9
open Option.some renaming inj->zY
open False renaming elim->zZ
open PySem.Builtin.List renaming listExtendWith->yh,listTooLong->yH,listLengthHint->yY,listSameRef->qbj
open PyProof.Rows.F renaming plain_set_update_loop->yA,entry_set_update_loop->qan
open PySem.Builtin.Slice renaming slicePlaces->yD,sliceAdjust->qbb
open PySem.AutoSeq1 renaming sub_tuple_tuple->yG,sub_tuple_list->qaq,sub_list_tuple->qar,sub_list_list->qaC,idx_int->qbg
open PySem.Heap.SameBut renaming update->yL
open PySem.Builtin.Range renaming rangeSize->yN
open ForInStep renaming yield->yS
open PySem.SetTable.below renaming go->yX
open PySem.SeqAt renaming EqAt->yZ,RcNeAt->qbf,RcAt->qbV
open True renaming intro->y6
open PySem.Paired renaming length->y8
open Int renaming toNat_natCast->qax,eq_ofNat_of_zero_le->qbn,toNat->qbv
open PySem.Builtin.Frozenset renaming updateFrom->qaV
open PySem.Code renaming quiet_builtin->qaY
open PySem.Builtin.Builtins renaming bindParams->qaZ
open PySem.Calls renaming Name_function_global->qa1,call_function_entry->qbc
open PySem.Builtin.Tuple renaming tupleItemsOf->qa2,tupleTooMany->qa3
open PySem.Shared renaming TypeIs->qa4
open PySem.SetTable.probe renaming go->qba
open PySem.Builtin.Dict renaming updateFrom->qbm
open PyProof.Rows.IsTup renaming new->qbs
open List.Perm renaming cons->qbF
open PySem.Keeper renaming machine->qbG
open Nat.succ renaming inj->qca
open PySem PySem.Spec PyProof.Rows
open PySem renaming wpAny_bind→xb,wpAny_pure→xc,wpAny_mono→xf,wpAny→xg,sizeLine→xh,starEach→xi,keywordEach→xj,bootBuiltins→xk,compareOp→xl,wpAny_newObj_type→xm,codeAny_builtin→xo,codeAny→xp,backToKw→xq,attributeBase→xr,swapsWith→xt,wpAny_seqItems→xu,wpAny_tryCatch→xw,wpAny_holding→xy,wpAny_letGo→xz,wpAny_updateSeq→xA,wpAny_newList→xB,wpAny_call→xC,model→xD,FuncData→xE,Program→xF,Around→xG
abbrev xH:=PySem.Value->PySem.Shared->Prop
set_option maxHeartbeats 8000000
abbrev Qa:=List (Nat×Nat)
abbrev Qb:=List (PySem.Addr×PySem.Obj)
set_option genSizeOfSpec false
set_option bootstrap.genMatcherCode false
local macro_rules|`(tactic|omega)=>`(tactic|first|lia|omega (config:={}))
set_option Elab.async false
set_option linter.all false
set_option maxRecDepth 100000
namespace L2
noncomputable abbrev ZJ:=Sum Int Str
noncomputable def Jw:ZJ->Value->Bool
 | .inl k,v=>qcb k v
 | .inr x,v=>Value.isStrOf x v
noncomputable def keyH (w:World):ZJ->Int
 | .inl k=>hashInt k
 | .inr x=>hashStr w x
theorem VJ:∀{k:ZJ} {v:Value},Jw k v=true->(∃i t,k=zJ i/\v=qbr i t)∨(∃x t,k=qaa x/\v=Value.str x t)
 | .inl i,v,h=>by
  obtain⟨t,e⟩:=Value.isInt_shape h;exact .inl ⟨i,t,rfl,e⟩
 | .inr x,v,h=>by
  obtain⟨t,e⟩:=Value.isStrOf_shape h;exact .inr ⟨x,t,rfl,e⟩
theorem ZiR (i:Int)(t:Tok):Jw (.inl i) (.int i t)=true:=by simp[Jw,qcb]
theorem ZiS (x:Str)(t:Tok):Jw (.inr x) (.str x t)=true:=by simp[Jw,Value.isStrOf]
theorem Zoq (a b:Int):decide ((zJ a:ZJ)=zJ b)=(a==b):=by
 grind
theorem Zor (a b:Str):decide ((qaa a:ZJ)=qaa b)=decide (a=b):=by
 simp
theorem Zos (a:Int)(b:Str):decide ((zJ a:ZJ)=qaa b)=false:=decide_eq_false (λq=>nomatch q)
theorem Zot (a:Str)(b:Int):decide ((qaa a:ZJ)=zJ b)=false:=decide_eq_false (λq=>nomatch q)
noncomputable def Wn (prog:xF)(w:World):PySem.KeyKind prog w ZJ where
 is:=Jw
 hash:=keyH w
 inj:=λv a b ha hb=>by
  rcases VJ ha with⟨i,t,rfl,rfl⟩ | ⟨x,t,rfl,rfl⟩
  ·rcases VJ hb with⟨j,u,rfl,e⟩ | ⟨y,u,rfl,e⟩
   ·injection e with e1 _;rw[e1]
   ·exact nomatch e
  ·rcases VJ hb with⟨j,u,rfl,e⟩ | ⟨y,u,rfl,e⟩
   ·exact nomatch e
   ·injection e with e1 _;rw[e1]
 byValue:=λk v h=>by
  rcases VJ h with⟨i,t,rfl,rfl⟩ | ⟨x,t,rfl,rfl⟩ <;> rfl
 pyHash:=λhv h=>by
  rcases VJ hv with⟨i,t,rfl,rfl⟩ | ⟨x,t,rfl,rfl⟩
  ·exact wpAny_pyHash_int h
  ·exact wpAny_pyHash_str h
 eqBool:=λhu hv h=>by
  rcases VJ hu with⟨i,t,rfl,rfl⟩ | ⟨x,t,rfl,rfl⟩
  ·rcases VJ hv with⟨j,u,rfl,rfl⟩ | ⟨y,u,rfl,rfl⟩
   ·rw[Zoq]at h;exact wpAny_eqBool_int h
   ·rw[Zos]at h;exact yZ.int_str i t y u _ _ _ _ h
  ·rcases VJ hv with⟨j,u,rfl,rfl⟩ | ⟨y,u,rfl,rfl⟩
   ·rw[Zot]at h;exact yZ.str_int x t j u _ _ _ _ h
   ·rw[Zor]at h;exact wpAny_eqBool_str h
 «strs»:=λk x t v h=>by
  rcases VJ h with⟨i,u,rfl,e⟩ | ⟨y,u,rfl,e⟩
  ·exact nomatch e
  ·injection e with e1 _
   subst e1
   cases v <;> rfl
theorem Zfq (prog:xF)(w:World)(i:Int)(t:Tok):(Wn prog w).is (.inl i) (.int i t)=true:=ZiR i t
theorem Zfr (prog:xF)(w:World)(x:Str)(t:Tok):(Wn prog w).is (.inr x) (.str x t)=true:=ZiS x t
inductive V where
 | non | bl (b:Bool) | int (i:Int) | str (x:Str) | byt (b:Array UInt8) | flt (b:UInt64) | ref (a:Addr) | ty (n:String)
 deriving DecidableEq
noncomputable def ZG:V->Value->Prop
 | .non,u=>u=qR
 | .bl b,u=>u=zT b
 | .int i,u=>∃t,u=qbr i t
 | .str x,u=>∃t,u=Value.str x t
 | .byt b,u=>∃t,u=Value.bytes b t
 | .flt b,u=>∃t,u=Value.float b t
 | .ref a,u=>u=qS a
 | .ty n,u=>u=yj n
noncomputable abbrev Zu:List V->List Value->Prop:=Paired ZG
theorem Zu.length (r:Zu xs us):xs.length=us.length:=y8 r
theorem Zu.get:∀{xs:List V} {us:List Value} {i:Nat} {x:V},Zu xs us->xs[i]?=some x->∃u,us[i]?=some u/\ZG x u
 | _,_,_,_,.nil,e=>by simp at e
 | _,_,0,_,.cons r _,e=>by simp_all
 | _,_,i+1,x,.cons _ t,e=>by
  obtain⟨u,h1,h2⟩:=Zu.get t (by simpa using e);simp_all
theorem Zu.set (r:ZG x u):∀{xs:List V} {us:List Value} (i:Nat),Zu xs us->Zu (xs.set i x) (us.set i u)
 | _,_,_,.nil=>.nil
 | _,_,0,.cons _ t=>.cons r t
 | _,_,i+1,.cons q t=>.cons q (Zu.set r i t)
theorem Zu.append:∀{xs ys:List V} {us ws:List Value},Zu xs us->Zu ys ws->Zu (xs++ys) (us++ws)
 | _,_,_,_,.nil,s=>s
 | _,_,_,_,.cons r t,s=>.cons r (Zu.append t s)
theorem Zu.take:∀{xs:List V} {us:List Value} (n:Nat),Zu xs us->Zu (xs.take n) (us.take n)
 | _,_,0,_=>.nil
 | _,_,_+1,.nil=>.nil
 | _,_,n+1,.cons r t=>.cons r (Zu.take n t)
theorem Zu.drop:∀{xs:List V} {us:List Value} (n:Nat),Zu xs us->Zu (xs.drop n) (us.drop n)
 | _,_,0,r=>r
 | _,_,_+1,.nil=>.nil
 | _,_,n+1,.cons _ t=>Zu.drop n t
noncomputable def UT:Option V->Option Value->Prop
 | some v,some u=>ZG v u
 | none,none=>True
 | _,_=>False
noncomputable def KV {κ:Type}:List (κ×V)->List (κ×Value)->Prop:=Paired λ(p:κ×V) (q:κ×Value)=>p.1=q.1/\ZG p.2 q.2
noncomputable def kV:ZJ->V
 | .inl i=>.int i
 | .inr x=>.str x
inductive HO where
 | lst (xs:List V)
 | tup (xs:List V)
 | dK (kvs:List (ZJ×V)) | dT (kvs:List (List ZJ×V))
 | set (S:Int->Bool) (n:Nat)
 | ins (C dx:Addr) (fs:List (Str×V))
 | own (x:Addr)
 | xd (fs:List (Str×V))
 | met (f x:Addr)
 | rng (lo hi:Int)
 | frz (o:Obj) (u:HO)
 | tbl (ps:Array Value)
 | ext (φ:Heap->Prop)
noncomputable abbrev Hp:=Addr->Option HO
noncomputable def Zi (H:Hp)(a:Addr)(o:HO):Hp:=λb=>if b=a then some o else H b
theorem ZD:Zi H a o a=some o:=by unfold Zi;simp
theorem Zn (h:b≠a):Zi H a o b=H b:=by unfold Zi;simp_all
theorem ZeI:Zi (Zi H a o) a u=Zi H a u:=by
 unfold Zi;simp_all
theorem ZnX {H:Hp}(h:H a=some o)(h':H b=some u)(d:o≠u):a≠b:=by
 intro e;simp_all
theorem ZY {H:Hp}(h:H a=some o)(h':H b=none):a≠b:=by
 intro e;simp_all
section
variable (P:xF)(w:World)
noncomputable def YO (H:Hp)(h:Heap)(a:Addr):HO->Prop
 | .lst xs=>xs.length<=xh/\∃(jK:List Value) (n:Nat),Zu xs jK/\h.get? a=some { cls:=.type "list",data:=.seq jK.toArray n }
 | .tup xs=>xs.length<=xh/\∃jK:List Value,Zu xs jK/\IsTup h a jK.toArray
 | .dK kvs=>kvs.length<=xh/\(a==sysModules)=false/\∃vs,KV kvs vs/\h.DictOf (Wn P w) a vs
 | .dT kvs=>kvs.length<=xh/\(a==sysModules)=false/\∃xs:List (List ZJ×Addr×Value),
   Paired (λ(p:List ZJ×V) (q:List ZJ×Addr×Value)=>p.1=q.1/\H q.2.1=some (.tup (p.1.map kV))/\ZG p.2 q.2.2) kvs xs/\
   ∃o es ep,h.get? a=some o/\o.ExactDict/\o.data=.dict es ep/\es.toList=xs.map (entryOfKey (tupleKind (Wn P w)))/\(xs.map (·.1)).Nodup
 | .set S n=>h.SetOf (intKind P w) a S n
 | .ins C dx fs=>H dx=some (.own a)/\fs.length<=1000/\dx≠a/\h.get? a=some (PySem.W.instObj C dx)/\
   ∃mA,h.Ns1 dx mA/\(∀f,UT (fs.lookup f) (mA f))/\PySem.Within mA (fs.map (·.1))
 | .own _=>∃o,h.get? a=some o
 | .xd fs=>∃mA,h.Ns1 a mA/\∀f,UT (fs.lookup f) (mA f)
 | .rng lo hi=>∃t u v,h.get? a=some { cls:=.type "range",data:=.fields #[.int lo t,.int hi u,.int 1 v] }
 | .frz o u=>h.get? a=some o/\YO H h a u
 | .tbl ps=>h.get? a=some { cls:=.none,data:=.fields ps }
 | .met f x=>h.get? a=some (PySem.W.methodObj (.ref f) (.ref x))
 | .ext φ=>φ h/\(∃o,h.get? a=some o)/\∀h1 h2:Heap,φ h1->(∀o,h1.get? a=some o->h2.get? a=some o)->φ h2
noncomputable def Yw (H:Hp)(h:Heap):Prop:=∀a o,H a=some o->YO P w H h a o
end
section
variable {P:xF}{w:World}{H H':Hp}{h h':Heap}{a:Addr}{o:HO}
theorem YO.lt (x:YO P w H h a o):a<h.objs.size:=by
 cases o with
 | lst xs=>obtain⟨_,_,_,_,e⟩:=x;exact qC e
 | tup xs=>obtain⟨_,_,_,p⟩:=x;exact p.lt
 | dK kvs=>obtain⟨_,_,_,_,o,_,_,e,_⟩:=x;exact qC e
 | dT kvs=>obtain⟨_,_,_,_,o,_,_,e,_⟩:=x;exact qC e
 | set S n=>obtain⟨o,_,_,_,e,_⟩:=x;exact qC e
 | ins C dx fs=>obtain⟨_,_,_,e,_⟩:=x;exact qC e
 | own y=>obtain⟨_,e⟩:=x;exact qC e
 | xd fs=>obtain⟨_,⟨_,_,_,e,_⟩,_⟩:=x;exact qC e
 | rng lo hi=>obtain⟨_,_,_,e⟩:=x;exact qC e
 | frz ob u=>obtain⟨e,_⟩:=x;exact qC e
 | tbl ps=>exact qC (show h.get? a=some _ from x)
 | met f y=>exact qC (show h.get? a=some _ from x)
 | ext φ=>obtain⟨_,⟨_,e⟩,_⟩:=x;exact qC e
theorem Paired.mapP {F G:α->β->Prop}:∀{l₁:List α} {l₂:List β},Paired F l₁ l₂->(∀a b,F a b->G a b)->Paired G l₁ l₂
 | _,_,.nil,_=>.nil
 | _,_,.cons r t,f=>.cons (f _ _ r) (Paired.mapP t f)
theorem YO.stay (x:YO P w H h a o)(k:∀b u,(b=a∨H b=some (.own a))->h.get? b=some u->h'.get? b=some u)
  (ho:∀b,H b=some (.own a)->H' b=some (.own a)) (ht:∀b xs,H b=some (.tup xs)->H' b=some (.tup xs)):YO P w H' h' a o:=by
 induction o with
 | lst xs=>obtain⟨z,jK,n,r,e⟩:=x;exact⟨z,jK,n,r,k _ _ (.inl rfl) e⟩
 | tup xs=>obtain⟨z,jK,r,ob,e,c⟩:=x;exact⟨z,jK,r,ob,k _ _ (.inl rfl) e,c⟩
 | dK kvs=>obtain⟨z,y,vs,r,ob,es,ep,e,c⟩:=x;exact⟨z,y,vs,r,ob,es,ep,k _ _ (.inl rfl) e,c⟩
 | dT kvs=>
  obtain⟨z,y,xs,r,ob,es,ep,e,c⟩:=x;exact⟨z,y,xs,Paired.mapP r λp q z=>⟨z.1,ht _ _ z.2.1,z.2.2⟩,ob,es,ep,k _ _ (.inl rfl) e,c⟩
 | set S n=>obtain⟨ob,es,ep,t,e,c⟩:=x;exact⟨ob,es,ep,t,k _ _ (.inl rfl) e,c⟩
 | ins C dx fs=>
  obtain⟨d,z,ne,e,mA,⟨od,es,ep,e2,c⟩,r⟩:=x;exact⟨ho _ d,z,ne,k _ _ (.inl rfl) e,mA,⟨od,es,ep,k _ _ (.inr d) e2,c⟩,r⟩
 | own y=>obtain⟨ob,e⟩:=x;exact⟨ob,k _ _ (.inl rfl) e⟩
 | xd fs=>obtain⟨mA,⟨od,es,ep,e,c⟩,r⟩:=x;exact⟨mA,⟨od,es,ep,k _ _ (.inl rfl) e,c⟩,r⟩
 | rng lo hi=>obtain⟨t,u,v,e⟩:=x;exact⟨t,u,v,k _ _ (.inl rfl) e⟩
 | frz ob u ih=>obtain⟨e,q⟩:=x;exact⟨k _ _ (.inl rfl) e,ih q⟩
 | tbl ps=>
  have e:=x;exact k a _ (.inl rfl) e
 | met f y=>
  have e:=x;exact k a _ (.inl rfl) e
 | ext φ=>obtain⟨p,⟨o,e⟩,st⟩:=x;exact⟨st _ _ p λo q=>k _ _ (.inl rfl) q,⟨o,k _ _ (.inl rfl) e⟩,st⟩
theorem Yw.lt (x:Yw P w H h)(e:H a=some o):a<h.objs.size:=(x a o e).lt
theorem Yw.fresh (x:Yw P w H h)(e:h.objs.size<=a):H a=none:=by
 cases q:H a with
 | none=>rfl
 | some u=>exact absurd (qT (x.lt q) e) (yk _)
theorem Yw.kept (x:Yw P w H h)(k:∀b u,h.get? b=some u->h'.get? b=some u):Yw P w H h':=λa o e=>
 (x a o e).stay (λb u _ q=>k b u q) (λ_ q=>q) λ_ _ q=>q
theorem Yw.laid (x:Yw P w H h)(k:∀b u,h.get? b=some u->h'.get? b=some u)(hp:h.objs.size<=a)(new:YO P w (Zi H a o) h' a o):Yw P w (Zi H a o) h':=λb u e=>by
 have hn:=x.fresh hp;by_cases hb:b=a
 ·subst hb;rw[ZD]at e;grind
 ·rw[Zn hb]at e
  exact(x b u e).stay (λc v _ q=>k c v q) (λc q=>by rw[Zn (ZY q hn)];exact q) λc xs q=>by rw[Zn (ZY q hn)];exact q
end
noncomputable def Rd (H:Hp)(a:Addr)(u:HO):Prop:=H a=some u∨∃o,H a=some (.frz o u)
theorem Rd.ok (r:Rd H a u)(x:Yw P w H h):YO P w H h a u:=by
 rcases r with r | ⟨o,r⟩
 ·exact x a u r
 ·obtain⟨_,q⟩:=x a _ r
  exact q
noncomputable def BG:Option HO->Prop
 | some (.lst _)=>True
 | some (.dK _)=>True
 | some (.dT _)=>True
 | some (.set _ _)=>True
 | some (.ins _ _ _)=>True
 | some (.ext _)=>True
 | _=>False
section
variable {P:xF}{w:World}{H:Hp}{h h':Heap}{x e:Addr}{o':HO}
theorem Yw.write (ok:Yw P w H h)(mu:BG (H x))(he:e=x∨H e=some (.own x))(k:∀b u,b≠e->h.get? b=some u->h'.get? b=some u)(heo:∃u,h'.get? e=some u)
  (new:YO P w (Zi H x o') h' x o'):Yw P w (Zi H x o') h':=λb u q=>by
 have nown:∀c y,H c=some (.own y)->c≠x:=λc y r z=>by subst z;rw[r]at mu;exact mu
 have ntup:∀c xs,H c=some (.tup xs)->c≠x:=λc xs r z=>by subst z;rw[r]at mu;exact mu
 by_cases hb:b=x
 ·subst hb;rw[ZD]at q;grind
 ·rw[Zn hb]at q
  by_cases hbe:b=e
  ·have q':H b=some (.own x):=by
    grind
   rw[q]at q';cases q';obtain⟨v,hv⟩:=heo;exact⟨v,by simp_all⟩
  ·refine(ok b u q).stay (λc v hc r=>k c v ?_ r) (λc r=>by rw[Zn (nown c b r)];exact r) λc xs r=>by rw[Zn (ntup c xs r)];exact r
   grind
end
structure Un (fs ex:List Addr)(H H':Hp)(h h':Heap):Prop where
 keep:∀b o,h.get? b=some o->H b=none->b∉fs->b∉ex->h'.get? b=some o
 slot:∀b o,h.get? b=some o->H b=none->b∈fs->b∉ex->∃sl,h'.get? b=some { o with slots:=sl }
 free:∀b o,h.get? b=some o->H b=none->b∉ex->H' b=none
 there:∀b o,h.get? b=some o->b∉ex->∃o',h'.get? b=some o'
 tups:∀b xs,H b=some (.tup xs)->H' b=some (.tup xs)
 frzs:∀b o u,H b=some (.frz o u)->H' b=some (.frz o u)
 tbls:∀b ps,H b=some (.tbl ps)->∃more,H' b=some (.tbl (ps++more))
section
variable {fs fs' ex ex':List Addr}{H H1 H2:Hp}{h h1 h2 h':Heap}{a x e:Addr}{o:HO}
theorem Un.any (u:Un fs ex H H1 h h1)(q:h.get? b=some ob)(n:H b=none)(hx:b∉ex):∃sl,h1.get? b=some { ob with slots:=sl }:=by
 by_cases hb:b∈fs
 ·exact u.slot b ob q n hb hx
 ·exact⟨ob.slots,u.keep b ob q n hb hx⟩
theorem Un.kept (k:∀b u,h.get? b=some u->h'.get? b=some u):Un fs ex H H h h':=
 ⟨λb ob q _ _ _=>k b ob q,λb ob q _ _ _=>⟨ob.slots,k b ob q⟩,λ_ _ _ n _=>n,λb ob q _=>⟨ob,k b ob q⟩,λ_ _ q=>q,λ_ _ _ q=>q,λ_ ps q=>⟨#[],by rw[q];simp⟩⟩
theorem Un.refl:Un fs ex H H h h:=Un.kept λ_ _ q=>q
theorem Un.laid (k:∀b u,h.get? b=some u->h'.get? b=some u)(hp:h.objs.size<=a)(hn:H a=none):Un fs ex H (Zi H a o) h h' where
 keep:=λb u q _ _ _=>k b u q
 slot:=λb u q _ _ _=>⟨u.slots,k b u q⟩
 free:=λb u q n _=>by rw[Zn (qD (qT (qC q) hp))];exact n
 there:=λb u q _=>⟨u,k b u q⟩
 tups:=λb xs q=>by rw[Zn (ZY q hn)];exact q
 frzs:=λb u xs q=>by rw[Zn (ZY q hn)];exact q
 tbls:=λb ps q=>⟨#[],by rw[Zn (ZY q hn),q];simp⟩
theorem Un.write (mu:BG (H x))(he:e=x∨H e=some (.own x))(k:∀b u,b≠e->h.get? b=some u->h'.get? b=some u)(heo:∃u,h'.get? e=some u):Un fs ex H (Zi H x o) h h':=by
 have hx:∀b,H b=none->b≠x:=λb n z=>by subst z;rw[n]at mu;exact mu
 have hb:∀b,H b=none->b≠e:=λb n z=>by
  simp_all
 have hm:∀b u,H b=some u->¬BG (some u)->b≠x:=λb u q nm z=>by simp_all
 refine⟨λb u q n _ _=>k b u (hb b n) q,λb u q n _ _=>⟨u.slots,k b u (hb b n) q⟩,λb u q n _=>by rw[Zn (hx b n)];exact n,λb u q _=>?_,
  λb xs q=>by rw[Zn (hm b _ q λz=>z)];exact q,λb u xs q=>by rw[Zn (hm b _ q λz=>z)];exact q,λb ps q=>⟨#[],by rw[Zn (hm b _ q λz=>z),q];simp⟩⟩
 by_cases hbe:b=e
 ·simp_all
 ·exact⟨u,k b u hbe q⟩
end
noncomputable def trk (h:Heap)(H:Hp):List Addr:=(qf h.objs.size).filter λa=>(H a).isSome
noncomputable def Vn (h:Heap)(H:Hp):Heap:=PySem.W.hideAll h (trk h H)
theorem ZiT (h:Heap)(H:Hp):(Vn h H).objs.size=h.objs.size:=qbP _ _
theorem Zkg (e:h.get? b=some o)(n:H b=none):(Vn h H).get? b=some o:=
 qb0 _ e λhm=>by
  have q:=(qm.mp hm).2;simp_all
theorem ZmF (e:(Vn h H).get? b=some o):h.get? b=some o/\H b=none:=by
 have e':=PySem.W.of_hideAll (trk h H) e;refine⟨e',?_⟩
 cases q:H b with
 | none=>rfl
 | some x=>
  have hm:b∈trk h H:=qm.mpr ⟨qu.mpr (qC e'),by simp[q]⟩;have z:(Vn h H).get? b=none:=qbQ (trk h H) hm
  grind
structure Mod (K:qk)(mg:Str->Option Value)(base:Heap):Prop where
 kin:K.In base
 glob:base.Ns mainGlobals mg
 blt:∃mb,base.Ns builtinsNs mb/\∀x:Str,x≠"__name__"->mb x=xk x
 nolimit:base.NoLimit
structure Cx where
 prog:xF
 w:World
 K:qk
 mg:Str->Option Value
 base:Heap
 A:xG
 N:List Str
 s₀:Shared
 H₀:Hp
 env:Env
 outer:List Env
 stack:List Env
 ex:List Addr
 fn:Str->Bool
 calm:Bool
 pn:Qb
 xe:xH
noncomputable def Wk (l:List Env):List Addr:=l.filterMap (·.frame)
noncomputable abbrev Cx.fs (X:Cx):List Addr:=Wk X.outer
noncomputable def JL (sc:Scope)(x:Str):Prop:=sc.names.lookup x=some .local∨sc.names.lookup x=some .cell∨sc.names.lookup x=some .free
noncomputable def WH (sc:Scope)(x:Str):Prop:=sc.names.lookup x=some .local∨sc.names.lookup x=some .cell
noncomputable def Look (env:Env)(h:Heap)(m:Str->Option Value)(x:Str)(u:Value):Prop:=
 (env.kindOf x=some .local/\m x=some u)∨((env.kindOf x=some .cell∨env.kindOf x=some .free)/\∃c,env.cells.lookup x=some c/\h.IsCell c (some u))
structure Cx.Ok (X:Cx):Prop where
 mod:Mod X.K X.mg X.base
 kind:X.env.scope.kind=.function
 glob:X.env.globals=mainGlobals
 blt:X.env.builtins=builtinsNs
 above:X.s₀.heap.objs.size<=X.env.locals
 inj:∀x y c,X.env.cells.lookup x=some c->X.env.cells.lookup y=some c->x=y
 has:∀x,(X.env.kindOf x=some .cell∨X.env.kindOf x=some .free)->∃c,X.env.cells.lookup x=some c
 cab:∀x c,X.fn x=true->X.env.cells.lookup x=some c->X.s₀.heap.objs.size<=c
 hd:X.calm=true->X.A.handled=none
 frames:X.A.frames=some X.stack
 stk:X.stack=X.outer∨(X.stack=X.env::X.outer/\X.env.frame=some X.env.locals)
 exf:∀b∈X.ex,b≠X.env.locals/\∀x c,X.env.cells.lookup x=some c->c≠b
 bs:∀b o,X.base.get? b=some o->X.s₀.heap.get? b=some o/\X.H₀ b=none
 bsz:X.base.objs.size<=X.s₀.heap.objs.size
 noex:∀b o,X.base.get? b=some o->b∉X.ex
 exfs:∀b∈X.ex,b∉X.fs
 funs:X.s₀.heap.FunFrames X.base X.outer
 frf:∀b∈X.fs,X.H₀ b=none
structure Inv (X:Cx)(jI:Qb)(σ:List (Option V))(H:Hp)(s:Shared):Prop where
 ok:X.Ok
 os:s.os=X.s₀.os
 bare:AllBare s.gens
 base:Un X.fs X.ex X.H₀ H X.s₀.heap s.heap
 loc:∃m,s.heap.Ns X.env.locals m/\∀(i:Nat) (x:Str) (v:V),X.N[i]?=some x->σ[i]?=some (some v)->JL X.env.scope x->∃u,ZG v u/\Look X.env s.heap m x u
 cell:∀x c,X.env.cells.lookup x=some c->∃v,s.heap.IsCell c v
 free:H X.env.locals=none
 freeC:∀x c,X.env.cells.lookup x=some c->H c=none
 pin:∀p∈X.pn++jI,s.heap.get? p.1=some p.2/\H p.1=none/\p.1≠X.env.locals/\p.1∉X.fs/\∀v,p.2.data≠.cell v
 hok:Yw X.prog X.w H s.heap
 len:σ.length=X.N.length
section
variable {X:Cx}{jI:Qb}{σ:List (Option V)}{H H':Hp}{s:Shared}{h':Heap}
theorem Cx.Ok.nofr (ok:X.Ok)(e:X.base.get? b=some o):b∉X.fs:=λhb=>by
 have:=(ok.funs.mem hb).1
 grind
theorem Inv.bs (I:Inv X jI σ H s):∀b o,X.base.get? b=some o->s.heap.get? b=some o/\H b=none:=λb o e=>
 ⟨I.base.keep b o (I.ok.bs b o e).1 (I.ok.bs b o e).2 (I.ok.nofr e) (I.ok.noex b o e),I.base.free b o (I.ok.bs b o e).1 (I.ok.bs b o e).2 (I.ok.noex b o e)⟩
theorem Inv.bk (I:Inv X jI σ H s):∀b o,X.base.get? b=some o->s.heap.get? b=some o:=λb o e=>(I.bs b o e).1
theorem Inv.mod (I:Inv X jI σ H s):Mod X.K X.mg X.base:=I.ok.mod
theorem Inv.kIn (I:Inv X jI σ H s):X.K.In s.heap:=I.ok.mod.kin.keeps I.bk
theorem Inv.lt (I:Inv X jI σ H s):X.env.locals<s.heap.objs.size:=let ⟨_,hn,_⟩:=I.loc;hn.lt
theorem Inv.sz (I:Inv X jI σ H s):X.s₀.heap.objs.size<=s.heap.objs.size:=qV I.ok.above (qbd I.lt)
theorem Inv.nofs (I:Inv X jI σ H s){a:Addr}(h:s.heap.objs.size<=a):a∉X.fs:=λhb=>by
 obtain⟨_,o,ho,_⟩:=I.ok.funs.mem hb;exact absurd (qT (qC ho) (qV I.sz h)) (yk _)
theorem Inv.cne (I:Inv X jI σ H s):∀x c,X.env.cells.lookup x=some c->c≠X.env.locals:=λx c e z=>by
 obtain⟨v,o,ho,hd⟩:=I.cell x c e;obtain⟨m,⟨o',es,ep,ho',hd',_⟩,_⟩:=I.loc
 grind
theorem Inv.funs (I:Inv X jI σ H s):s.heap.FunFrames X.base X.outer:=by
 have all:∀(l:List Env),(∀b∈Wk l,b∈X.fs)->X.s₀.heap.FunFrames X.base l->s.heap.FunFrames X.base l:=by
  intro l
  induction l with
  | nil=>intro _ _;trivial
  | cons env r ih=>
   intro hs hl;obtain⟨hk,⟨L,o,hf,hn,ho,hd⟩,hr⟩:=hl;have hL:=hs L (by unfold Wk;simp_all);obtain⟨sl,e⟩:=I.base.slot L o ho (I.ok.frf L hL) hL λz=>I.ok.exfs L z hL;exact⟨hk,⟨L,_,hf,hn,e,hd⟩,ih (λb hb=>hs b (by unfold Wk;rw[qaS,hf];exact qY _ hb)) hr⟩
 exact all X.outer (λ_ hb=>hb) I.ok.funs
theorem Inv.stack (I:Inv X jI σ H s):s.heap.FunFrames X.base X.stack:=by
 rcases I.ok.stk with e | ⟨e,hf⟩
 ·rw[e];exact I.funs
 ·rw[e]
  obtain⟨m,hn,_⟩:=I.loc;refine .cons (by rw[I.ok.kind];decide) hf hn ?_ I.funs;exact Heap.get?_none_of_le (qV I.ok.bsz I.ok.above)
theorem Inv.stkSub (I:Inv X jI σ H s):∀b∈Wk X.stack,b∈X.env.locals::X.fs:=λb hb=>by
 rcases I.ok.stk with e | ⟨e,hf⟩
 ·simp_all
 ·rw[e]at hb
  unfold Wk at hb;rw[qaS,hf]at hb;exact hb
theorem Inv.stkFree (I:Inv X jI σ H s):∀b∈Wk X.stack,H b=none:=λb hb=>by
 rcases qy.mp (I.stkSub b hb)with e | hb
 ·rw[e];exact I.free
 ·obtain⟨_,o,ho,_⟩:=I.ok.funs.mem hb
  exact I.base.free b o ho (I.ok.frf b hb) λz=>I.ok.exfs b z hb
theorem Inv.step {ch:List Addr}(I:Inv X jI σ H s)
  (hch:∀b∈ch,(b∈X.ex∨X.s₀.heap.objs.size<=b)/\b≠X.env.locals/\(∀x c,X.env.cells.lookup x=some c->c≠b)/\∀p∈X.pn++jI,p.1≠b)
  (keep:∀b o,b≠X.env.locals->b∉X.fs->b∉ch->s.heap.get? b=some o->H b=none->h'.get? b=some o)
  (slot:∀b o,b≠X.env.locals->b∈X.fs->b∉ch->s.heap.get? b=some o->H b=none->∃sl,h'.get? b=some { o with slots:=sl }) (free:∀b o,b∉ch->s.heap.get? b=some o->H b=none->H' b=none)
  (there:∀b o,b∉ch->s.heap.get? b=some o->∃o',h'.get? b=some o')
  (tups:∀b xs,H b=some (.tup xs)->H' b=some (.tup xs)) (frzs:∀b o u,H b=some (.frz o u)->H' b=some (.frz o u)) (tbls:∀b ps,H b=some (.tbl ps)->∃more,H' b=some (.tbl (ps++more)))
  (ns:∀m,s.heap.Ns X.env.locals m->h'.Ns X.env.locals m) (hok:Yw X.prog X.w H' h') (hg:AllBare g') :
  Inv X jI σ H' { s with heap:=h',gens:=g',drawn:=d',toks:=t' }:=by
 have neL:∀b o,X.s₀.heap.get? b=some o->b≠X.env.locals:=λb o e=>qD (qT (qC e) I.ok.above);have neC:∀b o,X.s₀.heap.get? b=some o->b∉X.ex->b∉ch:=λb o e hx hb=>by
  rcases (hch b hb).1 with z | z
  ·exact hx z
  ·exact absurd (qT (qC e) z) (yk _)
 have cellK:∀x c,X.env.cells.lookup x=some c->∀v,s.heap.IsCell c v->h'.IsCell c v:=λx c e v ⟨o,ho,hd⟩=>by
  have nch:c∉ch:=λz=>(hch c z).2.2.1 x c e rfl;by_cases hc:c∈X.fs
  ·obtain⟨sl,q⟩:=slot c o (I.cne x c e) hc nch ho (I.freeC x c e)
   exact⟨_,q,hd⟩
  ·exact⟨o,keep c o (I.cne x c e) hc nch ho (I.freeC x c e),hd⟩
 refine⟨I.ok,I.os,hg,⟨λb o e n hb hx=>?_,λb o e n hb hx=>?_,λb o e n hx=>?_,λb o e hx=>?_,λb xs e=>tups b xs (I.base.tups b xs e),λb o xs e=>frzs b o xs (I.base.frzs b o xs e),λb ps e=>?_⟩,?_,λx c e=>?_,?_,λx c e=>?_,λp hp=>?_,hok,I.len⟩
 ·exact keep b o (neL b o e) hb (neC b o e hx) (I.base.keep b o e n hb hx) (I.base.free b o e n hx)
 ·obtain⟨sl,e1⟩:=I.base.slot b o e n hb hx
  obtain⟨sl',e2⟩:=slot b _ (neL b o e) hb (neC b o e hx) e1 (I.base.free b o e n hx);exact⟨sl',e2⟩
 ·obtain⟨o',e1⟩:=I.base.there b o e hx
  exact free b o' (neC b o e hx) e1 (I.base.free b o e n hx)
 ·obtain⟨o',e1⟩:=I.base.there b o e hx
  exact there b o' (neC b o e hx) e1
 ·obtain⟨m1,e1⟩:=I.base.tbls b ps e
  obtain⟨m2,e2⟩:=tbls b _ e1;exact⟨m1++m2,by rw[e2,Array.append_assoc]⟩
 ·obtain⟨m,hn,hl⟩:=I.loc
  refine⟨m,ns m hn,λi x v e1 e2 e3=>?_⟩;obtain⟨u,r,l⟩:=hl i x v e1 e2 e3;refine⟨u,r,?_⟩;rcases l with l | ⟨k,c,e,z⟩
  ·exact .inl l
  ·exact .inr ⟨k,c,e,cellK x c e _ z⟩
 ·obtain⟨v,z⟩:=I.cell x c e
  exact⟨v,cellK x c e v z⟩
 ·obtain⟨m,⟨o,_,_,ho,_⟩,_⟩:=I.loc
  exact free _ o (λz=>(hch _ z).2.1 rfl) ho I.free
 ·obtain⟨v,o,ho,hd⟩:=I.cell x c e
  exact free c o (λz=>(hch c z).2.2.1 x c e rfl) ho (I.freeC x c e)
 ·obtain⟨e,n,ne,nf,d⟩:=I.pin p hp
  have nch:=λz=>(hch p.1 z).2.2.2 p hp rfl;exact⟨keep p.1 p.2 ne nf nch e n,free p.1 p.2 nch e n,ne,nf,d⟩
theorem Inv.un (I:Inv X jI σ H s)(u:Un X.fs [] H H' s.heap h')(hok:Yw X.prog X.w H' h'):Inv X jI σ H' { s with heap:=h',toks:=t' }:=by
 obtain⟨m,⟨o,es,ep,ho,r⟩,_⟩:=id I.loc;obtain⟨sl,hL⟩:=u.any ho I.free (by simp);exact I.step (ch:=[]) (λ_ z=>nomatch z) (λb o _ hb _ e n=>u.keep b o e n hb (by simp)) (λb o _ hb _ e n=>u.slot b o e n hb (by simp)) (λb o _ e n=>u.free b o e n (by simp)) (λb o _ e=>u.there b o e (by simp)) u.tups u.frzs u.tbls (λm' hm=>by
  obtain⟨o',es',ep',ho',r'⟩:=hm;rw[ho]at ho';cases ho';exact⟨_,es',ep',hL,r'⟩) hok I.bare
theorem Inv.call (I:Inv X jI σ H s)(u:Un (Wk X.stack) ch H H' s.heap h')(hok:Yw X.prog X.w H' h')(hg:AllBare g')
  (hch:∀b∈ch,(b∈X.ex∨X.s₀.heap.objs.size<=b)/\b≠X.env.locals/\(∀x c,X.env.cells.lookup x=some c->c≠b)/\∀p∈X.pn++jI,p.1≠b) :
  Inv X jI σ H' { s with heap:=h',gens:=g',drawn:=d',toks:=t' }:=by
 obtain⟨m,⟨o,es,ep,ho,r⟩,_⟩:=id I.loc;obtain⟨sl,hL⟩:=u.any ho I.free λz=>(hch _ z).2.1 rfl;exact I.step hch (λb o hL hb hc e n=>u.keep b o e n (λz=>(qy.mp (I.stkSub b z)).elim hL hb) hc) (λb o _ _ hc e n=>u.any e n hc) (λb o hc e n=>u.free b o e n hc) (λb o hc e=>u.there b o e hc) u.tups u.frzs u.tbls (λm' hm=>by
  obtain⟨o',es',ep',ho',r'⟩:=hm;rw[ho]at ho';cases ho';exact⟨_,es',ep',hL,r'⟩) hok hg
theorem Inv.turned (I:Inv X jI σ H s)(k:∀b o,b≠it->s.heap.get? b=some o->h'.get? b=some o)(hn:H it=none)(hL:it≠X.env.locals)
  (h1:it∈X.ex∨X.s₀.heap.objs.size<=it) (h2:∀x c,X.env.cells.lookup x=some c->c≠it) (h3:∀p∈X.pn++jI,p.1≠it):Inv X jI σ H { s with heap:=h',toks:=t' }:=by
 have nit:∀b u,H b=some u->b≠it:=λb u e z=>by grind
 refine I.step (ch:=[it]) (λb hb=>?_) (λb o _ _ hc e _=>k b o (λz=>hc (by simp[z])) e) (λb o _ _ hc e _=>⟨o.slots,k b o (λz=>hc (by simp[z])) e⟩) (λ_ _ _ _ n=>n)
  (λb o hc e=>⟨o,k b o (λz=>hc (by simp[z])) e⟩) (λ_ _ e=>e) (λ_ _ _ e=>e) (λb ps e=>⟨#[],by rw[e];simp⟩) (λm hm=>?_) (λb u e=>?_) I.bare
 ·have e:=by simpa using hb
  subst e;exact⟨h1,hL,h2,h3⟩
 ·obtain⟨o,es,ep,ho,r⟩:=hm
  exact⟨o,es,ep,k _ o (zh hL) ho,r⟩
 ·refine(I.hok b u e).stay (λc v hc q=>k c v ?_ q) (λ_ q=>q) λ_ _ q=>q
  rcases hc with z | z
  ·rw[z];exact nit b u e
  ·exact nit c _ z
theorem Inv.tok (I:Inv X jI σ H s)(t:Nat):Inv X jI σ H { s with toks:=t }:=I.un Un.refl I.hok
theorem Inv.kept (I:Inv X jI σ H s)(k:∀b u,s.heap.get? b=some u->h'.get? b=some u):Inv X jI σ H { s with heap:=h',toks:=t' }:=I.un (Un.kept k) (I.hok.kept k)
theorem Inv.laid {a:Addr}(I:Inv X jI σ H s)(k:∀b u,s.heap.get? b=some u->h'.get? b=some u)(hp:s.heap.objs.size<=a)(new:YO X.prog X.w (Zi H a o) h' a o) :
  Inv X jI σ (Zi H a o) { s with heap:=h',toks:=t' }:=I.un (Un.laid k hp (I.hok.fresh hp)) (I.hok.laid k hp new)
theorem Inv.write (I:Inv X jI σ H s)(mu:BG (H x))(he:e=x∨H e=some (.own x))(k:∀b u,b≠e->s.heap.get? b=some u->h'.get? b=some u)(heo:∃u,h'.get? e=some u)
  (new:YO X.prog X.w (Zi H x o) h' x o):Inv X jI σ (Zi H x o) { s with heap:=h',toks:=t' }:=I.un (Un.write mu he k heo) (I.hok.write mu he k heo new)
theorem Inv.pins_of (I:Inv X jI σ H s)(h:∀p∈pins',s.heap.get? p.1=some p.2/\H p.1=none/\p.1≠X.env.locals/\p.1∉X.fs/\∀v,p.2.data≠.cell v):Inv X pins' σ H s:=
 ⟨I.ok,I.os,I.bare,I.base,I.loc,I.cell,I.free,I.freeC,λp hp=>(qZ.mp hp).elim (λz=>I.pin p (qW _ z)) (h p),I.hok,I.len⟩
theorem Zfs {N:List Str}(hN:N.Nodup){i:Nat}(a:N[i]?=some x)(b:N[j]?=some x):i=j:=by
 obtain⟨h1,e1⟩:=qG.mp a;obtain⟨h2,e2⟩:=qG.mp b;exact(List.getElem_inj hN).mp (e1.trans e2.symm)
theorem ZiU (I:Inv X jI σ H s)(hN:X.N.Nodup)(hi:X.N[i]?=some x)(hx:WH X.env.scope x)(r:ZG v u)
  (h:∀s',Inv X jI (σ.set i (some v)) H s'->(∃a,zG a s.heap s'.heap/\(a=X.env.locals∨X.env.cells.lookup x=some a))->Q () s') (hf:X.fn x=true∨X.env.scope.names.lookup x=some .local:=by first | exact .inl rfl | exact .inr rfl | assumption):xg M A (storeName X.env x u) Q E s:=by
 obtain⟨m,hn,hl⟩:=id I.loc;have hcls:(X.env.scope.kind == .class||(X.env.scope.kind == .module&&X.env.locals != X.env.globals))=false:=by rw[I.ok.kind];rfl
 have hiσ:i < σ.length:=by rw[I.len];exact(qG.mp hi).1
 have cne:=I.cne;have tracked:∀{a:Addr} {h':Heap},(∃o,s.heap.get? a=some o/\H a=none)->zG a s.heap h'->Yw X.prog X.w H h':=λ{a h'} ha hs b ob e=>by
  obtain⟨_,_,hfree⟩:=ha;refine(I.hok b ob e).stay (λc w' hc q=>(hs.2 c ?_).trans q) (λ_ q=>q) λ_ _ q=>q;rintro rfl;rcases hc with rfl | hc
  ·rw[hfree]at e;cases e
  ·rw[hfree]at hc;cases hc
 rcases hx with hk | hk
 ·refine wpAny_storeName_local hk hn (λh' hn' hs=>?_) hcls
  obtain⟨oL,_,_,hoL,_⟩:=id hn;refine h _ ⟨I.ok,I.os,I.bare,⟨λb o e n hb hx=>?_,λb o e n hb hx=>?_,I.base.free,λb o e hx=>?_,I.base.tups,I.base.frzs,I.base.tbls⟩,⟨_,hn',λj y v' e1 e2 e3=>?_⟩,λy c e=>?_,I.free,I.freeC,λp hp=>?_,tracked ⟨oL,hoL,I.free⟩ hs,by simpa using I.len⟩ ⟨_,hs,.inl rfl⟩
  ·exact(hs.2 b (qD (qT (qC e) I.ok.above))).trans (I.base.keep b o e n hb hx)
  ·obtain⟨sl,e1⟩:=I.base.slot b o e n hb hx
   exact⟨sl,(hs.2 b (qD (qT (qC e) I.ok.above))).trans e1⟩
  ·obtain⟨o',e1⟩:=I.base.there b o e hx
   exact⟨o',(hs.2 b (qD (qT (qC e) I.ok.above))).trans e1⟩
  ·by_cases hj:j=i
   ·subst hj
    rw[hi]at e1;cases e1;rw[zH hiσ]at e2
    cases e2
    exact⟨u,r,.inl ⟨hk,by simp⟩⟩
   ·rw[zb (zh hj)]at e2
    obtain⟨u',r',q⟩:=hl j y v' e1 e2 e3;refine⟨u',r',?_⟩;rcases q with⟨k,e⟩ | ⟨k,c,e,z⟩
    ·refine .inl ⟨k,?_⟩
     have:y≠x:=λe=>hj (Zfs hN e1 (e▸hi));simp[this,e]
    ·exact .inr ⟨k,c,e,z.sameBut hs (cne y c e)⟩
  ·obtain⟨w',z⟩:=I.cell y c e
   exact⟨w',z.sameBut hs (cne y c e)⟩
  ·obtain⟨e,n,ne,nf,d⟩:=I.pin p hp
   exact⟨(hs.2 p.1 ne).trans e,n,ne,nf,d⟩
 ·have hfn:X.fn x=true:=by
   rcases hf with z | z
   ·exact z
   ·rw[z]at hk;cases hk
  obtain⟨c,hc⟩:=I.ok.has x (.inl hk);obtain⟨w',z⟩:=I.cell x c hc;refine wpAny_storeName_cell I.ok.kind hk hc z (λh' hc' hs=>?_);obtain⟨oc,hoc,hocd⟩:=id z;refine h { s with heap:=h' } ⟨I.ok,I.os,I.bare,⟨λb o e n hb hx=>?_,λb o e n hb hx=>?_,I.base.free,λb o e hx=>?_,I.base.tups,I.base.frzs,I.base.tbls⟩,⟨m,hn.sameBut hs (zh (cne x c hc)),λj y v' e1 e2 e3=>?_⟩,λy c' e=>?_,I.free,I.freeC,λp hp=>?_,tracked ⟨oc,hoc,I.freeC x c hc⟩ hs,by simpa using I.len⟩ ⟨c,hs,.inr hc⟩
  ·exact(hs.2 b (qD (qT (qC e) (I.ok.cab x c hfn hc)))).trans (I.base.keep b o e n hb hx)
  ·obtain⟨sl,e1⟩:=I.base.slot b o e n hb hx
   exact⟨sl,(hs.2 b (qD (qT (qC e) (I.ok.cab x c hfn hc)))).trans e1⟩
  ·obtain⟨o',e1⟩:=I.base.there b o e hx
   exact⟨o',(hs.2 b (qD (qT (qC e) (I.ok.cab x c hfn hc)))).trans e1⟩
  ·by_cases hj:j=i
   ·subst hj
    rw[hi]at e1;cases e1;rw[zH hiσ]at e2
    cases e2
    exact⟨u,r,.inr ⟨.inl hk,c,hc,hc'⟩⟩
   ·rw[zb (zh hj)]at e2
    obtain⟨u',r',q⟩:=hl j y v' e1 e2 e3;refine⟨u',r',?_⟩;rcases q with q | ⟨k,c',e,z'⟩
    ·exact .inl q
    ·refine .inr ⟨k,c',e,z'.sameBut hs ?_⟩
     rintro rfl;exact hj (Zfs hN e1 (I.ok.inj _ _ _ e hc▸hi))
  ·by_cases hcc:c'=c
   ·subst hcc;exact⟨_,hc'⟩
   ·obtain⟨w2,z2⟩:=I.cell y c' e
    exact⟨w2,z2.sameBut hs hcc⟩
  ·obtain⟨e,n,ne,nf,d⟩:=I.pin p hp
   refine⟨(hs.2 p.1 ?_).trans e,n,ne,nf,d⟩;intro q;simp_all
theorem ZcP (I:Inv X jI σ H s)(hN:X.N.Nodup)(hi:X.N[i]?=some x)(hx:WH X.env.scope x)(r:ZG v u)
  (h:∀s',Inv X jI (σ.set i (some v)) H s'->Q () s') (hf:X.fn x=true∨X.env.scope.names.lookup x=some .local:=by first | exact .inl rfl | exact .inr rfl | assumption):xg M A (storeName X.env x u) Q E s:=
 ZiU I hN hi hx r (λs' I' _=>h s' I') hf
theorem Inv.call' (I:Inv X jI σ H s)(ho:s'.os=s.os)(u:Un (Wk X.stack) ch H H' s.heap s'.heap)(hok:Yw X.prog X.w H' s'.heap)(hg:AllBare s'.gens)
  (hch:∀b∈ch,(b∈X.ex∨X.s₀.heap.objs.size<=b)/\b≠X.env.locals/\(∀x c,X.env.cells.lookup x=some c->c≠b)/\∀p∈X.pn++jI,p.1≠b):Inv X jI σ H' s':=by
 obtain⟨h',g',d',t',o'⟩:=s';have e:=ho;subst e;exact I.call u hok hg hch
end
noncomputable abbrev XK:=Value->Option Addr->Hp->Prop
noncomputable abbrev St:=List (Option V)
noncomputable abbrev VK:=V->Hp->Prop
noncomputable abbrev TE:=St->Hp->VK->Prop
noncomputable abbrev TT:=St->Hp->(Bool->Hp->Prop)->Prop
noncomputable abbrev TA:=St->Hp->(List V->Hp->Prop)->Prop
structure Ends where
 nx:St->Hp->Prop
 rt:VK
 bk:St->Hp->Prop:=λ_ _=>False
 ct:St->Hp->Prop:=λ_ _=>False
noncomputable abbrev TS:=Ends->St->Hp->Prop
noncomputable def EP (X:Cx)(jI:Qb)(σ:St)(Q:VK)(u:Value)(s':Shared):Prop:=∃v H',Inv X jI σ H' s'/\ZG v u/\Q v H'
noncomputable def TP (X:Cx)(jI:Qb)(σ:St)(Q:Bool->Hp->Prop)(b:Bool)(s':Shared):Prop:=∃H',Inv X jI σ H' s'/\Q b H'
noncomputable def AP (X:Cx)(jI:Qb)(σ:St)(Q:List V->Hp->Prop)(us:List Value)(s':Shared):Prop:=∃vs H',Inv X jI σ H' s'/\Zu vs us/\Q vs H'
noncomputable def SP (X:Cx)(jI:Qb)(D:Ends)(f:Flow)(s':Shared):Prop:=
 match f with
 | .next=>∃σ' H',Inv X jI σ' H' s'/\D.nx σ' H'
 | .brk=>∃σ' H',Inv X jI σ' H' s'/\D.bk σ' H'
 | .cont=>∃σ' H',Inv X jI σ' H' s'/\D.ct σ' H'
 | .ret u=>∃v σ' H',Inv X jI σ' H' s'/\ZG v u/\D.rt v H'
noncomputable def PE (X:Cx)(e:Expr)(t:TE):Prop:=
 ∀(jI:Qb) (s:Shared) (σ:St) (H:Hp) (Q:VK),Inv X jI σ H s->t σ H Q->xg (xD X.prog X.w) X.A (eval e X.env) (EP X jI σ Q) X.xe s
noncomputable def PT (X:Cx)(e:Expr)(t:TT):Prop:=
 ∀(jI:Qb) (s:Shared) (σ:St) (H:Hp) (Q:Bool->Hp->Prop),Inv X jI σ H s->t σ H Q->xg (xD X.prog X.w) X.A (isTrue e X.env (eval e X.env)) (TP X jI σ Q) X.xe s
noncomputable def PW (X:Cx)(e:Expr)(t:TT):Prop:=
 ∀(whole:Sem Value) (jI:Qb) (s:Shared) (σ:St) (H:Hp) (Q:Bool->Hp->Prop),Inv X jI σ H s->t σ H Q->xg (xD X.prog X.w) X.A (isTrue e X.env whole) (TP X jI σ Q) X.xe s
theorem PW.pt (h:PW X e t):PT X e t:=h _
noncomputable def PA (X:Cx)(es:List Expr)(t:TA):Prop:=
 ∀(pos:Pos) (jI:Qb) (s:Shared) (σ:St) (H:Hp) (Q:List V->Hp->Prop),Inv X jI σ H s->t σ H Q->xg (xD X.prog X.w) X.A (spliced (backTo pos (xi es X.env))) (AP X jI σ Q) X.xe s
noncomputable def PS (X:Cx)(st:Stmt)(t:TS):Prop:=
 ∀(jI:Qb) (s:Shared) (σ:St) (H:Hp) (D:Ends),Inv X jI σ H s->t D σ H->xg (xD X.prog X.w) X.A (exec st X.env) (SP X jI D) X.xe s
noncomputable def Wt (X:Cx)(st:List Stmt)(t:TS):Prop:=
 ∀(jI:Qb) (s:Shared) (σ:St) (H:Hp) (D:Ends),Inv X jI σ H s->t D σ H->xg (xD X.prog X.w) X.A (execs st X.env) (SP X jI D) X.xe s
theorem ZI {t:Sem α}{Q Q':α->Shared->Prop}(h:xg M A t Q E s)(hQ:∀a s,Q a s->Q' a s):xg M A t Q' E s:=xf h hQ λ_ _ x=>x
section
variable {X:Cx}
noncomputable def Z6 (i:Nat):TE:=fun σ H Q=>∃v,σ[i]?=some (some v)/\Q v H
noncomputable def tC (v:V):TE:=λ_ H Q=>Q v H
theorem Zou {pos:Pos}(hN:X.N[i]?=some x)(hv:JL X.env.scope x)(hd:(x==("__debug__" : Str))=false:=by decide)(hcd:(x==("__classdict__" : Str))=false:=by decide):PE X (.Name x pos) (Z6 i):=by
 intro jI s σ H Q I h;obtain⟨v,e,h⟩:=h;obtain⟨m,hn,hl⟩:=I.loc;obtain⟨u,r,l⟩:=hl i x v hN e hv;have fin:EP X jI σ Q u s:=⟨v,H,I,r,h⟩;rcases l with⟨hk,hm⟩ | ⟨hk,c,hc,hcell⟩
 ·exact wpAny_Name (wpAny_loadName_local I.ok.kind hk hn hm fin) hd
 ·rcases hk with hk | hk
  ·exact wpAny_Name (wpAny_loadName_cell I.ok.kind hk hc hcell fin) hd
  ·exact wpAny_Name (wpAny_loadName_free I.ok.kind hk hc hcell fin hcd) hd
theorem Y9:PE X (.Constant (.int i) j pos) (tC (.int i)):=λ_ _ _ H _ I h=>wpAny_Constant_int ⟨.int i,H,I.tok _,⟨_,rfl⟩,h⟩
theorem ZpC:PE X (.Constant (.bool b) j pos) (tC (.bl b)):=λ_ _ _ H _ I h=>Constant_bool ⟨.bl b,H,I,rfl,h⟩
theorem Zov:PE X (.Constant .none j pos) (tC .non):=λ_ _ _ H _ I h=>Constant_none ⟨.non,H,I,rfl,h⟩
theorem Wf:PE X (.Constant (.str x) j pos) (tC (.str x)):=λ_ _ _ H _ I h=>Calls.Constant_str ⟨.str x,H,I.tok _,⟨_,rfl⟩,h⟩
noncomputable def Gl (X:Cx)(x:Str):Prop:=X.env.kindOf x=some .globalImplicit
theorem ZhX {σ:St}(I:Inv X jI σ H s)(hg:Gl X x)(hm:X.mg x=some u)(h:Q u s)
  (hd:(x==("__debug__" : Str))=false:=by decide):xg (xD X.prog X.w) X.A (eval (.Name x pos) X.env) Q E s:=
 qa1 I.ok.kind hg (Calls.loadGlobal_global (by rw[I.ok.glob];exact I.mod.glob.keeps I.bk) hm h) hd
theorem Uh {E:xH}{σ:St}{pos:Pos}(I:Inv X jI σ H s)(hg:Gl X x)(hm:X.mg x=none)(hv:xk x=some u)(h:Q u s)
  (hn:x≠"__name__":=by decide) (hd:(x==("__debug__" : Str))=false:=by decide):xg (xD X.prog X.w) X.A (eval (.Name x pos) X.env) Q E s:=by
 obtain⟨mb,h1,h2⟩:=I.mod.blt;exact qa1 I.ok.kind hg (Calls.loadGlobal_builtin (by rw[I.ok.glob];exact I.mod.glob.keeps I.bk) hm (by rw[I.ok.blt];exact h1.keeps I.bk) ((h2 x hn).trans hv) h) hd
variable {a b:Expr}{ta tb:TE}{pos:Pos}
noncomputable def tB (t:TE):TT:=fun σ H Q=>t σ H λx H1=>∃c,x=.bl c/\Q c H1
theorem Zow (h:PE X e t)(he:∀whole,isTrue e X.env whole=(do let v<-whole;standAt e.pos;holding [v] (truthy v)):=by intro _;rfl):PT X e (tB t):=by
 intro jI s σ H Q I hw;refine isTrue_plain (ZI (h jI s σ H _ I hw) λv s1 ⟨x,H1,I1,r1,q1⟩=>?_) (he _);obtain⟨d,rfl,q⟩:=q1
 cases r1
 exact wpAny_truthy_bool ⟨H1,I1,q⟩
variable {tA tB':TT}{rest:List Expr}
noncomputable def tAnd (t u:TT):TT:=fun σ H Q=>t σ H λc H1=>if c=true then u σ H1 Q else Q false H1
theorem ZhY (ha:PT X a tA):PW X (.BoolOp .And [a] pos) tA:=by
 intro wh jI s σ H Q I h;refine isTrue_and (ZI (ha jI s σ H Q I h) λc s1 e=>?_)
 cases c with
 | true=>exact isTrue_and_nil e
 | false=>exact e
theorem Zkh (ha:PT X a tA)(hb:PW X (.BoolOp .And (b::rest) pos) tB'):PW X (.BoolOp .And (a::b::rest) pos) (tAnd tA tB'):=by
 intro wh jI s σ H Q I h;refine isTrue_and (ZI (ha jI s σ H _ I h) λc s1 ⟨H1,I1,q1⟩=>?_)
 cases c with
 | true=>exact hb wh jI s1 σ H1 Q I1 q1
 | false=>exact⟨H1,I1,q1⟩
noncomputable def ZpD (ta tb:TE):TE:=fun σ H Q=>ta σ H λx H1=>∃c,x=.bl c/\if c=true then tb σ H1 Q else Q (.bl false) H1
noncomputable def tOrV (ta tb:TE):TE:=fun σ H Q=>ta σ H λx H1=>∃c,x=.bl c/\if c=true then Q (.bl true) H1 else tb σ H1 Q
noncomputable def ZpE (ta:TE):TE:=fun σ H Q=>ta σ H λx H1=>∃c,x=.bl c/\Q (.bl (!c)) H1
theorem Zox (h:PE X a t):PE X (.BoolOp op [a] pos) t:=λjI s σ H Q I hw=>BoolOp_one (h jI s σ H Q I hw)
theorem Zoy (ha:PE X a ta)(hb:PE X (.BoolOp .And (b::rest) pos) tb):PE X (.BoolOp .And (a::b::rest) pos) (ZpD ta tb):=by
 intro jI s σ H Q I h;refine BoolOp_and (ZI (ha jI s σ H _ I h) λv s1 ⟨x,H1,I1,r1,q1⟩=>?_);obtain⟨c,rfl,q1⟩:=q1
 cases r1
 refine wpAny_truthy_bool ?_
 cases c with
 | true=>exact hb jI s1 σ H1 Q I1 q1
 | false=>exact⟨.bl false,H1,I1,rfl,q1⟩
theorem ZpF (ha:PE X a ta)(hb:PE X (.BoolOp .Or (b::rest) pos) tb):PE X (.BoolOp .Or (a::b::rest) pos) (tOrV ta tb):=by
 intro jI s σ H Q I h;refine BoolOp_or (ZI (ha jI s σ H _ I h) λv s1 ⟨x,H1,I1,r1,q1⟩=>?_);obtain⟨c,rfl,q1⟩:=q1
 cases r1
 refine wpAny_truthy_bool ?_
 cases c with
 | false=>exact hb jI s1 σ H1 Q I1 q1
 | true=>exact⟨.bl true,H1,I1,rfl,q1⟩
theorem Zoz (ha:PE X a ta):PE X (.UnaryOp .Not a pos) (ZpE ta):=by
 intro jI s σ H Q I h;refine UnaryOp_ (ZI (ha jI s σ H _ I h) λv s1 ⟨x,H1,I1,r1,q1⟩=>?_);obtain⟨c,rfl,q1⟩:=q1
 cases r1
 exact not_of (wpAny_truthy_bool ⟨.bl (!c),H1,I1,rfl,q1⟩)
noncomputable def tIf (t:TT)(ta tb:TE):TE:=fun σ H Q=>t σ H λc H1=>if c=true then ta σ H1 Q else tb σ H1 Q
theorem Zki (hc:PT X c tA)(ha:PE X a ta)(hb:PE X b tb):PE X (.IfExp c a b pos) (tIf tA ta tb):=by
 intro jI s σ H Q I h;refine wpAny_IfExp (ZI (hc jI s σ H _ I h) λd s1 ⟨H1,I1,q1⟩=>?_)
 cases d with
 | true=>exact ha jI s1 σ H1 Q I1 q1
 | false=>exact hb jI s1 σ H1 Q I1 q1
end
noncomputable def Zw (K:qk)(H:Hp)(a:Addr)(xs:List V):Prop:=
 Rd H a (.lst xs)∨
  ∃(o:Obj) (jK:Array Value) (n:Nat),K.lookup a=some o/\o.cls=.type "list"/\o.dict=none/\o.data=.seq jK n/\jK.size<=xh/\Zu xs jK.toList
noncomputable def ZO (K:qk)(H:Hp)(a:Addr)(xs:List V):Prop:=
 Rd H a (.tup xs)∨
  ∃(o:Obj) (jK:Array Value) (n:Nat),K.lookup a=some o/\o.cls=.type "tuple"/\o.data=.seq jK n/\jK.size<=xh/\Zu xs jK.toList
noncomputable def absV:Value->Option V
 | .none=>some .non
 | .bool b=>some (.bl b)
 | .int i _=>some (.int i)
 | .str x _=>some (.str x)
 | .bytes b _=>some (.byt b)
 | .float b _=>some (.flt b)
 | .ref a=>some (.ref a)
 | .type n=>some (.ty n)
 | _=>none
theorem ZG.abs (r:ZG x u):absV u=some x:=by
 cases x with
 | non=>cases r;rfl
 | bl _=>cases r;rfl
 | int _=>obtain⟨t,rfl⟩:=r;rfl
 | str _=>obtain⟨t,rfl⟩:=r;rfl
 | byt _=>obtain⟨t,rfl⟩:=r;rfl
 | flt _=>obtain⟨t,rfl⟩:=r;rfl
 | ref _=>cases r;rfl
 | ty _=>cases r;rfl
theorem ZG.inj (r:ZG x u)(q:ZG y u):x=y:=zY (r.abs.symm.trans q.abs)
theorem Zu.inj:∀{xs ys:List V} {us:List Value},Zu xs us->Zu ys us->xs=ys
 | _,_,_,.nil,.nil=>rfl
 | _,_,_,.cons r t,.cons r' t'=>by rw[r.inj r',Zu.inj t t']
section
variable {X:Cx}{jI:Qb}{σ:St}{H:Hp}{s:Shared}{a:Addr}{xs ys:List V}
theorem Zw.of {K:qk}(h:H a=some (.lst xs)):Zw K H a xs:=.inl (.inl h)
theorem ZO.of {K:qk}(h:H a=some (.tup xs)):ZO K H a xs:=.inl (.inl h)
theorem Inv.list (I:Inv X jI σ H s)(h:Zw X.K H a xs):∃jK:List Value,Zu xs jK/\PlainL s.heap a jK.toArray/\xs.length<=xh:=by
 rcases h with h | ⟨o,jK,n,hk,hc,hd,hs,hz,r⟩
 ·obtain⟨z,jK,n,r,e⟩:=h.ok I.hok
  exact⟨jK,r,⟨_,n,e,rfl,rfl,rfl⟩,z⟩
 ·refine⟨jK.toList,r,⟨o,n,I.kIn a o hk,hc,hd,by omega⟩,?_⟩
  have e:=r.length
  grind
theorem Inv.tuple (I:Inv X jI σ H s)(h:ZO X.K H a xs):∃jK:List Value,Zu xs jK/\IsTup s.heap a jK.toArray/\xs.length<=xh:=by
 rcases h with h | ⟨o,jK,n,hk,hc,hs,hz,r⟩
 ·obtain⟨z,jK,r,p⟩:=h.ok I.hok
  exact⟨jK,r,p,z⟩
 ·refine⟨jK.toList,r,⟨o,I.kIn a o hk,hc,n,by omega⟩,?_⟩
  have e:=r.length;simp_all
theorem Inv.list_inj (I:Inv X jI σ H s)(h:Zw X.K H a xs)(h':Zw X.K H a ys):xs=ys:=by
 obtain⟨jK,r,⟨o,n,e,_,_,d⟩,_⟩:=I.list h;obtain⟨its',r',⟨o',n',e',_,_,d'⟩,_⟩:=I.list h';have:jK=its':=by grind
 subst this;exact r.inj r'
theorem Inv.tuple_inj (I:Inv X jI σ H s)(h:ZO X.K H a xs)(h':ZO X.K H a ys):xs=ys:=by
 obtain⟨jK,r,⟨o,e,_,n,d⟩,_⟩:=I.tuple h;obtain⟨its',r',⟨o',e',_,n',d'⟩,_⟩:=I.tuple h';have:jK=its':=by grind
 subst this;exact r.inj r'
end
noncomputable abbrev Cx.wish (X:Cx)(E:xH):Cx:={ X with xe:=E }
noncomputable abbrev Cx.nox (X:Cx):Cx:=X.wish λ_ _=>False
theorem Cx.Ok.wish {X:Cx}(ok:X.Ok)(E:xH):(X.wish E).Ok:=
 ⟨ok.mod,ok.kind,ok.glob,ok.blt,ok.above,ok.inj,ok.has,ok.cab,ok.hd,ok.frames,ok.stk,ok.exf,ok.bs,ok.bsz,ok.noex,ok.exfs,ok.funs,ok.frf⟩
theorem Cx.Ok.unwish {X:Cx}(ok:(X.wish E).Ok):X.Ok:=
 ⟨ok.mod,ok.kind,ok.glob,ok.blt,ok.above,ok.inj,ok.has,ok.cab,ok.hd,ok.frames,ok.stk,ok.exf,ok.bs,ok.bsz,ok.noex,ok.exfs,ok.funs,ok.frf⟩
section
variable {X:Cx}{jI:Qb}{σ:St}{H:Hp}{s:Shared}{E:xH}
theorem Inv.wish (I:Inv X jI σ H s)(E:xH):Inv (X.wish E) jI σ H s:=⟨I.ok.wish E,I.os,I.bare,I.base,I.loc,I.cell,I.free,I.freeC,I.pin,I.hok,I.len⟩
theorem Inv.unwish (I:Inv (X.wish E) jI σ H s):Inv X jI σ H s:=⟨I.ok.unwish,I.os,I.bare,I.base,I.loc,I.cell,I.free,I.freeC,I.pin,I.hok,I.len⟩
theorem SP.unwish (h:SP (X.wish E) jI D f s'):SP X jI D f s':=by
 cases f with
 | next=>obtain⟨σ',H',I,q⟩:=h;exact⟨σ',H',I.unwish,q⟩
 | brk=>obtain⟨σ',H',I,q⟩:=h;exact⟨σ',H',I.unwish,q⟩
 | cont=>obtain⟨σ',H',I,q⟩:=h;exact⟨σ',H',I.unwish,q⟩
 | ret u=>obtain⟨v,σ',H',I,r,q⟩:=h;exact⟨v,σ',H',I.unwish,r,q⟩
theorem PE.nox (h:PE X.nox e t):PE X e t:=λjI s σ H Q I hw=>
 xf (h jI s σ H Q (I.wish _) hw) (λ_ _ ⟨v,H',I',r,q⟩=>⟨v,H',I'.unwish,r,q⟩) λ_ _ z=>zZ z
theorem Wt.nox {st:List Stmt}(h:Wt X.nox st t):Wt X st t:=λjI s σ H D I hw=>
 xf (h jI s σ H D (I.wish _) hw) (λ_ _ q=>q.unwish) λ_ _ z=>zZ z
end
section
variable {X:Cx}{st:Stmt}{rest:List Stmt}{t u:TS}{e:Expr}{te:TE}{pos:Pos}
noncomputable def Zkj:TS:=λD σ H=>D.nx σ H
noncomputable def Vo (t u:TS):TS:=λD σ H=>t { D with nx:=u D } σ H
theorem ZeJ:Wt X [] Zkj:=λ_ _ σ H _ I h=>wpAny_execs_nil ⟨σ,H,I,h⟩
theorem W3 (h1:PS X st t)(h2:Wt X rest u):Wt X (st::rest) (Vo t u):=by
 intro jI s σ H D I h;refine wpAny_execs_cons (ZI (h1 jI s σ H { D with nx:=u D } I h) λf s1 q=>?_)
 cases f with
 | next=>
  obtain⟨σ',H',I',q⟩:=q;exact h2 jI s1 σ' H' D I' q
 | ret v=>exact q
 | brk=>exact q
 | cont=>exact q
theorem Jh (h1:PS X st t):Wt X [st] t:=by
 intro jI s σ H D I h;refine wpAny_execs_cons (ZI (h1 jI s σ H D I h) λf s1 q=>?_)
 cases f with
 | next=>exact wpAny_execs_nil q
 | ret v=>exact q
 | brk=>exact q
 | cont=>exact q
theorem Inv.quiet {σ:St}(I:Inv X jI σ H s):interactive X.env=false:=by simp[interactive,I.ok.kind]
noncomputable def VR (te:TE):TS:=λD σ H=>te σ H λ_ H1=>D.nx σ H1
theorem ZcA (he:PE X e te)(hs:xt e none pos.line X.env=pure false:=by rfl):PS X (.Expr e pos) (VR te):=by
 intro jI s σ H D I h;exact wpAny_Expr_any (ZI (he jI s σ H _ I h) λv s1 ⟨x,H1,I1,r1,q1⟩=>⟨σ,H1,I1,q1⟩) I.quiet hs
noncomputable def BA (te:TE):TS:=λD σ H=>te σ H D.rt
theorem Jl (he:PE X e te):PS X (.Return (some e) pos) (BA te):=by
 intro jI s σ H D I h;exact wpAny_Return_some (ZI (he jI s σ H _ I h) λv s1 ⟨x,H1,I1,r1,q1⟩=>⟨x,σ,H1,I1,r1,q1⟩)
noncomputable def tIfS (c:TT)(t u:TS):TS:=λD σ H=>c σ H λb H1=>if b=true then t D σ H1 else u D σ H1
theorem Zkk (hc:PT X c tc)(ha:Wt X a t)(hb:Wt X b u):PS X (.If c a b pos) (tIfS tc t u):=by
 intro jI s σ H D I h;refine wpAny_If (ZI (hc jI s σ H _ I h) λd s1 ⟨H1,I1,q1⟩=>?_)
 cases d with
 | true=>exact ha jI s1 σ H1 D I1 q1
 | false=>exact hb jI s1 σ H1 D I1 q1
end
noncomputable abbrev TG:=V->St->Hp->(St->Hp->Prop)->Prop
noncomputable abbrev BH:=List V->St->Hp->(St->Hp->Prop)->Prop
noncomputable def PG (X:Cx)(target:Expr)(t:TG):Prop:=
 ∀(jI:Qb) (s:Shared) (σ:St) (H:Hp) (v:V) (u:Value) (Q:St->Hp->Prop),Inv X jI σ H s->ZG v u->t v σ H Q->
  xg (xD X.prog X.w) X.A (assign target X.env u) (λ_ s'=>∃σ' H',Inv X jI σ' H' s'/\Q σ' H') X.xe s
noncomputable def BI (X:Cx)(ts:List Expr)(t:BH):Prop:=
 ∀(jI:Qb) (s:Shared) (σ:St) (H:Hp) (vs:List V) (us:List Value) (Q:St->Hp->Prop),Inv X jI σ H s->Zu vs us->t vs σ H Q->
  xg (xD X.prog X.w) X.A (assignInOrder ((assignEach ts X.env).map (·.2)) us) (λ_ s'=>∃σ' H',Inv X jI σ' H' s'/\Q σ' H') X.xe s
noncomputable abbrev TSet:=V->V->V->Hp->(Hp->Prop)->Prop
noncomputable def PSet (X:Cx)(t:TSet):Prop:=
 ∀(jI:Qb) (s:Shared) (σ:St) (H:Hp) (o i v:V) (ov iv u:Value) (Q:Hp->Prop),Inv X jI σ H s->ZG o ov->ZG i iv->ZG v u->t o i v H Q->
  xg (xD X.prog X.w) X.A (setItem ov iv u) (λ_ s'=>∃H',Inv X jI σ H' s'/\Q H') X.xe s
noncomputable abbrev TIp:=V->V->Hp->VK->Prop
noncomputable def PIp (X:Cx)(op:Operator)(t:TIp):Prop:=
 ∀(jI:Qb) (s:Shared) (σ:St) (H:Hp) (x y:V) (v u:Value) (Q:VK),Inv X jI σ H s->ZG x v->ZG y u->t x y H Q->
  xg (xD X.prog X.w) X.A (inplaceOp op v u) (EP X jI σ Q) X.xe s
section
variable {X:Cx}{pos:Pos}
noncomputable def Wz (i:Nat):TG:=λv σ H Q=>Q (σ.set i (some v)) H
theorem WO (hN:X.N.Nodup)(hi:X.N[i]?=some x)(hx:WH X.env.scope x)(hf:X.fn x=true∨X.env.scope.names.lookup x=some .local:=by first | exact .inl rfl | exact .inr rfl | assumption):PG X (.Name x pos) (Wz i):=by
 intro jI s σ H v u Q I r h;exact wpAny_assign_Name (ZcP I hN hi hx r (λs' I'=>⟨_,H,I',h⟩) hf)
noncomputable def gNil:BH:=λvs σ H Q=>vs=[]/\Q σ H
noncomputable def Zkl (t:TG)(u:BH):BH:=λvs σ H Q=>∃v r,vs=v::r/\t v σ H fun σ' H'=>u r σ' H' Q
theorem ZcB:BI X [] gNil:=by
 intro jI s σ H vs us Q I r h;obtain⟨e,h⟩:=h;exact assignInOrder_nil ⟨σ,H,I,h⟩
theorem Ue (h1:PG X e t)(h2:BI X es u)
  (hs:(assignEach (e::es) X.env).map (·.2)=assign e X.env::(assignEach es X.env).map (·.2):=by rfl):BI X (e::es) (Zkl t u):=by
 intro jI s σ H vs us Q I r h;obtain⟨v,vr,e1,h⟩:=h;subst e1
 cases r with
 | cons r rr=>
  rw[hs];refine assignInOrder_cons (ZI (h1 jI s σ H _ _ _ I r h) λ_ s1 ⟨σ1,H1,I1,q1⟩=>?_);exact h2 jI s1 σ1 H1 _ _ Q I1 rr q1
noncomputable def gTup (K:qk)(n:Nat)(t:BH):TG:=λv σ H Q=>∃a xs,v=.ref a/\ZO K H a xs/\xs.length=n/\t xs σ H Q
theorem ZoA {k:Nat}(hc:X.calm=true)(h:BI X es t)
  (hn:(assignEach es X.env).length=n:=by rfl) (hst:(assignEach es X.env).findIdx? (·.1)=none:=by rfl):PG X (.Tuple es k pos) (gTup X.K n t):=by
 intro jI s σ H v u Q I r hw;obtain⟨a,xs,e1,hq,hl,hw⟩:=hw;subst e1
 cases r
 obtain⟨jK,rv,ht,hz⟩:=I.tuple hq;refine assign_Tuple_tuple (I.ok.hd hc) ht (by simp[hn,<-hl,rv.length]) hst λh' hx=>?_;have I1:Inv X jI σ H { s with heap:=h' }:=I.kept λb o e=>hx b o (qD (qC e)) e;exact h jI _ σ H xs _ Q I1 (by omega) hw
noncomputable def gSub (to ti:TE)(t:TSet):TG:=λv σ H Q=>to σ H λo H1=>ti σ H1 λi H2=>t o i v H2 λH3=>Q σ H3
theorem ZoB (ho:PE X o to)(hi:PE X i ti)(hs:PSet X t)
  (ha:∀v,assign (.Subscript o i pos) X.env v=(do
   let ov<-holding [v] (eval o X.env)
   let iv<-holding [v,ov] (eval i X.env)
   standAt pos
   holding [v,ov,iv] (setItem ov iv v)
   release [v,ov,iv] []):=by intro _;rfl):PG X (.Subscript o i pos) (gSub to ti t):=by
 intro jI s σ H v u Q I r h;rw[ha];refine xb (xy (ZI (ho jI s σ H _ I h) λov s1 ⟨x,H1,I1,r1,q1⟩=>?_));refine xb (xy (ZI (hi jI s1 σ H1 _ I1 q1) λiv s2 ⟨y,H2,I2,r2,q2⟩=>?_));refine xb (wpAny_standAt (xb (xy (ZI (hs jI s2 σ H2 x y v ov iv u _ I2 r1 r2 r q2) λ_ s3 ⟨H3,I3,q3⟩=>?_))));exact wpAny_release ⟨σ,H3,I3,q3⟩
noncomputable def VW (te:TE)(g:TG):TS:=λD σ H=>te σ H λx H1=>g x σ H1 D.nx
theorem ZoC (he:PE X e te)(hg:PG X tg g)(hs:swapsWithSole [tg] e pos.line X.env=pure false:=by rfl)(hw:swappedStores [tg] e X.env=pure none:=by rfl)
  (h1:(assignEach [tg] X.env).map (·.2)=[assign tg X.env]:=by rfl):PS X (.Assign [tg] e pos) (VW te g):=by
 intro jI s σ H D I h;refine wpAny_Assign_stores (ZI (he jI s σ H _ I h) λv s1 ⟨x,H1,I1,r1,q1⟩=>?_) hs hw;rw[h1];exact ZI (hg jI s1 σ H1 x v _ I1 r1 q1) λ_ s2 q=>q
theorem Ui (hN:X.N.Nodup)(hi:X.N[i]?=some x)(hx:WH X.env.scope x)(he:PE X e te)(hs:xt e (some (.Name x pos')) pos.line X.env=pure false:=by rfl)(hf:X.fn x=true∨X.env.scope.names.lookup x=some .local:=by first | exact .inl rfl | exact .inr rfl | assumption) :
  PS X (.Assign [.Name x pos'] e pos) (VW te (Wz i)):=by
 intro jI s σ H D I h;refine wpAny_Assign_Name (ZI (he jI s σ H _ I h) λv s1 ⟨y,H1,I1,r1,q1⟩=>?_) hs;exact ZcP I1 hN hi hx r1 (λs2 I2=>⟨_,H1,I2,q1⟩) hf
noncomputable def tAug (i:Nat)(te:TE)(ti:TIp):TS:=λD σ H=>∃x,σ[i]?=some (some x)/\te σ H λy H1=>ti x y H1 λz H2=>D.nx (σ.set i (some z)) H2
theorem ZoD (hN:X.N.Nodup)(hi:X.N[i]?=some x)(hx:WH X.env.scope x)(he:PE X e te)(ho:PIp X op ti)(hf:X.fn x=true∨X.env.scope.names.lookup x=some .local:=by first | exact .inl rfl | exact .inr rfl | assumption) :
  PS X (.AugAssign (.Name x pos') op e pos) (tAug i te ti):=by
 intro jI s σ H D I h;obtain⟨v,e1,h⟩:=h;obtain⟨m,hn,hl⟩:=I.loc;have vis:JL X.env.scope x:=by rcases hx with k | k;exact .inl k;exact .inr (.inl k)
 obtain⟨u,r,l⟩:=hl i x v hi e1 vis;refine wpAny_AugAssign_Name ?_;have go:xg (xD X.prog X.w) X.A (eval e X.env) (λw s₂=>xg (xD X.prog X.w) X.A (inplaceOp op u w) (λr s₃=>xg (xD X.prog X.w) X.A (storeName X.env x r) (λ_=>SP X jI D .next) X.xe s₃) X.xe s₂) X.xe s:=by
  refine ZI (he jI s σ H _ I h) λw s1 ⟨y,H1,I1,r1,q1⟩=>?_;refine ZI (ho jI s1 σ H1 v y u w _ I1 r r1 q1) λz s2 ⟨zv,H2,I2,r2,q2⟩=>?_;exact ZcP I2 hN hi hx r2 (λs3 I3=>⟨_,H2,I3,q2⟩) hf
 rcases l with⟨hk,hm⟩ | ⟨hk,c,hc,hcell⟩
 ·exact wpAny_loadName_local I.ok.kind hk hn hm go
 ·rcases hk with hk | hk
  ·exact wpAny_loadName_cell I.ok.kind hk hc hcell go
  ·rcases hx with k | k
   ·have:X.env.scope.names.lookup x=some .free:=hk
    grind
   ·have:X.env.scope.names.lookup x=some .free:=hk
    simp_all
noncomputable def ipI (f:Int->Int->Int):TIp:=λx y H Q=>∃i j,x=.int i/\y=.int j/\Q (.int (f i j)) H
theorem ZoE:PIp X .Add (ipI λi j=>i+j):=by
 intro jI s σ H x y v u Q I r1 r2 h;obtain⟨i,j,e1,e2,q⟩:=h;subst e1;subst e2;obtain⟨t,rfl⟩:=r1;obtain⟨t',rfl⟩:=r2;exact iadd_int ⟨.int _,H,I.tok _,⟨_,rfl⟩,q⟩
end
section
variable {X:Cx}{pos:Pos}
noncomputable def ZoF (c:TT)(tb:TS):TS:=λD σ H=>∃W:Nat->St->Hp->Prop,(∃m,W m σ H)/\∀m σ H,W m σ H->
 c σ H λb H1=>if b=true then ∃N:St->Hp->Prop,(∀σ' H',N σ' H'->∃m',m'<m/\W m' σ' H')/\tb { D with nx:=N,ct:=N,bk:=D.nx } σ H1 else D.nx σ H1
theorem Zkm (hp:PassesOwn (xD X.prog X.w) X.A X.env X.xe)(hc:PT X c tc)(hb:Wt X body tb):PS X (.While c body [] pos) (ZoF tc tb):=by
 intro jI s σ H D I h;obtain⟨W,⟨m0,w0⟩,turn⟩:=h;refine wpAny_While (codeAny_whileLoop (λn s'=>∃σ' H',Inv X jI σ' H' s'/\W n σ' H') ?_ m0 ⟨σ,H,I,w0⟩);rintro n s1 ⟨σ1,H1,I1,w1⟩;refine wpAny_passesOwn hp (ZI (hc jI s1 σ1 H1 _ I1 (turn n σ1 H1 w1)) λb s2 ⟨H2,I2,q2⟩=>?_)
 cases b with
 | true=>
  obtain⟨N,hN,q2⟩:=q2;refine wpAny_passesOwn hp (ZI (hb jI s2 σ1 H2 _ I2 q2) λf s3 q3=>?_)
  cases f with
  | next=>
   obtain⟨σ3,H3,I3,n3⟩:=q3;obtain⟨m',hm,w3⟩:=hN σ3 H3 n3;exact⟨m',hm,σ3,H3,I3,w3⟩
  | cont=>
   obtain⟨σ3,H3,I3,n3⟩:=q3;obtain⟨m',hm,w3⟩:=hN σ3 H3 n3;exact⟨m',hm,σ3,H3,I3,w3⟩
  | brk=>exact q3
  | ret v=>exact q3
 | false=>
  exact wpAny_execs_nil ⟨σ1,H2,I2,q2⟩
end
structure It where
 go:Nat->Hp->Prop
 yld:Nat->Hp->V->Hp->Prop
 stop:Nat->Hp->Prop
noncomputable def Wq (X:Cx)(jI:Qb)(H:Hp)(b:Addr):Prop:=
 H b=none/\b≠X.env.locals/\b∉X.fs/\(b∈X.ex∨X.s₀.heap.objs.size<=b)/\(∀x c,X.env.cells.lookup x=some c->c≠b)/\∀p∈X.pn++jI,p.1≠b
theorem Inv.fpOk {σ:St}{b:Addr}(I:Inv X jI σ H s)(hb:s.heap.objs.size<=b)(hn:H' b=none):Wq X jI H' b:=by
 refine⟨hn,qaM (qT I.lt hb),I.nofs hb,.inr (qV I.sz hb),λx c e z=>?_,λp hp z=>?_⟩
 ·obtain⟨v,q⟩:=I.cell x c e
  exact absurd (qT q.lt (by simp_all)) (yk _)
 ·exact absurd (qT (qC (I.pin p hp).1) (by simp_all)) (yk _)
structure Turn (P:xF)(w:World)(K:qk)(tg:Expr)(J:It)(fp:List Addr)(it:Addr)(tn:Nat->Heap->Prop):Prop where
 mem:it∈fp
 obj:∀i h,tn i h->∀b∈fp,∃o,h.get? b=some o/\∀v,o.data≠.cell v
 keep:∀i h h',tn i h->(∀b∈fp,∀o,h.get? b=some o->h'.get? b=some o)->tn i h'
 item:∀(X:Cx),X.prog=P->X.w=w->X.K=K->X.calm=true->∀(i:Nat) (jI:Qb) (s:Shared) (σ:St) (H:Hp) (E:xH),Inv X jI σ H s->(∀b∈fp,Wq X jI H b)->tn i s.heap->J.go i H->
  xg (xD P w) X.A (pyNext (.ref it)) (λr s1=>∃u,r=some u/\
   xg (xD P w) X.A (letOwnedTupleGo tg (.ref it) u) (λ_ s2=>∃x H',Inv X jI σ H' s2/\ZG x u/\J.yld i H x H'/\tn (i+1) s2.heap/\∀b∈fp,H' b=none) E s1) E s
 done:∀(X:Cx),X.prog=P->X.w=w->X.K=K->X.calm=true->∀(i:Nat) (jI:Qb) (s:Shared) (σ:St) (H:Hp) (E:xH),Inv X jI σ H s->(∀b∈fp,Wq X jI H b)->tn i s.heap->J.stop i H->
  xg (xD P w) X.A (pyNext (.ref it)) (λr s1=>r=none/\Inv X jI σ H s1) E s
 self:∀(A:xG) (i:Nat) (s:Shared) (Q:xH) (E:xH),tn i s.heap->Q (.ref it) s->xg (xD P w) A (pyIter (.ref it)) Q E s
noncomputable abbrev TI:=St->Hp->(It->Hp->Prop)->Prop
noncomputable def PIE (X:Cx)(jI:Qb)(σ:St)(tg:Expr)(R:It->Hp->Prop)(itv:Value)(s2:Shared):Prop:=
 ∃(it:Addr) (fp:List Addr) (tn:Nat->Heap->Prop) (J:It) (H':Hp),itv=.ref it/\Inv X jI σ H' s2/\Turn X.prog X.w X.K tg J fp it tn/\tn 0 s2.heap/\(∀b∈fp,Wq X jI H' b)/\R J H'
noncomputable def PI (X:Cx)(tg iter:Expr)(wi:TI):Prop:=
 ∀(jI:Qb) (s:Shared) (σ:St) (H:Hp) (R:It->Hp->Prop),Inv X jI σ H s->wi σ H R->
  xg (xD X.prog X.w) X.A (eval iter X.env) (λv s1=>xg (xD X.prog X.w) X.A (pyIter v) (PIE X jI σ tg R) X.xe s1) X.xe s
theorem Zkn (ho : s.heap.get? it = some o)(hc : o.cls = .type n)(hd : o.data = .fields vs)
    (hn : ["enumerate", "zip", "dict_itemiterator", "dict_reverseitemiterator", "odict_iterator", "itertools.zip_longest", "itertools.pairwise"].contains n = false) (hQ : Q () s) : xg M A (letOwnedTupleGo tg (.ref it) u) Q E s := by
  unfold letOwnedTupleGo
  cases tg <;> first
    | exact xc hQ
    | (cases u <;> first
        | exact xc hQ
        | (refine xb (wpAny_load ho ?_)
           rw[hc, hd];show xg M A (if (["enumerate", "zip", "dict_itemiterator", "dict_reverseitemiterator", "odict_iterator", "itertools.zip_longest", "itertools.pairwise"].contains n && vs[0]? == some (rawInt _)) = true then _ else _) Q E s;rw[if_neg (by intro h; rw[hn] at h; cases h)];exact xc hQ))
noncomputable def Itl (K:qk)(a:Addr):It:=
 ⟨λi H=>∃xs x,Zw K H a xs/\xs[i]?=some x,λi H x H'=>H'=H/\∀xs,Zw K H a xs->xs[i]?=some x,λi H=>∃xs,Zw K H a xs/\xs.length<=i⟩
noncomputable def Itt (K:qk)(a:Addr):It:=
 ⟨λi H=>∃xs x,ZO K H a xs/\xs[i]?=some x,λi H x H'=>H'=H/\∀xs,ZO K H a xs->xs[i]?=some x,λi H=>∃xs,ZO K H a xs/\xs.length<=i⟩
noncomputable def BJ (lo:Int)(n:Nat):It:=⟨λi _=>i<n,λi H x H'=>H'=H/\x=.int (lo+i),λi _=>n<=i⟩
theorem ZiV {K:qk}(a it:Addr):Turn P w K tg (Itl K a) [it] it (λi h=>h.IsListIter it a i) where
 mem:=by simp
 obj:=λi h st b hb=>by
  have e:b=it:=by simpa using hb
  subst e;obtain⟨o,e,c,d⟩:=st;exact⟨o,e,λv z=>by rw[d]at z;cases z⟩
 keep:=λi h h' st k=>st.at λo e=>k it (by simp) o e
 item:=by
  intro X hP hw hK hc i jI s σ H E I hf st hg;subst hP hw hK;obtain⟨xs,x,hq,hx⟩:=hg;obtain⟨jK,rv,p,hz⟩:=I.list hq;obtain⟨u,hu,ru⟩:=rv.get hx;obtain⟨f0,f1,f2,f3,f4,f5⟩:=hf it (by simp);refine wpAny_pyNext_list_item st p.isList (x:=u) (by simpa using hu) λh' st' sb=>?_;have I1:Inv X jI σ H { s with heap:=h' }:=I.turned (t':=s.toks) (λb o hb e=>(sb.2 b hb).trans e) f0 f1 f3 f4 f5;obtain⟨o,e,c,d⟩:=id st';exact⟨u,rfl,Zkn (s:={ s with heap:=h' }) e c d (by decide) ⟨x,H,I1,ru,⟨rfl,λys hy=>by rw[I.list_inj hy hq];exact hx⟩,st',λb hb=>(hf b hb).1⟩⟩
 done:=by
  intro X hP hw hK hc i jI s σ H E I hf st hg;subst hP hw hK;obtain⟨xs,hq,hx⟩:=hg;obtain⟨jK,rv,p,hz⟩:=I.list hq;obtain⟨f0,f1,f2,f3,f4,f5⟩:=hf it (by simp);have hl:=rv.length;exact wpAny_pyNext_list_end (I.ok.hd hc) st p.isList (by simp;omega) λh' eb=>⟨rfl,I.turned (λb o hb e=>eb b o hb e) f0 f1 f3 f4 f5⟩
 self:=λ_ _ _ _ _ st h=>wpAny_pyIter_listiter st h
theorem ZgM {K:qk}(a it:Addr):Turn P w K tg (Itt K a) [it] it (λi h=>h.IsTupleIter it a i) where
 mem:=by simp
 obj:=λi h st b hb=>by
  have e:b=it:=by simpa using hb
  subst e;obtain⟨o,e,c,d⟩:=st;exact⟨o,e,λv z=>by rw[d]at z;cases z⟩
 keep:=λi h h' st k=>st.at λo e=>k it (by simp) o e
 item:=by
  intro X hP hw hK hc i jI s σ H E I hf st hg;subst hP hw hK;obtain⟨xs,x,hq,hx⟩:=hg;obtain⟨jK,rv,p,hz⟩:=I.tuple hq;obtain⟨u,hu,ru⟩:=rv.get hx;obtain⟨f0,f1,f2,f3,f4,f5⟩:=hf it (by simp);refine wpAny_pyNext_tuple_item st (show s.heap.IsTuple a jK.toArray from p) (x:=u) (by simpa using hu) λh' st' sb=>?_;have I1:Inv X jI σ H { s with heap:=h' }:=I.turned (t':=s.toks) (λb o hb e=>(sb.2 b hb).trans e) f0 f1 f3 f4 f5;obtain⟨o,e,c,d⟩:=id st';exact⟨u,rfl,Zkn (s:={ s with heap:=h' }) e c d (by decide) ⟨x,H,I1,ru,⟨rfl,λys hy=>by rw[I.tuple_inj hy hq];exact hx⟩,st',λb hb=>(hf b hb).1⟩⟩
 done:=by
  intro X hP hw hK hc i jI s σ H E I hf st hg;subst hP hw hK;obtain⟨xs,hq,hx⟩:=hg;obtain⟨jK,rv,p,hz⟩:=I.tuple hq;obtain⟨f0,f1,f2,f3,f4,f5⟩:=hf it (by simp);have hl:=rv.length;exact wpAny_pyNext_tuple_end (I.ok.hd hc) st (show s.heap.IsTuple a jK.toArray from p) (by simp;omega) λh' eb=>⟨rfl,I.turned (λb o hb e=>eb b o hb e) f0 f1 f3 f4 f5⟩
 self:=λ_ _ _ _ _ st h=>wpAny_pyIter_tupleiter st h
theorem ZgN {K:qk}(it:Addr)(lo:Int)(n:Nat):Turn P w K tg (BJ lo n) [it] it (λi h=>IsRangeIter h it (lo+(i:Nat)*1) ((n:Int)-(i:Nat)) 1) where
 mem:=by simp
 obj:=λi h st b hb=>by
  have e:b=it:=by simpa using hb
  subst e;exact⟨_,st,λv z=>by
   have z':Data.fields _=Data.cell v:=z
   cases z'⟩
 keep:=λi h h' st k=>k it (by simp) _ st
 item:=by
  intro X hP hw hK hc i jI s σ H E I hf st hg;subst hP hw hK;obtain⟨f0,f1,f2,f3,f4,f5⟩:=hf it (by simp);have W:=Walks.range (prog:=X.prog) (w:=X.w) (I.ok.hd hc) it lo 1 n;refine W.item i s _ _ hg st λv h' tk hv st' kk=>?_;obtain⟨t,rfl⟩:=hv;have I1:Inv X jI σ H { s with heap:=h',toks:=tk }:=I.turned (λb o hb e=>kk b o (by simpa using hb) e) f0 f1 f3 f4 f5;refine⟨_,rfl,Zkn st' rfl rfl (by decide) ⟨.int (lo+i),H,I1,⟨t,?_⟩,⟨rfl,rfl⟩,st',λb hb=>(hf b hb).1⟩⟩;simp
 done:=by
  intro X hP hw hK hc i jI s σ H E I hf st hg;obtain⟨f0,f1,f2,f3,f4,f5⟩:=hf it (by simp);exact wpAny_pyNext_range_end (I.ok.hd hc) st (by have:n<=i:=hg;omega) λh' eb=>⟨rfl,I.turned (λb o hb e=>eb b o hb e) f0 f1 f3 f4 f5⟩
 self:=λ_ _ _ _ _ st h=>wpAny_pyIter_rangeiter st h
section
variable {X:Cx}{tg:Expr}
noncomputable def Zko (K:qk)(tl:TE):TI:=fun σ H R=>tl σ H λx H1=>∃a,x=.ref a/\(∃xs,Zw K H1 a xs)/\R (Itl K a) H1
noncomputable def iTup (K:qk)(tl:TE):TI:=fun σ H R=>tl σ H λx H1=>∃a,x=.ref a/\(∃xs,ZO K H1 a xs)/\R (Itt K a) H1
theorem ZeK (hl:PE X l tl):PI X tg l (Zko X.K tl):=by
 intro jI s σ H R I h;refine ZI (hl jI s σ H _ I h) λv s1 ⟨x,H1,I1,r1,q1⟩=>?_;obtain⟨a,e,⟨xs,hq⟩,q⟩:=q1;subst e
 cases r1
 obtain⟨jK,rv,p,hz⟩:=I1.list hq;refine wpAny_pyIter_list p.isList ?_;refine⟨s1.heap.objs.size,[s1.heap.objs.size],_,_,H1,rfl,I1.kept λb o e=>qd _ e,ZiV a _,⟨_,qz _ rfl,rfl,rfl⟩,λb hb=>?_,q⟩;have e:=by simpa using hb
 subst e;exact I1.fpOk (qq _) (I1.hok.fresh (qq _))
theorem ZoG (hl:PE X l tl):PI X tg l (iTup X.K tl):=by
 intro jI s σ H R I h;refine ZI (hl jI s σ H _ I h) λv s1 ⟨x,H1,I1,r1,q1⟩=>?_;obtain⟨a,e,⟨xs,hq⟩,q⟩:=q1;subst e
 cases r1
 obtain⟨jK,rv,p,hz⟩:=I1.tuple hq;refine wpAny_pyIter_tuple (show s1.heap.IsTuple a jK.toArray from p) ?_;refine⟨s1.heap.objs.size,[s1.heap.objs.size],_,_,H1,rfl,I1.kept λb o e=>qd _ e,ZgM a _,⟨_,qz _ rfl,rfl,rfl⟩,λb hb=>?_,q⟩;have e:=by simpa using hb
 subst e;exact I1.fpOk (qq _) (I1.hok.fresh (qq _))
theorem Zft {σ:St}{lo:Int}(I:Inv X jI σ H s)(h1:-(2 ^ 62)<=lo)(h2:lo<2 ^ 62)(h3:-(2 ^ 62)<=hi)(h4:hi<2 ^ 62)
  (q:R (BJ lo (hi-lo).toNat) H):xg (xD X.prog X.w) X.A (pyIter (.ref s.heap.objs.size)) (PIE X jI σ tg R) E { s with heap:=s.heap.push { cls:=.type "range",data:=.fields #[.int lo t,.int hi u,.int 1 v] },toks:=tk }:=by
 refine wpAny_pyIter_range (IsRange.new ..) (small_one h1 h2 h3 h4) ?_;have I1:Inv X jI σ H { s with heap:=s.heap.push { cls:=.type "range",data:=.fields #[.int lo t,.int hi u,.int 1 v] },toks:=tk }:=I.kept λb o e=>qd _ e;refine⟨(s.heap.push { cls:=.type "range",data:=.fields #[.int lo t,.int hi u,.int 1 v] }).objs.size,[(s.heap.push { cls:=.type "range",data:=.fields #[.int lo t,.int hi u,.int 1 v] }).objs.size],_,_,H,rfl,
  I1.kept λb o e=>qd _ e,ZgN _ lo (hi-lo).toNat,?_,λb hb=>?_,q⟩
 ·have e1:lo+((0:Nat):Int)*1=lo:=by simp
  have e2:(((hi-lo).toNat:Nat):Int)-((0:Nat):Int)=yN lo hi 1:=by rw[rangeSize_one];grind
  rw[e1,e2];exact qz _ rfl
 ·have e:b=(s.heap.push { cls:=.type "range",data:=.fields #[.int lo t,.int hi u,.int 1 v] }).objs.size:=by simpa using hb
  subst e;exact I1.fpOk (qq _) (I1.hok.fresh (qq _))
noncomputable def ZnY (ta:TA):TI:=fun σ H R=>ta σ H λvs H1=>∃j:Int,vs=[.int j]/\-(2 ^ 62)<=j/\j<2 ^ 62/\R (BJ 0 j.toNat) H1
noncomputable def ZpG (ta:TA):TI:=fun σ H R=>ta σ H λvs H1=>∃i j:Int,vs=[.int i,.int j]/\(-(2 ^ 62)<=i/\i<2 ^ 62/\-(2 ^ 62)<=j/\j<2 ^ 62)/\R (BJ i (j-i).toNat) H1
theorem Zb0 (hg:Gl X "range")(hm:X.mg "range" = none)(ha:PA X [a] ta)(hs:xi [a] X.env=[(false,eval a X.env)]:=by rfl):PI X tg (.Call (.Name "range" p) [a] [] pos) (ZnY ta):=by
 intro jI s σ H R I h;refine Call_ (Uh I hg hm boot_range (yg (ZI (ha pos jI s σ H _ I h) λus s1 ⟨vs,H1,I1,r1,q1⟩=>?_) hs rfl));obtain⟨j,e,q1,q2,q⟩:=q1;subst e
 cases r1 with
 | cons r rr=>
  cases rr
  obtain⟨t,rfl⟩:=r;exact call_range_1 (Zft I1 (by omega) (by omega) q1 q2 (by simp_all))
theorem ZiW {p pos:Pos}(hg:Gl X "range")(hm:X.mg "range" = none)(ha:PA X [a,b] ta)(hs:xi [a,b] X.env=[(false,eval a X.env),(false,eval b X.env)]:=by rfl)(hs2:xi [b] X.env=[(false,eval b X.env)]:=by rfl) :
  PI X tg (.Call (.Name "range" p) [a,b] [] pos) (ZpG ta):=by
 intro jI s σ H R I h;refine Call_ (Uh I hg hm boot_range (yg (ZI (ha pos jI s σ H _ I h) λus s1 ⟨vs,H1,I1,r1,q1⟩=>?_) (by rw[hs,hs2]) (by rw[hs2];rfl)));obtain⟨i,j,e,⟨q1,q2,q3,q4⟩,q⟩:=q1;subst e
 cases r1 with
 | cons r rr=>
  cases rr with
  | cons r' rr=>
   cases rr
   obtain⟨t,rfl⟩:=r;obtain⟨t',rfl⟩:=r';exact call_range_2 (Zft I1 q1 q2 q3 q4 q)
noncomputable def tFor (wi:TI)(g:TG)(tb:TS):TS:=λD σ H=>wi σ H λJ H1=>∃W:Nat->Nat->St->Hp->Prop,(∃m,W 0 m σ H1)/\∀i m σ H,W i m σ H->
 (J.stop i H/\D.nx σ H)∨(J.go i H/\∃N:St->Hp->Prop,(∀σ' H',N σ' H'->∃m',m'<m/\W (i+1) m' σ' H')/\∀x H',J.yld i H x H'->g x σ H' fun σ2 H2=>tb { D with nx:=N,ct:=N,bk:=D.nx } σ2 H2)
noncomputable def Bj (fp:List Addr)(h:Heap):Qb:=fp.filterMap λb=>(h.get? b).map λo=>(b,o)
theorem U8 (hb:b∈fp)(e:h.get? b=some o):(b,o)∈Bj fp h:=qag.mpr ⟨b,hb,by rw[e];rfl⟩
theorem ZiX (hp:p∈Bj fp h):p.1∈fp/\h.get? p.1=some p.2:=by
 obtain⟨b,hb,e⟩:=qag.mp hp
 cases q:h.get? b with
 | none=>simp_all
 | some o=>
  rw[q]at e;have e':=zY e;subst e';exact⟨hb,q⟩
theorem Inv.pinned {σ:St}(I:Inv X jI σ H s)(hf:∀b∈fp,Wq X jI H b)(ho:∀b∈fp,∃o,s.heap.get? b=some o/\∀v,o.data≠.cell v):Inv X (jI++Bj fp s.heap) σ H s:=
 I.pins_of λp hp=>(qZ.mp hp).elim (λz=>I.pin p (qp _ z)) λz=>by
  obtain⟨hb,e⟩:=ZiX z;obtain⟨f0,f1,f2,_⟩:=hf p.1 hb;obtain⟨o,e',d⟩:=ho p.1 hb;simp_all
theorem Inv.unpinned {σ:St}(I:Inv X (jI++pl) σ H s):Inv X jI σ H s:=I.pins_of λp hp=>I.pin p (qp _ (qW _ hp))
theorem Zkp (hp:PassesOwn (xD X.prog X.w) X.A X.env X.xe)(hc:X.calm=true)(hi:PI X tg iter wi)(hg:PG X tg g)(hb:Wt X body tb)
  (hs:∀x,foldedSetIterable iter X.env x=pure x:=by intro _;rfl):PS X (.For tg iter body [] pos) (tFor wi g tb):=by
 intro jI s σ H D I h;refine wpAny_For (ZI (hi jI s σ H _ I h) λv s1 h1=>ZI h1 λitv s2 h2=>?_) hs;obtain⟨it,fp,tn,J,H2,e,I2,T,jW,f2,W,⟨m0,w0⟩,turn⟩:=h2;subst e
 -- what stays true of the iterator's objects through the loop
 have stat:∀{H':Hp},(∀b∈fp,H' b=none)->∀b∈fp,Wq X jI H' b:=λhn b hb=>⟨hn b hb,(f2 b hb).2⟩;refine codeAny_forLoop_any (λn s'=>∃i σ' H',Inv X jI σ' H' s'/\tn i s'.heap/\(∀b∈fp,H' b=none)/\W i n σ' H') ?_ m0 ⟨0,σ,H2,I2,jW,λb hb=>(f2 b hb).1,w0⟩;rintro n s3 ⟨i,σ3,H3,I3,st3,fr3,w3⟩;rcases turn i n σ3 H3 w3 with⟨stop,qn⟩ | ⟨go,N,hN,step⟩
 ·refine wpAny_passesOwn hp (ZI (T.done X rfl rfl rfl hc i jI s3 σ3 H3 X.xe I3 (stat fr3) st3 stop) λr s4 ⟨hr,I4⟩=>?_)
  subst hr;exact wpAny_execs_nil ⟨σ3,H3,I4,qn⟩
 ·refine wpAny_passesOwn hp (ZI (T.item X rfl rfl rfl hc i jI s3 σ3 H3 X.xe I3 (stat fr3) st3 go) λr s4 ⟨u,hr,h4⟩=>?_)
  subst hr;refine wpAny_passesOwn hp (ZI h4 λ_ s5 ⟨x,H5,I5,r5,y5,st5,fr5⟩=>?_);have I5':=I5.pinned (stat fr5) (T.obj _ _ st5);refine wpAny_passesOwn hp (ZI (hg _ s5 σ3 H5 x u _ I5' r5 (step x H5 y5)) λ_ s6 ⟨σ6,H6,I6,q6⟩=>?_);refine wpAny_passesOwn hp (ZI (hb _ s6 σ6 H6 _ I6 q6) λf s7 q7=>?_);have again:∀{σ7:St} {H7:Hp},Inv X (jI++Bj fp s5.heap) σ7 H7 s7->N σ7 H7->∃m,m<n/\∃i σ' H',Inv X jI σ' H' s7/\tn i s7.heap/\(∀b∈fp,H' b=none)/\W i m σ' H':=λ{σ7 H7} I7 n7=>by
   obtain⟨m',hm,w7⟩:=hN σ7 H7 n7;refine⟨m',hm,i+1,σ7,H7,I7.unpinned,T.keep _ _ _ st5 λb hb o e=>(I7.pin (b,o) (qp _ (qp _ (U8 hb e)))).1,λb hb=>?_,w7⟩;obtain⟨o,e,d⟩:=T.obj _ _ st5 b hb;exact(I7.pin (b,o) (qp _ (qp _ (U8 hb e)))).2.1
  cases f with
  | next=>obtain⟨σ7,H7,I7,n7⟩:=q7;exact again I7 n7
  | cont=>obtain⟨σ7,H7,I7,n7⟩:=q7;exact again I7 n7
  | brk=>obtain⟨σ7,H7,I7,q7⟩:=q7;exact⟨σ7,H7,I7.unpinned,q7⟩
  | ret v=>obtain⟨x7,σ7,H7,I7,r7,q7⟩:=q7;exact⟨x7,σ7,H7,I7.unpinned,r7,q7⟩
end
noncomputable abbrev R2:=V->V->Hp->VK->Prop
noncomputable def Ym (X:Cx)(f:Value->Value->Sem Value)(r:R2):Prop:=
 ∀(jI:Qb) (s:Shared) (σ:St) (H:Hp) (x y:V) (v u:Value) (Q:VK),Inv X jI σ H s->ZG x v->ZG y u->r x y H Q->
  xg (xD X.prog X.w) X.A (f v u) (EP X jI σ Q) X.xe s
noncomputable def UnR (X:Cx)(f:Value->Sem Value)(r:V->Hp->VK->Prop):Prop:=
 ∀(jI:Qb) (s:Shared) (σ:St) (H:Hp) (x:V) (v:Value) (Q:VK),Inv X jI σ H s->ZG x v->r x H Q->
  xg (xD X.prog X.w) X.A (f v) (EP X jI σ Q) X.xe s
noncomputable def XB (X:Cx)(f:Value)(r:List V->Hp->VK->Prop):Prop:=
 ∀(jI:Qb) (s:Shared) (σ:St) (H:Hp) (xs:List V) (us:List Value) (Q:VK),Inv X jI σ H s->Zu xs us->r xs H Q->
  xg (xD X.prog X.w) X.A (call f us) (EP X jI σ Q) X.xe s
noncomputable def YE (r:R2)(ta tb:TE):TE:=fun σ H Q=>ta σ H λx H1=>tb σ H1 λy H2=>r x y H2 Q
noncomputable def tUn (r:V->Hp->VK->Prop)(ta:TE):TE:=fun σ H Q=>ta σ H λx H1=>r x H1 Q
noncomputable def rI (C:Int->Int->Prop)(g:Int->Int->V):R2:=λx y H Q=>∃i j,x=.int i/\y=.int j/\C i j/\Q (g i j) H
noncomputable def XO (g:Int->Int->V):R2:=λx y H Q=>∃i j,x=.int i/\y=.int j/\Q (g i j) H
noncomputable def rU (g:Int->V):V->Hp->VK->Prop:=λx H Q=>∃i,x=.int i/\Q (g i) H
section
variable {X:Cx}{a b c:Expr}{ta tb tc:TE}{pos:Pos}
theorem binT (ha:PE X a ta)(hb:PE X b tb){σ:St}{R:V->V->Hp->Prop}(I:Inv X jI σ H s)
  (h:ta σ H λx H1=>tb σ H1 λy H2=>R x y H2) {f:Value->Value->Sem Value}
  (hf:∀v u s2 x y H2,Inv X jI σ H2 s2->ZG x v->ZG y u->R x y H2->xg (xD X.prog X.w) X.A (f v u) Q X.xe s2) :
  xg (xD X.prog X.w) X.A (eval a X.env) (λv s₁=>xg (xD X.prog X.w) X.A (eval b X.env) (λu s₂=>xg (xD X.prog X.w) X.A (f v u) Q X.xe s₂) X.xe s₁) X.xe s:=by
 refine ZI (ha jI s σ H _ I h) λv s1 ⟨x,H1,I1,r1,q1⟩=>?_;refine ZI (hb jI s1 σ H1 _ I1 q1) λu s2 ⟨y,H2,I2,r2,q2⟩=>?_;exact hf v u s2 x y H2 I2 r1 r2 q2
theorem Xg (ho:Ym X (binaryOp op) r)(ha:PE X a ta)(hb:PE X b tb):PE X (.BinOp a op b pos) (YE r ta tb):=by
 intro jI s σ H Q I h;exact wpAny_BinOp (binT ha hb I h λv u s2 x y H2 I2 rx ry q=>ho jI s2 σ H2 x y v u Q I2 rx ry q)
theorem ZpH (ho:UnR X (unaryOp op) r)(ha:PE X a ta):PE X (.UnaryOp op a pos) (tUn r ta):=by
 intro jI s σ H Q I h;exact UnaryOp_ (ZI (ha jI s σ H _ I h) λv s1 ⟨x,H1,I1,r1,q1⟩=>ho jI s1 σ H1 x v Q I1 r1 q1)
theorem opI {g:Int->Int->Int}
  (rule:∀(i j:Int) (t u:Tok) (s:Shared) (Q:xH) (E:xH),C i j->Q (.int (g i j) s.toks) { s with toks:=s.toks+1 }->xg (xD X.prog X.w) X.A (f (.int i t) (.int j u)) Q E s) :
  Ym X f (rI C λi j=>.int (g i j)):=by
 intro jI s σ H x y v u Q I rx ry h;obtain⟨i,j,rfl,rfl,hc,q⟩:=h;obtain⟨t,rfl⟩:=rx;obtain⟨t',rfl⟩:=ry;exact rule i j t t' s _ _ hc ⟨.int (g i j),H,I.tok _,⟨_,rfl⟩,q⟩
theorem opI0 {g:Int->Int->Int}
  (rule:∀(i j:Int) (t u:Tok) (s:Shared) (Q:xH) (E:xH),Q (.int (g i j) s.toks) { s with toks:=s.toks+1 }->xg (xD X.prog X.w) X.A (f (.int i t) (.int j u)) Q E s) :
  Ym X f (XO λi j=>.int (g i j)):=by
 intro jI s σ H x y v u Q I rx ry h;obtain⟨i,j,rfl,rfl,q⟩:=h;obtain⟨t,rfl⟩:=rx;obtain⟨t',rfl⟩:=ry;exact rule i j t t' s _ _ ⟨.int (g i j),H,I.tok _,⟨_,rfl⟩,q⟩
theorem opB0 {g:Int->Int->Bool}
  (rule:∀(i j:Int) (t u:Tok) (s:Shared) (Q:xH) (E:xH),Q (.bool (g i j)) s->xg (xD X.prog X.w) X.A (f (.int i t) (.int j u)) Q E s) :
  Ym X f (XO λi j=>.bl (g i j)):=by
 intro jI s σ H x y v u Q I rx ry h;obtain⟨i,j,rfl,rfl,q⟩:=h;obtain⟨t,rfl⟩:=rx;obtain⟨t',rfl⟩:=ry;exact rule i j t t' s _ _ ⟨.bl (g i j),H,I,rfl,q⟩
noncomputable def CDiv (i j:Int):Prop:=0<j/\j<1073741824
noncomputable def CPow (i j:Int):Prop:=0<=j/\j<=1000000/\i.natAbs<2 ^ 64
noncomputable def VX (i j:Int):Prop:=(-(2 ^ 64)<i/\i<2 ^ 64)∨(-(2 ^ 64)<j/\j<2 ^ 64)
theorem VX.ok (h:VX i j):IntMulOk i j:=by
 rcases h with⟨h1,h2⟩ | ⟨h1,h2⟩
 ·exact .of_left (intBits_le_64 h1 h2)
 ·exact .of_right (intBits_le_64 h1 h2)
theorem Uj:Ym X (binaryOp .Add) (XO λi j=>.int (i+j)):=opI0 λ_ _ _ _ _ _ _ q=>add_int q
theorem UI:Ym X (binaryOp .Mult) (rI VX λi j=>.int (i*j)):=opI λ_ _ _ _ _ _ _ hc q=>mul_int q hc.ok
theorem ZhZ:Ym X (binaryOp .FloorDiv) (rI CDiv λi j=>.int (i / j)):=opI λi j _ _ _ _ _ hc q=>by
 have h1:=hc.1;have h2:=hc.2;exact floordiv_int (by omega) (by rw[Int.fdiv_eq_ediv_of_nonneg i (by omega)];exact q) (.inl (PyProof.noPylong_small (by omega)))
theorem UJ:Ym X (binaryOp .Mod) (rI (λ_ j=>0<j) λi j=>.int (i % j)):=opI λi j _ _ _ _ _ hc q=>by
 exact mod_int' (by omega) (by rw[Int.fmod_eq_emod_of_nonneg i (by omega)];exact q)
theorem ZoH:Ym X (binaryOp .Pow) (rI CPow λi j=>.int (i ^ j.toNat)):=opI λ_ _ _ _ _ _ _ hc q=>pow_int_small hc.1 hc.2.1 hc.2.2 q
theorem unI {g:Int->Int}
  (rule:∀(i:Int) (t:Tok) (s:Shared) (Q:xH) (E:xH),Q (.int (g i) s.toks) { s with toks:=s.toks+1 }->xg (xD X.prog X.w) X.A (f (.int i t)) Q E s) :
  UnR X f (rU λi=>.int (g i)):=by
 intro jI s σ H x v Q I rx h;obtain⟨i,rfl,q⟩:=h;obtain⟨t,rfl⟩:=rx;exact rule i t s _ _ ⟨.int (g i),H,I.tok _,⟨_,rfl⟩,q⟩
theorem ZoI:UnR X (unaryOp .USub) (rU λi=>.int (-i)):=unI λ_ _ _ _ _ q=>neg_int q
end
section
variable {X:Cx}{a b c:Expr}{ta tb tc:TE}{pos:Pos}
theorem Zkq {σ:St}(I:Inv X jI σ H s)(q:Q (.bl k) H)(e:k=k'):EP X jI σ Q (.bool k') s:=by
 subst e;exact⟨.bl k,H,I,rfl,q⟩
theorem ZnZ:Ym X (xl .Lt) (XO λi j=>.bl (decide (i<j))):=opB0 λ_ _ _ _ _ _ _ q=>lt_int q
theorem ZpI:Ym X (xl .LtE) (XO λi j=>.bl (decide (i<=j))):=opB0 λ_ _ _ _ _ _ _ q=>le_int q
theorem Zkr:Ym X (xl .Gt) (XO λi j=>.bl (decide (j<i))):=opB0 λ_ _ _ _ _ _ _ q=>gt_int q
theorem Zn0:Ym X (xl .GtE) (XO λi j=>.bl (decide (j<=i))):=opB0 λ_ _ _ _ _ _ _ q=>ge_int q
theorem ZoJ:Ym X (xl .Is) (λx y H Q=>y=.non/\Q (.bl (decide (x=.non))) H):=by
 intro jI s σ H x y v u Q I rx ry h;obtain⟨rfl,q⟩:=h
 cases ry
 refine is_none_gen (Zkq I q ?_)
 cases x <;> first
  | (rfl)
  | (obtain⟨t,rfl⟩:=rx;rfl)
theorem ZmG:Ym X (xl .IsNot) (λx y H Q=>y=.non/\Q (.bl (!decide (x=.non))) H):=by
 intro jI s σ H x y v u Q I rx ry h;obtain⟨rfl,q⟩:=h
 cases ry
 refine isnot_none_gen (Zkq I q ?_)
 cases x <;> first
  | (rfl)
  | (obtain⟨t,rfl⟩:=rx;rfl)
theorem Ym.or (h:Ym X f r)(h':Ym X f r'):Ym X f (λx y H Q=>r x y H Q∨r' x y H Q):=by
 intro jI s σ H x y v u Q I rx ry q;rcases q with q | q
 ·exact h jI s σ H x y v u Q I rx ry q
 ·exact h' jI s σ H x y v u Q I rx ry q
theorem Jm (b:Expr)(h:op≠.In:=by decide)(h2:op≠.NotIn:=by decide):behindInMarks op b=false:=by
 have e1:(op==CmpOp.In)=false:=by grind
 have e2:(op==CmpOp.NotIn)=false:=by grind
 cases b <;> simp[behindInMarks,e1,e2]
theorem ZmH (ho:Ym X (xl op) r)(ha:PE X a ta)(hb:PE X b tb)(hm:behindInMarks op b=false):PE X (.Compare a [op] [b] pos) (YE r ta tb):=by
 intro jI s σ H Q I h;exact wpAny_Compare1 (binT ha hb I h λv u s2 x y H2 I2 rx ry q=>ho jI s2 σ H2 x y v u Q I2 rx ry q) hm
noncomputable def Br (t:TE):TT:=fun σ H Q=>t σ H λx H'=>∃k,x=.bl k/\Q k H'
theorem Bc (ho:Ym X (xl op) r)(ha:PE X a ta)(hb:PE X b tb)(hm:behindInMarks op b=false):PT X (.Compare a [op] [b] pos) (Br (YE r ta tb)):=by
 intro jI s σ H Q I h;refine wpAny_isTrue_Compare1 (ZI (ha jI s σ H _ I h) λv s1 ⟨x,H1,I1,r1,q1⟩=>ZI (hb jI s1 σ H1 _ I1 q1) λu s2 ⟨y,H2,I2,r2,q2⟩=>
  ZI (ho jI s2 σ H2 x y v u _ I2 r1 r2 q2) λc s3 ⟨z,H3,I3,r3,k,e,q3⟩=>?_) hm
 subst e
 cases r3
 exact wpAny_truthy_bool ⟨H3,I3,q3⟩
theorem Bk:(xh:Nat)<2 ^ 63:=by decide
theorem XC (r:Zu [x] us):∃u,us=[u]/\ZG x u:=by
 cases r with
 | cons r1 r2=>cases r2;exact⟨_,rfl,r1⟩
theorem Zks (r:Zu [x,y] us):∃u w',us=[u,w']/\ZG x u/\ZG y w':=by
 cases r with
 | cons r1 r2=>
  cases r2 with
  | cons r3 r4=>cases r4;exact⟨_,_,rfl,r1,r3⟩
theorem ZiY (hc:X.calm=true):XB X (.builtin "max") (λxs H Q=>∃i j,xs=[.int i,.int j]/\Q (.int (if j > i then j else i)) H):=by
 intro jI s σ H xs us Q I r h;obtain⟨i,j,rfl,q⟩:=h;obtain⟨u,w',rfl,⟨t,rfl⟩,⟨t',rfl⟩⟩:=Zks r;refine max_two_ints (I.ok.hd hc) λh' tk k=>⟨_,H,I.kept k,?_,q⟩;by_cases hj:j > i
 ·rw[if_pos hj,if_pos hj];exact⟨_,rfl⟩
 ·rw[if_neg hj,if_neg hj];exact⟨_,rfl⟩
theorem ZiZ (hc:X.calm=true):XB X (.builtin "min") (λxs H Q=>∃i j,xs=[.int i,.int j]/\Q (.int (if j<i then j else i)) H):=by
 intro jI s σ H xs us Q I r h;obtain⟨i,j,rfl,q⟩:=h;obtain⟨u,w',rfl,⟨t,rfl⟩,⟨t',rfl⟩⟩:=Zks r;refine min_two_ints (I.ok.hd hc) λh' tk k=>⟨_,H,I.kept k,?_,q⟩;by_cases hj:j<i
 ·rw[if_pos hj,if_pos hj];exact⟨_,rfl⟩
 ·rw[if_neg hj,if_neg hj];exact⟨_,rfl⟩
theorem Zi0:XB X (.type "int") (λxs H Q=>(∃i,xs=[.int i]/\Q (.int i) H)∨∃k,xs=[.bl k]/\Q (.int (if k then 1 else 0)) H):=by
 intro jI s σ H xs us Q I r h;rcases h with⟨i,rfl,q⟩ | ⟨k,rfl,q⟩
 ·obtain⟨u,rfl,t,rfl⟩:=XC r
  exact call_int_int ⟨.int i,H,I,⟨_,rfl⟩,q⟩
 ·obtain⟨u,rfl,r1⟩:=XC r
  cases r1
  exact call_int_bool ⟨.int (if k then 1 else 0),H,I.tok _,⟨_,rfl⟩,q⟩
end
section
variable {prog:xF}{w:World}{A:xG}{E:xH}{s:Shared}{K:qk}{x dx C f:Addr}{mA:Str->Option Value}{name:Str}{v:Value}
end
theorem jx (r:UT (some v) o):∃u,o=some u/\ZG v u:=by
 cases o with
 | none=>exact(show False from r).elim
 | some u=>exact⟨u,rfl,r⟩
section
variable {P:xF}{w:World}{H H':Hp}{h h':Heap}{a C dx:Addr}{fs fs':List (Str×V)}
end
section
variable {X:Cx}{jI:Qb}{σ:St}{H:Hp}{s:Shared}{a C dx:Addr}{fs:List (Str×V)}{f:Str}{v:V}{A:xG}{E:xH}
end
section
variable {X:Cx}{o e value:Expr}{f:Str}{pos pos' tpos:Pos}{ta tv:TE}
end
section
variable {X:Cx}{jI:Qb}{σ:St}{H:Hp}{s:Shared}{A:xG}{E:xH}{Q:xH}{c:Value}{b:Bool}
end
structure Room (k:Nat)(A:xG):Prop where
 hd:A.handled=none
 dp:A.depth+3*k+5<recursionLimit
 un:A.units+16*k+200<cLine
 gd:A.guards=some []
theorem Room.mono (r:Room k A)(h:j<=k):Room j A:=⟨r.hd,by have:=r.dp;omega,by have:=r.un;omega,r.gd⟩
theorem Room.deeper (r:Room (k+1) A)(env:Env):Room k (A.deeper env):=
 ⟨r.hd,by have:=r.dp;show A.depth+1+3*k+5<_;omega,by have:=r.un;show A.units+3+16*k+200<_;omega,r.gd⟩
theorem Room.in1 (r:Room (k+1) A):Room k A.in1:=
 ⟨r.hd,by have:=r.dp;grind,by have:=r.un;grind,r.gd⟩
theorem Room.depth (r:Room k A):A.depth<recursionLimit:=by have:=r.dp;omega
theorem Room.units (r:Room k A):A.units+64<cLine:=by have:=r.un;omega
theorem Room.units0 (r:Room k A):A.units<cLine:=by have:=r.un;omega
noncomputable def Xo:TA:=λ_ H Q=>Q [] H
noncomputable def Xa (ta:TE)(tr:TA):TA:=fun σ H Q=>ta σ H λx H1=>tr σ H1 λxs H2=>Q (x::xs) H2
section
variable {X:Cx}{e:Expr}{es:List Expr}{te:TE}{t:TA}{pos:Pos}
theorem YX:PA X [] Xo:=λ_ _ _ _ H Q I h=>Calls.spliced_nil ⟨[],H,I,.nil,h⟩
theorem YF (ha:PE X e te)(hr:PA X es t)(hs:xi (e::es) X.env=(false,eval e X.env)::xi es X.env:=by rfl):PA X (e::es) (Xa te t):=by
 intro pos jI s σ H Q I h;rw[hs];refine Calls.spliced_cons (ZI (ha jI s σ H _ I h) λu s1 ⟨x,H1,I1,r1,q1⟩=>?_);exact ZI (hr pos jI s1 σ H1 _ I1 q1) λus s2 ⟨xs,H2,I2,r2,q2⟩=>⟨x::xs,H2,I2,.cons r1 r2,q2⟩
noncomputable def tTup (t:TA):TE:=fun σ H Q=>t σ H λxs H1=>xs.length<=xh/\∀p,H1 p=none->Q (.ref p) (Zi H1 p (.tup xs))
noncomputable def tLst (t:TA):TE:=fun σ H Q=>t σ H λxs H1=>xs.length<=xh/\∀p,H1 p=none->Q (.ref p) (Zi H1 p (.lst xs))
theorem ZoK (h:PA X es t):PE X (.Tuple es x1 pos) (tTup t):=by
 intro jI s σ H Q I hq;refine wpAny_Tuple_spliced (ZI (h pos jI s σ H _ I hq) λus s1 ⟨xs,H1,I1,r,z,q⟩=>⟨by rw[<-r.length];exact z,?_⟩);have hf:=I1.hok.fresh (qq _);refine⟨.ref s1.heap.objs.size,Zi H1 s1.heap.objs.size (.tup xs),I1.laid (λb u e=>qd _ e) (qq _) ?_,rfl,q _ hf⟩;exact⟨z,us,r,⟨_,qz _ rfl,rfl,_,rfl⟩⟩
theorem ZoL (h:PA X es t):PE X (.List es pos) (tLst t):=by
 intro jI s σ H Q I hq;refine wpAny_List_spliced (ZI (h pos jI s σ H _ I hq) λus s1 ⟨xs,H1,I1,r,z,q⟩=>⟨by rw[<-r.length];exact z,?_⟩);have hf:=I1.hok.fresh (qq _);refine⟨.ref s1.heap.objs.size,Zi H1 s1.heap.objs.size (.lst xs),I1.laid (λb u e=>qd _ e) (qq _) ?_,rfl,q _ hf⟩;exact⟨z,us,0,r,qz _ rfl⟩
end
noncomputable abbrev Sp:=List V->Hp->VK->XK->Prop
noncomputable abbrev V2:=List Env->Hp->Shared->XK->xH
structure Env0 (P:xF)(w:World)(K:qk)(mg:Str->Option Value)(base:Heap)(A:xG)(outer:List Env)(s:Shared)(H:Hp):Prop where
 frames:A.frames=some outer
 mod:Mod K mg base
 bs:∀b o,base.get? b=some o->s.heap.get? b=some o/\H b=none
 bsz:base.objs.size<=s.heap.objs.size
 funs:s.heap.FunFrames base outer
 frf:∀b∈Wk outer,H b=none
 hok:Yw P w H s.heap
 bare:AllBare s.gens
noncomputable def CE (outer:List Env)(P:xF)(w:World)(H:Hp)(s:Shared)(Q:VK)(u:Value)(s':Shared):Prop:=
 ∃v H',s'.os=s.os/\AllBare s'.gens/\Un (Wk outer) [] H H' s.heap s'.heap/\Yw P w H' s'.heap/\ZG v u/\Q v H'
noncomputable def CR (CX:V2)(outer:List Env)(P:xF)(w:World)(H:Hp)(s:Shared)(Q:VK)(E:XK)(r:Result)(s':Shared):Prop:=
 match r with
 | .ok (.ret u)=>CE outer P w H s Q u s'
 | .ok _=>False
 | .error e=>CX outer H s E e s'
structure FnOk (P:xF)(w:World)(K:qk)(mg:Str->Option Value)(base:Heap)(CX:V2)(k:Nat)(f:Addr)(fd:xE)(ps:List Str)(sp:Sp):Prop where
 len:∀vs H Q E,sp vs H Q E->vs.length=ps.length
 run:∀(A:xG) (outer:List Env) (s:Shared) (H:Hp) (args:Args) (us:List Value) (vs:List V) (Q:VK) (E:XK),Room k A->Env0 P w K mg base A outer s H->BindsTo s fd args (ps.zip us)->Zu vs us->sp vs H Q E->
  xp (xD P w) A (.call (.ref f) args) (CR CX outer P w H s Q E) s
theorem FnOk.mono {K:qk}(F:FnOk P w K mg base CX j f fd ps sp)(h:j<=k) :
  FnOk P w K mg base CX k f fd ps sp:=⟨F.len,λA outer s H args us vs Q E hr=>F.run A outer s H args us vs Q E (hr.mono h)⟩
theorem FnOk.imp {K:qk}(F:FnOk P w K mg base CX k f fd ps sp)
  (h:∀vs H Q E,sp' vs H Q E->sp vs H Q E):FnOk P w K mg base CX k f fd ps sp':=
 ⟨λvs H Q E q=>F.len vs H Q E (h _ _ _ _ q),λA outer s H args us vs Q E hr he hb hv hs=>F.run A outer s H args us vs Q E hr he hb hv (h _ _ _ _ hs)⟩
theorem Env0.in1 {K:qk}(e:Env0 P w K mg base A outer s H) :
  Env0 P w K mg base A.in1 outer s H:=⟨e.frames,e.mod,e.bs,e.bsz,e.funs,e.frf,e.hok,e.bare⟩
section
variable {X:Cx}{jI:Qb}{σ:St}{H:Hp}{s s':Shared}
theorem Inv.env0 (I:Inv X jI σ H s):Env0 X.prog X.w X.K X.mg X.base X.A X.stack s H:=
 ⟨I.ok.frames,I.ok.mod,I.bs,qV I.ok.bsz I.sz,I.stack,I.stkFree,I.hok,I.bare⟩
theorem Inv.after (I:Inv X jI σ H s)(h:CE X.stack X.prog X.w H s Q u s'):EP X jI σ Q u s':=by
 obtain⟨v,H',os,bare,un,hok,r,q⟩:=h;obtain⟨hh,g,d,t,os'⟩:=s';obtain rfl:os'=s.os:=os;exact⟨v,H',I.call un hok bare (λb z=>absurd z (by simp)),r,q⟩
end
noncomputable def Zn1 (sp:Sp)(dvs:List V)(E:XK)(t:TA):TE:=fun σ H Q=>t σ H λvs H1=>sp (vs++dvs) H1 Q E
noncomputable def Wh (K:qk)(fd:xE)(ps:List Str)(ds:List Value):Prop:=
 ∀(s:Shared) (us:List Value),K.In s.heap->(us++ds).length=ps.length->BindsTo s fd ⟨us,[]⟩ (ps.zip (us++ds))
theorem Wh.all {K:qk}(h:∀us:List Value,us.length=ps.length->bindArgs fd ⟨us,[]⟩=pure (ps.zip us)):Wh K fd ps []:=λs us _ hl=>by
 rw[z0]at hl⊢;exact .of_eq (h us hl)
noncomputable def ZeL (CX:V2)(X:Cx)(E:XK):Prop:=∀(jI:Qb) (σ:St) (H:Hp) (s:Shared) (e:Value) (s':Shared),Inv X jI σ H s->CX X.stack H s E e s'->X.xe e s'
section
variable {X:Cx}{CX:V2}{k:Nat}{f C:Addr}{fd:xE}{ps:List Str}{sp:Sp}{dvs:List V}{ds:List Value}{E:XK}{x m:Str}{p pos apos:Pos}{e o:Expr}{es:List Expr}{ta:TE}{t:TA}
theorem Zkt {σ:St}(F:FnOk X.prog X.w X.K X.mg X.base CX k f fd ps sp)(hr:Room k X.A)(hb:Wh X.K fd ps ds)(hd:Zu dvs ds)(hx:ZeL CX X E)
  (I:Inv X jI σ H s) (r:Zu vs us) (h:sp (vs++dvs) H Q E):xg (xD X.prog X.w) X.A (call (.ref f) us) (EP X jI σ Q) X.xe s:=by
 have r2:=r.append hd;have hl:(us++ds).length=ps.length:=by rw[<-r2.length];exact F.len _ _ _ _ h
 refine xC (codeAny_mono (F.run X.A X.stack s H ⟨us,[]⟩ (us++ds) (vs++dvs) Q E hr I.env0 (hb s us I.kIn hl) r2 h) λr s' hq=>?_)
 cases r with
 | error e=>exact hx jI σ H s e s' I hq
 | ok fl=>
  cases fl with
  | ret u=>exact I.after hq
  | next=>exact zZ hq
  | brk=>exact zZ hq
  | cont=>exact zZ hq
theorem ZeM (F:FnOk X.prog X.w X.K X.mg X.base CX k f fd ps sp)(hr:Room k X.A)(hg:Gl X x)(hm:X.mg x=some (.ref f))(hk:yd X.K (.ref f)=true)(hb:Wh X.K fd ps ds)(hd:Zu dvs ds)(hx:ZeL CX X E)
  (ha:PA X (e::es) t) (hdb:(x==("__debug__" : Str))=false:=by decide) (he:xi (e::es) X.env=(false,eval e X.env)::xi es X.env:=by rfl) (hpl:(backTo pos (xi es X.env)).any (·.1)=false:=by rfl) :
  PE X (.Call (.Name x p) (e::es) [] pos) (Zn1 sp dvs E t):=by
 intro jI s σ H Q I h;refine wpAny_Call_Name_kw (ZhX I hg hm ?_ hdb);refine PySem.W.callWith_K I.ok.mod.kin hk (ZI (ha pos jI s σ H _ I h) λus s1 ⟨vs,H1,I1,r,q⟩=>⟨I1.kIn,?_⟩) he hpl;exact Zkt F hr hb hd hx I1 r q
end
noncomputable def PK (X:Cx)(kws:List Keyword)(t:TA):Prop:=
 ∀(pos:Pos) (jI:Qb) (s:Shared) (σ:St) (H:Hp) (Q:List V->Hp->Prop),Inv X jI σ H s->t σ H Q->xg (xD X.prog X.w) X.A (evalAll ((xq pos (xj kws X.env)).map (·.2))) (AP X jI σ Q) X.xe s
section
variable {X:Cx}{CX:V2}{k:Nat}{f C:Addr}{fd:xE}{ps ks:List Str}{sp:Sp}{E:XK}{x m:Str}{p pos apos kpos:Pos}{e o:Expr}{es:List Expr}{kws:List Keyword}{te ta:TE}{t tk:TA}{nm:Option Str}
theorem Zku:PK X [] Xo:=λ_ _ _ _ H Q I h=>wpAny_evalAll_nil ⟨[],H,I,.nil,h⟩
theorem Zh0 (ha:PE X e te)(hr:PK X kws t):PK X (⟨nm,e,kpos⟩::kws) (Xa te t):=by
 intro pos jI s σ H Q I h;refine wpAny_evalAll_cons (xb (ZI (ha jI s σ H _ I h) λu s1 ⟨x,H1,I1,r1,q1⟩=>xb (wpAny_standAt (xc ?_))));exact ZI (hr pos jI s1 σ H1 _ I1 q1) λus s2 ⟨xs,H2,I2,r2,q2⟩=>⟨x::xs,H2,I2,.cons r1 r2,q2⟩
variable {g:List Value->List Value->List Value}{gV:List V->List V->List V}
end
structure FnScope (N P:List Str)(sc:Scope):Prop where
 kind:sc.kind=.function
 co:sc.isCoroutine=false
 gen:sc.isGenerator=false
 nd:N.Nodup
 pre:N.take P.length=P
 par:∀x∈P,sc.names.lookup x=some .local∨sc.names.lookup x=some .cell
 nofree:∀y∈sc.names,y.2≠.free
theorem Zd2 {kindOf:Str->Option NameKind}:∀{binds:List (Str×Value)} {m:Str->Option Value},(∀v,(x,v)∉binds)->bindL kindOf binds m x=m x
 | [],_,_=>rfl
 | (n,v)::r,m,h=>by
  unfold bindL;rw[Zd2 λw hw=>h w (qY _ hw)];split
  ·grind
  ·rfl
theorem Zd3 {kindOf:Str->Option NameKind}:∀{binds:List (Str×Value)} {m:Str->Option Value},(∀v,(x,v)∉binds)->bindC kindOf binds m x=m x
 | [],_,_=>rfl
 | (n,v)::r,m,h=>by
  unfold bindC;rw[Zd3 λw hw=>h w (qY _ hw)];split
  ·rfl
  ·grind
theorem Zd4 {kindOf:Str->Option NameKind}:∀{P:List Str} {vs:List Value} {i:Nat} {m:Str->Option Value},P.Nodup->P[i]?=some x->vs[i]?=some v->kindOf x=some .local->
  bindL kindOf (P.zip vs) m x=some v
 | [],_,_,_,_,h,_,_=>by simp at h
 | _::_,[],_,_,_,_,h,_=>by simp at h
 | p::P,w::vs,0,m,nd,h1,h2,hk=>by
  simp at h1 h2;subst h1;subst h2;show bindL kindOf ((p,w)::P.zip vs) m p=_;unfold bindL;rw[Zd2 λv hv=>(zq.mp nd).1 (qaN hv).1,if_pos hk];simp
 | p::P,w::vs,i+1,m,nd,h1,h2,hk=>by
  show bindL kindOf ((p,w)::P.zip vs) m x=_;exact Zd4 (zq.mp nd).2 (by simpa using h1) (by simpa using h2) hk
theorem Zd5 {kindOf:Str->Option NameKind}:∀{P:List Str} {vs:List Value} {i:Nat} {m:Str->Option Value},P.Nodup->P[i]?=some x->vs[i]?=some v->kindOf x≠some .local->
  bindC kindOf (P.zip vs) m x=some v
 | [],_,_,_,_,h,_,_=>by simp at h
 | _::_,[],_,_,_,_,h,_=>by simp at h
 | p::P,w::vs,0,m,nd,h1,h2,hk=>by
  simp at h1 h2;subst h1;subst h2;show bindC kindOf ((p,w)::P.zip vs) m p=_;unfold bindC;rw[Zd3 λv hv=>(zq.mp nd).1 (qaN hv).1,if_neg hk];simp
 | p::P,w::vs,i+1,m,nd,h1,h2,hk=>by
  show bindC kindOf ((p,w)::P.zip vs) m x=_;exact Zd5 (zq.mp nd).2 (by simpa using h1) (by simpa using h2) hk
noncomputable def start (N:List Str)(vs:List V):St:=vs.map some++qA (N.length-vs.length) none
noncomputable def Va (CX:V2)(P:xF)(w:World)(K:qk)(mg:Str->Option Value)(base:Heap)(N:List Str)(qual:Str)(scope:Scope)(f:Addr)(cd:Value)(A:xG)(outer:List Env)(s:Shared)(H:Hp)(E:XK):Cx where
 prog:=P
 w:=w
 K:=K
 mg:=mg
 base:=base
 A:=A.deeper (envOfC qual scope s.heap.objs.size f cd)
 N:=N
 s₀:=s
 H₀:=H
 env:=envOfC qual scope s.heap.objs.size f cd
 outer:=outer
 stack:=envOfC qual scope s.heap.objs.size f cd::outer
 ex:=[]
 calm:=true
 fn:=λ_=>true
 pn:=[]
 xe:=λe s'=>xg (xD P w) (A.deeper (envOfC qual scope s.heap.objs.size f cd)) (leaving (envOfC qual scope s.heap.objs.size f cd) e) (λ_ s''=>CX outer H s E e s'') (λe' s''=>CX outer H s E e' s'') s'
theorem Zfu {sc:Scope}(h:sc.names.lookup x=some .cell):∃c,(cellsFrom n sc.names []).lookup x=some c:=by
 have q:=qbx sc.names n [] (.inl h);exact zM.mp q
theorem Zi1 {K:qk}
  (S:FnScope N ps scope) (hd:A.handled=none) (e0:Env0 P w K mg base A outer s H) (hl:vs.length=ps.length) (r:Zu vs us)
  (x:InCallC s s.heap.objs.size (bindL (envOfC qual scope s.heap.objs.size f cd).kindOf (ps.zip us) λ_=>none) (cellsFrom (s.heap.objs.size+1) scope.names []) (bindC (envOfC qual scope s.heap.objs.size f cd).kindOf (ps.zip us) λ_=>none) s1) :
  Inv (Va CX P w K mg base N qual scope f cd A outer s H E) [] (start N vs) H s1:=by
 have hpl:ps.length<=N.length:=by have:=congrArg qaW S.pre;rw[ym]at this;omega
 obtain⟨h1,tk,rfl,hk⟩:=x.done;have noA:∀b:Addr,b∉(Va CX P w K mg base N qual scope f cd A outer s H E).ex:=λb z=>absurd (show b∈([]:List Addr)from z) (by simp);refine⟨⟨e0.mod,S.kind,rfl,rfl,qq _,λy z c h1 h2=>?_,λy hy=>?_,λy c _ h=>?_,λ_=>hd,qbR e0.frames,.inr ⟨rfl,rfl⟩,λb z=>absurd z (noA b),e0.bs,e0.bsz,λb _ _=>noA b,λb z=>absurd z (noA b),e0.funs,e0.frf⟩,
  rfl,e0.bare,Un.kept hk,⟨_,x.toInCall.ns,λi y v h1 h2 h3=>?_⟩,λy c h=>⟨_,x.cell y c h⟩,e0.hok.fresh (qq _),λy c h=>?_,λp hp=>absurd (show p∈([]:Qb)from hp) (by simp),e0.hok.kept hk,?_⟩
 ·exact name_of_addr x.apart (zC h1) (zC h2)
 ·have hy:scope.names.lookup y=some .cell∨scope.names.lookup y=some .free:=hy
  rcases hy with hy | hy
  ·exact Zfu hy
  ·exact absurd rfl (S.nofree _ (zC hy))
 ·exact qbd (x.above y c (zC h))
 ·have hi:i<vs.length:=by
   unfold start at h2;by_cases hi:i<vs.length
   ·exact hi
   ·rw[yB (by simpa using hi)]at h2
    rw[yO]at h2;split at h2 <;> cases h2
  have ha:vs[i]?=some v:=by
   unfold start at h2;rw[zK (by simpa using hi),qM]at h2
   cases e:vs[i]? with
   | none=>rw[e]at h2;cases h2
   | some a=>rw[e]at h2;cases h2;rfl
  obtain⟨u,hu,rv⟩:=r.get ha;have hp:ps[i]?=some y:=by
   rw[<-S.pre,qah (by omega)];exact h1
  have ndP:ps.Nodup:=by rw[<-S.pre];exact S.nd.sublist (qat _ _)
  refine⟨u,rv,?_⟩;rcases S.par y (ye hp)with k | k
  ·exact .inl ⟨k,Zd4 ndP hp hu k⟩
  ·obtain⟨c,e⟩:=Zfu (n:=s.heap.objs.size+1) k
   refine .inr ⟨.inl k,c,e,?_⟩;have q:=x.cell y c e;rw[Zd5 ndP hp hu (by show scope.names.lookup y≠_;simp_all)]at q;exact q
 ·exact e0.hok.fresh (qbd (x.above y c (zC h)))
 ·unfold start
  show _=N.length
  grind
theorem Zn2 {K:qk}{kV:Value}
  (lk:K.lookup f=some ⟨oc,od,.func (yr name qual params body scope dV kV doc pm an cdv ct),osl⟩) (hcd:qao K cdv qual=true) (S:FnScope N ps scope)
  (len:∀vs H Q E,sp vs H Q E->vs.length=ps.length)
  (hbody:∀(A:xG) (outer:List Env) (s:Shared) (H:Hp) (vs:List V) (Q:VK) (E:XK),Room k (A.deeper (envOfC qual scope s.heap.objs.size f cdv))->sp vs H Q E->
   ∃t,Wt (Va CX P w K mg base N qual scope f cdv A outer s H E) body t/\t { nx:=λ_ H'=>Q .non H',rt:=Q } (start N vs) H) :
  FnOk P w K mg base CX (k+1) f (yr name qual params body scope dV kV doc pm an cdv ct) ps sp:=by
 refine⟨len,λA outer s H args us vs Q E hr e0 hb r hsp=>?_⟩;have hl:=len _ _ _ _ hsp;have KX:K.In s.heap:=e0.mod.kin.keeps λb o e=>(e0.bs b o e).1;have lim:s.heap.NoLimit:=e0.mod.nolimit.keeps λb o e=>(e0.bs b o e).1;have hkind:∀y∈ps.zip us,scope.names.lookup y.1=some .local∨(scope.names.lookup y.1=some .cell/\((cellsFrom (s.heap.objs.size+1) scope.names []).lookup y.1).isSome=true):=λ⟨n,v⟩ hy=>by
  rcases S.par n (qaN hy).1 with q | q
  ·exact .inl q
  ·exact .inr ⟨q,qbx _ _ _ (.inl q)⟩
 refine codeAny_call_function hr.depth (KX _ _ lk) rfl S.co S.gen rfl (PySem.W.codeRec_of KX hcd) (hb _ _ _ _ ?_);refine wpAny_newFunctionEnv_cells S.kind hkind λenv he s1 x=>?_;subst he;refine⟨lim.keeps x.toInCall.keep,codeAny_func ?_⟩;obtain⟨t,ht,hq⟩:=hbody A outer s H vs Q E (hr.deeper _) hsp;have I:Inv (Va CX P w K mg base N qual scope f cdv A outer s H E) [] (start N vs) H s1:=Zi1 S hr.hd e0 hl r x;refine xf (ht [] s1 (start N vs) H _ I hq) (λfl s' hs=>?_) λe s' hs=>hs;have fin:∀{σ':St} {H':Hp} {v:V} {u:Value},Inv (Va CX P w K mg base N qual scope f cdv A outer s H E) [] σ' H' s'->ZG v u->Q v H'->CE outer P w H s Q u s':=
  λ{σ' H' v u} J rv q=>⟨v,H',J.os,J.bare,J.base,J.hok,rv,q⟩
 cases fl with
 | ret u=>
  obtain⟨v,σ',H',J,rv,q⟩:=hs;exact fin J rv q
 | next=>
  obtain⟨σ',H',J,q⟩:=hs;exact fin (v:=V.non) J rfl q
 | brk=>
  obtain⟨_,_,_,q⟩:=hs;simp_all
 | cont=>
  obtain⟨_,_,_,q⟩:=hs;simp_all
section
variable {X:Cx}{x:Str}{p pos:Pos}{e:Expr}{es:List Expr}{t:TA}{id T:String}{r:List V->Hp->VK->Prop}
noncomputable def BK (r:List V->Hp->VK->Prop)(t:TA):TE:=fun σ H Q=>t σ H λvs H1=>r vs H1 Q
theorem J6 (hc:XB X (.builtin id) r)(hg:Gl X x)(hm:X.mg x=none)(hv:xk x=some (.builtin id))(ha:PA X (e::es) t)(hn:x≠"__name__":=by decide)(hdb:(x==("__debug__" : Str))=false:=by decide)
  (he:xi (e::es) X.env=(false,eval e X.env)::xi es X.env:=by rfl) (hpl:(backTo pos (xi es X.env)).any (·.1)=false:=by rfl):PE X (.Call (.Name x p) (e::es) [] pos) (BK r t):=by
 intro jI s σ H Q I h;refine wpAny_Call_Name_kw (Uh I hg hm hv ?_ hn hdb);exact PyProof.Rows.callWith_builtin1 (ZI (ha pos jI s σ H _ I h) λus s1 ⟨vs,H1,I1,r1,q1⟩=>hc jI s1 σ H1 vs us Q I1 r1 q1) he hpl
theorem Za3 (hc:XB X (.type T) r)(hg:Gl X x)(hm:X.mg x=none)(hv:xk x=some (.type T))(ha:PA X (e::es) t)(hn:x≠"__name__":=by decide)(hdb:(x==("__debug__" : Str))=false:=by decide)
  (he:xi (e::es) X.env=(false,eval e X.env)::xi es X.env:=by rfl) (hpl:(backTo pos (xi es X.env)).any (·.1)=false:=by rfl):PE X (.Call (.Name x p) (e::es) [] pos) (BK r t):=by
 intro jI s σ H Q I h;refine wpAny_Call_Name_kw (Uh I hg hm hv ?_ hn hdb);exact yg (ZI (ha pos jI s σ H _ I h) λus s1 ⟨vs,H1,I1,r1,q1⟩=>hc jI s1 σ H1 vs us Q I1 r1 q1) he hpl
end
end L2
namespace HT
noncomputable def lexLt:List Int->List Int->Bool
 | [],[]=>false
 | [],_::_=>true
 | _::_,[]=>false
 | x::xs,y::ys=>if x=y then lexLt xs ys else decide (x<y)
theorem ZgO (x y:Int)(xs ys:List Int):lexLt (x::xs) (y::ys)=if x=y then lexLt xs ys else decide (x<y):=rfl
theorem ZdG:lexLt [] []=false:=rfl
theorem ZcQ (y:Int)(ys:List Int):lexLt [] (y::ys)=true:=rfl
theorem ZcR (x:Int)(xs:List Int):lexLt (x::xs) []=false:=rfl
theorem Zkv (A:xG)(s:Shared)(a:Int)(t:Tok)(c:Int)(u:Tok):∃e,yZ A s (.int a t) (.int c u) e/\(e=true↔a=c):=
 ⟨(a==c),yZ.int_int a t c u,by simp⟩
theorem Zkw (A:xG)(s:Shared)(a:Int)(t:Tok)(c:Int)(u:Tok)(prog:xF)(w:World)(E:xH)(Q:xH)(h:Q (.bool (decide (a<c))) s) :
  xg (xD prog w) A (richCompare .Lt (.int a t) (.int c u)) Q E s:=
 (PyProof.Rows.lt_int h:xg (xD prog w) A (xl .Lt (.int a t) (.int c u)) Q E s)
section
open PySem.SeqAt
open PySem.AutoSeq1 (wpAny_loadPart')
open PySem.MeetsSeq PySem.MeetsSeq2 PySem.MeetsSeq3
theorem ZdH (l b:Addr)(items items2:Array Value)(n n2:Nat)(dd dd2:Option Addr)(sl sl2:Array (Option Value))(ns ms:List Int)(hi:IntsAre items.toList ns)(hj:IntsAre items2.toList ms) :
  Meets (Builtin.«tuple.__lt__» ⟨[.ref l,.ref b],[]⟩)
   (λ_ R s=>s.heap.get? l=some { cls:=.type "tuple",dict:=dd,data:=.seq items n,slots:=sl }/\s.heap.get? b=some { cls:=.type "tuple",dict:=dd2,data:=.seq items2 n2,slots:=sl2 }/\
    R (.ok (.ret (.bool (lexLt ns ms)))) s):=
 .of_wp λprog w A R s h=>by
  obtain⟨hp,g,d,tk,os⟩:=s;obtain⟨hl,hb,h⟩:=h;have f2:=yG;have z1:items.size=ns.length:=by rw[<-hi.length];simp
  have z2:items2.size=ms.length:=by rw[<-hj.length];simp
  wp_walk using wpAny_loadPart' hl,wpAny_loadPart' hb,wpAny_forIn_list _ (λrest b s'=>b.1=none/\s'=⟨hp,g,d,tk,os⟩/\∃(vs ws:List Value) (ns' ms':List Int),rest=vs.zip ws/\
   IntsAre vs ns'/\IntsAre ws ms'/\ns'.length+items2.size=ms'.length+items.size/\R (.ok (.ret (.bool (lexLt ns' ms')))) ⟨hp,g,d,tk,os⟩) _
  case turn=>
   rintro⟨y,x⟩ rest b s' ⟨hb',rfl,vs,ws,ns',ms',hz,hvi,hwi,jQ,hR⟩
   cases hvi with
   | nil=>rw[List.zip_nil_left]at hz;cases hz
   | cons a t hvi'=>
    cases hwi with
    | nil=>rw[List.zip_nil_right]at hz;cases hz
    | cons c u hwi'=>
     rw[List.zip_cons_cons]at hz;injection hz with hyx hrest;injection hyx with hy hx;subst hy hx;rw[ZgO]at hR;simp only[zo]at jQ;obtain⟨e,he,hiff⟩:=Zkv A.in1 ⟨hp,g,d,tk,os⟩ a t c u;refine xb (he prog w _ _ ?_)
     cases e with
     | true=>
      rw[if_pos (hiff.mp rfl)]at hR
      wp_walk
      exact⟨rfl,rfl,_,_,_,_,hrest,hvi',hwi',by omega,hR⟩
     | false=>
      rw[if_neg (λq=>absurd (hiff.mpr q) yR)]at hR;have hri:=Zkw A.in1 ⟨hp,g,d,tk,os⟩ a t c u prog w
      wp_walk using hri
      exact⟨_,rfl,by simpa using hR⟩
  case fin=>
   rintro⟨b1,b2⟩ s' ⟨hb',rfl,vs,ws,ns',ms',hz,hvi,hwi,jQ,hR⟩;simp only at hb';subst hb';have hv:lexLt ns' ms'=decide (items.size<items2.size):=by
    cases hvi with
    | nil=>
     cases hwi with
     | nil=>
      simp only[yt]at jQ;rw[ZdG];exact(decide_eq_false (by omega)).symm
     | cons c u hw=>
      simp only[yt,zo]at jQ;rw[ZcQ];exact(decide_eq_true (by omega)).symm
    | cons a t hv=>
     cases hwi with
     | nil=>
      simp only[yt,zo]at jQ;rw[ZcR];exact(decide_eq_false (by omega)).symm
     | cons c u hw=>
      rw[List.zip_cons_cons]at hz
      cases hz
   rw[hv]at hR
   wp_walk
   exact⟨_,rfl,by simpa[Builtin.Tuple.tupleCompareSizes]using hR⟩
  case h=>
   exact⟨rfl,rfl,items.toList,items2.toList,ns,ms,rfl,hi,hj,by omega,h⟩
end
section
variable {prog:xF}{w:World}{A:xG}{E:xH}{s:Shared}
theorem lt_tupInts (hl:IsTup s.heap l items)(hb:IsTup s.heap b items2)(hi:IntsAre items.toList ns)(hj:IntsAre items2.toList ms)
  (hu:A.units<cLine) (h:Q (.bool (lexLt ns ms)) s):xg (xD prog w) A (xl .Lt (.ref l) (.ref b)) Q E s:=by
 obtain⟨⟨cls,dd,data,sl⟩,ho,hc,n,hd⟩:=id hl;obtain⟨⟨cls2,dd2,data2,sl2⟩,ho2,hc2,n2,hd2⟩:=id hb;subst hc hd hc2 hd2;exact richCompare_meets_room (op:=.Lt) ⟨_,ho,rfl⟩ ⟨_,ho2,rfl⟩ PySem.F.slot_tuple_lt PySem.F.entry_tuple_lt (PySem.F.args_tuple_lt_2 _ _) (ZdH l b items items2 n n2 dd dd2 sl sl2 ns ms hi hj)
  ⟨ho,ho2,show zT (lexLt ns ms)≠qbS/\Q (.bool (lexLt ns ms)) s from⟨(λx=>nomatch x),h⟩⟩ hu
theorem cat_tup (ht:IsTup s.heap t vs.toArray)(hb:IsTup s.heap b ws.toArray)(hv:vs≠[])
  (h1:ws=[]->Q (.ref t) s) (h2:ws≠[]->Q (.ref s.heap.objs.size) { s with heap:=s.heap.push { cls:=.type "tuple",data:=.seq (vs++ws).toArray } })
  (hsz:vs.length+ws.length<=xh):xg (xD prog w) A (binaryOp .Add (.ref t) (.ref b)) Q E s:=by
 obtain⟨⟨cls,dd,data,sl⟩,ho,hc,n,hd⟩:=id ht;obtain⟨⟨cls2,dd2,data2,sl2⟩,ho2,hc2,n2,hd2⟩:=id hb;subst hc hd hc2 hd2;have e:vs.toArray++ws.toArray=(vs++ws).toArray:=by simp
 by_cases hw:ws=[]
 ·exact concat_meets ⟨_,ho,rfl⟩ ⟨_,ho2,rfl⟩ noFill_tuple_add seq_tuple_add qaz qap (qai _ _)
   (tuple_addW1 t b vs.toArray ws.toArray n n2 dd dd2 sl sl2 (by simpa using hv) (by simp[hw])) ⟨ho,ho2,h1 hw⟩
 ·refine concat_meets ⟨_,ho,rfl⟩ ⟨_,ho2,rfl⟩ noFill_tuple_add seq_tuple_add qaz qap (qai _ _)
   (tuple_addW2 t b vs.toArray ws.toArray n n2 dd dd2 sl sl2 (by simpa using hv) (by simp_all) (by omega)) ⟨ho,ho2,?_⟩
  rw[e];exact h2 hw
noncomputable def sIx (n d:Nat):Option Int->Nat
 | none=>d
 | some v=>if v<0 then (v+(n:Int)).toNat else min v.toNat n
theorem sIx_none (n d:Nat):sIx n d none=d:=rfl
theorem sIx_nat (n d k:Nat):sIx n d (some (k:Int))=min k n:=by
 rfl
theorem ZoM (n d:Nat)(hd:d<=n)(o:Option Int):sIx n d o<=n:=by
 cases o with
 | none=>exact hd
 | some v=>
  show(if v<0 then (v+(n:Int)).toNat else min v.toNat n)<=n;by_cases hv:v<0
  ·grind
  ·rw[if_neg hv];exact Nat.min_le_right _ _
theorem Zh1 (v:Int)(n d:Nat):(if v<0 then max (v+(n:Int)) 0 else min v (n:Int))=((sIx n d (some v):Nat):Int):=by
 show(if v<0 then max (v+(n:Int)) 0 else min v (n:Int))=(((if v<0 then (v+(n:Int)).toNat else min v.toNat n):Nat):Int)
 grind
theorem ZgP (lo hi:Option Int)(n:Nat):qbb lo hi 1 (n:Int)=(((sIx n 0 lo:Nat):Int),((sIx n n hi:Nat):Int)):=by
 refine Prod.ext ?_ ?_
 ·cases lo with
  | none=>rfl
  | some v=>exact Zh1 v n 0
 ·cases hi with
  | none=>rfl
  | some v=>exact Zh1 v n n
theorem ZgQ (i j:Nat):yD (i:Int) (j:Int) 1=j-i:=by
 unfold yD;simp
 grind
theorem ZcS (p:IsPart v o)(h:Q o s):xg (xD prog w) A (Builtin.Slice.slicePartIndex v) Q E s:=by
 cases p with
 | none=>exact slicePart_none h
 | int i t=>exact slicePart_int h
theorem Zau {lo:Option Int}{n:Nat}(hs:s.heap.IsSliceOf sl vl vu .none)(pl:IsPart vl lo)(pu:IsPart vu hi)
  (h:Q (((sIx n 0 lo:Nat):Int),1,sIx n n hi-sIx n 0 lo) s):xg (xD prog w) A (Builtin.Slice.sliceApplied (.ref sl) (pure (n:Int))) Q E s:=by
 obtain⟨os,hos,hcs,hds⟩:=id hs;refine xb (xb (wpAny_field hos hds (x:=vl) rfl (xb (wpAny_field hos hds (x:=vu) rfl (xb (wpAny_field hos hds rfl (xc ?_)))))));refine xb (slicePart_none ?_);refine xb (ZcS pl (xb (ZcS pu (xb (xc ?_)))));show xg _ _ (match qbb lo hi 1 (n:Int)with | (lo,hi)=>pure (lo,(1:Int),yD lo hi 1)) _ _ s;rw[ZgP lo hi n];show xg _ _ (pure (((sIx n 0 lo:Nat):Int),(1:Int),yD ((sIx n 0 lo:Nat):Int) ((sIx n n hi:Nat):Int) 1)) _ _ s;rw[ZgQ];exact xc h
theorem Zkx (xs:Array Value)(i k:Nat):((qf k).filterMap λ(m:Nat)=>xs[((i:Int)+(m:Int)*1).toNat]?).toArray=((xs.toList.drop i).take k).toArray:=by
 have e:(λ(m:Nat)=>xs[((i:Int)+(m:Int)*1).toNat]?)=λm=>xs[i+m]?:=by
  funext m
  grind
 rw[e];have:=pick_run xs i k;have e2:((λx=>xs[x]?)∘λx=>i+x)=λm=>xs[i+m]?:=rfl;simp_all
theorem getItem_tuple_cut {lo:Option Int}(ht:IsTup s.heap t items)(hs:s.heap.IsSliceOf sl vl vu .none)(pl:IsPart vl lo)(pu:IsPart vu hi)
  (hw:¬(sIx items.size 0 lo=0/\sIx items.size items.size hi=items.size))
  (h:Q (.ref s.heap.objs.size) { s with heap:=s.heap.push { cls:=.type "tuple",data:=.seq ((items.toList.drop (sIx items.size 0 lo)).take (sIx items.size items.size hi-sIx items.size 0 lo)).toArray } })
  (hsz:items.size<=xh):xg (xD prog w) A (getItem (.ref t) (.ref sl)) Q E s:=by
 have htake:sizeOk (.seq ((items.toList.drop (sIx items.size 0 lo)).take (sIx items.size items.size hi-sIx items.size 0 lo)).toArray):=by
  show((items.toList.drop (sIx items.size 0 lo)).take (sIx items.size items.size hi-sIx items.size 0 lo)).toArray.size<=xh;rw[qX,ym,qbe,qO];omega
 have hj:sIx items.size items.size hi<=items.size:=ZoM _ _ (qq _) hi;obtain⟨os,hos,hcs,hds⟩:=id hs;have hTs:s.TypeIs (.ref sl) "slice":=⟨os,hos,hcs⟩;unfold getItem
 try with_reducible refine xy ?_
 first | refine xb (xc ?_) | skip
 refine xb (wpAny_sequenceKey ht.typeIs (by decide) ?_);refine xb (wpAny_callSpecial?_slot (name:=qH "__getitem__") ht.typeIs zE
  (wpAny_call_entry zE ht.typeIs entry_tuple_getitem ?_ (args_tuple_getitem _ _)))
 show xg _ _ (qa2 (.ref t) >>= _) _ _ s;refine xb (tupleItemsOf_ ht ?_);refine xb (wpAny_typeOf hTs ?_);rw[if_pos (by decide)];refine xb (Zau hs pl pu ?_);have hno:¬((((sIx items.size 0 lo:Nat):Int)==0&&(1:Int)==1&&(sIx items.size items.size hi-sIx items.size 0 lo)==items.size)=true):=by
  intro q;rw[zU,zU]at q;have q1:((sIx items.size 0 lo:Nat):Int)=0:=eq_of_beq q.1.1;have q2:=eq_of_beq q.2;omega
 show xg _ _ (if (((sIx items.size 0 lo:Nat):Int)==0&&(1:Int)==1&&(sIx items.size items.size hi-sIx items.size 0 lo)==items.size)=true then _ else _) _ _ s;rw[if_neg hno,Zkx]
 first
  | exact xb (xm (xc ⟨_,rfl,xc h⟩) htake)
  | rfl
  | rfl
  | rfl
end
end HT
namespace L2
noncomputable abbrev TO:=St->Hp->(Option Int->Hp->Prop)->Prop
noncomputable def PO (X:Cx)(e:Option Expr)(t:TO):Prop:=
 ∀(jI:Qb) (s:Shared) (σ:St) (H:Hp) (Q:Option Int->Hp->Prop),Inv X jI σ H s->t σ H Q->
  xg (xD X.prog X.w) X.A (evalPart e X.env) (λu s'=>∃o H',Inv X jI σ H' s'/\IsPart u o/\Q o H') X.xe s
noncomputable def ZmI:TO:=λ_ H Q=>Q none H
noncomputable def ZpJ (t:TE):TO:=fun σ H Q=>t σ H λx H1=>∃i,x=.int i/\Q (some i) H1
theorem W0:∀{us:List Value},Zu (ns.map V.int) us->IntsAre us ns:=by
 induction ns with
 | nil=>intro us r;cases r;exact .nil
 | cons n ns ih=>
  intro us r
  cases r with
  | cons r1 r2=>
   obtain⟨t,e⟩:=r1;subst e;exact .cons n t (ih r2)
section
variable {X:Cx}{e:Expr}{te:TE}{lo hi:Option Expr}{tl th:TO}{pos p2:Pos}
theorem ZmJ:PO X none ZmI:=by
 intro jI s σ H Q I h;exact xc ⟨none,H,I,.none,h⟩
theorem ZmK (h:PE X e te):PO X (some e) (ZpJ te):=by
 intro jI s σ H Q I hw;refine ZI (h jI s σ H _ I hw) λu s1 ⟨x,H1,I1,r1,q1⟩=>?_;obtain⟨i,rfl,q⟩:=q1;obtain⟨t,rfl⟩:=r1;exact⟨some i,H1,I1,.int i t,q⟩
noncomputable def Uu (X:Cx)(r:V->Option Int->Option Int->Hp->VK->Prop):Prop:=
 ∀(jI:Qb) (s:Shared) (σ:St) (H:Hp) (x:V) (v vl vu:Value) (lo hi:Option Int) (sl:Addr) (Q:VK),Inv X jI σ H s->ZG x v->s.heap.IsSliceOf sl vl vu .none->IsPart vl lo->IsPart vu hi->r x lo hi H Q->
  ∃T id,typeLookup (.type T) "__getitem__" = pure (some (.builtin id))/\s.TypeIs v T/\xg (xD X.prog X.w) X.A (getItem v (.ref sl)) (EP X jI σ Q) X.xe s
theorem Uu.or (h:Uu X r)(h':Uu X r'):Uu X (λx lo hi H Q=>r x lo hi H Q∨r' x lo hi H Q):=by
 intro jI s σ H x v vl vu lo hi sl Q I rx hs pl pu q;rcases q with q | q
 ·exact h jI s σ H x v vl vu lo hi sl Q I rx hs pl pu q
 ·exact h' jI s σ H x v vl vu lo hi sl Q I rx hs pl pu q
noncomputable def tSl (r:V->Option Int->Option Int->Hp->VK->Prop)(te:TE)(tl th:TO):TE:=fun σ H Q=>te σ H λx H1=>tl σ H1 λl H2=>th σ H2 λu H3=>r x l u H3 Q
theorem Zky (hr:Uu X r)(he:PE X e te)(hl:PO X lo tl)(hu:PO X hi th):PE X (.Subscript e (.Slice lo hi none p2) pos) (tSl r te tl th):=by
 intro jI s σ H Q I h;refine Subscript_ (ZI (he jI s σ H _ I h) λv s1 ⟨x,H1,I1,r1,q1⟩=>?_);refine wpAny_Slice (ZI (hl jI s1 σ H1 _ I1 q1) λvl s2 ⟨l,H2,I2,pl,q2⟩=>ZI (hu jI s2 σ H2 _ I2 q2) λvu s3 ⟨u,H3,I3,pu,q3⟩=>?_);refine xc ?_;have I4:Inv X jI σ H3 { s3 with heap:=s3.heap.push { cls:=.type "slice",data:=.fields #[vl,vu,.none] } }:=I3.kept λb ob q=>qd _ q;obtain⟨T,id,hT,ht,hg⟩:=hr jI { s3 with heap:=s3.heap.push { cls:=.type "slice",data:=.fields #[vl,vu,.none] } } σ H3 x v vl vu l u s3.heap.objs.size Q I4 r1 (Heap.IsSliceOf.new ..) pl pu q3;exact tail_any ht hT hg (by rfl)
noncomputable def Uq (xs:List V)(lo hi:Option Int):List V:=(xs.drop (HT.sIx xs.length 0 lo)).take (HT.sIx xs.length xs.length hi-HT.sIx xs.length 0 lo)
theorem Zci (xs:List V)(lo hi:Option Int):(Uq xs lo hi).length<=xs.length:=by
 unfold Uq;rw[ym,qbe];omega
noncomputable def rSlT (K:qk):V->Option Int->Option Int->Hp->VK->Prop:=λx lo hi H Q=>∃a xs,x=.ref a/\ZO K H a xs/\
 ¬(HT.sIx xs.length 0 lo=0/\HT.sIx xs.length xs.length hi=xs.length)/\∀p,H p=none->Q (.ref p) (Zi H p (.tup (Uq xs lo hi)))
theorem ZoN:Uu X (rSlT X.K):=by
 intro jI s σ H x v vl vu lo hi sl Q I rx hs pl pu h;obtain⟨a,xs,rfl,hx,hw,q⟩:=h
 cases rx
 obtain⟨jK,r,ht,hz⟩:=I.tuple hx;have jQ:jK.toArray.size=xs.length:=(r.length.symm);refine⟨"tuple",_,zE.lookup,ht.typeIs,?_⟩;refine HT.getItem_tuple_cut ht hs pl pu (by rw[jQ];exact hw) ?_ (by rw[jQ];exact hz);rw[jQ];refine⟨.ref s.heap.objs.size,_,I.laid (λb ob q=>qd _ q) (qq _) ?_,rfl,q _ (I.hok.fresh (qq _))⟩;exact⟨qV (Zci xs lo hi) hz,_,(r.drop (HT.sIx xs.length 0 lo)).take (HT.sIx xs.length xs.length hi-HT.sIx xs.length 0 lo),qbs _ _⟩
noncomputable def rLtT (K:qk):R2:=λx y H Q=>∃a b ns ms,x=.ref a/\y=.ref b/\ZO K H a (ns.map V.int)/\ZO K H b (ms.map V.int)/\Q (.bl (HT.lexLt ns ms)) H
theorem ZoO (hu:X.A.units<cLine):Ym X (xl .Lt) (rLtT X.K):=by
 intro jI s σ H x y v u Q I rx ry h;obtain⟨a,b,ns,ms,rfl,rfl,ha,hb,q⟩:=h
 cases rx
 cases ry
 obtain⟨jK,r1,p1,_⟩:=I.tuple ha;obtain⟨jV,r2,p2,_⟩:=I.tuple hb;have i1:=W0 r1;have i2:=W0 r2;exact HT.lt_tupInts p1 p2 i1 i2 hu ⟨.bl (HT.lexLt ns ms),H,I,rfl,q⟩
noncomputable def ZpK (K:qk):R2:=λx y H Q=>∃a b xs ys,x=.ref a/\y=.ref b/\ZO K H a xs/\ZO K H b ys/\xs≠[]/\xs.length+ys.length<=xh/\
 (ys=[]->Q (.ref a) H)/\(ys≠[]->∀p,H p=none->Q (.ref p) (Zi H p (.tup (xs++ys))))
theorem Zu.nil_iff (r:Zu xs us):us=[]↔xs=[]:=by
 cases r with
 | nil=>simp
 | cons _ _=>simp
theorem ZmL:Ym X (binaryOp .Add) (ZpK X.K):=by
 intro jI s σ H x y v u Q I rx ry h;obtain⟨a,b,xs,ys,rfl,rfl,ha,hb,hx,hz,q1,q2⟩:=h
 cases rx
 cases ry
 obtain⟨jK,r1,p1,_⟩:=I.tuple ha;obtain⟨jV,r2,p2,_⟩:=I.tuple hb;refine HT.cat_tup p1 p2 (λz=>hx (r1.nil_iff.mp z)) (λz=>⟨.ref a,H,I,rfl,q1 (r2.nil_iff.mp z)⟩) (λz=>?_) (by rw[<-r1.length,<-r2.length];exact hz);refine⟨.ref s.heap.objs.size,_,I.laid (λb ob q=>qd _ q) (qq _) ?_,rfl,q2 (λw=>z (r2.nil_iff.mpr w)) _ (I.hok.fresh (qq _))⟩;exact⟨by simp_all,_,r1.append r2,qbs _ _⟩
end
noncomputable def VG (n:Nat)(i:Int):Option Nat:=if 0<=i then (if i<n then some i.toNat else none)else if -(n:Int)<=i then some (i+n).toNat else none
noncomputable def Wl {α:Type}(xs:List α)(i:Int):Option α:=(VG xs.length i).bind λj=>xs[j]?
theorem Zh2 (h:VG n i=some j):seqIndex? i n=some j/\j<n/\-(n:Int)<=i/\i<n:=by
 unfold VG at h;by_cases h0:0<=i
 ·rw[if_pos h0]at h
  by_cases h1:i<n
  ·rw[if_pos h1]at h
   have e:=zY h;exact⟨by rw[seqIndex_of h0 h1,e],by omega,by omega,h1⟩
  ·simp_all
 ·rw[if_neg h0]at h
  by_cases h1:-(n:Int)<=i
  ·rw[if_pos h1]at h
   have e:=zY h;exact⟨by rw[seqIndex_neg (by omega) h1,e],by omega,h1,by omega⟩
  ·simp_all
theorem Zh3 {xs:List α}{v:α}(h:Wl xs i=some v):∃j,seqIndex? i xs.length=some j/\xs[j]?=some v/\j<xs.length/\-(xs.length:Int)<=i/\i<xs.length:=by
 unfold Wl at h
 cases e:VG xs.length i with
 | none=>simp_all
 | some j=>
  rw[e]at h;obtain⟨h1,h2,h3,h4⟩:=Zh2 e;exact⟨j,h1,h,h2,h3,h4⟩
theorem X2 {xs:List α}{j:Nat}{v:α}(h:xs[j]?=some v):Wl xs (j:Int)=some v:=by
 have hj:=(qG.mp h).1;have e:VG xs.length (j:Int)=some j:=by
  unfold VG;simp_all
 unfold Wl;rw[e];exact h
noncomputable def Zh4 (b:Expr):Prop:=∀o i,subscripted b false o i=operate [o,i] (getItem o i)
noncomputable def Uv (X:Cx)(r:R2):Prop:=
 ∀(value slice:Expr) (jI:Qb) (s:Shared) (σ:St) (H:Hp) (x y:V) (v u:Value) (Q:VK),Inv X jI σ H s->ZG x v->ZG y u->r x y H Q->
  subscripted slice false v u=operate [v,u] (getItem v u)->xg (xD X.prog X.w) X.A (subscriptTail value slice v u) (EP X jI σ Q) X.xe s
noncomputable def MtR (X:Cx)(id:String)(r:V->List V->Hp->VK->Prop):Prop:=
 ∀(jI:Qb) (s:Shared) (σ:St) (H:Hp) (x:V) (xs:List V) (v:Value) (us:List Value) (Q:VK),Inv X jI σ H s->ZG x v->Zu xs us->r x xs H Q->
  xg (xD X.prog X.w) X.A (call (.builtin id) (v::us)) (EP X jI σ Q) X.xe s
section
variable {X:Cx}{a b:Expr}{ta tb:TE}{pos:Pos}
theorem Uv.or (h:Uv X r)(h':Uv X r'):Uv X (λx y H Q=>r x y H Q∨r' x y H Q):=by
 intro value slice jI s σ H x y v u Q I rx ry q hs;rcases q with q | q
 ·exact h value slice jI s σ H x y v u Q I rx ry q hs
 ·exact h' value slice jI s σ H x y v u Q I rx ry q hs
theorem Zh5 (hr:Uv X r)(ha:PE X a ta)(hb:PE X b tb)(hs:Zh4 b):PE X (.Subscript a b pos) (YE r ta tb):=by
 intro jI s σ H Q I h;exact Subscript_ (binT ha hb I h λv u s2 x y H2 I2 rx ry q=>hr a b jI s2 σ H2 x y v u Q I2 rx ry q (hs _ _))
noncomputable def rIxL (K:qk):R2:=λx y H Q=>∃p xs i v,x=.ref p/\y=.int i/\Zw K H p xs/\Wl xs i=some v/\Q v H
noncomputable def rIxT (K:qk):R2:=λx y H Q=>∃p xs i v,x=.ref p/\y=.int i/\ZO K H p xs/\Wl xs i=some v/\Q v H
theorem ZcC:Uv X (rIxL X.K):=by
 intro value slice jI s σ H x y v u Q I rx ry h hs;obtain⟨p,xs,i,z,rfl,rfl,hq,he,q⟩:=h
 cases rx
 obtain⟨t,rfl⟩:=ry;obtain⟨jK,r,pl,hz⟩:=I.list hq;obtain⟨j,h1,h2,h3,h4,h5⟩:=Zh3 he;obtain⟨w,ew,rw'⟩:=r.get h2;have hl:=r.length;have hn:=Bk;have fin:EP X jI σ Q w s:=⟨z,H,I,rw',q⟩;by_cases h0:0<=i
 ·have hj:i.toNat=j:=by
   rw[seqIndex_of h0 h5]at h1;exact zY h1
  exact item_listR pl.isList h0 (by omega) (by rw[hj];simpa using ew) fin hs
 ·have hj:(i+(jK.toArray.size:Int)).toNat=j:=by
   rw[seqIndex_neg (by omega) h4]at h1;simp_all
  exact subscriptTail_builtinR pl.isList.typeIs slot_list_getitem.lookup
   (wpAny_getItem_list_neg pl.isList (by omega) (by simp_all) (by omega) (by rw[hj];simpa using ew) ⟨rfl,fin⟩) hs
theorem ZoP:Uv X (rIxT X.K):=by
 intro value slice jI s σ H x y v u Q I rx ry h hs;obtain⟨p,xs,i,z,rfl,rfl,hq,he,q⟩:=h
 cases rx
 obtain⟨t,rfl⟩:=ry;obtain⟨jK,r,pl,hz⟩:=I.tuple hq;obtain⟨j,h1,h2,h3,h4,h5⟩:=Zh3 he;obtain⟨w,ew,rw'⟩:=r.get h2;have hl:=r.length;have hn:=Bk;have fin:EP X jI σ Q w s:=⟨z,H,I,rw',q⟩;exact subscriptTail_builtinR pl.typeIs slot_tuple_getitem.lookup
  (getItem_tuple (j:=j) pl (by omega) (by omega) (by simp_all) (by simpa using ew) ⟨rfl,fin⟩) hs
theorem ZgR (jK:List Value)(n j:Nat)(u:Value):qU (·.setIfInBounds j u) { cls:=.type "list",data:=.seq jK.toArray n } = { cls:=.type "list",data:=.seq (jK.set j u).toArray n }:=by
 simp[qU]
theorem Inv.lst {σ:St}(I:Inv X jI σ H s)(h:H p=some (.lst xs)) :
  ∃(jK:List Value) (n:Nat),Zu xs jK/\s.heap.get? p=some { cls:=.type "list",data:=.seq jK.toArray n }/\xs.length<=xh:=by
 obtain⟨z,jK,n,r,e⟩:=I.hok p _ h;exact⟨jK,n,r,e,z⟩
theorem Inv.lstUpd {σ:St}{jK:List Value}(I:Inv X jI σ H s)(h:H p=some (.lst xs))
  (ho:s.heap.get? p=some { cls:=.type "list",data:=.seq jK.toArray n }) (hf:f { cls:=.type "list",data:=.seq jK.toArray n } = { cls:=.type "list",data:=.seq its'.toArray n' }) (r:Zu ys its') (hz:ys.length<=xh) (t:Nat) :
  Inv X jI σ (Zi H p (.lst ys)) { s with heap:=s.heap.update p f,toks:=t }:=by
 have e:(s.heap.update p f).get? p=some { cls:=.type "list",data:=.seq its'.toArray n' }:=by
  rw[zD f ho (by rw[hf] <;> rfl),hf]
 refine I.write (by rw[h];trivial) (.inl rfl) (λb u hb q=>(zj _ _ (zh hb)).trans q) ⟨_,e⟩ ?_;exact⟨hz,its',n',r,e⟩
noncomputable def Zn3:V->V->V->Hp->(Hp->Prop)->Prop:=λo i v H Q=>∃p xs k j,o=.ref p/\i=.int k/\H p=some (.lst xs)/\VG xs.length k=some j/\Q (Zi H p (.lst (xs.set j v)))
theorem Zkz:PSet X Zn3:=by
 intro jI s σ H o i v ov iv u Q I ro ri rv h;obtain⟨p,xs,k,j,rfl,rfl,hp,hj,q⟩:=h
 cases ro
 obtain⟨t,rfl⟩:=ri;obtain⟨jK,n,r,ho,hz⟩:=I.lst hp;obtain⟨h1,h2,h3,h4⟩:=Zh2 hj;have hl:=r.length;have hn:=Bk;have I':Inv X jI σ (Zi H p (.lst (xs.set j v))) { s with heap:=s.heap.update p (qU (·.setIfInBounds j u)) }:=
  I.lstUpd hp ho (ZgR jK n j u) (r.set rv j) (by rw[List.length_set];exact hz) s.toks
 by_cases h0:0<=k
 ·have hk:k.toNat=j:=by
   rw[seqIndex_of h0 h4]at h1;exact zY h1
  exact PySem.W.ki_setAt ho h0 (by omega) (by rw[qX,<-hl];exact h4) (by rw[hk];exact⟨_,I',q⟩)
 ·have hk:(k+(jK.toArray.size:Int)).toNat=j:=by
   rw[seqIndex_neg (by omega) h3]at h1;simp_all
  exact PySem.W.ki_setBack ho (by omega) (by simp_all) (by omega) (by rw[hk];exact⟨_,I',q⟩)
theorem ZeN (lo hi:Option Int)(n:Nat):(sliceBounds lo hi none n).1=((HT.sIx n 0 lo:Nat):Int)/\(sliceBounds lo hi none n).2.1=((HT.sIx n n hi:Nat):Int)/\(sliceBounds lo hi none n).2.2=1:=by
 refine⟨?_,?_,rfl⟩
 ·cases lo with
  | none=>simp[sliceBounds,HT.sIx]
  | some i=>
   simp only[sliceBounds,HT.sIx,Option.getD_none,show(1:Int) > 0 by decide,if_true];by_cases h:i<0
   ·simp only[h,if_true] <;> omega
   ·simp only[h,if_false] <;> omega
 ·cases hi with
  | none=>rfl
  | some i=>
   simp only[sliceBounds,HT.sIx,Option.getD_none,show(1:Int) > 0 by decide,if_true];by_cases h:i<0
   ·simp only[h,if_true] <;> omega
   ·simp only[h,if_false] <;> omega
theorem ZdI (jK:List Value)(lo hi:Option Int):slicePick jK.toArray lo hi none=((jK.drop (HT.sIx jK.length 0 lo)).take (HT.sIx jK.length jK.length hi-HT.sIx jK.length 0 lo)).toArray:=by
 obtain⟨h1,h2,h3⟩:=ZeN lo hi jK.toArray.size;unfold slicePick;rw[h1,h2,h3];simp only[sliceRange_one,pick_run] <;> rfl
noncomputable def rSlL (K:qk):V->Option Int->Option Int->Hp->VK->Prop:=λx lo hi H Q=>∃a xs,x=.ref a/\Zw K H a xs/\∀p,H p=none->Q (.ref p) (Zi H p (.lst (Uq xs lo hi)))
theorem ZmM:Uu X (rSlL X.K):=by
 intro jI s σ H x v vl vu lo hi sl Q I rx hs pl pu h;obtain⟨a,xs,rfl,hx,q⟩:=h
 cases rx
 obtain⟨jK,r,ht,hz⟩:=I.list hx;have jQ:=r.length;refine⟨"list",_,slot_list_getitem.lookup,ht.isList.typeIs,?_⟩;refine wpAny_getItem_list_slice ht.isList hs pl pu .none (by simp) ?_ (by grind);rw[ZdI,<-jQ];refine⟨.ref s.heap.objs.size,_,I.laid (λb ob q=>qd _ q) (qq _) ?_,rfl,q _ (I.hok.fresh (qq _))⟩;exact⟨qV (Zci xs lo hi) hz,_,0,(r.drop (HT.sIx xs.length 0 lo)).take (HT.sIx xs.length xs.length hi-HT.sIx xs.length 0 lo),qz _ rfl⟩
theorem B1:XB X (.builtin "len") (λxs H Q=>∃p ys,xs=[.ref p]/\(Zw X.K H p ys∨ZO X.K H p ys)/\Q (.int ys.length) H):=by
 intro jI s σ H xs us Q I r h;obtain⟨p,ys,rfl,hq,q⟩:=h;obtain⟨u,rfl,rx⟩:=XC r
 cases rx
 have hn:=Bk;rcases hq with hq | hq
 ·obtain⟨jK,r',pl,hz⟩:=I.list hq
  have jQ:=r'.length;exact Calls.call_len_list pl.isList (by simp only[qX] <;> omega) ⟨.int ys.length,H,I.tok _,⟨s.toks+1,by simp_all⟩,q⟩
 ·obtain⟨jK,r',pl,hz⟩:=I.tuple hq
  have jQ:=r'.length;exact len_tuple pl (by simp only[qX] <;> omega) ⟨.int ys.length,H,I.tok _,⟨s.toks+1,by simp_all⟩,q⟩
theorem ZdJ:XB X (.type "tuple") (λxs H Q=>∃p ys,xs=[.ref p]/\((Zw X.K H p ys/\∀l,H l=none->Q (.ref l) (Zi H l (.tup ys)))∨(ZO X.K H p ys/\Q (.ref p) H))):=by
 intro jI s σ H xs us Q I r h;obtain⟨p,ys,rfl,h⟩:=h;obtain⟨u,rfl,rx⟩:=XC r
 cases rx
 rcases h with⟨hq,q⟩ | ⟨hq,q⟩
 ·obtain⟨jK,r',pl,hz⟩:=I.list hq
  have jQ:=r'.length;refine call_tuple_list pl.isList (λh' kp=>?_) (by simp_all);have I1:Inv X jI σ H { s with heap:=h' }:=I.kept kp;have I2:Inv X jI σ (Zi H h'.objs.size (.tup ys)) { s with heap:=h'.push { cls:=.type "tuple",data:=.seq jK.toArray } }:=
   I1.laid (λb o e=>qd _ e) (qq _) (show YO X.prog X.w _ _ _ (.tup ys)from⟨hz,jK,r',qbs _ _⟩)
  exact⟨.ref h'.objs.size,_,I2,rfl,q _ (I1.hok.fresh (qq _))⟩
 ·obtain⟨jK,r',pl,hz⟩:=I.tuple hq
  exact call_tuple_same pl ⟨.ref p,H,I,rfl,q⟩
noncomputable def tyV (K:qk)(T:String)(x:V)(H:Hp):Prop:=match x with
 | .str _=>T = "str"
 | .int _=>T = "int"
 | .ref p=>(T = "list"/\∃xs,Zw K H p xs)∨(T = "tuple"/\∃o,K.lookup p=some o/\o.cls=.type "tuple"/\o.dict=none)∨
   (T = "dict"/\((∃kvs,H p=some (.dK kvs))∨∃kvs,H p=some (.dT kvs)))∨(T = "set"/\∃S n,H p=some (.set S n))
 | _=>False
theorem ZoQ {σ:St}(I:Inv X jI σ H s)(r:ZG x v)(ty:tyV X.K T x H) :
  s.TypeIs v T/\∀a,v=.ref a->∃ob,s.heap.get? a=some ob/\ob.dict=none:=by
 cases x with
 | str z=>
  obtain⟨t,rfl⟩:=r
  cases (show T = "str" from ty)
  exact⟨typeIs_str s z t,λ_ e=>nomatch e⟩
 | int i=>
  obtain⟨t,rfl⟩:=r
  cases (show T = "int" from ty)
  exact⟨typeIs_int s i t,λ_ e=>nomatch e⟩
 | ref p=>
  cases r
  rcases ty with⟨rfl,xs,hq⟩ | ⟨rfl,o,hk,hc,hd⟩ | ⟨rfl,hk⟩ | ⟨rfl,S,n,hk⟩
  ·obtain⟨jK,_,pl,_⟩:=I.list hq
   refine⟨pl.isList.typeIs,λa e=>?_⟩
   cases e
   obtain⟨o,n,e,c,hd,_⟩:=pl;exact⟨o,e,hd⟩
  ·refine⟨⟨o,I.kIn p o hk,hc⟩,λa e=>?_⟩
   cases e
   exact⟨o,I.kIn _ o hk,hd⟩
  ·have z:∃o,s.heap.get? p=some o/\o.ExactDict:=by
    rcases hk with⟨kvs,hk⟩ | ⟨kvs,hk⟩
    ·obtain⟨_,_,_,_,o,_,_,e,ex,_⟩:=I.hok p _ hk
     exact⟨o,e,ex⟩
    ·obtain⟨_,_,_,_,o,_,_,e,ex,_⟩:=I.hok p _ hk
     exact⟨o,e,ex⟩
   obtain⟨o,e,ex⟩:=z;refine⟨⟨o,e,ex.1⟩,λa e2=>?_⟩
   cases e2
   exact⟨o,e,ex.2.1⟩
  ·obtain⟨o,_,_,_,e,ex,_⟩:=I.hok p _ hk
   refine⟨⟨o,e,ex.1⟩,λa e2=>?_⟩
   cases e2
   exact⟨o,e,ex.2.1⟩
 | _=>exact zZ ty
noncomputable def VH (K:qk)(T:String)(r:V->List V->Hp->VK->Prop)(to:TE)(t:TA):TE:=fun σ H Q=>to σ H λx H1=>tyV K T x H1/\t σ H1 λxs H2=>r x xs H2 Q
variable {o e:Expr}{es:List Expr}{to:TE}{t:TA}{name:Str}{apos cpos:Pos}{T id:String}{r:V->List V->Hp->VK->Prop}
theorem Jx (pa:PlainAttrs T)(slot:Slot T name id)(hty:typeOf (.builtin id)=pure (.type "method_descriptor"))(hm:MtR X id r)(ho:PE X o to)(ha:PA X (e::es) t)
  (hbase:xr o name X.env (eval o X.env)=eval o X.env:=by rfl)
  (hfew:((backTo cpos (xi (e::es) X.env)).all (λx=>!x.1)&&(xq cpos (xj [] X.env)).all (λx=>x.1.isSome)
   && decide ((e::es).length+([]:List Keyword).length+(if ([]:List Keyword).isEmpty then 0 else 1)<30))=true:=by rfl)
  (hline:(apos.endLine==cpos.line)=true:=by rfl) (hs:xi (e::es) X.env=(false,eval e X.env)::xi es X.env:=by rfl) (hplain:(backTo cpos (xi es X.env)).any (·.1)=false:=by rfl) :
  PE X (.Call (.Attribute o name apos) (e::es) [] cpos) (VH X.K T r to t):=by
 intro jI s σ H Q I h;refine wpAny_Call_method_late hbase hfew hline rfl (ZI (ho jI s σ H _ I h) λv s1 ⟨x,H1,I1,r1,ty,q1⟩=>?_);obtain⟨h1,h2⟩:=ZoQ I1 r1 ty;refine⟨T,id,pa,slot,hty,h1,h2,?_⟩;have hA:=ha cpos jI s1 σ H1 _ I1 q1;rw[hs]at hA⊢;refine Calls.callWith_builtin (by show(false||(backTo cpos (xi es X.env)).any (·.1))=false;rw[hplain] <;> rfl) (Calls.evalArgs_plain ?_);exact ZI hA λus s2 ⟨vs,H2,I2,r2,q2⟩=>hm jI s2 σ H2 x vs v us Q I2 r1 r2 q2
end
noncomputable def MtM (X:Cx)(id:String)(r:V->List V->Hp->VK->Prop):Prop:=
 ∀(jI:Qb) (s:Shared) (σ:St) (H:Hp) (x:V) (xs:List V) (v:Value) (us:List Value) (Q:VK),Inv X jI σ H s->ZG x v->Zu xs us->r x xs H Q->
  xg (xD X.prog X.w) X.A (call (.builtin id) (v::us)) (EP X jI σ Q) X.xe s
theorem Zu.one:∀{x:V} {us:List Value},Zu [x] us->∃u,us=[u]/\ZG x u
 | _,_,.cons r .nil=>⟨_,rfl,r⟩
theorem Zu.two:∀{x y:V} {us:List Value},Zu [x,y] us->∃u v,us=[u,v]/\ZG x u/\ZG y v
 | _,_,_,.cons r (.cons q .nil)=>⟨_,_,rfl,r,q⟩
theorem Zu.eraseIdx:∀{xs:List V} {us:List Value} (i:Nat),Zu xs us->Zu (xs.eraseIdx i) (us.eraseIdx i)
 | _,_,_,.nil=>.nil
 | _,_,0,.cons _ t=>t
 | _,_,i+1,.cons r t=>.cons r (Zu.eraseIdx i t)
theorem Zu.rep (h:Zu xs us):∀k:Nat,Zu (qA k xs).flatten (qA k us).flatten
 | 0=>.nil
 | k+1=>by
  exact Zu.append h (Zu.rep h k)
theorem Zd6 {α:Type}:∀(l:List α) (i:Nat),(l.eraseIdx i).length<=l.length
 | [],_=>qq _
 | _::_,0=>qaA _
 | _::r,i+1=>Nat.succ_le_succ (Zd6 r i)
theorem Zb1 (jK:List Value):∀(k:Nat) (jO:List Value),
  qaO (λx1 x2=>x1++x2) jO.toArray (qA k jK.toArray)=(jO++(qA k jK).flatten).toArray
 | 0,jO=>by simp
 | k+1,jO=>by
  have e:jO.toArray++jK.toArray=(jO++jK).toArray:=by simp
  have e2:(jO++jK)++(qA k jK).flatten=jO++(qA (k+1) jK).flatten:=by
   grind
  rw[<-e2,<-Zb1 jK k (jO++jK),<-e,List.replicate_succ,List.foldl_cons]
section
variable {X:Cx}{jI:Qb}{σ:St}{H:Hp}{s:Shared}{l b:Addr}{xs ys zs:List V}
theorem Inv.lset {jK:List Value}(I:Inv X jI σ H s)(hH:H l=some (.lst xs))
  (e:s.heap.get? l=some { cls:=.type "list",data:=.seq jK.toArray n }) (hf:f jK.toArray=its'.toArray) (hv:Zu ys its') (hz:ys.length<=xh) :
  Inv X jI σ (Zi H l (.lst ys)) { s with heap:=s.heap.update l (qU f),toks:=t' }:=by
 have q:=PySem.IsL.update e f;rw[hf]at q;refine I.write (by rw[hH];exact trivial) (.inl rfl) (λb' u hb hu=>(zj s.heap (qU f) (zh hb)).trans hu) ⟨_,q⟩ ?_;exact⟨hz,its',_,hv,q⟩
theorem Inv.lnew (I:Inv X jI σ H s)(hv:Zu ys jK)(hz:ys.length<=xh) :
  Inv X jI σ (Zi H s.heap.objs.size (.lst ys)) { s with heap:=s.heap.push { cls:=.type "list",data:=.seq jK.toArray },toks:=t' }:=
 I.laid (λ_ _ q=>qd _ q) (qq _) ⟨hz,jK,0,hv,qz _ rfl⟩
theorem Inv.fresh (I:Inv X jI σ H s):H s.heap.objs.size=none:=I.hok.fresh (qq _)
theorem Inv.lstM (I:Inv X jI σ H s)(hH:H l=some (.lst xs)):xs.length<=xh/\∃(jK:List Value) (n:Nat),Zu xs jK/\xs.length=jK.length/\s.heap.get? l=some { cls:=.type "list",data:=.seq jK.toArray n }:=by
 obtain⟨z,jK,n,r,e⟩:=I.hok l _ hH;exact⟨z,jK,n,r,r.length,e⟩
theorem Zfv (h:n<=xh):yH n=false:=by
 unfold yH
 grind
end
section
variable {X:Cx}
noncomputable def Bd:V->List V->Hp->VK->Prop:=λx vs H Q=>∃l xs y,x=.ref l/\vs=[y]/\H l=some (.lst xs)/\xs.length<xh/\Q .non (Zi H l (.lst (xs ++ [y])))
theorem Zd7:MtM X "list.append" Bd:=by
 intro jI s σ H x vs v us Q I rx rv h;obtain⟨l,xs,y,rfl,rfl,hH,hz,q⟩:=h
 cases rx
 obtain⟨u,rfl,ru⟩:=rv.one;obtain⟨z,jK,n,r,hl,e⟩:=I.lstM hH;refine call_meets F.slot_list_append ⟨_,e,rfl⟩ F.entry_list_append (F.args_list_append_2 _ _) (PySem.list_append l jK.toArray n u (by grind)) ⟨e,?_⟩;refine⟨.non,_,I.lset hH e (by simp) (r.append (.cons ru .nil)) ?_,rfl,q⟩
 grind
noncomputable def ZeO:V->List V->Hp->VK->Prop:=λx vs H Q=>∃l b xs zs,x=.ref l/\vs=[.ref b]/\H l=some (.lst xs)/\H b=some (.lst zs)/\xs.length+zs.length<=xh/\Q .non (Zi H l (.lst (xs++zs)))
theorem Zi2:MtM X "list.extend" ZeO:=by
 intro jI s σ H x vs v us Q I rx rv h;obtain⟨l,b,xs,zs,rfl,rfl,hH,hB,hz,q⟩:=h
 cases rx
 obtain⟨u,rfl,ru⟩:=rv.one
 cases ru
 obtain⟨z,jK,n,r,hl,e⟩:=I.lstM hH;obtain⟨z2,jV,n2,r2,hl2,e2⟩:=I.lstM hB;have hsz:jK.toArray.size+jV.toArray.size<=xh:=by grind
 have hlong:¬(!jK.toArray.isEmpty&&yH (jK.toArray.size+jV.toArray.size))=true:=by
  rw[Zfv hsz];simp
 refine call_meets F.slot_list_extend ⟨_,e,rfl⟩ F.entry_list_extend (F.args_list_extend_2 _ _)
  (AutoSeq1.list_extend_list_list_0 l jK.toArray n b jV.toArray n2 hlong (by grind) (by omega)) ⟨e,e2,?_⟩
 refine⟨.non,_,I.lset hH e (by simp) (r.append r2) ?_,rfl,q⟩;simp_all
noncomputable def ZgS:V->List V->Hp->VK->Prop:=λx vs H Q=>∃l xs i k y,x=.ref l/\vs=[.int i]/\H l=some (.lst xs)/\-(2 ^ 63)<=i/\i<2 ^ 63/\seqIndex? i xs.length=some k/\xs[k]?=some y/\Q y (Zi H l (.lst (xs.eraseIdx k)))
theorem Zfw:MtM X "list.pop" ZgS:=by
 intro jI s σ H x vs v us Q I rx rv h;obtain⟨l,xs,i,k,y,rfl,rfl,hH,h1,h2,hk,hy,q⟩:=h
 cases rx
 obtain⟨u,rfl,ru⟩:=rv.one;obtain⟨t,rfl⟩:=ru;obtain⟨z,jK,n,r,hl,e⟩:=I.lstM hH;obtain⟨w,hw,rw'⟩:=r.get hy;refine call_meets F.slot_list_pop ⟨_,e,rfl⟩ F.entry_list_pop (F.args_list_pop_2 _ _)
  (MeetsSeq.list_pop_at l jK.toArray n i t k w (fitsIndex_both h1 h2) (by simp_all) (by simp_all) (by simp_all)) ⟨e,?_⟩
 refine⟨y,_,I.lset hH e ?_ (r.eraseIdx k) ?_,rw',q⟩
 ·simp
 ·have:=Zd6 xs k
  omega
noncomputable def rCat:R2:=λx y H Q=>∃l b xs zs,x=.ref l/\y=.ref b/\H l=some (.lst xs)/\H b=some (.lst zs)/\xs.length+zs.length<=xh/\∀p,H p=none->Q (.ref p) (Zi H p (.lst (xs++zs)))
theorem ZoR:Ym X (binaryOp .Add) rCat:=by
 intro jI s σ H x y v u Q I rx ry h;obtain⟨l,b,xs,zs,rfl,rfl,hH,hB,hz,q⟩:=h
 cases rx
 cases ry
 obtain⟨z,jK,n,r,hl,e⟩:=I.lstM hH;obtain⟨z2,jV,n2,r2,hl2,e2⟩:=I.lstM hB;refine PySem.P.add_list e e2 ?_ (by simp_all);have ea:jK.toArray++jV.toArray=(jK++jV).toArray:=by simp
 rw[ea];exact⟨.ref _,_,I.lnew (r.append r2) (by simp_all),rfl,q _ I.fresh⟩
noncomputable def rRep:R2:=λx y H Q=>∃l k xs,x=.ref l/\y=.int k/\H l=some (.lst xs)/\-(2 ^ 63)<=k/\k<2 ^ 63/\xs.length*k.toNat<=xh/\
 ∀p,H p=none->Q (.ref p) (Zi H p (.lst (qA k.toNat xs).flatten))
theorem ZeP {α:Type}(xs:List α)(k:Nat):(qA k xs).flatten.length=k*xs.length:=by
 simp
theorem ZoS:Ym X (binaryOp .Mult) rRep:=by
 intro jI s σ H x y v u Q I rx ry h;obtain⟨l,k,xs,rfl,rfl,hH,h1,h2,hz,q⟩:=h
 cases rx
 obtain⟨t,rfl⟩:=ry;obtain⟨z,jK,n,r,hl,e⟩:=I.lstM hH;have jQ:jK.toArray.size*k.toNat<=xh:=by rw[qX,<-hl];exact hz
 have hcap:¬jK.toArray.size*k.toNat > (2 ^ 63-1) / 8:=by
  have:(xh:Nat)<=(2 ^ 63-1) / 8:=by decide
  omega
 have hfit:¬(!Builtin.List.listFitsIndex k)=true:=by
  rw[fitsIndex_both h1 h2];exact yR
 have hlong:¬yH (jK.toArray.size*k.toNat)=true:=by
  rw[Zfv jQ];exact yR
 have hnew:qaO (λx1 x2=>x1++x2) #[] (qA (if jK.toArray.isEmpty=true then 0 else k.toNat) jK.toArray)=(qA k.toNat jK).flatten.toArray:=by
  have f0:∀m,qaO (λx1 x2=>x1++x2) #[] (qA m jK.toArray)=(qA m jK).flatten.toArray:=λm=>by
   have:=Zb1 jK m [];simp_all
  rw[f0]
  cases jK with
  | nil=>simp
  | cons a r'=>rfl
 refine wpAny_binaryOp_repeat_ref (by decide) ⟨_,e,rfl⟩ (λs'=>typeIs_int s' k t) noFill_list_mul qaP yu repeat_list qaH.lookup
  (call_meets yu (typeIs_int s k t) qaI (qau _ _) (int___rmul___int_list k t l jK.toArray n)
   ⟨e,rfl,⟨_,e,rfl⟩,call_meets F.slot_list_mul ⟨_,e,rfl⟩ F.entry_list_mul (F.args_list_mul_2 _ _) (AutoListH.list___mul___list_int_3 l jK.toArray n k t hfit hcap hlong) ⟨e,?_⟩⟩)
 rw[hnew];exact⟨.ref _,_,I.lnew (r.rep k.toNat) (by rw[ZeP,qb6];exact hz),rfl,q _ I.fresh⟩
end
section
variable {prog:xF}{w:World}{A:xG}{E:xH}{s:Shared}
end
section
variable {X:Cx}
end
section
variable {κ:Type}[DecidableEq κ]
noncomputable def Z1 (kvs:List (κ×V))(k:κ):Option V:=(kvs.find? λkv=>decide (kv.1=k)).map (·.2)
noncomputable def Yh (kvs:List (κ×V))(k:κ)(v:V):List (κ×V):=
 if (kvs.any λkv=>decide (kv.1=k))=true then kvs.map (λkv=>if kv.1=k then (kv.1,v)else kv)else kvs ++ [(k,v)]
theorem Wa {p:κ×V}(e:p.1=k):Z1 (p::r) k=some p.2:=by simp[Z1,e]
theorem Wc {p:κ×V}(e:¬p.1=k):Z1 (p::r) k=Z1 r k:=by simp[Z1,e]
theorem J7 (k:κ):∀kvs:List (κ×V),(kvs.any λkv=>decide (kv.1=k))=(Z1 kvs k).isSome
 | []=>rfl
 | p::r=>by
  rw[qaF];by_cases e:p.1=k
  ·simp only[Wa e,decide_eq_true e,Bool.true_or,Option.isSome_some]
  ·rw[Wc e,decide_eq_false e];exact J7 k r
theorem Zfx (k j:κ)(y:V):∀kvs:List (κ×V),Z1 (kvs.map λkv=>if kv.1=k then (kv.1,y)else kv) j=(Z1 kvs j).map λx=>if j=k then y else x
 | []=>rfl
 | p::r=>by
  have ih:=Zfx k j y r;rw[yc];by_cases h:p.1=k
  ·rw[if_pos h]
   by_cases e:p.1=j
   ·rw[Wa (p:=(p.1,y)) e,Wa e,qbt,if_pos (e.symm.trans h)]
   ·rw[Wc (p:=(p.1,y)) e,Wc e,ih]
  ·rw[if_neg h]
   by_cases e:p.1=j
   ·rw[Wa e,Wa e,qbt,if_neg (λz=>h (e.trans z))]
   ·rw[Wc e,Wc e,ih]
theorem Zd8 (k j:κ)(y:V):∀kvs:List (κ×V),Z1 kvs k=none->Z1 (kvs ++ [(k,y)]) j=if j=k then some y else Z1 kvs j
 | [],_=>by
  by_cases e:k=j
  ·rw[if_pos e.symm];exact Wa e
  ·rw[if_neg (λz=>e z.symm)];exact Wc e
 | p::r,hn=>by
  rw[List.cons_append];have hk:¬p.1=k:=λz=>by rw[Wa z]at hn;cases hn
  rw[Wc hk]at hn;have ih:=Zd8 k j y r hn;by_cases e:p.1=j
  ·rw[Wa e,Wa e,if_neg (λz=>hk (e.trans z))]
  ·rw[Wc e,Wc e,ih]
theorem Zfy (kvs:List (κ×V))(k j:κ)(y:V):Z1 (Yh kvs k y) j=if j=k then some y else Z1 kvs j:=by
 unfold Yh;by_cases a:(kvs.any λkv=>decide (kv.1=k))=true
 ·rw[if_pos a,Zfx]
  rw[J7]at a;by_cases e:j=k
  ·obtain⟨x,hx⟩:=zM.mp a
   grind
  ·simp_all
 ·rw[if_neg a]
  refine Zd8 k j y kvs ?_;rw[J7]at a;simp_all
theorem V8 (kvs:List (κ×V))(k:κ)(v:V):(Yh kvs k v).length<=kvs.length+1:=by
 unfold Yh;split
 ·simp
 ·simp
theorem Zfz {kvs:List (κ×V)}(v:V)(h:Z1 kvs k=none):Yh kvs k v=kvs ++ [(k,v)]:=by
 unfold Yh;rw[J7,h];rfl
theorem UT.isSome_eq (r:UT o u):o.isSome=u.isSome:=by
 cases o with
 | none=>cases u with
  | none=>rfl
  | some _=>exact(show False from r).elim
 | some _=>cases u with
  | none=>exact(show False from r).elim
  | some _=>rfl
theorem KV.val (r:KV kvs vs)(k:κ):UT (Z1 kvs k) (valueAt vs k):=by
 induction r with
 | nil=>exact y6
 | @cons p q ps qs h t ih=>
  obtain⟨h1,h2⟩:=h;by_cases e:p.1=k
  ·have e':=h1.symm.trans e
   have b:valueAt (q::qs) k=some q.2:=by simp[valueAt,e']
   rw[Wa e,b];exact h2
  ·have e':¬q.1=k:=λz=>e (h1.trans z)
   have b:valueAt (q::qs) k=valueAt qs k:=by simp[valueAt,e']
   rw[Wc e,b];exact ih
theorem KV.any (r:KV kvs vs)(k:κ):(kvs.any λkv=>decide (kv.1=k))=vs.any λkv=>decide (kv.1=k):=by
 induction r with
 | nil=>rfl
 | cons h t ih=>simp_all
theorem KV.repl (r:KV kvs vs)(k:κ)(ry:ZG y u) :
  KV (kvs.map λkv=>if kv.1=k then (kv.1,y)else kv) (vs.map λkv=>if kv.1=k then (kv.1,u)else kv):=by
 induction r with
 | nil=>exact .nil
 | @cons p q ps qs h t ih=>
  refine .cons ?_ ih;by_cases e:p.1=k
  ·simp_all
  ·simp_all
theorem KV.put (r:KV kvs vs)(k:κ)(ry:ZG y u):KV (Yh kvs k y) (stored vs k u):=by
 unfold Yh stored;rw[r.any k];by_cases e:(vs.any λkv=>decide (kv.1=k))=true
 ·rw[if_pos e,if_pos e];exact r.repl k ry
 ·rw[if_neg e,if_neg e];exact Paired.snoc r ⟨rfl,ry⟩
theorem KV.length {kvs:List (κ×V)}(r:KV kvs vs):kvs.length=vs.length:=y8 r
end
theorem UM (r:ZG (kV k) u):(Wn P w).is k u=true:=by
 cases k with
 | inl i=>obtain⟨t,e⟩:=(show ∃t,u=qbr i t from r);subst e;exact Zfq P w i t
 | inr x=>obtain⟨t,e⟩:=(show ∃t,u=Value.str x t from r);subst e;exact Zfr P w x t
theorem Zd9:∀{ks:List ZJ} {us:List Value},Zu (ks.map kV) us->ItemsAre (Wn P w) ks us
 | [],_,r=>by cases r;exact .nil
 | k::ks,_,r=>by
  cases r with
  | cons h t=>exact .cons (UM h) (Zd9 t)
noncomputable abbrev KT (H:Hp):List (List ZJ×V)->List (List ZJ×Addr×Value)->Prop:=Paired λp q=>p.1=q.1/\H q.2.1=some (.tup (p.1.map kV))/\ZG p.2 q.2.2
theorem KT.val (r:KT H kvs xs)(k:List ZJ):UT (Z1 kvs k) ((atKey xs k).map (·.2)):=by
 induction r with
 | nil=>exact y6
 | @cons p q ps qs h t ih=>
  obtain⟨h1,_,h2⟩:=h;by_cases e:p.1=k
  ·have e':=h1.symm.trans e
   have b:atKey (q::qs) k=some q.2:=by simp[atKey,e']
   rw[Wa e,b];exact h2
  ·have e':¬q.1=k:=λz=>e (h1.trans z)
   have b:atKey (q::qs) k=atKey qs k:=by simp[atKey,e']
   rw[Wc e,b];exact ih
theorem KT.repl (r:KT H kvs xs)(k:List ZJ)(ry:ZG y u) :
  KT H (kvs.map λkv=>if kv.1=k then (kv.1,y)else kv) (xs.map (putAt k u)):=by
 induction r with
 | nil=>exact .nil
 | @cons p q ps qs h t ih=>
  refine .cons ?_ ih;unfold putAt;by_cases e:p.1=k
  ·simp_all
  ·simp_all
theorem KT.put (r:KT H kvs xs)(k:List ZJ)(hb:H b=some (.tup (k.map kV)))(ry:ZG y u) :
  KT H (Yh kvs k y) (storedH xs k b u):=by
 have e:(kvs.any λkv=>decide (kv.1=k))=(atKey xs k).isSome:=by
  rw[J7,(r.val k).isSome_eq,qa6]
 unfold Yh storedH;rw[e];by_cases q:(atKey xs k).isSome=true
 ·rw[if_pos q,if_pos q];exact r.repl k ry
 ·rw[if_neg q,if_neg q];exact Paired.snoc r ⟨rfl,hb,ry⟩
theorem KT.keeps (r:KT H kvs xs)(ht:∀b ys,H b=some (.tup ys)->H' b=some (.tup ys)):KT H' kvs xs:=
 Paired.mapP r λ_ _ z=>⟨z.1,ht _ _ z.2.1,z.2.2⟩
section
variable {P:xF}{w:World}{H:Hp}{h:Heap}{a:Addr}
theorem Zn4 (ok:Yw P w H h)(e:Rd H a u):YO P w H h a u:=e.ok ok
theorem Bs (ok:Yw P w H h)(e:Rd H a (.dK kvs)):kvs.length<=xh/\(a==sysModules)=false/\∃vs,KV kvs vs/\h.DictOf (Wn P w) a vs:=
 show YO P w H h a (.dK kvs)from Zn4 ok e
theorem ZkA (ok:Yw P w H h)(e:H a=some (.dK kvs)):kvs.length<=xh/\(a==sysModules)=false/\∃vs,KV kvs vs/\h.DictOf (Wn P w) a vs:=Bs ok (.inl e)
theorem Jn (ok:Yw P w H h)(e:H a=some (.tup (ks.map kV))):(tupleKind (Wn P w)).is h ks a:=by
 obtain⟨_,jK,r,o,h1,h2,n,h3⟩:=(show YO P w H h a (.tup (ks.map kV))from ok a _ e);exact⟨o,jK.toArray,n,h1,h2,h3,by simpa using Zd9 r⟩
theorem Bt (ok:Yw P w H h)(e:Rd H a (.dT kvs)):kvs.length<=xh/\(a==sysModules)=false/\
  ∃xs,KT H kvs xs/\h.DictOfH (tupleKind (Wn P w)) a xs:=by
 obtain⟨z,y,xs,r,o,es,ep,h1,h2,h3,h4,h5⟩:=(show YO P w H h a (.dT kvs)from Zn4 ok e);refine⟨z,y,xs,r,o,es,ep,h1,h2,h3,h4,λx hx=>?_,h5⟩;have all:∀{l:List (List ZJ×V)} {m:List (List ZJ×Addr×Value)},KT H l m->∀x∈m,(tupleKind (Wn P w)).is h x.1 x.2.1:=by
  intro l m q
  induction q with
  | nil=>simp
  | @cons p q ps qs hq t ih=>
   intro x hx;rcases qy.mp hx with e | hx
   ·exact Jn ok (by simp_all)
   ·exact ih x hx
 exact all r x hx
theorem Zn5 (ok:Yw P w H h)(e:H a=some (.dT kvs)):kvs.length<=xh/\(a==sysModules)=false/\
  ∃xs,KT H kvs xs/\h.DictOfH (tupleKind (Wn P w)) a xs:=Bt ok (.inl e)
end
noncomputable def Xt (H:Hp)(a:Addr)(y:V)(r:Option V):Prop:=
 (∃kvs k,Rd H a (.dK kvs)/\y=kV k/\r=Z1 kvs k)∨∃kvs k b,Rd H a (.dT kvs)/\y=.ref b/\H b=some (.tup (k.map kV))/\r=Z1 kvs k
noncomputable def Wr (H:Hp)(a:Addr)(y v:V)(H':Hp):Prop:=
 (∃kvs k,H a=some (.dK kvs)/\y=kV k/\kvs.length<xh/\H'=Zi H a (.dK (Yh kvs k v)))∨
 ∃kvs k b,H a=some (.dT kvs)/\y=.ref b/\H b=some (.tup (k.map kV))/\kvs.length<xh/\H'=Zi H a (.dT (Yh kvs k v))
theorem Xt.k {k:ZJ}(e:H a=some (.dK kvs)):Xt H a (kV k) (Z1 kvs k):=.inl ⟨kvs,k,.inl e,rfl,rfl⟩
theorem Xt.t {k:List ZJ}(e:H a=some (.dT kvs))(eb:H b=some (.tup (k.map kV))):Xt H a (.ref b) (Z1 kvs k):=.inr ⟨kvs,k,b,.inl e,rfl,eb,rfl⟩
theorem Wr.k {k:ZJ}(e:H a=some (.dK kvs))(hl:kvs.length<xh):Wr H a (kV k) v (Zi H a (.dK (Yh kvs k v))):=.inl ⟨kvs,k,e,rfl,hl,rfl⟩
theorem Wr.t {k:List ZJ}(e:H a=some (.dT kvs))(eb:H b=some (.tup (k.map kV)))(hl:kvs.length<xh) :
  Wr H a (.ref b) v (Zi H a (.dT (Yh kvs k v))):=.inr ⟨kvs,k,b,e,rfl,eb,hl,rfl⟩
section
variable {X:Cx}{jI:Qb}{σ:St}{H:Hp}{s:Shared}{a:Addr}{y v:V}{u r:Value}{o:Option V}{A:xG}{E:xH}
theorem Inv.big (I:Inv X jI σ H s):sysModules<s.heap.objs.size:=by
 have h:=(I.mod.glob.keeps I.bk).lt;exact yI (by decide) h
theorem Zi3 (hu:A.units+1<cLine)(I:Inv X jI σ H s)(g:Xt H a y (some v))(ry:ZG y u)(h:∀w' s',Inv X jI σ H s'->ZG v w'->Q w' s') :
  xg (xD X.prog X.w) A (getItem (.ref a) u) Q E s:=by
 rcases g with⟨kvs,k,e,ey,l⟩ | ⟨kvs,k,b,e,ey,eb,l⟩
 ·subst ey
  obtain⟨z,hd,vs,rel,dd⟩:=Bs I.hok e;obtain⟨w',hw,rw'⟩:=jx (by rw[l];exact rel.val k);exact wpAny_getItem_of (UM ry) dd.mapOf hw (h w' _ (I.tok _) rw')
 ·subst ey
  cases (show u=qS b from ry)
  obtain⟨z,hd,xs,rel,dd⟩:=Bt I.hok e;obtain⟨w',hw,rw'⟩:=jx (by rw[l];exact rel.val k);obtain⟨p,hp,hp2⟩:=qby.mp hw;refine wpAny_getItem_heap (tupleKind_room_in1 hu) (Jn I.hok eb) dd hp ?_;rw[hp2];exact h w' _ (I.tok _) rw'
theorem d_in (hu:A.units+1<cLine)(I:Inv X jI σ H s)(g:Xt H a y o)(ry:ZG y u)(h:∀s',Inv X jI σ H s'->Q (.bool o.isSome) s') :
  xg (xD X.prog X.w) A (xl .In u (.ref a)) Q E s:=by
 rcases g with⟨kvs,k,e,ey,l⟩ | ⟨kvs,k,b,e,ey,eb,l⟩
 ·subst ey
  obtain⟨z,hd,vs,rel,dd⟩:=Bs I.hok e;refine wpAny_in_of (UM ry) hd dd.mapOf ?_;rw[<-(rel.val k).isSome_eq,<-l];exact h _ (I.tok _)
 ·subst ey
  cases (show u=qS b from ry)
  obtain⟨z,hd,xs,rel,dd⟩:=Bt I.hok e;refine wpAny_in_heap (tupleKind_room_in1 hu) (Jn I.hok eb) hd dd ?_;have q:=(rel.val k).isSome_eq;rw[qa6]at q;rw[<-q,<-l];exact h _ (I.tok _)
theorem ZmN (hu:A.units+1<cLine)(I:Inv X jI σ H s)(g:Xt H a y o)(ry:ZG y u)(h:∀s',Inv X jI σ H s'->Q (.bool (!o.isSome)) s') :
  xg (xD X.prog X.w) A (xl .NotIn u (.ref a)) Q E s:=by
 rcases g with⟨kvs,k,e,ey,l⟩ | ⟨kvs,k,b,e,ey,eb,l⟩
 ·subst ey
  obtain⟨z,hd,vs,rel,dd⟩:=Bs I.hok e;refine wpAny_notIn_of (UM ry) hd dd.mapOf ?_;rw[<-(rel.val k).isSome_eq,<-l];exact h _ (I.tok _)
 ·subst ey
  cases (show u=qS b from ry)
  obtain⟨z,hd,xs,rel,dd⟩:=Bt I.hok e;refine wpAny_notIn_heap (tupleKind_room_in1 hu) (Jn I.hok eb) hd dd ?_;have q:=(rel.val k).isSome_eq;rw[qa6]at q;rw[<-q,<-l];exact h _ (I.tok _)
theorem Be (I:Inv X jI σ H s)(mu:BG (H a))(hs:zG a s.heap h')(he:∃q,h'.get? a=some q)(new:YO X.prog X.w (Zi H a ob) h' a ob) :
  Inv X jI σ (Zi H a ob) { s with heap:=h',toks:=t' }:=
 I.write mu (.inl rfl) (λb q hb z=>(hs.2 b hb).trans z) he new
theorem ZgT (z:kvs.length<=xh)(hd:(a==sysModules)=false)(rel:KV kvs vs)(dd:h'.DictOf (Wn P w) a vs) :
  YO P w H' h' a (.dK kvs):=⟨z,hd,vs,rel,dd⟩
theorem Zi4 (hu:A.units+1<cLine)(I:Inv X jI σ H s)(g:Wr H a y v H')(ry:ZG y u)(rv:ZG v r)(h:∀s',Inv X jI σ H' s'->Q () s') :
  xg (xD X.prog X.w) A (setItem (.ref a) u r) Q E s:=by
 rcases g with⟨kvs,k,e,ey,l,eH⟩ | ⟨kvs,k,b,e,ey,eb,l,eH⟩
 ·subst ey eH
  obtain⟨z,hd,vs,rel,dd⟩:=ZkA I.hok e;have hz:vs.length<=xh:=by rw[<-rel.length];exact z
  have hl:(Yh kvs k v).length<=xh:=by have:=V8 kvs k v;omega
  refine wpAny_setItem_pairs (hsz:=hz) (UM ry) dd λh' dd' hs=>h _ ?_;have he:∃q,h'.get? a=some q:=let ⟨q,_,_,hq,_⟩:=dd';⟨q,hq⟩;exact Be I (by rw[e];exact y6) hs he (ZgT hl hd (rel.put k rv) dd')
 ·subst ey eH
  cases (show u=qS b from ry)
  obtain⟨z,hd,xs,rel,dd⟩:=Zn5 I.hok e;have hz:xs.length<=xh:=by rw[<-y8 rel];exact z
  have hl:(Yh kvs k v).length<=xh:=by have:=V8 kvs k v;omega
  refine wpAny_setItem_heap (tupleKind_room_in1 hu) (Jn I.hok eb) dd λh' dd' hs=>h _ ?_;obtain⟨q,es,ep,hq,h2,h3,h4,_,h5⟩:=dd';refine Be I (by rw[e];exact y6) hs ⟨q,hq⟩ ⟨hl,hd,_,(rel.put k eb rv).keeps λc ys ec=>?_,q,es,ep,hq,h2,h3,h4,h5⟩;rw[Zn (ZnX ec e (λz=>nomatch z))];exact ec
end
section
variable {X:Cx}{jI:Qb}{σ:St}{H:Hp}{s:Shared}{a:Addr}{kvs:List (ZJ×V)}{k:ZJ}{u:Value}{A:xG}{E:xH}
end
noncomputable def NoSl (i:Expr):Prop:=∀ov iv,subscripted i false ov iv=operate [ov,iv] (getItem ov iv)
theorem ZmO {id:String}
  (hl:typeLookup (.type T) "__getitem__" = pure (some (.builtin id))) (hs:NoSl slice)
  (h:xg (xD prog w) A (eval value env) (λo s₁=>xg (xD prog w) A (eval slice env) (λi s₂=>s₂.TypeIs o T/\xg (xD prog w) A (getItem o i) Q E s₂) E s₁) E s) :
  xg (xD prog w) A (eval (.Subscript value slice pos) env) Q E s:=by
 refine Subscript_ (xf h (λo s₁ h₁=>xf h₁ (λi s₂ h₂=>?_) λ_ _ x=>x) λ_ _ x=>x);obtain⟨hT,h₂⟩:=h₂;refine xb ?_;refine xb (wpAny_specialOf hT hl ?_);have fin:xg (xD prog w) A (subscripted slice false o i) (λr s₃=>xg (xD prog w) A (letTemporaryGo value o r >>= λ_=>pure r) Q E s₃) E s₂:=by
  rw[hs o i];exact wpAny_operating (xf h₂ (λr s₃ h₃=>xb (wpAny_letTemporaryGo (xc h₃))) λ_ _ x=>x)
 first
  | exact xc (xb fin)
  | rfl
  | rfl
theorem ZfA {σ:St}(I:Inv X jI σ H s)(g:Xt H a y o):s.TypeIs (.ref a) "dict":=by
 rcases g with⟨kvs,k,e,_,_⟩ | ⟨kvs,k,b,e,_,_,_⟩
 ·obtain⟨_,_,vs,_,dd⟩:=Bs I.hok e
  exact dd.typeIs
 ·obtain⟨_,_,xs,_,dd⟩:=Bt I.hok e
  exact dd.typeIs
noncomputable def Zh6 (td ty:TE):TE:=fun σ H Q=>td σ H λx H1=>ty σ H1 λy H2=>∃a v,x=.ref a/\Xt H2 a y (some v)/\Q v H2
noncomputable def Zn6 (td ty tv:TE):TS:=λD σ H=>tv σ H λv H1=>td σ H1 λx H2=>ty σ H2 λy H3=>∃a H4,x=.ref a/\Wr H3 a y v H4/\D.nx σ H4
section
variable {X:Cx}{o i e value:Expr}{pos pos' tpos:Pos}{td ty tv:TE}
theorem WP (hu:X.A.units+1<cLine)(ho:PE X o td)(hi:PE X i ty)(hs:NoSl i):PE X (.Subscript o i pos) (Zh6 td ty):=by
 intro jI s σ H Q I h;refine ZmO PySem.F.slot_dict_getitem.lookup hs (ZI (ho jI s σ H _ I h) λu s1 ⟨x,H1,I1,rx,q1⟩=>ZI (hi jI s1 σ H1 _ I1 q1) λiv s2 ⟨y,H2,I2,ry,a,v,ex,g,q2⟩=>?_);subst ex;obtain rfl:u=qS a:=rx;exact⟨ZfA I2 g,Zi3 hu I2 g ry λw' s3 I3 rw'=>⟨v,H2,I3,rw',q2⟩⟩
theorem ZeQ (hu:X.A.units+1<cLine)(ho:PE X o td)(hi:PE X i ty)(hv:PE X value tv)(hs:xt value (some (.Subscript o i pos')) pos.line X.env=pure false) :
  PS X (.Assign [.Subscript o i pos'] value pos) (Zn6 td ty tv):=by
 intro jI s σ H D I h;refine wpAny_Assign_Subscript (ZI (hv jI s σ H _ I h) λr s1 ⟨v,H1,I1,rv,q1⟩=>ZI (ho jI s1 σ H1 _ I1 q1) λu s2 ⟨x,H2,I2,rx,q2⟩=>ZI (hi jI s2 σ H2 _ I2 q2) λiv s3 ⟨y,H3,I3,ry,a,H4,ex,g,q3⟩=>?_) hs;subst ex;obtain rfl:u=qS a:=rx;exact Zi4 hu I3 g ry rv λs4 I4=>⟨σ,H4,I4,q3⟩
end
theorem ZcT (h:Heap)(hb:sysModules<h.objs.size):YO P w H (h.push { cls:=.type "dict",data:=.dict #[] }) h.objs.size (.dK []):=
 ⟨zk _,beq_eq_false_iff_ne.mpr (zh (qD hb)),[],.nil,Heap.DictOf.new h⟩
theorem ZkB (h:Heap)(hb:sysModules<h.objs.size):YO P w H (h.push { cls:=.type "dict",data:=.dict #[] }) h.objs.size (.dT []):=
 ⟨zk _,beq_eq_false_iff_ne.mpr (zh (qD hb)),[],.nil,_,#[],0,qz _ rfl,⟨rfl,rfl,rfl⟩,rfl,rfl,qbC⟩
noncomputable def ZoT:TE:=λ_ H Q=>∀p,H p=none->Q (.ref p) (Zi H p (.dK []))
section
variable {X:Cx}{pos:Pos}
theorem ZkC:PE X (.Dict [] [] pos) ZoT:=λjI s σ H Q I h=>
 wpAny_Dict_empty ⟨.ref s.heap.objs.size,_,I.laid (λ_ _ q=>qd _ q) (qq _) (ZcT s.heap I.big),rfl,h _ (I.hok.fresh (qq _))⟩
end
noncomputable def ZgU:List (TE×TE)->St->Hp->(List (V×V)->Hp->Prop)->Prop
 | [],_,H,Q=>Q [] H
 | (tk,tv)::r,σ,H,Q=>tk σ H λx H1=>tv σ H1 λy H2=>ZgU r σ H2 λps H3=>Q ((x,y)::ps) H3
noncomputable abbrev VV:List (V×V)->List (Value×Value)->Prop:=Paired λp q=>ZG p.1 q.1/\ZG p.2 q.2
noncomputable def PPs (X:Cx)(pos:Pos)(keys:List (Option Expr))(values:List Expr)(trs:List (TE×TE)):Prop:=
 ∀(jI:Qb) (s:Shared) (σ:St) (H:Hp) (Q:List (V×V)->Hp->Prop),Inv X jI σ H s->ZgU trs σ H Q->
  xg (xD X.prog X.w) X.A (evalPairs (pairTrees keys values X.env pos)) (λvs s'=>∃ps H',Inv X jI σ H' s'/\VV ps vs/\Q ps H') X.xe s
theorem ZmP:PPs X pos [] [] []:=λjI s σ H Q I h=>pairTrees_nil_walk ⟨[],H,I,.nil,h⟩
theorem ZcU (hk:PE X k tk)(hv:PE X v tv)(hr:PPs X pos ks vs trs) :
  PPs X pos (some k::ks) (v::vs) ((tk,tv)::trs):=λjI s σ H Q I h=>
 pairTrees_cons_walk (ZI (hk jI s σ H _ I h) λu s1 ⟨x,H1,I1,rx,q1⟩=>ZI (hv jI s1 σ H1 _ I1 q1) λw2 s2 ⟨y,H2,I2,ry,q2⟩=>
  ZI (hr jI s2 σ H2 _ I2 q2) λws s3 ⟨ps,H3,I3,rel,q3⟩=>⟨(x,y)::ps,H3,I3,.cons ⟨rx,ry⟩ rel,q3⟩)
noncomputable def UK (kvs more:List (ZJ×V)):List (ZJ×V):=more.foldl (λjO kv=>Yh jO kv.1 kv.2) kvs
theorem KV.merge:∀{more:List (ZJ×V)} {rs:List (ZJ×Value)} {kvs:List (ZJ×V)} {vs:List (ZJ×Value)},KV more rs->KV kvs vs->KV (UK kvs more) (merged vs rs):=by
 intro more rs kvs vs r
 induction r generalizing kvs vs with
 | nil=>intro q;exact q
 | @cons p q ps qs h t ih=>
  intro r0;have e:KV (Yh kvs p.1 p.2) (stored vs q.1 q.2):=by
   have:=r0.put p.1 h.2;simp_all
  exact ih e
theorem Zbb:∀(more kvs:List (ZJ×V)),(UK kvs more).length<=kvs.length+more.length
 | [],kvs=>by show kvs.length<=kvs.length+0;omega
 | p::r,kvs=>by
  have h1:=Zbb r (Yh kvs p.1 p.2);have h2:=V8 kvs p.1 p.2;show(UK (Yh kvs p.1 p.2) r).length<=_
  grind
theorem ZcV:∀{kvs:List (ZJ×V)} {ws:List (Value×Value)},VV (kvs.map λkv=>(kV kv.1,kv.2)) ws->∃rs,Carries (Wn P w) ws rs/\KV kvs rs
 | [],_,r=>by cases r;exact⟨[],y6,.nil⟩
 | p::kvs,_,r=>by
  cases r with
  | @cons a b as bs h t=>
   obtain⟨rs,c,q⟩:=ZcV t;obtain⟨b1,b2⟩:=b;exact⟨(p.1,b2)::rs,⟨UM h.1,rfl,c⟩,.cons ⟨rfl,h.2⟩ q⟩
noncomputable def Zn7 (trs:List (TE×TE)):TE:=fun σ H Q=>∀p,H p=none->ZgU trs σ (Zi H p (.dK [])) λps H2=>H2 p=some (.dK [])/\∃kvs:List (ZJ×V),ps=kvs.map (λkv=>(kV kv.1,kv.2))/\kvs.length<=15/\Q (.ref p) (Zi H2 p (.dK (UK [] kvs)))
theorem ZmQ (h:PPs X pos keys values trs)(hall:keys.all (·.isSome)=true)(hl:keys.length=values.length)(h0:keys≠[])
  (h15:keys.length<=15):PE X (.Dict keys values pos) (Zn7 trs):=by
 intro jI s σ H Q I q;have hn:=I.hok.fresh (qq s.heap.objs.size);have I1:=I.laid (t':=s.toks) (λ_ _ q=>qd _ q) (qq _) (ZcT s.heap I.big);refine wpAny_Dict_walk (knd:=Wn X.prog X.w) hall hl h0 h15 (ZI (h jI _ σ _ _ I1 (q _ hn)) λws s2 ⟨ps,H2,I2,rel,e,kvs,ep,lk,q2⟩=>?_);subst ep;obtain⟨rs,c,rk⟩:=ZcV rel;obtain⟨z,hd,vs0,r0,dd⟩:=ZkA I2.hok e
 cases r0
 refine⟨rs,c,dd,λh' dd' hs=>⟨.ref s.heap.objs.size,_,?_,rfl,q2⟩⟩;have hz:(UK [] kvs).length<=xh:=by
  have h1:=Zbb kvs [];rw[yt]at h1;rw[sizeLine_eq];omega
 have he:∃q,h'.get? s.heap.objs.size=some q:=let ⟨q,_,_,hq,_⟩:=dd';⟨q,hq⟩;exact Be I2 (by rw[e];exact y6) hs he (ZgT hz hd (rk.merge .nil) dd')
section
variable {X:Cx}{jI:Qb}{σ:St}{H:Hp}{s:Shared}{a:Addr}{y d:V}{u r:Value}{o:Option V}{A:xG}{E:xH}
end
section
variable {X:Cx}{o e f:Expr}{apos cpos:Pos}{td ty tx:TE}
end
section
variable {X:Cx}{jI:Qb}{σ:St}{H:Hp}{s:Shared}{a:Addr}{kvs:List (ZJ×V)}{A:xG}{E:xH}
end
section
variable {X:Cx}{jI:Qb}{σ:St}{H:Hp}{s:Shared}{a:Addr}{y:V}{u:Value}{A:xG}{E:xH}
end
end L2
namespace Att
open PySem.W PySem.Calls
theorem Zcu:∀(ns:List Int) (vs:List Value),WellAll P h vs (ns.map WData.int)->IntsAre vs ns:=by
 intro ns
 induction ns with
 | nil=>
  intro vs w
  cases w
  exact .nil
 | cons n ns ih=>
  intro vs w
  cases w with
  | cons a b=>
   cases a
   exact .cons _ _ (ih _ b)
theorem Zi5 {l:OpenLaw}(hn:l.most=some n)
  (hpre:l.row.toRowW.claim.pre args=true) (hwl:WellAll P h vals args) :
  ∃a vs ns,vals=[qS a]/\args=[WData.list (ns.map WData.int)]/\h.get? a=some { cls:=.type "list",data:=.seq vs.toArray }/\IntsAre vs ns/\ns.length<=n:=by
 have hsh:=(pre_splitW hpre).1;have hc:l.pre.holds [] { args:=args }=true:=(pre_splitW hpre).2;obtain⟨d,r,rfl,h1,h2⟩:=hasAllW_cons hsh;obtain rfl:=hasAllW_nil h2;obtain⟨xs,rfl,h3⟩:=hasW_list h1;obtain⟨ns,rfl⟩:=items_int h3;have jQ:ns.length<=n:=by
  have h4:(WTm.not (.lt (.lit (.int (n:Int))) (.len (.arg 0)))).holds [] { args:=[.list (ns.map .int)] }=true:=by
   have h4:=(holds_andW hc).1;simp_all
  have h5:=condW_of h4 (w_not (w_lt w_lit (w_len_list (w_arg rfl))));simp_all
 cases hwl with
 | cons w1 w2=>
  cases w2
  cases w1 with
  | list ho hall=>exact⟨_,_,ns,rfl,rfl,ho,Zcu ns _ hall,jQ⟩
theorem Zi6 (l:OpenLaw)(args:List WData):l.row.toRowW.claim.post args (.bool true) args=true:=
 postW_of
  (show WShape.has [] (.bool true) .bool=true by rfl)
  (show(WTm.eq .res (.lit (.bool true))).value [] { args:=args,res:=some (.bool true),after:=args }=some (.bool (true==true))from w_eq_bool (w_res rfl) w_lit) rfl
theorem attach_call {l:OpenLaw}
  (hn:l.most=some n) (hdf:d.params.defaults=[])
  (call:∀(w:World) (s₀ s₁:Shared) (mg mb:Str->Option Value) (fa:Addr) (o:Obj) (pm cd doc:Value) (a:Addr) (vs:List Value) (ns:List Int),
   Ground q loose [] XP w s₀ mg mb s₁.heap->YP w s₁.heap->
   s₁.heap.get? fa=some o->o.data=.func (docDef d.name d.params d.body d.scope pm cd doc)->s₁.heap.CodeRec cd d.name->mg d.name=some (.ref fa)->
   s₁.heap.get? a=some { cls:=.type "list",data:=.seq vs.toArray }->IntsAre vs ns->ns.length<=n->s₁.gens = #[]->
   xp (xD l.prog w) callerA (.call (.ref fa) ⟨[.ref a],[]⟩) (λr s'=>r=.ok (.ret (.bool true))/\OldK s₁.heap s'.heap/\s'.os=s₁.os/\AllBare s'.gens) s₁) :
  WalkO q loose XP YP l.row.toRowW d [] (λf vs=>qbT f vs):=by
 intro w s₀ s₁ mg mb G Y fa o pm cd doc dV kV ho hd hcd hD hmg hg args vals as hpre hlay hrd hwl hlo;obtain rfl:dV=.none:=Dflts.none hD hdf;obtain rfl:kV=.none:=Dflts.noKw hD;obtain⟨a,vs,ns,rfl,rfl,hobj,hints,jQ⟩:=Zi5 hn hpre hwl;refine enter_call (codeAny_mono (call w s₀ s₁ mg mb fa o pm cd doc a vs ns G Y ho (fd_plain hd) hcd hmg hobj hints jQ hg) λr s' hq=>?_);obtain⟨rfl,h2,h3,h4⟩:=hq;exact⟨.inl ⟨.bool true,.bool true,[],rfl,λ_=>rfl,.bool true,Zi6 l _,λ_=>⟨qa7,λ_ hm=>(nomatch hm)⟩⟩,h2,h3,h4⟩
section
variable {prog:xF}{w:World}{A:xG}{E:xH}{s:Shared}{K:Frag}
end
end Att
namespace L2
theorem Zea:∀{vs:List Value} {ns:List Int},IntsAre vs ns->Zu (ns.map V.int) vs
 | _,_,.nil=>.nil
 | _,_,.cons n t h=>.cons ⟨t,rfl⟩ (Zea h)
noncomputable def W5 (s:Stmt):Arguments:=match s with
 | .FunctionDef _ a _ _ _ _ _ _ _ _=>a
 | _=>{ posonlyargs:=[],args:=[],vararg:=none,kwonlyargs:=[],kw_defaults:=[],kwarg:=none,defaults:=[] }
noncomputable def Wy (s:Stmt):List Stmt:=match s with
 | .FunctionDef _ _ b _ _ _ _ _ _ _=>b
 | _=>[]
noncomputable def Zx (s:Stmt):Scope:=match s with
 | .FunctionDef _ _ _ _ _ _ sc _ _ _=>sc
 | _=>{ kind:=.function,names:=[],isGenerator:=false,isCoroutine:=false }
noncomputable abbrev ZQ:V2:=λ_ _ _ _ _ _=>False
noncomputable abbrev E0:XK:=λ_ _ _=>False
theorem Zh7:ZeL ZQ X E0:=λ_ _ _ _ _ _ _ h=>h.elim
structure Fun (K:qk)(x qual:Str)(st:Stmt)(f:Addr)(fd:xE):Prop where
 ex:∃(oc:Value) (od:Option Addr) (kV doc pm:Value) (an:Option Addr) (cdv ct:Value) (osl:Array (Option Value)),
  fd=yr x qual (W5 st) (Wy st) (Zx st) .none kV doc pm an cdv ct/\K.lookup f=some ⟨oc,od,.func fd,osl⟩/\qao K cdv qual=true
 kp:yd K (.ref f)=true
section
variable {P:xF}{w:World}{K:qk}{mg:Str->Option Value}{base:Heap}
theorem Fun.ok {st:Stmt}(F:Fun K x qual st f fd)(S:FnScope N ps (Zx st))(len:∀vs H Q E,sp vs H Q E->vs.length=ps.length)
  (hbody:∀(cdv:Value) (A:xG) (outer:List Env) (s:Shared) (H:Hp) (vs:List V) (Q:VK) (E:XK),Room k (A.deeper (envOfC qual (Zx st) s.heap.objs.size f cdv))->sp vs H Q E->
   ∃t,Wt (Va ZQ P w K mg base N qual (Zx st) f cdv A outer s H E).nox (Wy st) t/\t { nx:=λ_ H'=>Q .non H',rt:=Q } (start N vs) H):FnOk P w K mg base ZQ (k+1) f fd ps sp:=by
 obtain⟨oc,od,kV,doc,pm,an,cdv,ct,osl,rfl,lk,hcd⟩:=F.ex;refine Zn2 lk hcd S len λA outer s H vs Q E hr hsp=>?_;obtain⟨t,h,q⟩:=hbody cdv A outer s H vs Q E hr hsp;exact⟨t,h.nox,q⟩
theorem Fun.binds {st:Stmt}(F:Fun K x qual st f fd)
  (h:∀(kV doc pm:Value) (an:Option Addr) (cdv ct:Value) (us:List Value),us.length=ps.length->bindArgs (yr x qual (W5 st) (Wy st) (Zx st) .none kV doc pm an cdv ct) ⟨us,[]⟩=pure (ps.zip us)):Wh K fd ps []:=by
 obtain⟨oc,od,kV,doc,pm,an,cdv,ct,osl,rfl,lk,hcd⟩:=F.ex;exact .all (h kV doc pm an cdv ct)
theorem ZoU {st:Stmt}{kV:Value}(l:K.lookup f=some ⟨oc,od,.func (yr x qual (W5 st) (Wy st) (Zx st) .none kV doc pm an cdv ct),osl⟩)
  (c:qao K cdv qual=true) (k:yd K (.ref f)=true):Fun K x qual st f (yr x qual (W5 st) (Wy st) (Zx st) .none kV doc pm an cdv ct):=⟨⟨oc,od,kV,doc,pm,an,cdv,ct,osl,rfl,l,c⟩,k⟩
end
theorem hu_of (hr:Room k A):A.units+1<cLine:=Nat.lt_of_le_of_lt (Nat.add_le_add_left (by decide:1<=64) _) hr.units
section
variable {X:Cx}
theorem pv (i:Nat){pos:Pos}(hN:X.N[i]?=some x:=by rfl)(hv:JL X.env.scope x:=by first | exact qJ rfl | exact yi (qJ rfl) | exact yi (yi rfl))(hd:(x==("__debug__" : Str))=false:=by decide)
  (hcd:(x==("__classdict__" : Str))=false:=by decide):PE X (.Name x pos) (Z6 i):=Zou hN hv hd hcd
end
theorem Ur {A:Prop}(h:B):if false=true then A else B:=by
 grind
theorem VD {A:Prop}(h:A):if true=true then A else B:=by
 exact h
section
variable {X:Cx}
end
section
variable {κ:Type}[DecidableEq κ]
end
theorem ZfB (I:Nat->Shared->Prop)
  (turn:∀n s,I n s->xg (xD prog w) A (pyNext it) (λr s₁=>match r with
   | none=>R (.ok .next) s₁
   | some v=>xg (xD prog w) A (letOwnedTupleGo target it v) (λ_ s₁'=>xg (xD prog w) A (assign target env v) (λ_ s₂=>
     xg (xD prog w) A (forIn ifs true λc r=>if r=true then do let ok<-isTrue c env (eval c env);pure (yS ok)else pure (yS r)) (λok s₃=>
      if ok=true then xg (xD prog w) A (eval elt env) (λx s₄=>
       xg (xD prog w) A (call (.builtin "list.append") [jO,x]) (λ_ s₅=>∃m,m<n/\I m s₅) (notedBy (xD prog w) A env λe s'=>R (.error e) s') s₄) (notedBy (xD prog w) A env λe s'=>R (.error e) s') s₃
      else ∃m,m<n/\I m s₃) (notedBy (xD prog w) A env λe s'=>R (.error e) s') s₂) (notedBy (xD prog w) A env λe s'=>R (.error e) s') s₁') (notedBy (xD prog w) A env λe s'=>R (.error e) s') s₁) (notedBy (xD prog w) A env λe s'=>R (.error e) s') s)
  (n:Nat) (h:I n s) :
  xp (xD prog w) A (.compLoop (.ListComp elt [⟨target,iter,ifs,0⟩] scope pos) 0 it jO env) R s:=by
 refine codeAny_loop rfl I (λn s hI=>?_) n h;show xg _ A ((compTurn (.ListComp elt [⟨target,iter,ifs,0⟩] scope pos) 0 it jO env).onRaise (λx=>do noteFrame x env;theTreesLotGoes x)) _ _ s;refine wpAny_noted ?_;rw[compTurn_list];refine xb (wpAny_standAt (xb (xf (turn n s hI) (λr s₁ h₁=>?_) λ_ _ h'=>h')))
 cases r with
 | none=>exact xc h₁
 | some v=>
  refine xb (xf h₁ (λ_ s₁' h₁'=>?_) λ_ _ h'=>h');refine xb (xf h₁' (λ_ s₂ h₂=>xb (xf h₂ (λok s₃ h₃=>?_) λ_ _ h'=>h')) λ_ _ h'=>h')
  cases ok with
  | false=>exact xc ⟨rfl,h₃⟩
  | true=>
   exact xb (xb (xf h₃ (λx s₄ h₄=>xb (xf h₄ (λ_ s₅ h₅=>xc (xc ⟨rfl,h₅⟩)) λ_ _ h'=>h')) λ_ _ h'=>h'))
noncomputable def blk (X:Cx)(jI:Qb)(N':List Str)(scope:Scope)(cl:List (Str×Addr))(C:Addr)(s:Shared)(H:Hp)(fp:List Addr):Cx where
 prog:=X.prog
 w:=X.w
 K:=X.K
 mg:=X.mg
 base:=X.base
 A:=X.A
 N:=N'
 s₀:=s
 H₀:=H
 env:=compEnvC scope cl C X.env
 outer:=X.stack
 stack:=X.stack
 ex:=fp
 fn:=λ_=>false
 calm:=X.calm
 pn:=X.pn++jI
 xe:=λ_ _=>False
noncomputable def Vp (X:Cx)(ifs:List Expr)(t:TT):Prop:=
 ∀(jI:Qb) (s:Shared) (σ:St) (H:Hp) (Q:Bool->Hp->Prop),Inv X jI σ H s->t σ H Q->
  xg (xD X.prog X.w) X.A (forIn ifs true λc r=>if r=true then do let ok<-isTrue c X.env (eval c X.env);pure (yS ok)else pure (yS r)) (TP X jI σ Q) X.xe s
noncomputable def Zh8:TT:=λ_ H Q=>Q true H
theorem ZfC:Vp X [] Zh8:=λ_ _ _ H _ I h=>xc ⟨H,I,h⟩
theorem ZfD (h:PT X c t):Vp X [c] t:=λjI s σ H Q I hq=>wpAny_tests_one (h jI s σ H Q I hq)
structure BlkOk (X:Cx)(N':List Str)(src:List (Option Nat))(scope:Scope)(cl:List (Str×Addr)):Prop where
 clos:closureFor scope X.env=pure cl
 nocell:∀y∈scope.names,y.2≠.cell
 kind:scope.kind=.function
 names:∀y∈scope.names,y.2=.local->scope.names.lookup y.1=some .local
 len:src.length=N'.length
 cells:∀x c,cl.lookup x=some c->X.env.cells.lookup x=some c
 has:∀x,((relabel scope X.env).names.lookup x=some .cell∨(relabel scope X.env).names.lookup x=some .free)->∃c,cl.lookup x=some c
 from_:∀(i j:Nat) x,src[i]?=some (some j)->N'[i]?=some x->X.N[j]?=some x/\(X.env.kindOf x=some .cell∨X.env.kindOf x=some .free)/\((relabel scope X.env).names.lookup x=some .cell∨(relabel scope X.env).names.lookup x=some .free)
noncomputable def VA (src:List (Option Nat))(σ:St):St:=src.map λo=>o.bind λj=>(σ[j]?).bind id
theorem ZmR {σ:St}{C:Addr}
  (B:BlkOk X N' src scope cl) (I:Inv X jI σ H s) (hf:∀b∈fp,Wq X jI H b) (hC:s.heap.objs.size<=C) (hCf:∀b∈fp,b≠C)
  (hs:s1.os=s.os) (hg:s1.gens=s.gens) (hk:∀b o,s.heap.get? b=some o->s1.heap.get? b=some o) (hn:s1.heap.Ns C m):Inv (blk X jI N' scope cl C s H fp) [] (VA src σ) H s1:=by
 have noC:∀b o,s.heap.get? b=some o->b≠C:=λb o e=>qD (qT (qC e) hC);refine⟨⟨I.ok.mod,B.kind,I.ok.glob,I.ok.blt,hC,λx y c h1 h2=>I.ok.inj x y c (B.cells _ _ h1) (B.cells _ _ h2),λx hx=>B.has x hx,λx c hf _=>(by cases hf),I.ok.hd,I.ok.frames,.inl rfl,λb hb=>?_,I.bs,qV I.ok.bsz I.sz,λb o e hb=>?_,λb hb z=>?_,I.stack,I.stkFree⟩,
  hs,by rw[hg];exact I.bare,Un.kept hk,⟨m,hn,λi x v h1 h2 h3=>?_⟩,λx c e=>?_,I.hok.fresh hC,λx c e=>I.freeC x c (B.cells _ _ e),λp hp=>?_,I.hok.kept hk,?_⟩
 ·obtain⟨f0,f1,f2,f3,f4,f5⟩:=hf b hb
  exact⟨hCf b hb,λx c e=>f4 x c (B.cells _ _ e)⟩
 ·obtain⟨f0,f1,f2,f3,f4,f5⟩:=hf b hb
  rcases f3 with z | z
  ·exact I.ok.noex b o e z
  ·exact absurd (qT (qC (I.ok.bs b o e).1) z) (yk _)
 ·obtain⟨f0,f1,f2,f3,f4,f5⟩:=hf b hb
  rcases qy.mp (I.stkSub b z)with e | e
  ·exact f1 e
  ·exact f2 e
 ·have h2':(VA src σ)[i]?=some (some v):=h2
  unfold VA at h2';rw[qM]at h2'
  cases e:src[i]? with
  | none=>rw[e]at h2';cases h2'
  | some o=>
   rw[e]at h2'
   cases o with
   | none=>simp at h2'
   | some j=>
    obtain⟨q1,q2,q3⟩:=B.from_ i j x e h1;have hj:σ[j]?=some (some v):=by
     simp only[qbt,Option.bind_some,Option.some.injEq]at h2'
     cases e2:σ[j]? with
     | none=>rw[e2]at h2';cases h2'
     | some o2=>rw[e2]at h2';simp at h2';rw[h2']
    obtain⟨mm,hnn,hl⟩:=I.loc;have vis:JL X.env.scope x:=by
     rcases q2 with z | z
     ·exact .inr (.inl z)
     ·exact .inr (.inr z)
    obtain⟨u,r,l⟩:=hl j x v q1 hj vis;refine⟨u,r,?_⟩;rcases l with⟨k,_⟩ | ⟨_,c,ec,z⟩
    ·rcases q2 with z | z <;> rw[z]at k <;> cases k
    ·obtain⟨c',ec'⟩:=B.has x q3
     have ee:c'=c:=by
      have:=B.cells _ _ ec';rw[ec]at this;simp_all
     subst ee;obtain⟨o,ho,hd⟩:=z;exact .inr ⟨q3,c',ec',o,hk _ _ ho,hd⟩
 ·obtain⟨v,o,ho,hd⟩:=I.cell x c (B.cells _ _ e)
  exact⟨v,o,hk _ _ ho,hd⟩
 ·have hp':p∈X.pn++jI:=by simpa[blk]using hp
  obtain⟨e,n,ne,nf,d⟩:=I.pin p hp';refine⟨hk _ _ e,n,noC _ _ e,λz=>?_,d⟩;rcases qy.mp (I.stkSub p.1 z)with q | q
  ·exact ne q
  ·exact nf q
 ·show(VA src σ).length=N'.length
  unfold VA;rw[qj,B.len]
noncomputable def Jy (src:List (Option Nat))(wi:TI)(g:TG)(tt:TT)(te:TE):TE:=fun σ H Q=>wi σ H λJ H1=>∀p,H1 p=none->
 ∃W:Nat->Nat->St->Hp->Prop,(∃m,W 0 m (VA src σ) (Zi H1 p (.lst [])))/\∀i m σ2 H2,W i m σ2 H2->
  (J.stop i H2/\Q (.ref p) H2)∨(J.go i H2/\∀x H3,J.yld i H2 x H3->g x σ2 H3 fun σ4 H4=>tt σ4 H4 λok H5=>
   if ok=true then te σ4 H5 λy H6=>∃xs,H6 p=some (.lst xs)/\xs.length<xh/\∃m',m'<m/\W (i+1) m' σ4 (Zi H6 p (.lst (xs ++ [y])))
   else ∃m',m'<m/\W (i+1) m' σ4 H5)
theorem Zeb
  {σ:St} {Qp:Addr->Hp->Prop} {RR:Value->Addr->Result->Shared->Prop}
  (hc:X.calm=true) (B:BlkOk X N' src scope cl)
  (hg:∀jI C s H fp,PG (blk X jI N' scope cl C s H fp) tg g) (ht:∀jI C s H fp,Vp (blk X jI N' scope cl C s H fp) ifs tt) (he:∀jI C s H fp,PE (blk X jI N' scope cl C s H fp) elt te)
  (I2:Inv X jI σ H2 s₂) (T:Turn X.prog X.w X.K tg J fp it tn) (jW:tn 0 s₂.heap) (f2:∀b∈fp,Wq X jI H2 b)
  (q2:∀p,H2 p=none->∃W:Nat->Nat->St->Hp->Prop,(∃m,W 0 m (VA src σ) (Zi H2 p (.lst [])))/\∀i m σ2 H2,W i m σ2 H2->
   (J.stop i H2/\Qp p H2)∨(J.go i H2/\∀x H3,J.yld i H2 x H3->g x σ2 H3 fun σ4 H4=>tt σ4 H4 λok H5=>
    if ok=true then te σ4 H5 λy H6=>∃xs,H6 p=some (.lst xs)/\xs.length<xh/\∃m',m'<m/\W (i+1) m' σ4 (Zi H6 p (.lst (xs ++ [y])))
    else ∃m',m'<m/\W (i+1) m' σ4 H5))
  (hfin:∀p C s6 H5 mm,Inv X jI σ H5 s6->s6.heap.Ns C mm->Wq X jI H5 C->Qp p H5->RR (.ref p) C (.ok .next) s6) :
  xg (xD X.prog X.w) X.A (newList []) (λjO s₃=>xg (xD X.prog X.w) X.A (newFunctionEnv scope X.env.globals cl [] X.env.qual none .none (some X.env)) (λcenv s₄=>
   xp (xD X.prog X.w) X.A (.compStart (.ListComp elt [⟨tg,iter,ifs,0⟩] scope pos) 0 (.ref it) jO { cenv with scope:=relabel scope X.env }) (RR jO cenv.locals) s₄) E s₃) E s₂:=by
 have fpold:∀b∈fp,b<s₂.heap.objs.size:=λb hb=>by
  obtain⟨o,e,_⟩:=T.obj _ _ jW b hb;exact qC e
 have q2:=q2 s₂.heap.objs.size (I2.hok.fresh (qq _));obtain⟨W,⟨m0,w0⟩,turn⟩:=q2
 -- the new list
 refine xm ?_;have I3:Inv X jI σ (Zi H2 s₂.heap.objs.size (.lst [])) { s₂ with heap:=s₂.heap.push { cls:=.type "list",dict:=none,data:=.seq ([]:List Value).toArray } }:=
  I2.lnew (t':=s₂.toks) (ys:=[]) .nil (zk _)
 have st3:tn 0 (s₂.heap.push { cls:=.type "list",dict:=none,data:=.seq ([]:List Value).toArray }):=T.keep _ _ _ jW λb _ o e=>qd _ e;have f3:∀b∈fp,Wq X jI (Zi H2 s₂.heap.objs.size (.lst [])) b:=λb hb=>by
  obtain⟨f0,f1⟩:=f2 b hb;exact⟨by rw[Zn (qD (fpold b hb))];exact f0,f1⟩
 generalize hs3:({ s₂ with heap:=s₂.heap.push { cls:=.type "list",dict:=none,data:=.seq ([]:List Value).toArray } }:Shared)=s₃ at I3;have st3':tn 0 s₃.heap:=by rw[<-hs3];exact st3
 have lt3:s₂.heap.objs.size<s₃.heap.objs.size:=by rw[<-hs3];show _<(Heap.push _ _).objs.size;rw[zN];exact z9 _
 refine wpAny_newFunctionEnv B.nocell (by intro y hy;simp at hy) (λh₁ hns₁ hsb₁=>?_) B.kind;have kp1:∀b o,s₃.heap.get? b=some o->h₁.get? b=some o:=λb o e=>hsb₁.extBut b o (qD (qC e)) (qd _ e);have I4:=ZmR (s1:={ s₃ with heap:=h₁,toks:=s₃.toks+([]:List (Str×Value)).length }) (C:=s₃.heap.objs.size) B I3 f3 (qq _) (λb hb=>qD (yI (fpold b hb) lt3)) rfl rfl kp1 hns₁;have st4:tn 0 h₁:=T.keep _ _ _ st3' λb _ o e=>kp1 b o e;show xp (xD X.prog X.w) X.A (.compStart (.ListComp elt [⟨tg,iter,ifs,0⟩] scope pos) 0 (.ref it) (.ref s₂.heap.objs.size) (compEnvC scope cl s₃.heap.objs.size X.env)) (RR (.ref s₂.heap.objs.size) s₃.heap.objs.size) _;generalize hs4:({ s₃ with heap:=h₁,toks:=s₃.toks+([]:List (Str×Value)).length }:Shared)=s₄ at I4;have st4':tn 0 s₄.heap:=by rw[<-hs4];exact st4
 have blkX:∀{b:Addr} {H':Hp},b∈fp->H' b=none->Wq (blk X jI N' scope cl s₃.heap.objs.size s₃ (Zi H2 s₂.heap.objs.size (.lst [])) fp) [] H' b:=λ{b H'} hb hn=>by
  obtain⟨f0,f1,f2',f3',f4',f5'⟩:=f3 b hb;refine⟨hn,qD (yI (fpold b hb) lt3),λz=>?_,.inl hb,λx c e=>f4' x c (B.cells _ _ e),λp hp=>?_⟩
  ·rcases qy.mp (I3.stkSub b z)with e | e
   ·exact f1 e
   ·exact f2' e
  ·exact f5' p (by simpa[blk]using hp)
 have loop:xp (xD X.prog X.w) X.A (.compLoop (.ListComp elt [⟨tg,iter,ifs,0⟩] scope pos) 0 (.ref it) (.ref s₂.heap.objs.size) (compEnvC scope cl s₃.heap.objs.size X.env)) (RR (.ref s₂.heap.objs.size) s₃.heap.objs.size) s₄:=by
  refine ZfB (λn s'=>∃i σ' H',Inv (blk X jI N' scope cl s₃.heap.objs.size s₃ (Zi H2 s₂.heap.objs.size (.lst [])) fp) [] σ' H' s'/\tn i s'.heap/\(∀b∈fp,H' b=none)/\W i n σ' H') ?_ m0 ⟨0,_,_,I4,st4',λb hb=>(f3 b hb).1,w0⟩;rintro n s5 ⟨i,σ5,H5,I5,st5,fr5,w5⟩;rcases turn i n σ5 H5 w5 with⟨stop,qn⟩ | ⟨go,step⟩
  ·refine xf (T.done (blk X jI N' scope cl s₃.heap.objs.size s₃ (Zi H2 s₂.heap.objs.size (.lst [])) fp) rfl rfl rfl hc i [] s5 σ5 H5 (λ_ _=>False) I5 (λb hb=>blkX hb (fr5 b hb)) st5 stop) (λr s6 ⟨hr,I6⟩=>?_) λ_ _ f=>f.elim
   subst hr;obtain⟨mm,hnn,_⟩:=id I6.loc;have nC:H5 s₃.heap.objs.size=none:=I6.free;have J1:Inv X jI σ H5 s6:=by
    refine I3.call' (ch:=fp) I6.os I6.base I6.hok I6.bare λb hb=>?_;obtain⟨f0,f1,f2',f3',f4',f5'⟩:=f3 b hb;exact⟨f3',f1,f4',f5'⟩
   exact hfin _ _ s6 H5 mm J1 hnn (I3.fpOk (qq _) nC) qn
  ·refine xf (T.item (blk X jI N' scope cl s₃.heap.objs.size s₃ (Zi H2 s₂.heap.objs.size (.lst [])) fp) rfl rfl rfl hc i [] s5 σ5 H5 (λ_ _=>False) I5 (λb hb=>blkX hb (fr5 b hb)) st5 go) (λr s6 ⟨u,hr,h6⟩=>?_) λ_ _ f=>f.elim
   subst hr;refine xf h6 (λ_ s7 ⟨x,H7,I7,r7,y7,st7,fr7⟩=>?_) λ_ _ f=>f.elim;have I7':=I7.pinned (λb hb=>blkX hb (fr7 b hb)) (T.obj _ _ st7);refine xf (hg _ _ _ _ _ _ s7 σ5 H7 x u _ I7' r7 (step x H7 y7)) (λ_ s8 ⟨σ8,H8,I8,q8⟩=>?_) λ_ _ f=>f.elim;refine xf (ht _ _ _ _ _ _ s8 σ8 H8 _ I8 q8) (λok s9 ⟨H9,I9,q9⟩=>?_) λ_ _ f=>f.elim;have again:∀{σ7:St} {H7:Hp} {sz:Shared},Inv (blk X jI N' scope cl s₃.heap.objs.size s₃ (Zi H2 s₂.heap.objs.size (.lst [])) fp) ([]++Bj fp s7.heap) σ7 H7 sz->(∃m',m'<n/\W (i+1) m' σ7 H7)->
     ∃m,m<n/\∃i σ' H',Inv (blk X jI N' scope cl s₃.heap.objs.size s₃ (Zi H2 s₂.heap.objs.size (.lst [])) fp) [] σ' H' sz/\tn i sz.heap/\(∀b∈fp,H' b=none)/\W i m σ' H':=λ{σ7 H7 sz} Iz ⟨m',hm,wz⟩=>by
    refine⟨m',hm,i+1,σ7,H7,Iz.unpinned,T.keep _ _ _ st7 λb hb o e=>(Iz.pin (b,o) (qp _ (qp _ (U8 hb e)))).1,λb hb=>?_,wz⟩;obtain⟨o,e,d⟩:=T.obj _ _ st7 b hb;exact(Iz.pin (b,o) (qp _ (qp _ (U8 hb e)))).2.1
   cases ok with
   | false=>
    show ∃m,m<n/\_;exact again I9 (by simpa using q9)
   | true=>
    have q9':te σ8 H9 λy H6=>∃xs,H6 s₂.heap.objs.size=some (.lst xs)/\xs.length<xh/\∃m',m'<n/\W (i+1) m' σ8 (Zi H6 s₂.heap.objs.size (.lst (xs ++ [y]))):=by simpa using q9
    show xg _ _ _ _ _ _;refine xf (he _ _ _ _ _ _ s9 σ8 H9 _ I9 q9') (λy sA ⟨yv,HA,IA,rA,xs,eA,zA,mA⟩=>?_) λ_ _ f=>f.elim;refine xf (Zd7 (X:=blk X jI N' scope cl s₃.heap.objs.size s₃ (Zi H2 s₂.heap.objs.size (.lst [])) fp) _ sA σ8 HA (.ref s₂.heap.objs.size) [yv] (.ref s₂.heap.objs.size) [y] (λ_ HB=>HB=Zi HA s₂.heap.objs.size (.lst (xs ++ [yv]))) IA rfl (.cons rA .nil) ⟨_,xs,yv,rfl,rfl,eA,zA,rfl⟩) (λ_ sB ⟨_,HB,IB,_,eB⟩=>?_) λ_ _ f=>f.elim;subst eB;exact again IB mA
 exact codeAny_compStart_list loop (T.self _ 0 _ _ _ st4' loop)
theorem Zh9
  (hc:X.calm=true) (B:BlkOk X N' src scope cl) (hi:PI X tg iter wi)
  (hg:∀jI C s H fp,PG (blk X jI N' scope cl C s H fp) tg g) (ht:∀jI C s H fp,Vp (blk X jI N' scope cl C s H fp) ifs tt) (he:∀jI C s H fp,PE (blk X jI N' scope cl C s H fp) elt te)
  (hs:∀x,foldedSetIterable iter X.env x=pure x:=by intro _;rfl):PE X (.ListComp elt [⟨tg,iter,ifs,0⟩] scope pos) (Jy src wi g tt te):=by
 intro jI s σ H Q I h;refine wpAny_comprehension_free rfl hs B.clos B.kind B.names (xf (hi jI s σ H _ I h) (λxv s₁ h₁=>xf h₁ (λit s₂ h₂=>?_) λ_ _ e=>e) λ_ _ e=>e);obtain⟨it,fp,tn,J,H2,e,I2,T,jW,f2,q2⟩:=h₂;subst e;refine Zeb hc B hg ht he I2 T jW f2 q2 ?_;intro p C s6 H5 mm J1 hnn fC qn;refine⟨mm,hnn,λh' sb=>?_⟩;obtain⟨c0,c1,c2,c3,c4,c5⟩:=fC;exact⟨.ref p,H5,J1.turned (λb o hb e=>(sb.2 b hb).trans e) c0 c1 c3 c4 c5,rfl,qn⟩
theorem ZmS {spos:Pos}
  (hN:X.N.Nodup) (hi':X.N[i]?=some x) (hx:WH X.env.scope x)
  (hc:X.calm=true) (B:BlkOk X N' src scope cl) (hi:PI X tg iter wi)
  (hg:∀jI C s H fp,PG (blk X jI N' scope cl C s H fp) tg g) (ht:∀jI C s H fp,Vp (blk X jI N' scope cl C s H fp) ifs tt) (he:∀jI C s H fp,PE (blk X jI N' scope cl C s H fp) elt te)
  (hsw:xt (.ListComp elt [⟨tg,iter,ifs,0⟩] scope pos) (some (.Name x pos')) spos.line X.env=pure true:=by rfl)
  (hs:∀x,foldedSetIterable iter X.env x=pure x:=by intro _;rfl)
  (hf:X.fn x=true∨X.env.scope.names.lookup x=some .local:=by first | exact .inl rfl | exact .inr rfl | assumption) :
  PS X (.Assign [.Name x pos'] (.ListComp elt [⟨tg,iter,ifs,0⟩] scope pos) spos) (λD σ H=>Jy src wi g tt te σ H λy H1=>D.nx (σ.set i (some y)) H1):=by
 intro jI s σ H D I h;rw[exec_Assign_Name_used _ _ _ _ hsw];refine xb (wpAny_standAt (xb ?_));show xg _ _ (do let _<-comprehension (.ListComp elt [⟨tg,iter,ifs,0⟩] scope pos) scope X.env _ (newList []) false (eval iter X.env) (some (assign (.Name x pos') X.env))) _ _ s;refine xb (xf (wpAny_comprehension_free (use:=some (assign (.Name x pos') X.env)) (Q:=λ_ s'=>SP X jI D .next s') rfl hs B.clos B.kind B.names
  (xf (hi jI s σ H _ I h) (λxv s₁ h₁=>xf h₁ (λit s₂ h₂=>?_) λ_ _ e=>e) λ_ _ e=>e)) (λ_ s' hq=>xc (xc hq)) λ_ _ e=>e)
 obtain⟨it,fp,tn,J,H2,e,I2,T,jW,f2,q2⟩:=h₂;subst e;refine Zeb (RR:=λjO C=>compPost (xD X.prog X.w) X.A X.xe (some (assign (.Name x pos') X.env)) (λ_ s'=>SP X jI D .next s') jO C) (Qp:=λp H=>D.nx (σ.set i (some (.ref p))) H) hc B hg ht he I2 T jW f2 q2 ?_;intro p C s6 H5 mm J1 hnn fC qn;obtain⟨oC,es,ep,hoC,hdC,hrC⟩:=id hnn;have fC':∀b∈[C],Wq X jI H5 b:=by
  intro b hb;have e:b=C:=by simpa using hb
  rw[e];exact fC
 have oC':∀b∈[C],∃o,s6.heap.get? b=some o/\∀v,o.data≠.cell v:=by
  intro b hb;have e:b=C:=by simpa using hb
  rw[e];exact⟨oC,hoC,λv z=>by rw[hdC]at z;cases z⟩
 have J2:=J1.pinned fC' oC';refine xf (WO hN hi' hx hf _ s6 σ H5 (.ref p) (.ref p) (fun σ' H'=>σ'=σ.set i (some (.ref p))/\H'=H5) J2 rfl ⟨rfl,rfl⟩) (λ_ s7 ⟨σ7,H7,I7,e7,e7'⟩=>?_) λ_ _ e=>e;subst e7 e7';have pC:=I7.pin (C,oC) (qp _ (qp _ (U8 (by simp) hoC)));refine⟨mm,⟨oC,es,ep,pC.1,hdC,hrC⟩,λh' sb=>?_⟩;obtain⟨c0,c1,c2,c3,c4,c5⟩:=fC;exact⟨_,_,(I7.unpinned).turned (λb o hb e=>(sb.2 b hb).trans e) c0 c1 c3 c4 c5,qn⟩
end L2
namespace TF
open L2
inductive D where
 | non | bl (b:Bool) | int (i:Int) | str (x:Str) | tup (xs:List D) | lst (xs:List D)
 | dk (kvs:List (ZJ×V)) | dt (kvs:List (List ZJ×V)) | du (kvs:List (List ZJ×V)) | df (kvs:List (ZJ×V)) | pen | ty (n:String) | clo (t:Nat) (caps:List D)
noncomputable abbrev St:=L2.St
noncomputable abbrev Pn:=List Int×List Int
noncomputable abbrev M (α:Type):=Pn->Option (α×Pn)
noncomputable abbrev Zc:=List (Option D)
noncomputable def Zy {α:Type}(a:α):M α:=λs=>some (a,s)
noncomputable def Zp {α β:Type}(m:M α)(k:α->M β):M β:=λs=>match m s with | none=>none | some p=>k p.1 p.2
noncomputable def Zv {α:Type}:M α:=λ_=>none
noncomputable def YI {α:Type}(o:Option α):M α:=λs=>match o with | none=>none | some a=>some (a,s)
theorem ZA {m:M α}{k:α->M β}{b:β}(h:Zp m k s=some (b,s')):∃a s1,m s=some (a,s1)/\k a s1=some (b,s'):=by
 unfold Zp at h
 cases e:m s with
 | none=>simp_all
 | some p=>rw[e]at h;exact⟨p.1,p.2,rfl,h⟩
theorem ZM {a b:α}(h:Zy a s=some (b,s')):b=a/\s'=s:=by
 unfold Zy at h
 grind
theorem Wx {o:Option α}{b:α}(h:YI o s=some (b,s')):o=some b/\s'=s:=by
 unfold YI at h
 cases e:o with
 | none=>simp_all
 | some a=>simp_all
structure Gh where
 fp:Addr->Prop
 rd:Addr->Prop
 pen:V
 st:Pn->Hp->Prop
 mono:∀s H H',st s H->(∀b o,rd b->H b=some o->H' b=some o)->(∀b φ,H b=some (.ext φ)->H' b=some (.ext φ))->st s H'
 sub:∀b,fp b->rd b
 dom:∀s H b,st s H->rd b->∃o,H b=some o
 ntp:∀s H b vs,st s H->fp b->H b≠some (.tup vs)
 clo:Nat->V->List V->Prop:=λ_ _ _=>False
mutual
noncomputable def Zl (G:Gh)(H:Hp):D->V->Prop
 | .non,v=>v=.non
 | .bl b,v=>v=.bl b
 | .int i,v=>v=.int i
 | .str x,v=>v=.str x
 | .tup ds,v=>∃a vs,v=.ref a/\¬G.fp a/\H a=some (.tup vs)/\Zj G H ds vs
 | .lst ds,v=>∃a vs,v=.ref a/\¬G.fp a/\H a=some (.lst vs)/\Zj G H ds vs
 | .dk kvs,v=>∃a,v=.ref a/\¬G.fp a/\H a=some (.dK kvs)
 | .dt kvs,v=>∃a o,v=.ref a/\¬G.fp a/\H a=some (.frz o (.dT kvs))
 | .du kvs,v=>∃a,v=.ref a/\¬G.fp a/\H a=some (.dT kvs)
 | .df kvs,v=>∃a o,v=.ref a/\¬G.fp a/\H a=some (.frz o (.dK kvs))
 | .pen,v=>v=G.pen
 | .ty n,v=>v=.ty n
 | .clo t ds,v=>∃vs,G.clo t v vs/\Zj G H ds vs
noncomputable def Zj (G:Gh)(H:Hp):List D->List V->Prop
 | [],vs=>vs=[]
 | d::ds,vs=>∃v r,vs=v::r/\Zl G H d v/\Zj G H ds r
end
noncomputable def Zz (G:Gh)(H H':Hp):Prop:=∀b o,¬G.fp b->H b=some o->H' b=some o
theorem Zz.refl (G:Gh)(H:Hp):Zz G H H:=λ_ _ _ e=>e
theorem Zz.trans (a:Zz G H H1)(b:Zz G H1 H2):Zz G H H2:=λc o n e=>b c o n (a c o n e)
mutual
theorem Zl.ext {G:Gh}{H H':Hp}(e:Zz G H H'):∀{d:D} {v:V},Zl G H d v->Zl G H' d v
 | .non,_,h=>h
 | .bl _,_,h=>h
 | .int _,_,h=>h
 | .str _,_,h=>h
 | .tup ds,v,h=>by
  unfold Zl at h⊢;obtain⟨a,vs,e1,n,e2,r⟩:=h;exact⟨a,vs,e1,n,e _ _ n e2,Zj.ext e r⟩
 | .lst ds,v,h=>by
  unfold Zl at h⊢;obtain⟨a,vs,e1,n,e2,r⟩:=h;exact⟨a,vs,e1,n,e _ _ n e2,Zj.ext e r⟩
 | .dk kvs,v,h=>by
  unfold Zl at h⊢;obtain⟨a,e1,n,e2⟩:=h;exact⟨a,e1,n,e _ _ n e2⟩
 | .dt kvs,v,h=>by
  unfold Zl at h⊢;obtain⟨a,o,e1,n,e2⟩:=h;exact⟨a,o,e1,n,e _ _ n e2⟩
 | .df kvs,v,h=>by
  unfold Zl at h⊢;obtain⟨a,o,e1,n,e2⟩:=h;exact⟨a,o,e1,n,e _ _ n e2⟩
 | .du kvs,v,h=>by
  unfold Zl at h⊢;obtain⟨a,e1,n,e2⟩:=h;exact⟨a,e1,n,e _ _ n e2⟩
 | .pen,_,h=>h
 | .ty _,_,h=>h
 | .clo t ds,v,h=>by
  unfold Zl at h⊢;obtain⟨vs,c,r⟩:=h;exact⟨vs,c,Zj.ext e r⟩
theorem Zj.ext {G:Gh}{H H':Hp}(e:Zz G H H'):∀{ds:List D} {vs:List V},Zj G H ds vs->Zj G H' ds vs
 | [],_,h=>h
 | d::ds,vs,h=>by
  unfold Zj at h⊢;obtain⟨v,r,e1,r1,r2⟩:=h;exact⟨v,r,e1,Zl.ext e r1,Zj.ext e r2⟩
end
section
variable {G:Gh}{H:Hp}
theorem jc:Zl G H (.tup ds) v↔∃a vs,v=.ref a/\¬G.fp a/\H a=some (.tup vs)/\Zj G H ds vs:=by rfl
theorem jb:Zl G H (.lst ds) v↔∃a vs,v=.ref a/\¬G.fp a/\H a=some (.lst vs)/\Zj G H ds vs:=by rfl
theorem jj:Zl G H (.dk kvs) v↔∃a,v=.ref a/\¬G.fp a/\H a=some (.dK kvs):=by rfl
theorem jl:Zl G H (.dt kvs) v↔∃a o,v=.ref a/\¬G.fp a/\H a=some (.frz o (.dT kvs)):=by rfl
theorem jm:Zl G H (.du kvs) v↔∃a,v=.ref a/\¬G.fp a/\H a=some (.dT kvs):=by rfl
theorem jr:Zl G H (.df kvs) v↔∃a o,v=.ref a/\¬G.fp a/\H a=some (.frz o (.dK kvs)):=by rfl
theorem ja:Zl G H (.int i) v↔v=.int i:=by rfl
theorem je:Zl G H (.bl b) v↔v=.bl b:=by rfl
theorem ji:Zl G H (.str b) v↔v=.str b:=by rfl
theorem jg:Zl G H .non v↔v=.non:=by rfl
theorem jo:Zl G H .pen v↔v=G.pen:=by rfl
theorem jt:Zl G H (.ty n) v↔v=.ty n:=by rfl
theorem jy:Zl G H (.clo t ds) v↔∃vs,G.clo t v vs/\Zj G H ds vs:=by rfl
theorem Zj.nil_iff:Zj G H [] vs↔vs=[]:=by rfl
theorem jd:Zj G H (d::ds) vs↔∃v r,vs=v::r/\Zl G H d v/\Zj G H ds r:=by
 rfl
theorem Zj.length:∀{ds:List D} {vs:List V},Zj G H ds vs->ds.length=vs.length
 | [],vs,h=>by rw[Zj.nil_iff.mp h];rfl
 | d::ds,vs,h=>by
  obtain⟨v,r,rfl,_,h2⟩:=jd.mp h;simp[Zj.length h2]
theorem Zj.get:∀{ds:List D} {vs:List V} {i:Nat} {d:D},Zj G H ds vs->ds[i]?=some d->∃v,vs[i]?=some v/\Zl G H d v
 | [],_,_,_,_,e=>by simp at e
 | d::ds,vs,0,d',h,e=>by
  obtain⟨v,r,rfl,h1,_⟩:=jd.mp h;simp_all
 | d::ds,vs,i+1,d',h,e=>by
  obtain⟨v,r,rfl,_,h2⟩:=jd.mp h;obtain⟨u,e1,e2⟩:=Zj.get h2 (by simpa using e);simp_all
theorem Zj.append:∀{ds es:List D} {vs us:List V},Zj G H ds vs->Zj G H es us->Zj G H (ds++es) (vs++us)
 | [],es,vs,us,h,h'=>by rw[Zj.nil_iff.mp h];exact h'
 | d::ds,es,vs,us,h,h'=>by
  obtain⟨v,r,rfl,h1,h2⟩:=jd.mp h;exact jd.mpr ⟨v,r++us,rfl,h1,Zj.append h2 h'⟩
theorem Zj.one (h:Zl G H d v):Zj G H [d] [v]:=jd.mpr ⟨v,[],rfl,h,Zj.nil_iff.mpr rfl⟩
theorem Zj.cons (h:Zl G H d v)(h2:Zj G H ds vs):Zj G H (d::ds) (v::vs):=jd.mpr ⟨v,vs,rfl,h,h2⟩
theorem Zj.take:∀{ds:List D} {vs:List V} (n:Nat),Zj G H ds vs->Zj G H (ds.take n) (vs.take n)
 | _,_,0,_=>Zj.nil_iff.mpr (by simp)
 | [],vs,n+1,h=>by rw[Zj.nil_iff.mp h];rfl
 | d::ds,vs,n+1,h=>by
  obtain⟨u,r,rfl,h1,h2⟩:=jd.mp h;exact Zj.cons h1 (Zj.take n h2)
theorem Zj.drop:∀{ds:List D} {vs:List V} (n:Nat),Zj G H ds vs->Zj G H (ds.drop n) (vs.drop n)
 | _,_,0,h=>h
 | [],vs,n+1,h=>by rw[Zj.nil_iff.mp h];rfl
 | d::ds,vs,n+1,h=>by
  obtain⟨u,r,rfl,h1,h2⟩:=jd.mp h;exact Zj.drop n h2
end
noncomputable def Nt (o:Option HO):Prop:=∃u,o=some u/\∀vs,u≠.tup vs
theorem Nt.no (h:Nt o)(e:o=none):False:=by
 obtain⟨u,q,_⟩:=h
 grind
structure Gr (G:Gh)(Hf H Hf' H':Hp):Prop where
 hh:Zz G H H'
 ff:Zz G Hf Hf'
 fh:Zz G Hf' H'
 nw:∀b,¬G.fp b->Hf b=none->Nt (H b)->Hf' b=none
theorem Gr.refl (e:Zz G Hf H):Gr G Hf H Hf H:=⟨.refl _ _,.refl _ _,e,λ_ _ h _=>h⟩
theorem Gr.trans (a:Gr G Hf H jU H1)(b:Gr G jU H1 j8 H2):Gr G Hf H j8 H2:=
 ⟨a.hh.trans b.hh,a.ff.trans b.ff,b.fh,λc n h1 h2=>b.nw c n (a.nw c n h1 h2) (let ⟨u,e,nt⟩:=h2;⟨u,a.hh c u n e,nt⟩)⟩
theorem Gr.new (e:Zz G Hf H)(hp:H p=none)(nf:¬G.fp p):Gr G Hf H (Zi Hf p o) (Zi H p o) where
 hh:=λb u n q=>by rw[Zn (ZY q hp)];exact q
 ff:=λb u n q=>by rw[Zn (ZY (e b u n q) hp)];exact q
 fh:=λb u n q=>by
  by_cases hb:b=p
  ·subst hb;rw[ZD]at q⊢;exact q
  ·rw[Zn hb]at q⊢;exact e b u n q
 nw:=λb n h1 h2=>by
  by_cases hb:b=p
  ·subst hb;exact(h2.no hp).elim
  ·rw[Zn hb];exact h1
theorem Gh.nofp {G:Gh}(h:G.st s H)(hp:H p=none):¬G.fp p:=λf=>by
 obtain⟨o,e⟩:=G.dom s H p h (G.sub p f)
 grind
theorem jC {G:Gh}(h:G.st s H)(hp:H p=none):¬G.rd p:=λf=>by
 obtain⟨o,e⟩:=G.dom s H p h f
 grind
theorem Gh.grow {G:Gh}(h:G.st s H)(hp:H p=none):G.st s (Zi H p o):=G.mono s H _ h (λb u _ q=>by
 rw[Zn (ZY q hp)];exact q) λb φ q=>by
 rw[Zn (ZY q hp)];exact q
noncomputable def UN:D->Prop
 | .lst _=>True
 | .dk _=>True
 | .dt _=>True
 | .du _=>True
 | _=>False
noncomputable def YA (G:Gh)(H Hf':Hp)(d:D)(v:V):Prop:=∀a,v=.ref a->UN d->H a=none/\∀ds,d=.lst ds->∃vs Hm,Hf' a=some (.lst vs)/\Hm a=none/\Zz G Hm Hf'/\Zj G Hm ds vs
theorem jn (e:Zz G H H')(r:∀a,v=.ref a->UN d->¬G.fp a)(h:YA G H' Hf' d v):YA G H Hf' d v:=λa ea m=>by
 refine⟨?_,(h a ea m).2⟩
 cases q:H a with
 | none=>rfl
 | some o=>
  have:=e a o (r a ea m) q;rw[(h a ea m).1]at this;cases this
theorem Zl.nofp (r:Zl G H d v):∀a,v=.ref a->UN d->¬G.fp a:=λa e m=>by
 cases d with
 | lst ds=>obtain⟨b,vs,e1,n,_⟩:=jb.mp r;grind
 | dk ds=>obtain⟨b,e1,n,_⟩:=jj.mp r;simp_all
 | dt ds=>obtain⟨b,_,e1,n,_⟩:=jl.mp r;simp_all
 | du ds=>obtain⟨b,e1,n,_⟩:=jm.mp r;simp_all
 | _=>exact m.elim
noncomputable def YL (G:Gh)(H:Hp)(σ:St)(ρ:Zc):Prop:=∀(i:Nat) (d:D),ρ[i]?=some (some d)->∃v,σ[i]?=some (some v)/\Zl G H d v
theorem YL.ext (h:YL G H σ ρ)(e:Zz G H H'):YL G H' σ ρ:=λi d q=>let ⟨v,a,b⟩:=h i d q;⟨v,a,b.ext e⟩
noncomputable def PD (X:Cx)(G:Gh)(fr:Bool)(e:Expr)(f:Zc->M D):Prop:=
 ∃t,PE X e t/\∀(σ:St) (Hf H:Hp) (ρ:Zc) (s:Pn) (d:D) (s':Pn) (Q:VK),Zz G Hf H->YL G Hf σ ρ->G.st s H->f ρ s=some (d,s')->
  (∀v Hf' H',Gr G Hf H Hf' H'->G.st s' H'->Zl G Hf' d v->(fr=true->YA G H Hf' d v)->Q v H')->t σ H Q
noncomputable def Vb (X:Cx)(G:Gh)(e:Expr)(f:Zc->M Bool):Prop:=
 ∃t,PT X e t/\∀(σ:St) (Hf H:Hp) (ρ:Zc) (s:Pn) (b:Bool) (s':Pn) (Q:Bool->Hp->Prop),Zz G Hf H->YL G Hf σ ρ->G.st s H->f ρ s=some (b,s')->
  (∀Hf' H',Gr G Hf H Hf' H'->G.st s' H'->Q b H')->t σ H Q
noncomputable def Vc (X:Cx)(G:Gh)(es:List Expr)(f:Zc->M (List D)):Prop:=
 ∃t,PA X es t/\∀(σ:St) (Hf H:Hp) (ρ:Zc) (s:Pn) (ds:List D) (s':Pn) (Q:List V->Hp->Prop),Zz G Hf H->YL G Hf σ ρ->G.st s H->f ρ s=some (ds,s')->
  (∀vs Hf' H',Gr G Hf H Hf' H'->G.st s' H'->Zj G Hf' ds vs->Q vs H')->t σ H Q
section
variable {X:Cx}{G:Gh}
theorem PD.weak (h:PD X G fr e f):PD X G false e f:=by
 obtain⟨t,p,q⟩:=h;exact⟨t,p,fun σ Hf H ρ s d s' Q e1 e2 e3 e4 k=>q σ Hf H ρ s d s' Q e1 e2 e3 e4 λv Hf' H' g1 g2 g3 _=>k v Hf' H' g1 g2 g3 (λz=>by cases z)⟩
noncomputable def Za (i:Nat):Zc->M D:=fun ρ=>YI ((ρ[i]?).bind id)
noncomputable def dC (d:D):Zc->M D:=λ_=>Zy d
theorem ZoV (i:Nat)(h:PE X (.Name x pos) (Z6 i)):PD X G false (.Name x pos) (Za i):=by
 refine⟨_,h,fun σ Hf H ρ s d s' Q e1 e2 e3 e4 k=>?_⟩;obtain⟨e,rfl⟩:=Wx e4;have e':ρ[i]?=some (some d):=by
  cases q:ρ[i]? with
  | none=>simp_all
  | some o=>simp_all
 obtain⟨v,h1,h2⟩:=e2 i d e';exact⟨v,h1,k v Hf H (.refl e1) e3 h2 (λz=>by cases z)⟩
theorem YA.scal (h:UN d->False):YA G H Hf' d v:=λ_ _ m=>(h m).elim
theorem Ya:PD X G true (.Constant (.int i) j pos) (dC (.int i)):=by
 refine⟨_,Y9,fun σ Hf H ρ s d s' Q e1 e2 e3 e4 k=>?_⟩;obtain⟨rfl,rfl⟩:=ZM e4;exact k _ Hf H (.refl e1) e3 (ja.mpr rfl) λ_=>.scal λz=>z
theorem VS:PD X G true (.Constant (.bool b) j pos) (dC (.bl b)):=by
 refine⟨_,ZpC,fun σ Hf H ρ s d s' Q e1 e2 e3 e4 k=>?_⟩;obtain⟨rfl,rfl⟩:=ZM e4;exact k _ Hf H (.refl e1) e3 (je.mpr rfl) λ_=>.scal λz=>z
theorem ZgV:PD X G true (.Constant .none j pos) (dC .non):=by
 refine⟨_,Zov,fun σ Hf H ρ s d s' Q e1 e2 e3 e4 k=>?_⟩;obtain⟨rfl,rfl⟩:=ZM e4;exact k _ Hf H (.refl e1) e3 (jg.mpr rfl) λ_=>.scal λz=>z
noncomputable def Zd:Zc->M (List D):=λ_=>Zy []
noncomputable def Zb (f:Zc->M D)(g:Zc->M (List D)):Zc->M (List D):=fun ρ=>Zp (f ρ) λd=>Zp (g ρ) λds=>Zy (d::ds)
theorem Zo:Vc X G [] Zd:=by
 refine⟨_,YX,fun σ Hf H ρ s d s' Q e1 e2 e3 e4 k=>?_⟩;obtain⟨rfl,rfl⟩:=ZM e4;exact k _ Hf H (.refl e1) e3 (Zj.nil_iff.mpr rfl)
theorem Zf (h:PD X G fr e f)(hr:Vc X G es g)(hs:xi (e::es) X.env=(false,eval e X.env)::xi es X.env:=by rfl):Vc X G (e::es) (Zb f g):=by
 obtain⟨t,p,q⟩:=h;obtain⟨u,p2,q2⟩:=hr;refine⟨_,YF p p2 hs,fun σ Hf H ρ s ds s' Q e1 e2 e3 e4 k=>?_⟩;obtain⟨d,s1,a1,a2⟩:=ZA e4;obtain⟨r,s2,a3,a4⟩:=ZA a2;obtain⟨rfl,rfl⟩:=ZM a4;refine q σ Hf H ρ s d s1 _ e1 e2 e3 a1 λv jU H1 g1 j9 r1 _=>?_;refine q2 σ jU H1 ρ s1 r _ _ g1.fh (e2.ext g1.ff) j9 a3 λvs j8 H2 g2 jW r2=>?_;exact k _ j8 H2 (g1.trans g2) jW (Zj.cons (r1.ext g2.ff) r2)
noncomputable def ZT (f:Zc->M (List D)):Zc->M D:=fun ρ=>Zp (f ρ) λds=>if ds.length<=xh then Zy (.tup ds)else Zv
noncomputable def Xu (f:Zc->M (List D)):Zc->M D:=fun ρ=>Zp (f ρ) λds=>if ds.length<=xh then Zy (.lst ds)else Zv
theorem Y6 {α:Type}{c:Prop}[Decidable c]{a:M α}{s s':Pn}{b:α}(h:(if c then a else Zv) s=some (b,s')):c/\a s=some (b,s'):=by
 split at h
 ·simp_all
 ·cases h
theorem YA.mk (e:Zz G Hf H)(hp:H p=none)(nf:¬G.fp p)(r:Zj G Hf ds vs):YA G H (Zi Hf p (.lst vs)) (.lst ds) (.ref p):=λa ea _=>by
 cases ea
 refine⟨hp,λds' ed=>?_⟩
 cases ed
 have hf:Hf p=none:=by
  cases q:Hf p with
  | none=>rfl
  | some o=>rw[e p o nf q]at hp;cases hp
 exact⟨vs,Hf,ZD,hf,λb o n q=>by rw[Zn (ZY q hf)];exact q,r⟩
theorem Y4 (h:Vc X G es f):PD X G true (.Tuple es x1 pos) (ZT f):=by
 obtain⟨t,p,q⟩:=h;refine⟨_,ZoK p,fun σ Hf H ρ s d s' Q e1 e2 e3 e4 k=>?_⟩;obtain⟨ds,s1,a1,a2⟩:=ZA e4;obtain⟨hl,a3⟩:=Y6 a2;obtain⟨rfl,rfl⟩:=ZM a3;refine q σ Hf H ρ s ds s' _ e1 e2 e3 a1 λvs jU H1 g1 j9 r1=>⟨by rw[<-r1.length];exact hl,λp hp=>?_⟩;have nf:=Gh.nofp j9 hp;have g2:=Gr.new (o:=.tup vs) g1.fh hp nf;exact k (.ref p) _ _ (g1.trans g2) (Gh.grow j9 hp) (jc.mpr ⟨p,vs,rfl,nf,ZD,r1.ext g2.ff⟩) λ_=>.scal λz=>z
theorem VN (h:Vc X G es f):PD X G true (.List es pos) (Xu f):=by
 obtain⟨t,p,q⟩:=h;refine⟨_,ZoL p,fun σ Hf H ρ s d s' Q e1 e2 e3 e4 k=>?_⟩;obtain⟨ds,s1,a1,a2⟩:=ZA e4;obtain⟨hl,a3⟩:=Y6 a2;obtain⟨rfl,rfl⟩:=ZM a3;refine q σ Hf H ρ s ds s' _ e1 e2 e3 a1 λvs jU H1 g1 j9 r1=>⟨by rw[<-r1.length];exact hl,λp hp=>?_⟩;have nf:=Gh.nofp j9 hp;have g2:=Gr.new (o:=.lst vs) g1.fh hp nf;refine k (.ref p) _ _ (g1.trans g2) (Gh.grow j9 hp) (jb.mpr ⟨p,vs,rfl,nf,ZD,r1.ext g2.ff⟩) λ_=>jn g1.hh (λa ea _=>by simp_all) (YA.mk g1.fh hp nf r1)
noncomputable def XQ (X:Cx)(G:Gh)(f:Value->Value->Sem Value)(g:D->D->Option D):Prop:=
 ∃r,Ym X f r/\∀(Hf H:Hp) (s:Pn) (x y:V) (d e c:D) (Q:VK),Zz G Hf H->G.st s H->Zl G Hf d x->Zl G Hf e y->g d e=some c->
  (∀v Hf' H',Gr G Hf H Hf' H'->G.st s H'->Zl G Hf' c v->YA G H Hf' c v->Q v H')->r x y H Q
noncomputable def Ze (g:D->D->Option D)(a b:Zc->M D):Zc->M D:=fun ρ=>Zp (a ρ) λd=>Zp (b ρ) λe=>YI (g d e)
theorem op2D
  (qa:∀(σ:St) (Hf H:Hp) (ρ:Zc) (s:Pn) (d:D) (s':Pn) (Q:VK),Zz G Hf H->YL G Hf σ ρ->G.st s H->fa ρ s=some (d,s')->(∀v Hf' H',Gr G Hf H Hf' H'->G.st s' H'->Zl G Hf' d v->Q v H')->ta σ H Q)
  (qb:∀(σ:St) (Hf H:Hp) (ρ:Zc) (s:Pn) (d:D) (s':Pn) (Q:VK),Zz G Hf H->YL G Hf σ ρ->G.st s H->fb ρ s=some (d,s')->(∀v Hf' H',Gr G Hf H Hf' H'->G.st s' H'->Zl G Hf' d v->Q v H')->tb σ H Q)
  (qo:∀(Hf H:Hp) (s:Pn) (x y:V) (d e c:D) (Q:VK),Zz G Hf H->G.st s H->Zl G Hf d x->Zl G Hf e y->g d e=some c->(∀v Hf' H',Gr G Hf H Hf' H'->G.st s H'->Zl G Hf' c v->YA G H Hf' c v->Q v H')->r x y H Q)
  (σ:St) (Hf H:Hp) (ρ:Zc) (s:Pn) (d:D) (s':Pn) (Q:VK) (e1:Zz G Hf H) (e2:YL G Hf σ ρ) (e3:G.st s H) (e4:Ze g fa fb ρ s=some (d,s'))
  (k:∀v Hf' H',Gr G Hf H Hf' H'->G.st s' H'->Zl G Hf' d v->YA G H Hf' d v->Q v H'):YE r ta tb σ H Q:=by
 obtain⟨da,s1,a1,a2⟩:=ZA e4;obtain⟨db,s2,a3,a4⟩:=ZA a2;obtain⟨a5,rfl⟩:=Wx a4;refine qa σ Hf H ρ s da s1 _ e1 e2 e3 a1 λx jU H1 g1 j9 r1=>?_;refine qb σ jU H1 ρ s1 db _ _ g1.fh (e2.ext g1.ff) j9 a3 λy j8 H2 g2 jW r2=>?_;refine qo j8 H2 _ x y da db d Q g2.fh jW (r1.ext g2.ff) r2 a5 λv Hf3 H3 g3 st3 r3 fz=>?_;exact k v Hf3 H3 ((g1.trans g2).trans g3) st3 r3 (jn (g1.hh.trans g2.hh) r3.nofp fz)
theorem PD.drop (h:PD X G fr e f):∃t,PE X e t/\∀(σ:St) (Hf H:Hp) (ρ:Zc) (s:Pn) (d:D) (s':Pn) (Q:VK),Zz G Hf H->YL G Hf σ ρ->G.st s H->f ρ s=some (d,s')->
  (∀v Hf' H',Gr G Hf H Hf' H'->G.st s' H'->Zl G Hf' d v->Q v H')->t σ H Q:=by
 obtain⟨t,p,q⟩:=h;exact⟨t,p,fun σ Hf H ρ s d s' Q a b c d' k=>q σ Hf H ρ s d s' Q a b c d' λv Hf' H' g1 g2 g3 _=>k v Hf' H' g1 g2 g3⟩
theorem WS (ho:XQ X G (binaryOp op) g)(ha:PD X G r1 a fa)(hb:PD X G r2 b fb):PD X G true (.BinOp a op b pos) (Ze g fa fb):=by
 obtain⟨r,po,qo⟩:=ho;obtain⟨ta,pa,qa⟩:=ha.drop;obtain⟨tb,pb,qb⟩:=hb.drop;exact⟨_,Xg po pa pb,fun σ Hf H ρ s d s' Q e1 e2 e3 e4 k=>op2D qa qb qo σ Hf H ρ s d s' Q e1 e2 e3 e4 λv Hf' H' g1 g2 g3 fz=>k v Hf' H' g1 g2 g3 λ_=>fz⟩
theorem Jo (ho:XQ X G (xl op) g)(ha:PD X G r1 a fa)(hb:PD X G r2 b fb)
  (hm:behindInMarks op b=false:=by first | exact Jm _ | with_unfolding_all rfl):PD X G true (.Compare a [op] [b] pos) (Ze g fa fb):=by
 obtain⟨r,po,qo⟩:=ho;obtain⟨ta,pa,qa⟩:=ha.drop;obtain⟨tb,pb,qb⟩:=hb.drop;exact⟨_,ZmH po pa pb hm,fun σ Hf H ρ s d s' Q e1 e2 e3 e4 k=>op2D qa qb qo σ Hf H ρ s d s' Q e1 e2 e3 e4 λv Hf' H' g1 g2 g3 fz=>k v Hf' H' g1 g2 g3 λ_=>fz⟩
noncomputable def asB (f:Zc->M D):Zc->M Bool:=fun ρ=>Zp (f ρ) λd=>match d with | .bl b=>Zy b | _=>Zv
theorem ZfE (h:asB f ρ s=some (b,s')):f ρ s=some (.bl b,s'):=by
 obtain⟨d,s1,a1,a2⟩:=ZA h
 cases d with
 | bl c=>obtain⟨rfl,rfl⟩:=ZM a2;exact a1
 | _=>cases a2
theorem YW (ho:XQ X G (xl op) g)(ha:PD X G r1 a fa)(hb:PD X G r2 b fb)
  (hm:behindInMarks op b=false:=by first | exact Jm _ | with_unfolding_all rfl):Vb X G (.Compare a [op] [b] pos) (asB (Ze g fa fb)):=by
 obtain⟨r,po,qo⟩:=ho;obtain⟨ta,pa,qa⟩:=ha.drop;obtain⟨tb,pb,qb⟩:=hb.drop;refine⟨_,Bc po pa pb hm,fun σ Hf H ρ s c s' Q e1 e2 e3 e4 k=>?_⟩;exact op2D qa qb qo σ Hf H ρ s (.bl c) s' _ e1 e2 e3 (ZfE e4) λv Hf' H' g1 g2 g3 fz=>⟨c,je.mp g3,k Hf' H' g1 g2⟩
theorem Bf (h:PD X G fr e f)(he:∀whole,isTrue e X.env whole=(do let v<-whole;standAt e.pos;holding [v] (truthy v)):=by intro _;rfl):Vb X G e (asB f):=by
 obtain⟨t,p,q⟩:=h;refine⟨_,Zow p he,fun σ Hf H ρ s c s' Q e1 e2 e3 e4 k=>?_⟩;exact q σ Hf H ρ s (.bl c) s' _ e1 e2 e3 (ZfE e4) λv Hf' H' g1 g2 g3 fz=>⟨c,je.mp g3,k Hf' H' g1 g2⟩
noncomputable def XW (f g:Zc->M Bool):Zc->M Bool:=fun ρ=>Zp (f ρ) λb=>if b=true then g ρ else Zy false
noncomputable def V3 (X:Cx)(G:Gh)(e:Expr)(f:Zc->M Bool):Prop:=
 ∃t,PW X e t/\∀(σ:St) (Hf H:Hp) (ρ:Zc) (s:Pn) (b:Bool) (s':Pn) (Q:Bool->Hp->Prop),Zz G Hf H->YL G Hf σ ρ->G.st s H->f ρ s=some (b,s')->
  (∀Hf' H',Gr G Hf H Hf' H'->G.st s' H'->Q b H')->t σ H Q
theorem V3.pt (h:V3 X G e f):Vb X G e f:=by
 obtain⟨t,p,q⟩:=h;exact⟨t,p.pt,q⟩
theorem Zbz (h:Vb X G a f):V3 X G (.BoolOp .And [a] pos) f:=by
 obtain⟨t,p,q⟩:=h;exact⟨t,ZhY p,q⟩
theorem ZcD {rest:List Expr}(h:Vb X G a f)(h2:V3 X G (.BoolOp .And (b::rest) pos) g):V3 X G (.BoolOp .And (a::b::rest) pos) (XW f g):=by
 obtain⟨t,p,q⟩:=h;obtain⟨u,p2,q2⟩:=h2;refine⟨_,Zkh p p2,fun σ Hf H ρ s c s' Q e1 e2 e3 e4 k=>?_⟩;obtain⟨b,s1,a1,a2⟩:=ZA e4;refine q σ Hf H ρ s b s1 _ e1 e2 e3 a1 λjU H1 g1 j9=>?_
 cases b with
 | true=>exact q2 σ jU H1 ρ s1 c s' _ g1.fh (e2.ext g1.ff) j9 a2 λj8 H2 g2 jW=>k j8 H2 (g1.trans g2) jW
 | false=>obtain⟨rfl,rfl⟩:=ZM a2;exact k jU H1 g1 j9
noncomputable def JF (f g:Zc->M D):Zc->M D:=fun ρ=>Zp (f ρ) λd=>match d with | .bl true=>g ρ | .bl false=>Zy (.bl false) | _=>Zv
noncomputable def JM (f g:Zc->M D):Zc->M D:=fun ρ=>Zp (f ρ) λd=>match d with | .bl true=>Zy (.bl true) | .bl false=>g ρ | _=>Zv
noncomputable def JG (f:Zc->M D):Zc->M D:=fun ρ=>Zp (f ρ) λd=>match d with | .bl b=>Zy (.bl (!b)) | _=>Zv
theorem ZkD (h:PD X G fr a f):PD X G false (.BoolOp op [a] pos) f:=by
 obtain⟨t,p,q⟩:=h.weak;exact⟨t,Zox p,q⟩
theorem ZoW {rest:List Expr}(h:PD X G r1 a f)(h2:PD X G r2 (.BoolOp .And (b::rest) pos) g):PD X G false (.BoolOp .And (a::b::rest) pos) (JF f g):=by
 obtain⟨t,p,q⟩:=h.drop;obtain⟨u,p2,q2⟩:=h2.drop;refine⟨_,Zoy p p2,fun σ Hf H ρ s c s' Q e1 e2 e3 e4 k=>?_⟩;obtain⟨d,s1,a1,a2⟩:=ZA e4;refine q σ Hf H ρ s d s1 _ e1 e2 e3 a1 λv jU H1 g1 j9 r1=>?_
 cases d with
 | bl b=>
  cases b with
  | true=>exact⟨true,je.mp r1,VD (q2 σ jU H1 ρ s1 c s' _ g1.fh (e2.ext g1.ff) j9 a2 λv j8 H2 g2 jW r2=>k v j8 H2 (g1.trans g2) jW r2 (λz=>by cases z))⟩
  | false=>obtain⟨rfl,rfl⟩:=ZM a2;exact⟨false,je.mp r1,Ur (k _ jU H1 g1 j9 (je.mpr rfl) (λz=>by cases z))⟩
 | _=>cases a2
theorem ZpL {rest:List Expr}(h:PD X G r1 a f)(h2:PD X G r2 (.BoolOp .Or (b::rest) pos) g):PD X G false (.BoolOp .Or (a::b::rest) pos) (JM f g):=by
 obtain⟨t,p,q⟩:=h.drop;obtain⟨u,p2,q2⟩:=h2.drop;refine⟨_,ZpF p p2,fun σ Hf H ρ s c s' Q e1 e2 e3 e4 k=>?_⟩;obtain⟨d,s1,a1,a2⟩:=ZA e4;refine q σ Hf H ρ s d s1 _ e1 e2 e3 a1 λv jU H1 g1 j9 r1=>?_
 cases d with
 | bl b=>
  cases b with
  | false=>exact⟨false,je.mp r1,Ur (q2 σ jU H1 ρ s1 c s' _ g1.fh (e2.ext g1.ff) j9 a2 λv j8 H2 g2 jW r2=>k v j8 H2 (g1.trans g2) jW r2 (λz=>by cases z))⟩
  | true=>obtain⟨rfl,rfl⟩:=ZM a2;exact⟨true,je.mp r1,VD (k _ jU H1 g1 j9 (je.mpr rfl) (λz=>by cases z))⟩
 | _=>cases a2
theorem ZkE (h:PD X G r1 a f):PD X G true (.UnaryOp .Not a pos) (JG f):=by
 obtain⟨t,p,q⟩:=h.drop;refine⟨_,Zoz p,fun σ Hf H ρ s c s' Q e1 e2 e3 e4 k=>?_⟩;obtain⟨d,s1,a1,a2⟩:=ZA e4;refine q σ Hf H ρ s d s1 _ e1 e2 e3 a1 λv jU H1 g1 j9 r1=>?_
 cases d with
 | bl b=>obtain⟨rfl,rfl⟩:=ZM a2;exact⟨b,je.mp r1,k _ jU H1 g1 j9 (je.mpr rfl) λ_=>.scal λz=>z⟩
 | _=>cases a2
noncomputable def BL (c:Zc->M Bool)(f g:Zc->M D):Zc->M D:=fun ρ=>Zp (c ρ) λb=>if b=true then f ρ else g ρ
theorem ZpM (hc:Vb X G c fc)(ha:PD X G r1 a f)(hb:PD X G r2 b g):PD X G false (.IfExp c a b pos) (BL fc f g):=by
 obtain⟨tc,pc,qc⟩:=hc;obtain⟨ta,pa,qa⟩:=ha.drop;obtain⟨tb,pb,qb⟩:=hb.drop;refine⟨_,Zki pc pa pb,fun σ Hf H ρ s d s' Q e1 e2 e3 e4 k=>?_⟩;obtain⟨b,s1,a1,a2⟩:=ZA e4;refine qc σ Hf H ρ s b s1 _ e1 e2 e3 a1 λjU H1 g1 j9=>?_
 cases b with
 | true=>exact VD (qa σ jU H1 ρ s1 d s' _ g1.fh (e2.ext g1.ff) j9 a2 λv j8 H2 g2 jW r2=>k v j8 H2 (g1.trans g2) jW r2 (λz=>by cases z))
 | false=>exact Ur (qb σ jU H1 ρ s1 d s' _ g1.fh (e2.ext g1.ff) j9 a2 λv j8 H2 g2 jW r2=>k v j8 H2 (g1.trans g2) jW r2 (λz=>by cases z))
noncomputable def X5 (X:Cx)(G:Gh)(f:Value)(g:List D->Option D):Prop:=
 ∃r,XB X f r/\∀(Hf H:Hp) (s:Pn) (xs:List V) (ds:List D) (c:D) (Q:VK),Zz G Hf H->G.st s H->Zj G Hf ds xs->g ds=some c->
  (∀v Hf' H',Gr G Hf H Hf' H'->G.st s H'->Zl G Hf' c v->YA G H Hf' c v->Q v H')->r xs H Q
noncomputable def ZF (g:List D->Option D)(fs:Zc->M (List D)):Zc->M D:=fun ρ=>Zp (fs ρ) λds=>YI (g ds)
theorem WM {id:String}{p pos:Pos}(hc:X5 X G (.builtin id) g)(hg:Gl X x)(hm:X.mg x=none)(hv:xk x=some (.builtin id))(ha:Vc X G (e::es) fs)
  (hn:x≠"__name__":=by decide) (hdb:(x==("__debug__" : Str))=false:=by decide)
  (he:xi (e::es) X.env=(false,eval e X.env)::xi es X.env:=by rfl) (hpl:(backTo pos (xi es X.env)).any (·.1)=false:=by rfl):PD X G true (.Call (.Name x p) (e::es) [] pos) (ZF g fs):=by
 obtain⟨r,pr,qr⟩:=hc;obtain⟨t,pa,qa⟩:=ha;refine⟨_,J6 pr hg hm hv pa hn hdb he hpl,fun σ Hf H ρ s d s' Q e1 e2 e3 e4 k=>?_⟩;obtain⟨ds,s1,a1,a2⟩:=ZA e4;obtain⟨a3,rfl⟩:=Wx a2;refine qa σ Hf H ρ s ds _ _ e1 e2 e3 a1 λvs jU H1 g1 j9 r1=>?_;exact qr jU H1 _ vs ds d Q g1.fh j9 r1 a3 λv j8 H2 g2 jW r2 fz=>k v j8 H2 (g1.trans g2) jW r2 λ_=>jn g1.hh r2.nofp fz
theorem UC {p pos:Pos}(hc:X5 X G (.type T) g)(hg:Gl X x)(hm:X.mg x=none)(hv:xk x=some (.type T))(ha:Vc X G (e::es) fs)
  (hn:x≠"__name__":=by decide) (hdb:(x==("__debug__" : Str))=false:=by decide)
  (he:xi (e::es) X.env=(false,eval e X.env)::xi es X.env:=by rfl) (hpl:(backTo pos (xi es X.env)).any (·.1)=false:=by rfl):PD X G true (.Call (.Name x p) (e::es) [] pos) (ZF g fs):=by
 obtain⟨r,pr,qr⟩:=hc;obtain⟨t,pa,qa⟩:=ha;refine⟨_,Za3 pr hg hm hv pa hn hdb he hpl,fun σ Hf H ρ s d s' Q e1 e2 e3 e4 k=>?_⟩;obtain⟨ds,s1,a1,a2⟩:=ZA e4;obtain⟨a3,rfl⟩:=Wx a2;refine qa σ Hf H ρ s ds _ _ e1 e2 e3 a1 λvs jU H1 g1 j9 r1=>?_;exact qr jU H1 _ vs ds d Q g1.fh j9 r1 a3 λv j8 H2 g2 jW r2 fz=>k v j8 H2 (g1.trans g2) jW r2 λ_=>jn g1.hh r2.nofp fz
noncomputable def IxD (X:Cx)(G:Gh)(g:D->D->Option D):Prop:=
 ∃r,Uv X r/\∀(Hf H:Hp) (s:Pn) (x y:V) (d e c:D) (Q:VK),Zz G Hf H->G.st s H->Zl G Hf d x->Zl G Hf e y->g d e=some c->
  (∀v,Zl G Hf c v->Q v H)->r x y H Q
theorem Yc (ho:IxD X G g)(ha:PD X G r1 a fa)(hb:PD X G r2 b fb)(hs:Zh4 b:=by intro _ _;rfl):PD X G false (.Subscript a b pos) (Ze g fa fb):=by
 obtain⟨r,po,qo⟩:=ho;obtain⟨ta,pa,qa⟩:=ha.drop;obtain⟨tb,pb,qb⟩:=hb.drop;refine⟨_,Zh5 po pa pb hs,fun σ Hf H ρ s d s' Q e1 e2 e3 e4 k=>?_⟩;obtain⟨da,s1,a1,a2⟩:=ZA e4;obtain⟨db,s2,a3,a4⟩:=ZA a2;obtain⟨a5,rfl⟩:=Wx a4;refine qa σ Hf H ρ s da s1 _ e1 e2 e3 a1 λx jU H1 g1 j9 r1=>?_;refine qb σ jU H1 ρ s1 db _ _ g1.fh (e2.ext g1.ff) j9 a3 λy j8 H2 g2 jW r2=>?_;exact qo j8 H2 _ x y da db d Q g2.fh jW (r1.ext g2.ff) r2 a5 λv r3=>k v j8 H2 (g1.trans g2) jW r3 (λz=>by cases z)
noncomputable def Yj (n:Nat)(fr:Bool)(GG:Gh->Prop)(F:List D->M D):Sp:=λvs H Q _=>∃(G:Gh) (Hf:Hp) (ds:List D) (s:Pn) (d:D) (s':Pn),GG G/\vs.length=n/\Zz G Hf H/\Zj G Hf ds vs/\G.st s H/\F ds s=some (d,s')/\
 ∀v Hf' H',Gr G Hf H Hf' H'->G.st s' H'->Zl G Hf' d v->(fr=true->YA G H Hf' d v)->Q v H'
noncomputable def Zm (F:List D->M D)(fs:Zc->M (List D)):Zc->M D:=fun ρ=>Zp (fs ρ) F
theorem ZmT {p pos:Pos}
  (FN:FnOk X.prog X.w X.K X.mg X.base CX k f fd ps (Yj n fr GG F)) (hG:GG G) (hr:Room k X.A) (hg:Gl X x) (hm:X.mg x=some (.ref f)) (hk:yd X.K (.ref f)=true) (hb:Wh X.K fd ps []) (hx:ZeL CX X E)
  (ha:Vc X G (e::es) fs) (jQ:(e::es).length=n:=by rfl) (hal:∀ρ s ds s',fs ρ s=some (ds,s')->ds.length=(e::es).length)
  (hdb:(x==("__debug__" : Str))=false:=by decide) (he:xi (e::es) X.env=(false,eval e X.env)::xi es X.env:=by rfl) (hpl:(backTo pos (xi es X.env)).any (·.1)=false:=by rfl) :
  PD X G fr (.Call (.Name x p) (e::es) [] pos) (Zm F fs):=by
 obtain⟨t,pa,qa⟩:=ha;refine⟨_,ZeM FN hr hg hm hk hb .nil hx pa hdb he hpl,fun σ Hf H ρ s d s' Q e1 e2 e3 e4 k=>?_⟩;obtain⟨ds,s1,a1,a2⟩:=ZA e4;refine qa σ Hf H ρ s ds _ _ e1 e2 e3 a1 λvs jU H1 g1 j9 r1=>?_;refine⟨G,jU,ds,s1,d,s',hG,by rw[z0,<-r1.length,hal _ _ _ _ a1];exact jQ,g1.fh,by simp_all,j9,a2,λv j8 H2 g2 jW r2 fz=>?_⟩;exact k v j8 H2 (g1.trans g2) jW r2 λz=>jn g1.hh r2.nofp (fz z)
theorem Xl (h:∀ρ s ds s',g ρ s=some (ds,s')->ds.length=n):∀ρ s ds s',Zb f g ρ s=some (ds,s')->ds.length=n+1:=fun ρ s ds s' q=>by
 obtain⟨d,s1,a1,a2⟩:=ZA q;obtain⟨r,s2,a3,a4⟩:=ZA a2;obtain⟨rfl,rfl⟩:=ZM a4;simp[h _ _ _ _ a3]
theorem UF:∀ρ s ds s',Zd ρ s=some (ds,s')->ds.length=0:=fun ρ s ds s' q=>by
 obtain⟨rfl,rfl⟩:=ZM q;rfl
end
mutual
noncomputable def XJ:D->Bool
 | .tup ds=>VO ds
 | .lst _=>false
 | .dk _=>false
 | .dt _=>false
 | .du _=>false
 | .df _=>false
 | .clo _ _=>false
 | _=>true
noncomputable def VO:List D->Bool
 | []=>true
 | d::ds=>XJ d&&VO ds
end
mutual
theorem Zl.only {G:Gh}{H H':Hp}(e:∀b vs,¬G.fp b->H b=some (.tup vs)->H' b=some (.tup vs)):∀{d:D} {v:V},XJ d=true->Zl G H d v->Zl G H' d v
 | .non,_,_,h=>h
 | .bl _,_,_,h=>h
 | .int _,_,_,h=>h
 | .str _,_,_,h=>h
 | .tup ds,v,n,h=>by
  obtain⟨a,vs,e1,nf,e2,r⟩:=jc.mp h;exact jc.mpr ⟨a,vs,e1,nf,e _ _ nf e2,Zj.only e (by simpa[XJ]using n) r⟩
 | .lst ds,v,n,h=>by simp[XJ]at n
 | .dk kvs,v,n,h=>by simp[XJ]at n
 | .dt kvs,v,n,h=>by simp[XJ]at n
 | .du kvs,v,n,h=>by simp[XJ]at n
 | .df kvs,v,n,h=>by simp[XJ]at n
 | .pen,_,_,h=>h
 | .ty _,_,_,h=>h
 | .clo _ _,v,n,h=>by simp[XJ]at n
theorem Zj.only {G:Gh}{H H':Hp}(e:∀b vs,¬G.fp b->H b=some (.tup vs)->H' b=some (.tup vs)):∀{ds:List D} {vs:List V},VO ds=true->Zj G H ds vs->Zj G H' ds vs
 | [],_,_,h=>h
 | d::ds,vs,n,h=>by
  obtain⟨v,r,e1,r1,r2⟩:=jd.mp h;have n':XJ d=true/\VO ds=true:=by simpa[VO]using n
  exact jd.mpr ⟨v,r,e1,Zl.only e n'.1 r1,Zj.only e n'.2 r2⟩
end
noncomputable def VP (G:Gh)(Hf H:Hp)(a:Addr):D->Prop
 | .lst ds=>∃vs,H a=some (.lst vs)/\Zj G Hf ds vs
 | .dk kvs=>H a=some (.dK kvs)
 | .dt kvs=>∃o,H a=some (.frz o (.dT kvs))
 | .du kvs=>H a=some (.dT kvs)
 | _=>False
theorem VP.there (h:VP G Hf H a d):∃o,H a=some o/\∀vs,o≠.tup vs:=by
 cases d with
 | lst ds=>obtain⟨vs,e,_⟩:=h;simp_all
 | dk kvs=>exact⟨_,h,λ_ z=>by cases z⟩
 | dt kvs=>obtain⟨o,h⟩:=h;simp_all
 | du kvs=>exact⟨_,h,λ_ z=>by cases z⟩
 | _=>exact h.elim
theorem VP.keep (h:VP G Hf H a d)(e:Zz G Hf Hf')(ha:∀o,H a=some o->H' a=some o):VP G Hf' H' a d:=by
 cases d with
 | lst ds=>obtain⟨vs,q,r⟩:=h;exact⟨vs,ha _ q,r.ext e⟩
 | dk kvs=>exact ha _ h
 | dt kvs=>obtain⟨o,h⟩:=h;exact⟨o,ha _ h⟩
 | du kvs=>exact ha _ h
 | _=>exact h.elim
theorem VP.rep (h:VP G Hf H a d)(nf:¬G.fp a)(e:Zz G Hf Hf')(ha:∀o,H a=some o->Hf' a=some o):Zl G Hf' d (.ref a):=by
 cases d with
 | lst ds=>obtain⟨vs,q,r⟩:=h;exact jb.mpr ⟨a,vs,rfl,nf,ha _ q,r.ext e⟩
 | dk kvs=>exact jj.mpr ⟨a,rfl,nf,ha _ h⟩
 | dt kvs=>obtain⟨o,h⟩:=h;exact jl.mpr ⟨a,o,rfl,nf,ha _ h⟩
 | du kvs=>exact jm.mpr ⟨a,rfl,nf,ha _ h⟩
 | _=>exact h.elim
structure Jf (G:Gh)(own:List Nat)(kn jS H0:Hp)(σ:St)(Hf H:Hp)(ρ:Zc):Prop where
 len:σ.length=ρ.length
 kn:Zz G kn Hf
 gr:Gr G jS H0 Hf H
 fz:∀(i:Nat) (d:D),i∉own->ρ[i]?=some (some d)->∃v,σ[i]?=some (some v)/\Zl G Hf d v
 ow:∀(i:Nat) (d:D),i∈own->ρ[i]?=some (some d)->∃a,σ[i]?=some (some (.ref a))/\¬G.rd a/\Hf a=none/\H0 a=none/\VP G Hf H a d
 ne:∀(i j:Nat) (a:Addr) (di dj:D),i∈own->j∈own->i≠j->ρ[i]?=some (some di)->ρ[j]?=some (some dj)->σ[i]?=some (some (.ref a))->σ[j]?=some (some (.ref a))->False
noncomputable def J (G:Gh)(own:List Nat)(kn jS H0:Hp)(σ:St)(H:Hp)(ρ:Zc):Prop:=∃Hf,Jf G own kn jS H0 σ Hf H ρ
noncomputable def YB (own:List Nat)(ρ:Zc):Zc:=ρ.mapIdx λi o=>if i∈own then none else o
theorem ZfF (ρ:Zc):YB [] ρ=ρ:=by
 unfold YB;apply yW;simp
theorem ZkF (h:(YB own ρ)[i]?=some (some d)):i∉own/\ρ[i]?=some (some d):=by
 unfold YB at h;simp_all
section
variable {X:Cx}{G:Gh}{own:List Nat}{kn jS H0 Hf H:Hp}{σ:St}{ρ:Zc}
theorem Jf.envA (j:Jf G own kn jS H0 σ Hf H ρ):YL G Hf σ (YB own ρ):=λi d e=>by
 obtain⟨n,q⟩:=ZkF e;exact j.fz i d n q
theorem ju (h:¬G.rd a):¬G.fp a:=λz=>h (G.sub a z)
theorem Jf.grow (j:Jf G own kn jS H0 σ Hf H ρ)(g:Gr G Hf H Hf' H'):Jf G own kn jS H0 σ Hf' H' ρ where
 len:=j.len
 kn:=j.kn.trans g.ff
 gr:=j.gr.trans g
 fz:=λi d n e=>let ⟨v,a,b⟩:=j.fz i d n e;⟨v,a,b.ext g.ff⟩
 ow:=λi d m e=>by
  obtain⟨a,h1,h2,h3,h4,h5⟩:=j.ow i d m e;have nf:=ju h2;refine⟨a,h1,h2,?_,h4,h5.keep g.ff λo q=>g.hh a o nf q⟩;exact g.nw a nf h3 h5.there
 ne:=j.ne
noncomputable def wide (jS H0 H:Hp):Hp:=λb=>open Classical in if jS b=none/\Nt (H0 b)then none else H b
theorem UG:Zz G (wide jS H0 H) H:=λb o _ e=>by
 unfold wide at e
 grind
theorem Jf.wideF (j:Jf G own kn jS H0 σ Hf H ρ):Zz G Hf (wide jS H0 H):=λb o n e=>by
 unfold wide;split
 ·rename_i h
  rw[j.gr.nw b n h.1 h.2]at e;cases e
 ·exact j.gr.fh b o n e
theorem Jf.envB (j:Jf G own kn jS H0 σ Hf H ρ):YL G (wide jS H0 H) σ ρ:=λi d e=>by
 by_cases m:i∈own
 ·obtain⟨a,h1,h2,h3,h4,h5⟩:=j.ow i d m e
  refine⟨_,h1,h5.rep (ju h2) j.wideF λo q=>?_⟩;unfold wide;rw[if_neg (λz=>z.2.no h4)];exact q
 ·obtain⟨v,h1,h2⟩:=j.fz i d m e
  exact⟨v,h1,h2.ext j.wideF⟩
theorem Jf.grW (j:Jf G own kn jS H0 σ Hf H ρ)(g:Gr G (wide jS H0 H) H Hf' H'):Gr G jS H0 Hf' H' where
 hh:=j.gr.hh.trans g.hh
 ff:=λb o n e=>g.ff b o n (j.wideF b o n (j.gr.ff b o n e))
 fh:=g.fh
 nw:=λb n h1 h2=>g.nw b n (by unfold wide;simp_all) (let ⟨u,e,nt⟩:=h2;⟨u,j.gr.hh b u n e,nt⟩)
noncomputable def BM:D->Bool
 | .lst ds=>VO ds
 | .dk _=>true
 | .dt _=>true
 | .du _=>true
 | _=>false
theorem ZmU (h:BM d=true):UN d:=by
 cases d <;> first | trivial | (rfl)
theorem Jf.growB (j:Jf G own kn jS H0 σ Hf H ρ)(g:Gr G (wide jS H0 H) H Hf' H') :
  ∃Hf'',Jf G own kn jS H0 σ Hf'' H' ρ/\Zz G Hf Hf''/\(∀d v,XJ d=true->Zl G Hf' d v->Zl G Hf'' d v)/\∀d v,BM d=true->YA G H Hf' d v->Zl G Hf' d v->Zl G Hf'' d v/\YA G H Hf'' d v:=by
 classical
 -- the owned addresses are left out again
 let OA:Addr->Prop:=λb=>∃i d,i∈own/\ρ[i]?=some (some d)/\σ[i]?=some (some (.ref b))
 have oaH:∀b,OA b->Hf b=none/\¬G.rd b/\∃o,H b=some o/\∀vs,o≠.tup vs:=λb ⟨i,d,m,e,q⟩=>by
  obtain⟨a,h1,h2,h3,h4,h5⟩:=j.ow i d m e;rw[q]at h1;cases h1;exact⟨h3,h2,h5.there⟩
 have W:=j.grW g;refine⟨λb=>if OA b then none else Hf' b,?_⟩;have fF:Zz G Hf (λb=>if OA b then none else Hf' b):=λb o n e=>by
  have:¬OA b:=λz=>by rw[(oaH b z).1]at e;cases e
  show(if OA b then none else Hf' b)=_;rw[if_neg this];exact g.ff b o n (j.wideF b o n e)
 have Fh:Zz G (λb=>if OA b then none else Hf' b) H':=λb o n e=>by
  have e':(if OA b then none else Hf' b)=some o:=e;split at e'
  ·cases e'
  ·exact g.fh b o n e'
 have tupK:∀b vs,¬G.fp b->Hf' b=some (.tup vs)->(if OA b then none else Hf' b)=some (.tup vs):=λb vs nf e=>by
  have:¬OA b:=λz=>by
   obtain⟨_,_,o,q,nt⟩:=oaH b z;have q1:=g.hh b o nf q;have q2:=g.fh b _ nf e;rw[q1]at q2;exact nt vs (zY q2)
  rw[if_neg this];exact e
 have frK:∀a,H a=none->¬OA a:=λa e z=>by
  obtain⟨_,_,o,q,nt⟩:=oaH a z;rw[e]at q;cases q
 refine⟨⟨j.len,j.kn.trans fF,⟨W.hh,j.gr.ff.trans fF,Fh,λb n h1 h2=>?_⟩,λi d n e=>?_,λi d m e=>?_,j.ne⟩,fF,λd v n r=>Zl.only tupK n r,λd v ok fr r=>?_⟩
 ·show(if OA b then none else Hf' b)=none
  split
  ·rfl
  ·exact W.nw b n h1 h2
 ·obtain⟨v,a,b⟩:=j.fz i d n e
  exact⟨v,a,b.ext fF⟩
 ·obtain⟨a,h1,h2,h3,h4,h5⟩:=j.ow i d m e
  refine⟨a,h1,h2,?_,h4,h5.keep fF λo q=>g.hh a o (ju h2) q⟩;show(if OA a then none else Hf' a)=none;rw[if_pos ⟨i,d,m,e,h1⟩]
 ·cases d with
  | lst ds=>
   obtain⟨a,vs,e,n,q,r'⟩:=jb.mp r;have na:=frK a (fr a e trivial).1;have ea:(if OA a then none else Hf' a)=some (.lst vs):=by rw[if_neg na];exact q
   refine⟨jb.mpr ⟨a,vs,e,n,ea,Zj.only tupK ok r'⟩,λb eb m=>?_⟩;rw[e]at eb;cases eb;refine⟨(fr a e trivial).1,λds' ed=>?_⟩
   cases ed
   refine⟨vs,λb=>if b=a then none else if OA b then none else Hf' b,ea,if_pos rfl,λb o nb eb=>?_,?_⟩
   ·have eb':(if b=a then none else if OA b then none else Hf' b)=some o:=eb
    split at eb'
    ·cases eb'
    ·exact eb'
   ·refine Zj.only (λb ws nb eb=>?_) ok r'
    have hba:b≠a:=λz=>by rw[z,q]at eb;cases eb
    show(if b=a then none else if OA b then none else Hf' b)=_;rw[if_neg hba];exact tupK b ws nb eb
  | dk ds=>
   obtain⟨a,e,n,q⟩:=jj.mp r;have na:=frK a (fr a e trivial).1;refine⟨jj.mpr ⟨a,e,n,?_⟩,λb eb m=>⟨(fr b eb m).1,λds' ed=>by cases ed⟩⟩;show(if OA a then none else Hf' a)=_;rw[if_neg na];exact q
  | dt ds=>
   obtain⟨a,o,e,n,q⟩:=jl.mp r;have na:=frK a (fr a e trivial).1;refine⟨jl.mpr ⟨a,o,e,n,?_⟩,λb eb m=>⟨(fr b eb m).1,λds' ed=>by cases ed⟩⟩;simp_all
  | du ds=>
   obtain⟨a,e,n,q⟩:=jm.mp r;have na:=frK a (fr a e trivial).1;refine⟨jm.mpr ⟨a,e,n,?_⟩,λb eb m=>⟨(fr b eb m).1,λds' ed=>by cases ed⟩⟩;simp_all
  | _=>exact absurd (ZmU ok) (λz=>z)
theorem Jf.set (j:Jf G own kn jS H0 σ Hf H ρ)(ho:∀k,k∈own'->k≠i/\k∈own)(hk:∀k,k∈own->k≠i->k∈own')(r:Zl G Hf d v):Jf G own' kn jS H0 (σ.set i (some v)) Hf H (ρ.set i (some d)) where
 len:=by simp[j.len]
 kn:=j.kn
 gr:=j.gr
 fz:=λk c n e=>by
  by_cases h:i=k
  ·subst h
   have hl:i < ρ.length:=by
    have:=(qG.mp e).1;simp_all
   rw[zH hl]at e
   cases e
   exact⟨v,zH (by rw[j.len];exact hl),r⟩
  ·rw[zb h]at e⊢
   exact j.fz k c (λz=>n (hk k z (zh h))) e
 ow:=λk c m e=>by
  have h:=zh (ho k m).1;rw[zb h]at e⊢;exact j.ow k c (ho k m).2 e
 ne:=λk l a dk dl mk ml n ek el sk sl=>by
  have h:=zh (ho k mk).1;have h':=zh (ho l ml).1;rw[zb h]at ek sk;rw[zb h']at el sl;exact j.ne k l a dk dl (ho k mk).2 (ho l ml).2 n ek el sk sl
noncomputable def ZeR:D->Bool
 | .lst _=>true
 | .dk _=>true
 | .dt _=>true
 | .du _=>true
 | _=>false
theorem ZgW (h:ZeR d=true):UN d:=by
 cases d <;> first | trivial | (rfl)
theorem Jf.setOwn (j0:Jf G own kn jS H0 σ Hq Hb ρ)(j:Jf G own kn jS H0 σ Hf H ρ)(ho:∀k,k∈own'↔k=i∨k∈own)(st:G.st s Hb)(hb:Zz G Hb H)(hq:Zz G Hq Hf)
  (r:Zl G Hf d v) (fr:YA G Hb Hf d v) (ok:ZeR d=true):∃Hf',Jf G own' kn jS H0 (σ.set i (some v)) Hf' H (ρ.set i (some d)):=by
 classical
 have mu:=ZgW ok;obtain⟨a,ea,nfa⟩:∃a,v=.ref a/\¬G.fp a:=by
  cases d with
  | lst ds=>obtain⟨a,vs,e,n,_⟩:=jb.mp r;exact⟨a,e,n⟩
  | dk ds=>obtain⟨a,e,n,_⟩:=jj.mp r;exact⟨a,e,n⟩
  | dt ds=>obtain⟨a,_,e,n,_⟩:=jl.mp r;exact⟨a,e,n⟩
  | du ds=>obtain⟨a,e,n,_⟩:=jm.mp r;exact⟨a,e,n⟩
  | _=>exact mu.elim
 subst ea;have fra:Hb a=none:=(fr a rfl mu).1;have hqa:Hq a=none:=by
  cases e:Hq a with
  | none=>rfl
  | some o=>rw[j0.gr.fh a o nfa e]at fra;cases fra
 have h0a:H0 a=none:=by
  cases e:H0 a with
  | none=>rfl
  | some o=>rw[j0.gr.hh a o nfa e]at fra;cases fra
 have qF:Zz G Hq (λb=>if b=a then none else Hf b):=λb o n e=>by
  have:b≠a:=λz=>by rw[z,hqa]at e;cases e
  show(if b=a then none else Hf b)=_;rw[if_neg this];exact hq b o n e
 have oldA:∀k c,k∈own->ρ[k]?=some (some c)->σ[k]?≠some (some (.ref a)):=λk c m e z=>by
  obtain⟨b,h1,_,_,_,h5⟩:=j0.ow k c m e;rw[z]at h1;cases h1;obtain⟨o,q,_⟩:=h5.there;rw[fra]at q;cases q
 refine⟨λb=>if b=a then none else Hf b,by simp[j.len],j0.kn.trans qF,⟨j.gr.hh,j0.gr.ff.trans qF,λb o n e=>?_,λb n h1 h2=>?_⟩,λk c n e=>?_,λk c m e=>?_,λk l b dk dl mk ml n ek el sk sl=>?_⟩
 ·have e':(if b=a then none else Hf b)=some o:=e
  split at e'
  ·cases e'
  ·exact j.gr.fh b o n e'
 ·show(if b=a then none else Hf b)=none
  split
  ·rfl
  ·exact j.gr.nw b n h1 h2
 ·have h:i≠k:=λz=>n ((ho k).mpr (.inl z.symm))
  rw[zb h]at e⊢;obtain⟨v,q1,q2⟩:=j0.fz k c (λz=>n ((ho k).mpr (.inr z))) e;exact⟨v,q1,q2.ext qF⟩
 ·by_cases h:i=k
  ·subst h
   have hl:i < ρ.length:=by
    have:=(qG.mp e).1;simpa using this
   rw[zH hl]at e
   cases e
   refine⟨a,zH (by rw[j.len];exact hl),jC st fra,by show(if a=a then none else Hf a)=none;rw[if_pos rfl],h0a,?_⟩
   cases d with
   | lst ds=>
    obtain⟨a',vs,e',n',q',r'⟩:=jb.mp r
    cases e'
    obtain⟨ws,Hm,f1,f2,f3,f4⟩:=(fr a rfl mu).2 ds rfl;rw[q']at f1;cases f1;refine⟨vs,j.gr.fh a _ n' q',f4.ext λb o nb eb=>?_⟩;have:b≠a:=λz=>by rw[z,f2]at eb;cases eb
    show(if b=a then none else Hf b)=_;rw[if_neg this];exact f3 b o nb eb
   | dk ds=>obtain⟨a',e',n',q'⟩:=jj.mp r;cases e';exact j.gr.fh a _ n' q'
   | dt ds=>obtain⟨a',o',e',n',q'⟩:=jl.mp r;cases e';exact⟨o',j.gr.fh a _ n' q'⟩
   | du ds=>obtain⟨a',e',n',q'⟩:=jm.mp r;cases e';exact j.gr.fh a _ n' q'
   | _=>exact mu.elim
  ·have m':k∈own:=((ho k).mp m).resolve_left (zh h)
   rw[zb h]at e⊢;obtain⟨b,h1,h2,h3,h4,h5⟩:=j0.ow k c m' e;obtain⟨b',g1,g2,g3,g4,g5⟩:=j.ow k c m' e;rw[h1]at g1;cases g1;refine⟨b,h1,h2,?_,h4,h5.keep qF λo q=>hb b o (ju h2) q⟩;show(if b=a then none else Hf b)=none;split
   ·rfl
   ·exact g3
 ·by_cases hk:i=k
  ·subst hk
   have h':i≠l:=n;have hl:i < σ.length:=by
    have:=(qG.mp sk).1;simpa using this
   rw[zH hl]at sk
   cases sk
   rw[zb h']at el sl;exact oldA l dl (((ho l).mp ml).resolve_left (zh h')) el sl
  ·by_cases hl':i=l
   ·subst hl'
    have hl:i < σ.length:=by
     have:=(qG.mp sl).1;simp_all
    simp_all
   ·rw[zb hk]at ek sk
    rw[zb hl']at el sl;exact j.ne k l b dk dl (((ho k).mp mk).resolve_left (zh hk)) (((ho l).mp ml).resolve_left (zh hl')) n ek el sk sl
theorem Jf.freeze (j:Jf G own kn jS H0 σ Hf H ρ)(ho:∀k,k∈own'->k∈own):∃Hf',Jf G own' kn jS H0 σ Hf' H ρ:=by
 classical
 let OA:Addr->Prop:=λb=>∃i d,i∈own/\i∉own'/\ρ[i]?=some (some d)/\σ[i]?=some (some (.ref b))
 have oaH:∀b,OA b->Hf b=none/\H0 b=none:=λb ⟨i,d,m,_,e,q⟩=>by
  obtain⟨a,h1,h2,h3,h4,h5⟩:=j.ow i d m e;rw[q]at h1;cases h1;exact⟨h3,h4⟩
 have fF:Zz G Hf (λb=>if OA b then H b else Hf b):=λb o n e=>by
  have:¬OA b:=λz=>by rw[(oaH b z).1]at e;cases e
  show(if OA b then H b else Hf b)=_;rw[if_neg this];exact e
 refine⟨λb=>if OA b then H b else Hf b,j.len,j.kn.trans fF,⟨j.gr.hh,j.gr.ff.trans fF,λb o n e=>?_,λb n h1 h2=>?_⟩,λk c n e=>?_,λk c m e=>?_,λk l b dk dl mk ml=>j.ne k l b dk dl (ho k mk) (ho l ml)⟩
 ·have e':(if OA b then H b else Hf b)=some o:=e
  split at e'
  ·exact e'
  ·exact j.gr.fh b o n e'
 ·have:=λz=>h2.no (oaH b z).2
  rw[if_neg this];exact j.gr.nw b n h1 h2
 ·by_cases m:k∈own
  ·obtain⟨a,h1,h2,h3,h4,h5⟩:=j.ow k c m e
   refine⟨_,h1,h5.rep (ju h2) fF λo q=>?_⟩;rw[if_pos ⟨k,c,m,n,e,h1⟩];exact q
  ·obtain⟨v,h1,h2⟩:=j.fz k c m e
   exact⟨v,h1,h2.ext fF⟩
 ·obtain⟨a,h1,h2,h3,h4,h5⟩:=j.ow k c (ho k m) e
  refine⟨a,h1,h2,?_,h4,h5.keep fF λo q=>q⟩;have:¬OA a:=λ⟨i,d,mi,ni,ei,qi⟩=>j.ne i k a d c mi (ho k m) (λz=>ni (z▸m)) ei e qi h1;simp_all
end
theorem Jf.setF {kn:Hp}(j:Jf G own kn jS H0 σ Hf H ρ)(hi:i∉own)(r:Zl G Hf d v):Jf G own kn jS H0 (σ.set i (some v)) Hf H (ρ.set i (some d)):=
 j.set (λk m=>⟨λz=>hi (by simp_all),m⟩) (λk m _=>m) r
noncomputable def XZ (G:Gh)(fr:Bool)(t:TE)(f:Zc->M D):Prop:=
 ∀(σ:St) (Hf H:Hp) (ρ:Zc) (s:Pn) (d:D) (s':Pn) (Q:VK),Zz G Hf H->YL G Hf σ ρ->G.st s H->f ρ s=some (d,s')->
  (∀v Hf' H',Gr G Hf H Hf' H'->G.st s' H'->Zl G Hf' d v->(fr=true->YA G H Hf' d v)->Q v H')->t σ H Q
noncomputable def WC (G:Gh)(own:List Nat)(fr:Bool)(t:TE)(f:Zc->M D):Prop:=
 ∀(kn jS H0:Hp) (σ:St) (Hf H:Hp) (ρ:Zc) (s:Pn) (d:D) (s':Pn) (Q:VK),Jf G own kn jS H0 σ Hf H ρ->G.st s H->f ρ s=some (d,s')->
  (∀v Hf' H',Jf G own kn jS H0 σ Hf' H' ρ->Zz G Hf Hf'->Zz G H H'->G.st s' H'->Zl G Hf' d v->(fr=true->YA G H Hf' d v)->Q v H')->t σ H Q
section
variable {X:Cx}{G:Gh}{own:List Nat}{fr:Bool}{t:TE}{f:Zc->M D}
theorem XZ.a (h:XZ G fr t f):WC G own fr t (fun ρ=>f (YB own ρ)):=λkn jS H0 σ Hf H ρ s d s' Q j st e k=>
 h σ Hf H (YB own ρ) s d s' Q j.gr.fh j.envA st e λv Hf' H' g st' r fz=>k v Hf' H' (j.grow g) g.ff g.hh st' r fz
theorem XZ.n (h:XZ G fr t f):WC G [] fr t f:=λkn jS H0 σ Hf H ρ s d s' Q j st e k=>
 h.a kn jS H0 σ Hf H ρ s d s' Q j st (by show f (YB [] ρ) s=_;rw[ZfF];exact e) k
theorem Zi7 (h:XJ d=true):¬UN d:=by
 cases d <;> first | exact(λz=>z) | (simp[XJ]at h)
noncomputable def Y2 (fr:Bool)(f:Zc->M D):Zc->M D:=fun ρ=>Zp (f ρ) λd=>if (XJ d||(fr&&BM d))=true then Zy d else Zv
theorem ZkG (h:f ρ s=some (d,s'))(c:(XJ d||(fr&&BM d))=true):Y2 fr f ρ s=some (d,s'):=by
 unfold Y2 Zp;rw[h];show(if (XJ d||(fr&&BM d))=true then Zy d else Zv) s'=_;rw[if_pos c];rfl
theorem XZ.b (h:XZ G fr t f):WC G own fr t (Y2 fr f):=λkn jS H0 σ Hf H ρ s d s' Q j st e k=>by
 obtain⟨d1,s1,a1,a2⟩:=ZA e;obtain⟨c,a3⟩:=Y6 a2;obtain⟨rfl,rfl⟩:=ZM a3;refine h σ _ H ρ s d s' Q UG j.envB st a1 λv Hf' H' g st' r fz=>?_;obtain⟨F,j',fF,q1,q2⟩:=j.growB g;rcases qb1.mp c with c | c
 ·exact k v F H' j' fF g.hh st' (q1 d v c r) λz a ea m=>absurd m (Zi7 c)
 ·obtain⟨c1,c2⟩:=yE.mp c
  obtain⟨x1,x2⟩:=q2 d v c2 (fz c1) r;exact k v F H' j' fF g.hh st' x1 λ_=>x2
inductive Out where
 | nx (ρ:Zc) | rt (d:D) | bk (ρ:Zc) | ct (ρ:Zc)
noncomputable def Post (G:Gh)(ob own':List Nat)(kn jS H0:Hp)(fr:Bool)(out:Out)(s':Pn)(E:Ends):Prop:=match out with
 | .nx ρ=>∀σ H,J G own' kn jS H0 σ H ρ->G.st s' H->E.nx σ H
 | .bk ρ=>∀σ H,J G ob kn jS H0 σ H ρ->G.st s' H->E.bk σ H
 | .ct ρ=>∀σ H,J G ob kn jS H0 σ H ρ->G.st s' H->E.ct σ H
 | .rt d=>∀v Hf' H',Gr G jS H0 Hf' H'->G.st s' H'->Zl G Hf' d v->(fr=true->YA G H0 Hf' d v)->E.rt v H'
noncomputable def JN (G:Gh)(ob own own':List Nat)(fr:Bool)(t:TS)(g:Zc->M Out):Prop:=
 ∀(kn jS H0:Hp) (σ:St) (H:Hp) (ρ:Zc) (s:Pn) (out:Out) (s':Pn) (E:Ends),J G own kn jS H0 σ H ρ->G.st s H->g ρ s=some (out,s')->Post G ob own' kn jS H0 fr out s' E->t E σ H
noncomputable def YM (X:Cx)(G:Gh)(ob own own':List Nat)(fr:Bool)(st:Stmt)(g:Zc->M Out):Prop:=∃t,PS X st t/\JN G ob own own' fr t g
noncomputable def X7 (X:Cx)(G:Gh)(ob own own':List Nat)(fr:Bool)(sts:List Stmt)(g:Zc->M Out):Prop:=∃t,Wt X sts t/\JN G ob own own' fr t g
variable {ob own' own2:List Nat}
theorem YM.frz {st:Stmt}(h:YM X G ob own2 own' fr st g)(hs:∀k,k∈own2->k∈own:=by decide):YM X G ob own own' fr st g:=by
 obtain⟨t,p,q⟩:=h;exact⟨t,p,λkn jS H0 σ H ρ s out s' E ⟨Hf,j⟩ st e po=>q kn jS H0 σ H ρ s out s' E (j.freeze hs) st e po⟩
noncomputable def Zq:Zc->M Out:=fun ρ=>Zy (.nx ρ)
noncomputable def Zg (g1 g2:Zc->M Out):Zc->M Out:=fun ρ=>Zp (g1 ρ) λo=>match o with | .nx ρ'=>g2 ρ' | .rt d=>Zy (.rt d) | .bk ρ'=>Zy (.bk ρ') | .ct ρ'=>Zy (.ct ρ')
theorem YJ (hs:∀k,k∈own'->k∈own:=by decide):X7 X G ob own own' fr [] Zq:=⟨_,ZeJ,λkn jS H0 σ H ρ s out s' E ⟨Hf,j⟩ st e p=>by
 obtain⟨rfl,rfl⟩:=ZM e;exact p σ H (j.freeze hs) st⟩
theorem Yu {st:Stmt}(h:YM X G ob own own2 fr st g1)(h2:X7 X G ob own2 own' fr sts g2):X7 X G ob own own' fr (st::sts) (Zg g1 g2):=by
 obtain⟨t,p,q⟩:=h;obtain⟨u,p2,q2⟩:=h2;refine⟨_,W3 p p2,λkn jS H0 σ H ρ s out s' E j st e po=>?_⟩;obtain⟨o,s1,a1,a2⟩:=ZA e;refine q kn jS H0 σ H ρ s o s1 _ j st a1 ?_
 cases o with
 | nx ρ1=>exact fun σ1 H1 j1 j9=>q2 kn jS H0 σ1 H1 ρ1 s1 out s' E j1 j9 a2 po
 | rt d=>obtain⟨rfl,rfl⟩:=ZM a2;exact po
 | bk ρ1=>obtain⟨rfl,rfl⟩:=ZM a2;exact po
 | ct ρ1=>obtain⟨rfl,rfl⟩:=ZM a2;exact po
noncomputable def ZN (f:Zc->M D):Zc->M Out:=fun ρ=>Zp (f ρ) λd=>Zy (.rt d)
theorem YC (h:PD X G fr e f):YM X G ob own own' fr (.Return (some e) pos) (ZN f):=by
 obtain⟨t,p,q⟩:=h;refine⟨_,Jl p,λkn jS H0 σ H ρ s out s' E ⟨Hf,j⟩ st e po=>?_⟩;obtain⟨d,s1,a1,a2⟩:=ZA e;obtain⟨rfl,rfl⟩:=ZM a2;exact q σ _ H ρ s d s' _ UG j.envB st a1 λv Hf' H' g st' r fz=>po v Hf' H' (j.grW g) st' r λz=>jn j.gr.hh r.nofp (fz z)
theorem Zbl (hi:i∈own)(h:PE X (.Name x pos') (Z6 i)):YM X G ob own own' true (.Return (some (.Name x pos')) pos) (ZN (Za i)):=by
 refine⟨_,Jl h,λkn jS H0 σ H ρ s out s' E ⟨Hf,j⟩ st e po=>?_⟩;obtain⟨d,s1,a1,a2⟩:=ZA e;obtain⟨rfl,rfl⟩:=ZM a2;obtain⟨e1,rfl⟩:=Wx a1;have e':ρ[i]?=some (some d):=by
  cases q:ρ[i]? with
  | none=>simp_all
  | some o=>simp_all
 obtain⟨v,h1,h2⟩:=j.envB i d e';obtain⟨a,g1,g2,g3,g4,g5⟩:=j.ow i d hi e';rw[g1]at h1;cases h1;refine⟨_,g1,po (.ref a) _ H (j.grW (.refl UG)) st h2 λ_ b eb _=>?_⟩
 cases eb
 refine⟨g4,λds ed=>?_⟩;subst ed;obtain⟨vs,q1,q2⟩:=g5;refine⟨vs,Hf,?_,g3,j.wideF,q2⟩;unfold wide;rw[if_neg (λz=>z.2.no g4)];exact q1
noncomputable def YR (c:Zc->M Bool)(g1 g2:Zc->M Out):Zc->M Out:=fun ρ=>Zp (c ρ) λb=>if b=true then g1 ρ else g2 ρ
theorem ZeS (hc:Vb X G c fc)(ha:X7 X G ob own own' fr a g1)(hb:X7 X G ob own own' fr b g2):YM X G ob own own' fr (.If c a b pos) (YR fc g1 g2):=by
 obtain⟨tc,pc,qc⟩:=hc;obtain⟨ta,pa,qa⟩:=ha;obtain⟨tb,pb,qb⟩:=hb;refine⟨_,Zkk pc pa pb,λkn jS H0 σ H ρ s out s' E ⟨Hf,j⟩ st e po=>?_⟩;obtain⟨b,s1,a1,a2⟩:=ZA e;refine qc σ _ H ρ s b s1 _ UG j.envB st a1 λHf' H' g st'=>?_;obtain⟨F,j',fF,q1,q2⟩:=j.growB g
 cases b with
 | true=>exact VD (qa kn jS H0 σ H' ρ s1 out s' E ⟨F,j'⟩ st' a2 po)
 | false=>exact Ur (qb kn jS H0 σ H' ρ s1 out s' E ⟨F,j'⟩ st' a2 po)
noncomputable def JH (X:Cx)(G:Gh)(fr:Bool)(i:Nat)(st:Stmt)(f:Zc->M D):Prop:=∃te,PS X st (λE σ H=>te σ H λy H1=>E.nx (σ.set i (some y)) H1)/\XZ G fr te f
theorem Yn {pos:Pos}(hN:X.N.Nodup)(hi:X.N[i]?=some x)(hx:WH X.env.scope x)(he:PD X G fr e f)(hs:xt e (some (.Name x pos')) pos.line X.env=pure false:=by rfl)
  (hf:X.fn x=true∨X.env.scope.names.lookup x=some .local:=by first | exact .inl rfl | exact .inr rfl | assumption):JH X G fr i (.Assign [.Name x pos'] e pos) f:=by
 obtain⟨t,p,q⟩:=he;exact⟨t,Ui hN hi hx p hs hf,q⟩
noncomputable def ZS (i:Nat)(f:Zc->M D):Zc->M Out:=fun ρ=>Zp (f ρ) λd=>Zy (.nx (ρ.set i (some d)))
theorem ZfG {st:Stmt}(hp:PS X st (λE σ H=>te σ H λy H1=>E.nx (σ.set i (some y)) H1))(hy:WC G own fr te f)(hi:i∉own):YM X G ob own own fr' st (ZS i f):=
 ⟨_,hp,λkn jS H0 σ H ρ s out s' E ⟨Hf,j⟩ st e po=>by
  obtain⟨d,s1,a1,a2⟩:=ZA e;obtain⟨rfl,rfl⟩:=ZM a2;exact hy kn jS H0 σ Hf H ρ s d s' _ j st a1 λv Hf' H' j' e1 e2 st' r fz=>po _ H' ⟨Hf',j'.setF hi r⟩ st'⟩
theorem Yx {st:Stmt}(h:JH X G fr i st f):YM X G ob [] [] fr' st (ZS i f):=let ⟨_,p,q⟩:=h;ZfG p q.n (by simp)
theorem ZfH {st:Stmt}(h:JH X G fr i st f)(hi:i∉own:=by decide):YM X G ob own own fr' st (ZS i (fun ρ=>f (YB own ρ))):=let ⟨_,p,q⟩:=h;ZfG p q.a hi
noncomputable def WD (i:Nat)(f:Zc->M D):Zc->M Out:=fun ρ=>Zp (f ρ) λd=>if ZeR d=true then Zy (.nx (ρ.set i (some d)))else Zv
theorem ZfI {st:Stmt}(hp:PS X st (λE σ H=>te σ H λy H1=>E.nx (σ.set i (some y)) H1))(hy:WC G own true te f)(ho:∀k,k∈own'↔k=i∨k∈own):YM X G ob own own' fr' st (WD i f):=
 ⟨_,hp,λkn jS H0 σ H ρ s out s' E ⟨Hf,j⟩ st e po=>by
  obtain⟨d,s1,a1,a2⟩:=ZA e;obtain⟨ok,a3⟩:=Y6 a2;obtain⟨rfl,rfl⟩:=ZM a3;exact hy kn jS H0 σ Hf H ρ s d s' _ j st a1 λv Hf' H' j' e1 e2 st' r fz=>po _ H' (j.setOwn j' ho st e2 e1 r (fz rfl) ok) st'⟩
theorem J8 {st:Stmt}(h:JH X G true i st f):YM X G ob [] [i] fr' st (WD i f):=let ⟨_,p,q⟩:=h;ZfI p q.n (by simp)
theorem ZkH {st:Stmt}(h:JH X G true i st f)(ho:∀k,k∈own'↔k=i∨k∈own:=by intro k;simp;try omega):YM X G ob own own' fr' st (WD i (fun ρ=>f (YB own ρ))):=let ⟨_,p,q⟩:=h;ZfI p q.a ho
inductive Sets (G:Gh)(Hf:Hp)(ok:Nat->Prop):St->Zc->St->Zc->Prop
 | nil {σ ρ}:Sets G Hf ok σ ρ σ ρ
 | cons {σ ρ σ' ρ'} {i:Nat} {d:D} {v:V}:ok i->Zl G Hf d v->Sets G Hf ok (σ.set i (some v)) (ρ.set i (some d)) σ' ρ'->Sets G Hf ok σ ρ σ' ρ'
noncomputable def V4 (X:Cx)(G:Gh)(tg:Expr)(ok:Nat->Prop)(τ:D->Zc->Option Zc):Prop:=
 ∃g,PG X tg g/\∀(x:V) (σ:St) (Hf H:Hp) (d:D) (ρ ρ':Zc) (Q:St->Hp->Prop),Zz G Hf H->Zl G Hf d x->τ d ρ=some ρ'->(∀σ',Sets G Hf ok σ ρ σ' ρ'->Q σ' H)->g x σ H Q
noncomputable def Zt (i:Nat):D->Zc->Option Zc:=λd ρ=>some (ρ.set i (some d))
theorem Wd (hN:X.N.Nodup)(hi:X.N[i]?=some x)(hx:WH X.env.scope x)(oi:ok i)(hf:X.fn x=true∨X.env.scope.names.lookup x=some .local:=by first | exact .inl rfl | exact .inr rfl | assumption):V4 X G (.Name x pos) ok (Zt i):=
 ⟨_,WO hN hi hx hf,λx σ Hf H d ρ ρ' Q e r q k=>by
  cases q
  exact k _ (.cons oi r .nil)⟩
noncomputable def W8 (i j:Nat):D->Zc->Option Zc:=λd ρ=>match d with | .tup [a,b]=>some ((ρ.set i (some a)).set j (some b)) | _=>none
theorem ZbA {pos px py:Pos}{k:Nat}(hc:X.calm=true)(hN:X.N.Nodup)(hi:X.N[i]?=some x)(hj:X.N[j]?=some y)(hx:WH X.env.scope x)(hy:WH X.env.scope y)(oi:ok i)(oj:ok j)
  (hfx:X.fn x=true∨X.env.scope.names.lookup x=some .local:=by first | exact .inl rfl | exact .inr rfl | assumption) (hfy:X.fn y=true∨X.env.scope.names.lookup y=some .local:=by first | exact .inl rfl | exact .inr rfl | assumption)
  (hn:(assignEach [.Name x px,.Name y py] X.env).length=2:=by rfl) (hst:(assignEach [.Name x px,.Name y py] X.env).findIdx? (·.1)=none:=by rfl)
  (hp:BI X [.Name x px,.Name y py] (Zkl (Wz i) (Zkl (Wz j) gNil))):V4 X G (.Tuple [.Name x px,.Name y py] k pos) ok (W8 i j):=
 ⟨_,ZoA hc hp hn hst,λx σ Hf H d ρ ρ' Q e r q k=>by
  match d,q,r with
  | .tup [a,b],q,r=>
   cases q
   obtain⟨ad,vs,rfl,n,h,rl⟩:=jc.mp r;obtain⟨v1,r1,rfl,q1,q2⟩:=jd.mp rl;obtain⟨v2,r2,rfl,q3,q4⟩:=jd.mp q2;have:=Zj.nil_iff.mp q4;subst this;exact⟨ad,_,rfl,ZO.of (e _ _ n h),rfl,v1,_,rfl,v2,_,rfl,rfl,k _ (.cons oi q1 (.cons oj q3 .nil))⟩⟩
theorem Sets.jf (h:Sets G Hf (λi=>i∉own) σ ρ σ' ρ'):Jf G own kn jS H0 σ Hf H ρ->Jf G own kn jS H0 σ' Hf H ρ':=by
 induction h with
 | nil=>simp
 | cons o r _ ih=>exact λj=>ih (j.setF o r)
noncomputable def Vq (G:Gh)(J:It)(Hf':Hp)(ds:List D):Prop:=
 ∀(i:Nat) (j8 H2:Hp) (s:Pn),Zz G Hf' j8->Zz G j8 H2->G.st s H2->
  (∀d,ds[i]?=some d->J.go i H2/\∀x H3,J.yld i H2 x H3->∃Hf3,Gr G j8 H2 Hf3 H3/\G.st s H3/\Zl G Hf3 d x)/\(i=ds.length->J.stop i H2)
noncomputable def WI (X:Cx)(G:Gh)(tg iter:Expr)(f:Zc->M (List D)):Prop:=
 ∃wi,PI X tg iter wi/\∀(σ:St) (Hf H:Hp) (ρ:Zc) (s:Pn) (ds:List D) (s':Pn) (R:It->Hp->Prop),Zz G Hf H->YL G Hf σ ρ->G.st s H->f ρ s=some (ds,s')->
  (∀J Hf' H',Gr G Hf H Hf' H'->G.st s' H'->Vq G J Hf' ds->R J H')->wi σ H R
theorem Vq.range {lo:Int}(e:ds=(qf n).map λ(i:Nat)=>D.int (lo+i)):Vq G (BJ lo n) Hf ds:=λi j8 H2 s e1 e2 st=>by
 subst e;refine⟨λd q=>?_,λq=>by show n<=i;rw[q];simp⟩;have hi:i<n:=by
  have:=(qG.mp q).1;simp_all
 have hd:d=.int (lo+i):=by
  simp_all
 subst hd;refine⟨hi,λx H3 y=>?_⟩;obtain⟨y1,y2⟩:=y;subst y1 y2;exact⟨j8,.refl e2,st,ja.mpr rfl⟩
theorem Vq.list {K:qk}(nf:¬G.fp a)(h:Hf a=some (.lst vs))(r:Zj G Hf ds vs):Vq G (Itl K a) Hf ds:=λi j8 H2 s e1 e2 st=>by
 have h2:Zw K H2 a vs:=Zw.of (e2 _ _ nf (e1 _ _ nf h));refine⟨λd q=>?_,λq=>⟨vs,h2,by rw[q,r.length];simp⟩⟩;obtain⟨v,q1,q2⟩:=r.get q;refine⟨⟨vs,v,h2,q1⟩,λx H3 ⟨y1,y2⟩=>?_⟩;subst y1;have e:=y2 vs h2;rw[q1]at e;cases e;exact⟨j8,.refl e2,st,q2.ext e1⟩
theorem Vq.tup {K:qk}(nf:¬G.fp a)(h:Hf a=some (.tup vs))(r:Zj G Hf ds vs):Vq G (Itt K a) Hf ds:=λi j8 H2 s e1 e2 st=>by
 have h2:ZO K H2 a vs:=ZO.of (e2 _ _ nf (e1 _ _ nf h));refine⟨λd q=>?_,λq=>⟨vs,h2,by rw[q,r.length];simp⟩⟩;obtain⟨v,q1,q2⟩:=r.get q;refine⟨⟨vs,v,h2,q1⟩,λx H3 ⟨y1,y2⟩=>?_⟩;subst y1;have e:=y2 vs h2;rw[q1]at e;cases e;exact⟨j8,.refl e2,st,q2.ext e1⟩
noncomputable def Yo (lo:Int)(n:Nat):List D:=(qf n).map λ(i:Nat)=>D.int (lo+i)
noncomputable def Z3 (f:Zc->M D):Zc->M (List D):=fun ρ=>Zp (f ρ) λd=>match d with | .int j=>if -(2 ^ 62)<=j/\j<2 ^ 62 then Zy (Yo 0 j.toNat)else Zv | _=>Zv
theorem Ub (hg:Gl X "range")(hm:X.mg "range" = none)(ha:PD X G r1 a f)(hs:xi [a] X.env=[(false,eval a X.env)]:=by rfl):WI X G tg (.Call (.Name "range" p) [a] [] pos) (Z3 f):=by
 obtain⟨t,pa,qa⟩:=ha.drop;refine⟨_,Zb0 hg hm (YF pa YX (by rw[hs];rfl)) hs,fun σ Hf H ρ s ds s' R e1 e2 e3 e4 k=>?_⟩;obtain⟨d,s1,a1,a2⟩:=ZA e4
 cases d with
 | int j=>
  obtain⟨c,a3⟩:=Y6 a2;obtain⟨rfl,rfl⟩:=ZM a3;refine qa σ Hf H ρ s _ _ _ e1 e2 e3 a1 λv jU H1 g st r=>?_;rw[ja.mp r];exact⟨j,rfl,c.1,c.2,k _ jU H1 g st (.range rfl)⟩
 | _=>cases a2
noncomputable def ZcE (f g:Zc->M D):Zc->M (List D):=fun ρ=>Zp (f ρ) λd=>Zp (g ρ) λe=>match d,e with | .int i,.int j=>if -(2 ^ 62)<=i/\i<2 ^ 62/\-(2 ^ 62)<=j/\j<2 ^ 62 then Zy (Yo i (j-i).toNat)else Zv | _,_=>Zv
noncomputable def ZV (f:Zc->M D):Zc->M (List D):=fun ρ=>Zp (f ρ) λd=>match d with | .lst ds=>Zy ds | _=>Zv
noncomputable def Vk (f:Zc->M D):Zc->M (List D):=fun ρ=>Zp (f ρ) λd=>match d with | .tup ds=>Zy ds | _=>Zv
theorem XH (hl:PD X G r1 l f):WI X G tg l (ZV f):=by
 obtain⟨t,pa,qa⟩:=hl.drop;refine⟨_,ZeK pa,fun σ Hf H ρ s ds s' R e1 e2 e3 e4 k=>?_⟩;obtain⟨d,s1,a1,a2⟩:=ZA e4
 cases d with
 | lst es=>
  obtain⟨rfl,rfl⟩:=ZM a2;refine qa σ Hf H ρ s _ _ _ e1 e2 e3 a1 λv jU H1 g st r=>?_;obtain⟨a,vs,rfl,nf,h,rl⟩:=jb.mp r;exact⟨a,rfl,⟨vs,Zw.of (g.fh _ _ nf h)⟩,k _ jU H1 g st (.list nf h rl)⟩
 | _=>cases a2
theorem ZeT (hl:PD X G r1 l f):WI X G tg l (Vk f):=by
 obtain⟨t,pa,qa⟩:=hl.drop;refine⟨_,ZoG pa,fun σ Hf H ρ s ds s' R e1 e2 e3 e4 k=>?_⟩;obtain⟨d,s1,a1,a2⟩:=ZA e4
 cases d with
 | tup es=>
  obtain⟨rfl,rfl⟩:=ZM a2;refine qa σ Hf H ρ s _ _ _ e1 e2 e3 a1 λv jU H1 g st r=>?_;obtain⟨a,vs,rfl,nf,h,rl⟩:=jc.mp r;exact⟨a,rfl,⟨vs,ZO.of (g.fh _ _ nf h)⟩,k _ jU H1 g st (.tup nf h rl)⟩
 | _=>cases a2
noncomputable def WE (τ:D->Zc->Option Zc)(body:Zc->M Out):List D->Zc->M Out
 | [],ρ=>Zy (.nx ρ)
 | d::ds,ρ=>Zp (YI (τ d ρ)) fun ρ1=>Zp (body ρ1) λo=>match o with | .nx ρ2=>WE τ body ds ρ2 | .ct ρ2=>WE τ body ds ρ2 | .bk ρ2=>Zy (.nx ρ2) | .rt d=>Zy (.rt d)
noncomputable def YU (fi:Zc->M (List D))(τ:D->Zc->Option Zc)(body:Zc->M Out):Zc->M Out:=fun ρ=>Zp (fi ρ) λds=>WE τ body ds ρ
noncomputable def BB (X:Cx)(G:Gh)(own:List Nat)(tg iter:Expr)(f:Zc->M (List D)):Prop:=
 ∃wi,PI X tg iter wi/\∀(kn jS H0:Hp) (σ:St) (Hf H:Hp) (ρ:Zc) (s:Pn) (ds:List D) (s':Pn) (R:It->Hp->Prop),Jf G own kn jS H0 σ Hf H ρ->G.st s H->f ρ s=some (ds,s')->
  (∀J Hf' H',Jf G own kn jS H0 σ Hf' H' ρ->Zz G Hf Hf'->G.st s' H'->Vq G J Hf' ds->R J H')->wi σ H R
theorem WI.a (h:WI X G tg iter fi):BB X G own tg iter (fun ρ=>fi (YB own ρ)):=by
 obtain⟨wi,p,q⟩:=h;exact⟨wi,p,λkn jS H0 σ Hf H ρ s ds s' R j st e k=>q σ Hf H _ s ds s' R j.gr.fh j.envA st e λJ Hf' H' g st' it=>k J Hf' H' (j.grow g) g.ff st' it⟩
theorem WI.n (h:WI X G tg iter fi):BB X G [] tg iter fi:=by
 obtain⟨wi,p,q⟩:=h.a;exact⟨wi,p,λkn jS H0 σ Hf H ρ s ds s' R j st e k=>q kn jS H0 σ Hf H ρ s ds s' R j st (by show fi (YB [] ρ) s=_;rw[ZfF];exact e) k⟩
theorem WZ (hg:Gl X "range")(hm:X.mg "range" = none)(ha:PD X G r1 a f)(hs:xi [a] X.env=[(false,eval a X.env)]:=by rfl):BB X G own tg (.Call (.Name "range" p) [a] [] pos) (Z3 f):=by
 obtain⟨t,pa,qa⟩:=ha.drop;refine⟨_,Zb0 hg hm (YF pa YX (by rw[hs];rfl)) hs,λkn jS H0 σ Hf H ρ s ds s' R j st e4 k=>?_⟩;obtain⟨d,s1,a1,a2⟩:=ZA e4
 cases d with
 | int i=>
  obtain⟨c,a3⟩:=Y6 a2;obtain⟨rfl,rfl⟩:=ZM a3;refine qa σ _ H ρ s _ _ _ UG j.envB st a1 λv jU H1 g st r=>?_;obtain⟨F,j',fF,q1,q2⟩:=j.growB g;rw[ja.mp r];exact⟨i,rfl,c.1,c.2,k _ F H1 j' fF st (.range rfl)⟩
 | _=>cases a2
theorem ZfJ {tg:Expr}{p pos:Pos}(hg:Gl X "range")(hm:X.mg "range" = none)(ha:PD X G r1 a f)(hb:PD X G r2 b f2)
  (hs:xi [a,b] X.env=[(false,eval a X.env),(false,eval b X.env)]:=by rfl) (hs2:xi [b] X.env=[(false,eval b X.env)]:=by rfl):BB X G own tg (.Call (.Name "range" p) [a,b] [] pos) (ZcE f f2):=by
 obtain⟨t,pa,qa⟩:=ha.drop;obtain⟨u,pb,qb⟩:=hb.drop;refine⟨_,ZiW hg hm (YF pa (YF pb YX (by rw[hs2];rfl)) (by rw[hs,hs2])) hs hs2,λkn jS H0 σ Hf H ρ s ds s' R j st e4 k=>?_⟩;obtain⟨d,s1,a1,a2⟩:=ZA e4;obtain⟨d2,s2,a3,a4⟩:=ZA a2
 match d,d2,a4,a1,a3 with
 | .int i,.int l,a4,a1,a3=>
  obtain⟨c,a5⟩:=Y6 a4;obtain⟨rfl,rfl⟩:=ZM a5;refine qa σ _ H ρ s _ _ _ UG j.envB st a1 λv jU H1 g st r=>?_;refine qb σ jU H1 ρ s1 _ _ _ g.fh (j.envB.ext g.ff) st a3 λv2 j8 H2 g2 jW r2=>?_;obtain⟨F,j',fF,q1,q2⟩:=j.growB (g.trans g2);rw[ja.mp r,ja.mp r2];exact⟨i,l,rfl,c,k _ F H2 j' fF jW (.range rfl)⟩
theorem Jf.weak {kn:Hp}(j:Jf G own kn' jS H0 σ Hf H ρ)(e:Zz G kn kn'):Jf G own kn jS H0 σ Hf H ρ:=⟨j.len,e.trans j.kn,j.gr,j.fz,j.ow,j.ne⟩
theorem We (hp:PassesOwn (xD X.prog X.w) X.A X.env X.xe)(hc:X.calm=true)(hi:BB X G own tg iter fi)(hg:V4 X G tg (λi=>i∉own) τ)(hb:X7 X G own own own fr body g)
  (hs:∀x,foldedSetIterable iter X.env x=pure x:=by intro _;rfl):YM X G ob own own fr (.For tg iter body [] pos) (YU fi τ g):=by
 obtain⟨wi,pi,qi⟩:=hi;obtain⟨gt,pg,qg⟩:=hg;obtain⟨tb,pb,qb⟩:=hb;refine⟨_,Zkp hp hc pi pg pb hs,λkn jS H0 σ H ρ s out s' E ⟨Hf,j⟩ st e po=>?_⟩;obtain⟨ds,s1,a1,a2⟩:=ZA e;refine qi kn jS H0 σ Hf H ρ s ds s1 _ j st a1 λJt jU H1 j1 e1 j9 it=>?_;refine⟨λi m σ2 H2=>∃ρ2 s2,J G own jU jS H0 σ2 H2 ρ2/\G.st s2 H2/\WE τ g (ds.drop i) ρ2 s2=some (out,s')/\i<=ds.length/\m=ds.length-i,⟨_,ρ,s1,⟨jU,⟨j1.len,.refl _ _,j1.gr,j1.fz,j1.ow,j1.ne⟩⟩,j9,a2,zk _,rfl⟩,?_⟩;rintro i m σ2 H2 ⟨ρ2,s2,⟨j8,j2⟩,jW,eq2,hle,rfl⟩;obtain⟨i1,i2⟩:=it i j8 H2 s2 j2.kn j2.gr.fh jW;by_cases hlt:i<ds.length
 ·have hd:ds.drop i=ds[i]::ds.drop (i+1):=qac hlt
  rw[hd]at eq2;obtain⟨ρ3,s3,b1,b2⟩:=ZA eq2;obtain⟨b1',e3⟩:=Wx b1;subst e3;obtain⟨o,s4,b3,b4⟩:=ZA b2;obtain⟨go,yl⟩:=i1 ds[i] (by simp[hlt]);refine .inr ⟨go,fun σ' H'=>∃ρ5 s5,J G own jU jS H0 σ' H' ρ5/\G.st s5 H'/\WE τ g (ds.drop (i+1)) ρ5 s5=some (out,s'),fun σ' H' ⟨ρ5,s5,j5,st5,q5⟩=>⟨_,by omega,ρ5,s5,j5,st5,q5,hlt,rfl⟩,λx H3 y3=>?_⟩;obtain⟨Hf3,g3,st3,r3⟩:=yl x H3 y3;have j3:=j2.grow g3;refine qg x σ2 Hf3 H3 ds[i] ρ2 ρ3 _ g3.fh r3 b1' fun σ3 sets=>?_;have j4:=sets.jf j3;refine qb jU jS H0 σ3 H3 ρ3 s3 o s4 _ ⟨Hf3,j4⟩ st3 b3 ?_
  cases o with
  | nx ρ5=>exact fun σ5 H5 j5 st5=>⟨ρ5,s4,j5,st5,b4⟩
  | ct ρ5=>exact fun σ5 H5 j5 st5=>⟨ρ5,s4,j5,st5,b4⟩
  | bk ρ5=>
   obtain⟨rfl,rfl⟩:=ZM b4;exact fun σ5 H5 ⟨Hf5,j5⟩ st5=>po σ5 H5 ⟨Hf5,j5.weak (j.kn.trans e1)⟩ st5
  | rt d=>
   obtain⟨rfl,rfl⟩:=ZM b4;exact po
 ·have hd:ds.drop i=[]:=qbU.mpr (by omega)
  rw[hd]at eq2;obtain⟨rfl,rfl⟩:=ZM eq2;exact .inl ⟨i2 (by omega),po σ2 H2 ⟨j8,j2.weak (j.kn.trans e1)⟩ jW⟩
end
noncomputable def runB (n k:Nat)(g:Zc->M Out):List D->M D:=λds=>if ds.length=k then Zp (g (ds.map some++qA (n-k) none)) λo=>match o with | .rt d=>Zy d | .nx _=>Zy .non | _=>Zv else Zv
theorem Xc {K:qk}{st:Stmt}
  (F:Fun K x qual st f fd) (S:FnScope N ps (Zx st))
  (hb:∀(cdv:Value) (A:xG) (outer:List Env) (s:Shared) (H:Hp) (E:XK),Room k (A.deeper (envOfC qual (Zx st) s.heap.objs.size f cdv))->∀G,GG G->X7 (Va ZQ P w K mg base N qual (Zx st) f cdv A outer s H E).nox G [] [] own fr (Wy st) g) :
  FnOk P w K mg base ZQ (k+1) f fd ps (Yj ps.length fr GG (runB N.length ps.length g)):=by
 refine F.ok S (λvs H Q E h=>?_) λcdv A outer s H vs Q E hr h=>?_
 ·obtain⟨G,Hf,ds,pn,d,pn',_,e,_⟩:=h
  exact e
 ·obtain⟨G,Hf,ds,pn,d,pn',hG,el,e1,r,st',eF,k'⟩:=h
  obtain⟨t,p,q⟩:=hb cdv A outer s H E hr G hG;refine⟨t,p,?_⟩;obtain⟨hl,a0⟩:=Y6 eF;obtain⟨o,s1,a1,a2⟩:=ZA a0;have hpl:ps.length<=N.length:=by have:=congrArg qaW S.pre;rw[ym]at this;omega
  have j0:Jf G [] Hf Hf H (L2.start N vs) Hf H (ds.map some++qA (N.length-ps.length) none):=by
   refine⟨?_,.refl _ _,.refl e1,λi d n e=>?_,λi d m e=>?_,λi j a di dj mi mj n e=>?_⟩
   ·unfold L2.start;simp;omega
   ·have hi:i<ds.length:=by
     by_cases hi:i<ds.length
     ·exact hi
     ·rw[yB (by simpa using hi),yO]at e
      split at e <;> cases e
    have e':ds[i]?=some d:=by
     rw[zK (by simpa using hi),qM]at e
     cases q:ds[i]? with
     | none=>rw[q]at e;cases e
     | some c=>rw[q]at e;simp at e;rw[e]
    obtain⟨v,h1,h2⟩:=r.get e';refine⟨v,?_,h2⟩;unfold L2.start;rw[zK (by simp;rw[<-r.length];exact hi),qM,h1];rfl
   ·exact absurd m (by simp)
   ·exact absurd mi (by simp)
  refine q Hf Hf H (L2.start N vs) H _ pn o s1 _ ⟨Hf,j0⟩ st' a1 ?_
  cases o with
  | rt c=>
   obtain⟨rfl,rfl⟩:=ZM a2;exact λv Hf' H' g' jW r2 fz=>k' v Hf' H' g' jW r2 fz
  | nx ρ'=>
   obtain⟨rfl,rfl⟩:=ZM a2;exact fun σ' H' ⟨Hf',j'⟩ jW=>k' .non Hf' H' j'.gr jW (jg.mpr rfl) λ_=>.scal λz=>z
  | bk ρ'=>cases a2
  | ct ρ'=>cases a2
noncomputable def tOf (G:Gh)(fr:Bool)(f:Zc->M D):TE:=fun σ H Q=>∃(Hf:Hp) (ρ:Zc) (s:Pn) (d:D) (s':Pn),Zz G Hf H/\YL G Hf σ ρ/\G.st s H/\f ρ s=some (d,s')/\
 ∀v Hf' H',Gr G Hf H Hf' H'->G.st s' H'->Zl G Hf' d v->(fr=true->YA G H Hf' d v)->Q v H'
noncomputable def UU (G:Gh)(f:Zc->M Bool):TT:=fun σ H Q=>∃(Hf:Hp) (ρ:Zc) (s:Pn) (b:Bool) (s':Pn),Zz G Hf H/\YL G Hf σ ρ/\G.st s H/\f ρ s=some (b,s')/\
 ∀Hf' H',Gr G Hf H Hf' H'->G.st s' H'->Q b H'
noncomputable def gOf (G:Gh)(ok:Nat->Prop)(τ:D->Zc->Option Zc):TG:=λx σ H Q=>∃(Hf:Hp) (d:D) (ρ ρ':Zc),Zz G Hf H/\Zl G Hf d x/\τ d ρ=some ρ'/\∀σ',Sets G Hf ok σ ρ σ' ρ'->Q σ' H
section
variable {X:Cx}{G:Gh}{own:List Nat}{fr:Bool}{f:Zc->M D}
theorem PD.canon (h:PD X G fr e f):PE X e (tOf G fr f):=by
 obtain⟨t,p,q⟩:=h;exact λjI s σ H Q I ⟨Hf,ρ,pn,d,pn',a1,a2,a3,a4,k⟩=>p jI s σ H Q I (q σ Hf H ρ pn d pn' Q a1 a2 a3 a4 k)
theorem Vb.canon {f:Zc->M Bool}(h:Vb X G e f):PT X e (UU G f):=by
 obtain⟨t,p,q⟩:=h;exact λjI s σ H Q I ⟨Hf,ρ,pn,d,pn',a1,a2,a3,a4,k⟩=>p jI s σ H Q I (q σ Hf H ρ pn d pn' Q a1 a2 a3 a4 k)
theorem V4.canon (h:V4 X G tg ok τ):PG X tg (gOf G ok τ):=by
 obtain⟨t,p,q⟩:=h;exact λjI s σ H v u Q I r ⟨Hf,d,ρ,ρ',a1,a2,a3,k⟩=>p jI s σ H v u Q I r (q v σ Hf H d ρ ρ' Q a1 a2 a3 k)
noncomputable def X3 (src:List (Option Nat))(ρ:Zc):Zc:=src.map λo=>o.bind λj=>(ρ[j]?).bind id
theorem ZgX (h:YL G Hf σ ρ):YL G Hf (VA src σ) (X3 src ρ):=λi d e=>by
 unfold X3 at e;rw[qM]at e
 cases q:src[i]? with
 | none=>simp_all
 | some o=>
  rw[q]at e
  cases o with
  | none=>simp at e
  | some j=>
   have hj:ρ[j]?=some (some d):=by
    cases e2:ρ[j]? with
    | none=>simp_all
    | some o2=>simp_all
   obtain⟨v,h1,h2⟩:=h j d hj;unfold VA;simp_all
theorem Sets.len (h:Sets G Hf ok σ ρ σ' ρ'):(σ.length=ρ.length->σ'.length=ρ'.length)/\σ'.length=σ.length:=by
 induction h with
 | nil=>simp
 | cons _ _ _ ih=>simp_all
theorem Sets.env (h:Sets G Hf ok σ ρ σ' ρ'):σ.length=ρ.length->YL G Hf σ ρ->YL G Hf σ' ρ':=by
 induction h with
 | nil=>simp
 | @cons σ ρ σ' ρ' i d v o r _ ih=>
  intro hl he;refine ih (by simp[hl]) λk c e=>?_;by_cases h:i=k
  ·subst h
   have hk:i < ρ.length:=by
    have:=(qG.mp e).1;simp_all
   simp_all
  ·rw[zb h]at e⊢
   exact he k c e
theorem Sets.envOld (h:Sets G Hf ok σ ρ σ' ρ')(h0:∀i d,ok i->ρ0[i]?≠some (some d)):YL G Hf σ ρ0->YL G Hf σ' ρ0:=by
 induction h with
 | nil=>simp
 | @cons σ ρ σ' ρ' i d v o r _ ih=>
  intro he;refine ih λk c e=>?_;have hne:i≠k:=λz=>h0 k c (z▸o) e;rw[zb hne];exact he k c e
noncomputable def UO (τ:D->Zc->Option Zc)(ft:Zc->M Bool)(fe:Zc->M D)(ρ:Zc):List D->M (List D)
 | []=>Zy []
 | d::ds=>Zp (YI (τ d ρ)) fun ρ1=>Zp (ft ρ1) λb=>if b=true then Zp (fe ρ1) λc=>Zp (UO τ ft fe ρ ds) λr=>Zy (c::r)else UO τ ft fe ρ ds
noncomputable def ZR (src:List (Option Nat))(fi:Zc->M (List D))(τ:D->Zc->Option Zc)(ft:Zc->M Bool)(fe:Zc->M D):Zc->M D:=fun ρ=>
 Zp (fi ρ) λds=>if ds.length<=xh then Zp (UO τ ft fe (X3 src ρ) ds) λr=>Zy (.lst r)else Zv
noncomputable def Z7:Zc->M Bool:=λ_=>Zy true
theorem ZfK
  (qi:∀(σ:St) (Hf H:Hp) (ρ:Zc) (s:Pn) (ds:List D) (s':Pn) (R:It->Hp->Prop),Zz G Hf H->YL G Hf σ ρ->G.st s H->fi ρ s=some (ds,s')->
   (∀J Hf' H',Gr G Hf H Hf' H'->G.st s' H'->Vq G J Hf' ds->R J H')->wi σ H R) :
  XZ G true (Jy src wi (gOf G (λi=>src[i]?=some none) τ) (UU G ft) (tOf G r1 fe)) (ZR src fi τ ft fe):=by
 intro σ Hf H ρ s d s' Q e1 e2 e3 e4 k;obtain⟨ds,s1,a1,a2⟩:=ZA e4;obtain⟨hz,a3⟩:=Y6 a2;obtain⟨r,s2,a4,a5⟩:=ZA a3;obtain⟨rfl,rfl⟩:=ZM a5;refine qi σ Hf H ρ s ds s1 _ e1 e2 e3 a1 λJt jU H1 g1 j9 it=>?_;intro p hp;have nrp:=jC j9 hp;have nfp:=ju nrp;have hf1p:jU p=none:=by
  cases e:jU p with
  | none=>rfl
  | some o=>rw[g1.fh p o nfp e]at hp;cases hp
 have h0:∀(i:Nat) (d:D),src[i]?=some none->(X3 src ρ)[i]?≠some (some d):=λi d e q=>by
  unfold X3 at q;rw[qM,e]at q;simp at q
 refine⟨λi m σ2 H2=>∃(j8:Hp) (s2:Pn) (vs:List V) (jO rest:List D),i<=ds.length/\m=ds.length-i/\Gr G jU H1 j8 H2/\YL G j8 σ2 (X3 src ρ)/\σ2.length=(X3 src ρ).length/\G.st s2 H2/\j8 p=none/\H2 p=some (.lst vs)/\Zj G j8 jO vs/\jO.length<=i/\
  UO τ ft fe (X3 src ρ) (ds.drop i) s2=some (rest,s')/\jO++rest=r,⟨_,jU,s1,[],[],r,zk _,rfl,?_,?_,?_,Gh.grow j9 hp,hf1p,ZD,Zj.nil_iff.mpr rfl,qq _,a4,rfl⟩,?_⟩
 ·refine⟨λb o n e=>?_,.refl _ _,λb o n e=>?_,λb n h1 h2=>h1⟩
  ·rw[Zn (ZY e hp)];exact e
  ·rw[Zn (ZY e hf1p)];exact g1.fh b o n e
 ·exact ZgX (e2.ext g1.ff)
 ·unfold VA X3;simp
 ·rintro i m σ2 H2 ⟨j8,sz,vs,jO,rest,hle,rfl,g2,env2,len2,jW,hfp2,hp2,racc,hacc,eq2,hr⟩
  obtain⟨i1,i2⟩:=it i j8 H2 sz g2.ff g2.fh jW;by_cases hlt:i<ds.length
  ·have hd:ds.drop i=ds[i]::ds.drop (i+1):=qac hlt
   rw[hd]at eq2;obtain⟨ρ3,s3,b1,b2⟩:=ZA eq2;obtain⟨b1',e3'⟩:=Wx b1;subst e3';obtain⟨bo,s4,b3,b4⟩:=ZA b2;obtain⟨go,yl⟩:=i1 ds[i] (by simp[hlt]);refine .inr ⟨go,λx H3 y3=>?_⟩;obtain⟨Hf3,g3,st3,r3⟩:=yl x H3 y3;refine⟨Hf3,ds[i],X3 src ρ,ρ3,g3.fh,r3,b1',fun σ4 sets=>?_⟩;have env2':=env2.ext g3.ff;have env4:=sets.env len2 env2';have env4':=sets.envOld h0 env2';refine⟨Hf3,ρ3,s3,bo,s4,g3.fh,env4,st3,b3,λHf5 H5 g5 st5=>?_⟩;have g25:=g3.trans g5;have hfp5:Hf5 p=none:=g25.nw p nfp hfp2 ⟨_,hp2,λ_ z=>by cases z⟩;have hp5:H5 p=some (.lst vs):=g25.hh p _ nfp hp2
   cases bo with
   | false=>
    refine Ur ⟨ds.length-(i+1),by omega,Hf5,s4,vs,jO,rest,hlt,rfl,g2.trans g25,env4'.ext g5.ff,by rw[<-len2];exact sets.len.2,st5,hfp5,hp5,racc.ext g25.ff,by omega,?_,hr⟩;exact b4
   | true=>
    have b4':Zp (fe ρ3) (λc=>Zp (UO τ ft fe (X3 src ρ) (ds.drop (i+1))) λr=>Zy (c::r)) s4=some (rest,s'):=b4;obtain⟨c,s6,b5,b6⟩:=ZA b4';obtain⟨rr,s7,b7,b8⟩:=ZA b6;obtain⟨rfl,rfl⟩:=ZM b8;refine VD ⟨Hf5,ρ3,s4,c,s6,g5.fh,env4.ext g5.ff,st5,b5,λv Hf6 H6 g6 st6 r6 _=>?_⟩;have hfp6:Hf6 p=none:=g6.nw p nfp hfp5 ⟨_,hp5,λ_ z=>by cases z⟩;have hp6:H6 p=some (.lst vs):=g6.hh p _ nfp hp5;have hl:vs.length<xh:=by rw[<-racc.length];omega
    refine⟨vs,hp6,hl,ds.length-(i+1),by omega,Hf6,s6,vs ++ [v],jO ++ [c],rr,hlt,rfl,?_,(env4'.ext g5.ff).ext g6.ff,by rw[<-len2];exact sets.len.2,?_,hfp6,ZD,(racc.ext (g25.ff.trans g6.ff)).append (.one r6),by simp;omega,b7,by rw[<-hr];simp⟩
    ·have gg:=(g2.trans g25).trans g6
     refine⟨λb o n e=>?_,gg.ff,λb o n e=>?_,gg.nw⟩
     ·rw[Zn (ZY e hp)];exact gg.hh b o n e
     ·rw[Zn (ZY e hfp6)];exact gg.fh b o n e
    ·refine G.mono _ _ _ st6 (λb o rb e=>?_) λb φ e=>?_
     ·have:b≠p:=λz=>nrp (z▸rb)
      rw[Zn this];exact e
     ·have:b≠p:=λz=>by rw[z,hp6]at e;cases e
      rw[Zn this];exact e
  ·have hd:ds.drop i=[]:=qbU.mpr (by omega)
   rw[hd]at eq2;obtain⟨rfl,rfl⟩:=ZM eq2;refine .inl ⟨i2 (by omega),?_⟩;rw[z0]at hr;subst hr;refine k (.ref p) (Zi j8 p (.lst vs)) H2 (g1.trans ⟨g2.hh,λb o n e=>?_,λb o n e=>?_,λb n h1 h2=>?_⟩) jW (jb.mpr ⟨p,vs,rfl,nfp,ZD,racc.ext λb o n e=>?_⟩) λ_ a ea _=>?_
   ·rw[Zn (ZY (g2.ff b o n e) hfp2)];exact g2.ff b o n e
   ·by_cases hb:b=p
    ·subst hb;rw[ZD]at e;rw[hp2];exact e
    ·rw[Zn hb]at e;exact g2.fh b o n e
   ·have:b≠p:=λz=>h2.no (z▸hp)
    rw[Zn this];exact g2.nw b n h1 h2
   ·rw[Zn (ZY e hfp2)];exact e
   ·cases ea
    refine⟨?_,λds' ed=>?_⟩
    ·cases q:H p with
     | none=>rfl
     | some o=>rw[g1.hh p o nfp q]at hp;cases hp
    ·cases ed
     exact⟨vs,j8,ZD,hfp2,λb o n e=>by rw[Zn (ZY e hfp2)];exact e,racc⟩
theorem Wp:Vp X [] (UU G Z7):=λjI s σ H Q I ⟨Hf,ρ,pn,b,pn',a1,a2,a3,a4,k⟩=>by
 obtain⟨rfl,rfl⟩:=ZM a4;exact ZfC jI s σ H Q I (k Hf H (.refl a1) a3)
theorem WT (h:Vb X G c ft):Vp X [c] (UU G ft):=ZfD h.canon
theorem Jf.put {kn:Hp}(j:Jf G own kn jS H0 σ Hf H ρ)(hi:i∈own)(e:ρ[i]?=some (some d))(sa:σ[i]?=some (some (.ref a)))
  (new:VP G Hf (Zi H a o') a d'):Jf G own kn jS H0 σ Hf (Zi H a o') (ρ.set i (some d')):=by
 obtain⟨a',h1,h2,h3,h4,h5⟩:=j.ow i d hi e;rw[sa]at h1;cases h1;have il:i < ρ.length:=(qG.mp e).1;refine⟨by simp[j.len],j.kn,⟨λb o n q=>?_,j.gr.ff,λb o n q=>?_,j.gr.nw⟩,λk c n q=>?_,λk c m q=>?_,λk l b dk dl mk ml n ek el sk sl=>?_⟩
 ·rw[Zn (ZY q h4)];exact j.gr.hh b o n q
 ·rw[Zn (ZY q h3)];exact j.gr.fh b o n q
 ·have hne:i≠k:=λz=>n (z▸hi)
  rw[zb hne]at q;exact j.fz k c n q
 ·by_cases hk:i=k
  ·subst hk
   rw[zH il]at q
   cases q
   exact⟨a,sa,h2,h3,h4,new⟩
  ·rw[zb hk]at q
   obtain⟨b,g1,g2,g3,g4,g5⟩:=j.ow k c m q;have hab:b≠a:=λz=>j.ne i k a d c hi m hk e q sa (z▸g1);exact⟨b,g1,g2,g3,g4,g5.keep (.refl _ _) λo z=>by rw[Zn hab];exact z⟩
 ·have ek':∃d,ρ[k]?=some (some d):=by
   by_cases hk:i=k
   ·exact⟨d,hk▸e⟩
   ·simp_all
  have el':∃d,ρ[l]?=some (some d):=by
   by_cases hl:i=l
   ·exact⟨d,hl▸e⟩
   ·simp_all
  obtain⟨_,ek'⟩:=ek';obtain⟨_,el'⟩:=el';exact j.ne k l b _ _ mk ml n ek' el' sk sl
theorem Ji (j:Jf G own kn jS H0 σ Hf H ρ)(hi:i∈own)(e:ρ[i]?=some (some (.lst ds))) :
  ∃a vs,σ[i]?=some (some (.ref a))/\¬G.rd a/\H a=some (.lst vs)/\Zj G Hf ds vs:=by
 obtain⟨a,h1,h2,h3,h4,vs,h5,h6⟩:=j.ow i _ hi e;exact⟨a,vs,h1,h2,h5,h6⟩
theorem Jj {ρ:Zc}{i:Nat}(h:(ρ[i]?).bind id=some d):ρ[i]?=some (some d):=by
 cases q:ρ[i]? with
 | none=>simp_all
 | some o=>simp_all
theorem js (st:G.st s H)(h:¬G.rd a)
  (hx:∀φ,H a≠some (.ext φ):=by intro φ z;first | (have z2:=z.symm.trans (by assumption:_=some (L2.HO.lst _));cases z2) | (have z2:=z.symm.trans (by assumption:_=some (L2.HO.dK _));cases z2) | (have z2:=z.symm.trans (by assumption:_=some (L2.HO.dT _));cases z2)):G.st s (Zi H a o):=G.mono _ _ _ st (λb u rb e=>by
 have:b≠a:=λz=>h (z▸rb);rw[Zn this];exact e) λb φ e=>by
 have:b≠a:=λz=>hx φ (z▸e);rw[Zn this];exact e
noncomputable def VE (i:Nat)(f:Zc->M D):Zc->M Out:=fun ρ=>Zp (f ρ) λd=>match (ρ[i]?).bind id with
 | some (.lst ds)=>if ds.length<xh then Zy (.nx (ρ.set i (some (.lst (ds ++ [d])))))else Zv
 | _=>Zv
theorem Zia (hi:i∈own)(hy:WC G own r1 te f) :
  JN G ob own own fr (VR (VH X.K "list" Bd (Z6 i) (Xa te Xo))) (VE i f):=λkn jS H0 σ H ρ s out s' E ⟨Hf,j⟩ st e po=>by
 obtain⟨d,s1,a1,a2⟩:=ZA e
 cases hb:(ρ[i]?).bind id with
 | none=>rw[hb]at a2;cases a2
 | some c=>
  rw[hb]at a2
  cases c with
  | lst ds=>
   have a2':=a2;obtain⟨c2,a3⟩:=Y6 a2';obtain⟨rfl,rfl⟩:=ZM a3;have ei:=Jj hb;obtain⟨a,vs,h1,h2,h3,h4⟩:=Ji j hi ei;refine⟨_,h1,.inl ⟨rfl,vs,Zw.of h3⟩,?_⟩;refine hy kn jS H0 σ Hf H ρ s d s' _ j st a1 λv Hf' H' j' e1 e2 st' r fz=>?_;obtain⟨a',vs',h1',h2',h3',h4'⟩:=Ji j' hi ei;rw[h1]at h1';cases h1';refine⟨a,vs',v,rfl,rfl,h3',by rw[<-h4'.length];exact c2,?_⟩;exact po σ _ ⟨Hf',j'.put hi ei h1 ⟨vs' ++ [v],ZD,h4'.append (.one r)⟩⟩ (js st' h2)
  | _=>cases a2
theorem Zb2 {pos p2 p3:Pos}(hv:PE X (.Name x p1) (Z6 i))(p:PE X e te)
  (hbase:xr (.Name x p1) "append" X.env (eval (.Name x p1) X.env)=eval (.Name x p1) X.env:=by rfl)
  (hfew:((backTo p3 (xi [e] X.env)).all (λx=>!x.1)&&(xq p3 (xj [] X.env)).all (λx=>x.1.isSome)
   && decide ([e].length+([]:List Keyword).length+(if ([]:List Keyword).isEmpty then 0 else 1)<30))=true:=by rfl)
  (hline:(p2.endLine==p3.line)=true:=by rfl) (hs:xi [e] X.env=(false,eval e X.env)::xi [] X.env:=by rfl)
  (hsw:xt (.Call (.Attribute (.Name x p1) "append" p2) [e] [] p3) none pos.line X.env=pure false:=by rfl) :
  PS X (.Expr (.Call (.Attribute (.Name x p1) "append" p2) [e] [] p3) pos) (VR (VH X.K "list" Bd (Z6 i) (Xa te Xo))):=
 ZcA (Jx yf PySem.F.slot_list_append PySem.F.type_list_append Zd7 hv (YF p YX hs) hbase hfew hline hs rfl) hsw
section
variable {i:Nat}{x:Str}{e:Expr}{pos p1 p2 p3:Pos}{r1:Bool}{ob:List Nat}{st:Stmt}
theorem ZfL (hi:i∈own)(he:PD X G r1 e f)(hp:∀te,PE X e te->PS X st (VR (VH X.K "list" Bd (Z6 i) (Xa te Xo)))):YM X G ob own own fr st (VE i (fun ρ=>f (YB own ρ))):=by
 obtain⟨t,p,q⟩:=he;exact⟨_,hp t p,Zia hi (XZ.a q)⟩
theorem ZkI (hi:i∈own)(he:PD X G r1 e f)(hp:∀te,PE X e te->PS X st (VR (VH X.K "list" Bd (Z6 i) (Xa te Xo)))):YM X G ob own own fr st (VE i (Y2 r1 f)):=by
 obtain⟨t,p,q⟩:=he;exact⟨_,hp t p,Zia hi (XZ.b q)⟩
end
end
section
variable {X:Cx}{G:Gh}
noncomputable def dI (C:Int->Int->Bool)(g:Int->Int->D):D->D->Option D
 | .int i,.int j=>if C i j=true then some (g i j)else none
 | _,_=>none
theorem Zib (h:dI C g d e=some c):∃i j,d=.int i/\e=.int j/\C i j=true/\c=g i j:=by
 match d,e,h with
 | .int i,.int j,h=>
  have h':(if C i j=true then some (g i j)else none)=some c:=h;simp_all
theorem ZpN {g:Int->Int->Int}(h:Ym X f (rI C λi j=>.int (g i j)))(hc:∀i j,Cb i j=true->C i j):XQ X G f (dI Cb λi j=>.int (g i j)):=
 ⟨_,h,λHf H s x y d e c Q e1 st rx ry q k=>by
  obtain⟨i,j,rfl,rfl,hcb,rfl⟩:=Zib q;exact⟨i,j,ja.mp rx,ja.mp ry,hc i j hcb,k _ Hf H (.refl e1) st (ja.mpr rfl) (.scal λz=>z)⟩⟩
theorem ZgY {g:Int->Int->Bool}(h:Ym X f (XO λi j=>.bl (g i j))):XQ X G f (dI (λ_ _=>true) λi j=>.bl (g i j)):=
 ⟨_,h,λHf H s x y d e c Q e1 st rx ry q k=>by
  obtain⟨i,j,rfl,rfl,hcb,rfl⟩:=Zib q;exact⟨i,j,ja.mp rx,ja.mp ry,k _ Hf H (.refl e1) st (je.mpr rfl) (.scal λz=>z)⟩⟩
noncomputable def dSub:=dI (λ_ _=>true) λi j=>.int (i-j)
noncomputable def ZkJ (i j:Int):Bool:=(decide (-(2 ^ 64)<i)&&decide (i<2 ^ 64))||(decide (-(2 ^ 64)<j)&&decide (j<2 ^ 64))
noncomputable def dMul:=dI ZkJ λi j=>.int (i*j)
noncomputable def dMod:=dI (λ_ j=>decide (0<j)) λi j=>.int (i % j)
theorem Zic:XQ X G (binaryOp .Mult) dMul:=ZpN UI λi j h=>by
 simp only[ZkJ,qaQ,zU,decide_eq_true_eq]at h;exact h
noncomputable def dLe:=dI (λ_ _=>true) λi j=>.bl (decide (i<=j))
noncomputable def dGt:=dI (λ_ _=>true) λi j=>.bl (decide (j<i))
noncomputable def U2:=dI (λ_ _=>true) λi j=>.bl (decide (j<=i))
theorem ZoX:XQ X G (xl .LtE) dLe:=ZgY ZpI
theorem ZoY:XQ X G (xl .Gt) dGt:=ZgY Zkr
theorem ZoZ:XQ X G (xl .GtE) U2:=ZgY Zn0
noncomputable def ZE:List D->Option (List Int)
 | []=>some []
 | .int i::ds=>(ZE ds).map (i :: ·)
 | _::_=>none
theorem Wm:∀{ds:List D} {ns:List Int},ZE ds=some ns->ds=ns.map D.int
 | [],ns,h=>by simp[ZE]at h;subst h;rfl
 | .int i::ds,ns,h=>by
  cases e:ZE ds with
  | none=>simp[ZE,e]at h
  | some ms=>simp[ZE,e]at h;subst h;simp[Wm e]
 | .non::_,_,h=>by simp[ZE]at h
 | .bl _::_,_,h=>by simp[ZE]at h
 | .str _::_,_,h=>by simp[ZE]at h
 | .tup _::_,_,h=>by simp[ZE]at h
 | .lst _::_,_,h=>by simp[ZE]at h
 | .dk _::_,_,h=>by simp[ZE]at h
 | .dt _::_,_,h=>by simp[ZE]at h
 | .du _::_,_,h=>by simp[ZE]at h
 | .df _::_,_,h=>by simp[ZE]at h
 | .pen::_,_,h=>by simp[ZE]at h
 | .ty _::_,_,h=>by simp[ZE]at h
theorem JZ (ns:List Int):ZE (ns.map D.int)=some ns:=by
 induction ns with
 | nil=>rfl
 | cons n ns ih=>simp[ZE,ih]
theorem jk:∀{ns:List Int} {vs:List V},Zj G H (ns.map D.int) vs->vs=ns.map V.int
 | [],vs,h=>Zj.nil_iff.mp h
 | n::ns,vs,h=>by
  obtain⟨v,r,rfl,h1,h2⟩:=jd.mp h;rw[ja.mp h1,jk h2];rfl
noncomputable def Vt:D->D->Option D
 | .int i,.int j=>some (.bl (decide (i<j)))
 | .tup a,.tup b=>match ZE a,ZE b with | some ns,some ms=>some (.bl (HT.lexLt ns ms)) | _,_=>none
 | _,_=>none
theorem ZgZ (hu:X.A.units<cLine):XQ X G (xl .Lt) Vt:=
 ⟨_,ZnZ.or (ZoO hu),λHf H s x y d e c Q e1 st rx ry q k=>by
  match d,e,q,rx,ry with
  | .int i,.int j,q,rx,ry=>
   cases q
   exact .inl ⟨i,j,ja.mp rx,ja.mp ry,k _ Hf H (.refl e1) st (je.mpr rfl) (.scal λz=>z)⟩
  | .tup a,.tup b,q,rx,ry=>
   have q:(match ZE a,ZE b with | some ns,some ms=>some (D.bl (HT.lexLt ns ms)) | _,_=>none)=some c:=q
   cases ea:ZE a with
   | none=>simp_all
   | some ns=>
    cases eb:ZE b with
    | none=>simp_all
    | some ms=>
     rw[ea,eb]at q
     cases q
     rw[Wm ea]at rx;rw[Wm eb]at ry;obtain⟨p,vs,rfl,np,hp,rp⟩:=jc.mp rx;obtain⟨p2,vs2,rfl,np2,hp2,rp2⟩:=jc.mp ry;rw[jk rp]at hp;rw[jk rp2]at hp2;exact .inr ⟨p,p2,ns,ms,rfl,rfl,ZO.of (e1 _ _ np hp),ZO.of (e1 _ _ np2 hp2),k _ Hf H (.refl e1) st (je.mpr rfl) (.scal λz=>z)⟩⟩
theorem ZmV:Ym X (binaryOp .Add) (λx y H Q=>∃a b ys,x=.ref a/\y=.ref b/\ZO X.K H a []/\ZO X.K H b ys/\Q (.ref b) H):=by
 intro jI s σ H x y v u Q I rx ry h;obtain⟨a,b,ys,rfl,rfl,ha,hb,q⟩:=h
 cases rx
 cases ry
 obtain⟨jK,r1,p1,_⟩:=I.tuple ha;obtain⟨jV,r2,p2,_⟩:=I.tuple hb;have e0:jK=[]:=by cases r1;rfl
 subst e0;obtain⟨⟨cls,dd,data,sl⟩,ho,hc,n,hd⟩:=id p1;obtain⟨⟨cls2,dd2,data2,sl2⟩,ho2,hc2,n2,hd2⟩:=id p2;subst hc hd hc2 hd2;exact concat_meets ⟨_,ho,rfl⟩ ⟨_,ho2,rfl⟩ noFill_tuple_add seq_tuple_add qaz qap (qai _ _)
   (tuple_addW0 a b ([]:List Value).toArray jV.toArray n n2 dd dd2 sl sl2 rfl) ⟨ho,ho2,⟨.ref b,H,I,rfl,q⟩⟩
noncomputable def Y0:D->D->Option D
 | .int i,.int j=>some (.int (i+j))
 | .tup a,.tup b=>if a.length+b.length<=xh then some (.tup (a++b))else none
 | .lst a,.lst b=>if a.length+b.length<=xh then some (.lst (a++b))else none
 | _,_=>none
theorem Vg:XQ X G (binaryOp .Add) Y0:=
 ⟨_,Uj.or (ZoR.or (ZmL.or ZmV)),λHf H s x y d e c Q e1 st rx ry q k=>by
  match d,e,q,rx,ry with
  | .int i,.int j,q,rx,ry=>
   cases q
   exact .inl ⟨i,j,ja.mp rx,ja.mp ry,k _ Hf H (.refl e1) st (ja.mpr rfl) (.scal λz=>z)⟩
  | .lst a,.lst b,q,rx,ry=>
   have q:(if a.length+b.length<=xh then some (D.lst (a++b))else none)=some c:=q;split at q
   ·rename_i hz
    cases q
    obtain⟨p,vs,rfl,np,hp,rp⟩:=jb.mp rx;obtain⟨p2,vs2,rfl,np2,hp2,rp2⟩:=jb.mp ry;refine .inr (.inl ⟨p,p2,vs,vs2,rfl,rfl,e1 _ _ np hp,e1 _ _ np2 hp2,by rw[<-rp.length,<-rp2.length];exact hz,λl hl=>?_⟩);have nf:=Gh.nofp st hl;have g2:=Gr.new (o:=.lst (vs++vs2)) e1 hl nf;have rr:=rp.append rp2;exact k (.ref l) _ _ g2 (Gh.grow st hl) (jb.mpr ⟨l,_,rfl,nf,ZD,rr.ext g2.ff⟩) (YA.mk e1 hl nf rr)
   ·cases q
  | .tup a,.tup b,q,rx,ry=>
   have q:(if a.length+b.length<=xh then some (D.tup (a++b))else none)=some c:=q;split at q
   ·rename_i hz
    cases q
    obtain⟨p,vs,rfl,np,hp,rp⟩:=jc.mp rx;obtain⟨p2,vs2,rfl,np2,hp2,rp2⟩:=jc.mp ry;by_cases hv:vs=[]
    ·subst hv
     have ea:a=[]:=zF.mp (by rw[rp.length];rfl);subst ea;exact .inr (.inr (.inr ⟨p,p2,vs2,rfl,rfl,ZO.of (e1 _ _ np hp),ZO.of (e1 _ _ np2 hp2),k _ Hf H (.refl e1) st ry (.scal λz=>z)⟩))
    ·refine .inr (.inr (.inl ⟨p,p2,vs,vs2,rfl,rfl,ZO.of (e1 _ _ np hp),ZO.of (e1 _ _ np2 hp2),hv,by rw[<-rp.length,<-rp2.length];exact hz,λz=>?_,λ_ l hl=>?_⟩))
     ·subst z
      have eb:=zF.mp (by rw[rp2.length];rfl);subst eb;rw[z0]at k;exact k _ Hf H (.refl e1) st rx (.scal λz=>z)
     ·have nf:=Gh.nofp st hl
      have g2:=Gr.new (o:=.tup (vs++vs2)) e1 hl nf;exact k (.ref l) _ _ g2 (Gh.grow st hl) (jc.mpr ⟨l,_,rfl,nf,ZD,(rp.append rp2).ext g2.ff⟩) (.scal λz=>z)
   ·cases q⟩
noncomputable def Zk:D->D->Option D
 | .lst ds,.int i=>Wl ds i
 | .tup ds,.int i=>Wl ds i
 | _,_=>none
theorem Zid (r:Zj G Hf ds vs)(h:Wl ds i=some c):∃v,Wl vs i=some v/\Zl G Hf c v:=by
 unfold Wl at h⊢;rw[<-r.length]
 cases e:VG ds.length i with
 | none=>simp_all
 | some j=>
  rw[e]at h;obtain⟨v,h1,h2⟩:=r.get h;exact⟨v,h1,h2⟩
theorem Yd:IxD X G Zk:=
 ⟨_,ZcC.or ZoP,λHf H s x y d e c Q e1 st rx ry q k=>by
  match d,e,q,rx,ry with
  | .lst ds,.int i,q,rx,ry=>
   obtain⟨p,vs,rfl,np,hp,rp⟩:=jb.mp rx;obtain⟨v,h1,h2⟩:=Zid rp q;exact .inl ⟨p,vs,i,v,rfl,ja.mp ry,Zw.of (e1 _ _ np hp),h1,k v h2⟩
  | .tup ds,.int i,q,rx,ry=>
   obtain⟨p,vs,rfl,np,hp,rp⟩:=jc.mp rx;obtain⟨v,h1,h2⟩:=Zid rp q;exact .inr ⟨p,vs,i,v,rfl,ja.mp ry,ZO.of (e1 _ _ np hp),h1,k v h2⟩⟩
theorem jh (h:Zj G H [d] xs):∃v,xs=[v]/\Zl G H d v:=by
 obtain⟨v,r,rfl,h1,h2⟩:=jd.mp h;rw[Zj.nil_iff.mp h2];exact⟨v,rfl,h1⟩
theorem jp (h:Zj G H [d,e] xs):∃v w,xs=[v,w]/\Zl G H d v/\Zl G H e w:=by
 obtain⟨v,r,rfl,h1,h2⟩:=jd.mp h;obtain⟨w,rfl,h3⟩:=jh h2;exact⟨v,w,rfl,h1,h3⟩
noncomputable def Yi:List D->Option D
 | [.lst ds]=>some (.int ds.length)
 | [.tup ds]=>some (.int ds.length)
 | _=>none
theorem Zg0:X5 X G (.builtin "len") Yi:=
 ⟨_,B1,λHf H s xs ds c Q e1 st r q k=>by
  match ds,q,r with
  | [.lst es],q,r=>
   cases q
   obtain⟨v,rfl,rv⟩:=jh r;obtain⟨p,vs,rfl,np,hp,rp⟩:=jb.mp rv;exact⟨p,vs,rfl,.inl (Zw.of (e1 _ _ np hp)),k _ Hf H (.refl e1) st (ja.mpr (by rw[rp.length])) (.scal λz=>z)⟩
  | [.tup es],q,r=>
   cases q
   obtain⟨v,rfl,rv⟩:=jh r;obtain⟨p,vs,rfl,np,hp,rp⟩:=jc.mp rv;exact⟨p,vs,rfl,.inr (ZO.of (e1 _ _ np hp)),k _ Hf H (.refl e1) st (ja.mpr (by rw[rp.length])) (.scal λz=>z)⟩⟩
noncomputable def Bl:List D->Option D
 | [.lst ds]=>some (.tup ds)
 | [.tup ds]=>some (.tup ds)
 | _=>none
theorem Zay:X5 X G (.type "tuple") Bl:=
 ⟨_,ZdJ,λHf H s xs ds c Q e1 st r q k=>by
  match ds,q,r with
  | [.lst es],q,r=>
   cases q
   obtain⟨v,rfl,rv⟩:=jh r;obtain⟨p,vs,rfl,np,hp,rp⟩:=jb.mp rv;refine⟨p,vs,rfl,.inl ⟨Zw.of (e1 _ _ np hp),λl hl=>?_⟩⟩;have nf:=Gh.nofp st hl;have g2:=Gr.new (o:=.tup vs) e1 hl nf;exact k (.ref l) _ _ g2 (Gh.grow st hl) (jc.mpr ⟨l,_,rfl,nf,ZD,rp.ext g2.ff⟩) (.scal λz=>z)
  | [.tup es],q,r=>
   cases q
   obtain⟨v,rfl,rv⟩:=jh r;obtain⟨p,vs,rfl,np,hp,rp⟩:=jc.mp rv;exact⟨p,vs,rfl,.inr ⟨ZO.of (e1 _ _ np hp),k _ Hf H (.refl e1) st rv (.scal λz=>z)⟩⟩⟩
noncomputable def Zie:List D->Option D
 | [.int i,.int j]=>some (.int (if j > i then j else i))
 | _=>none
noncomputable def Um:List D->Option D
 | [.int i,.int j]=>some (.int (if j<i then j else i))
 | _=>none
theorem Zg1 (hc:X.calm=true):X5 X G (.builtin "max") Zie:=
 ⟨_,ZiY hc,λHf H s xs ds c Q e1 st r q k=>by
  match ds,q,r with
  | [.int i,.int j],q,r=>
   cases q
   obtain⟨v,w,rfl,rv,rw'⟩:=jp r;rw[ja.mp rv,ja.mp rw'];exact⟨i,j,rfl,k _ Hf H (.refl e1) st (ja.mpr rfl) (.scal λz=>z)⟩⟩
theorem ZcW (hc:X.calm=true):X5 X G (.builtin "min") Um:=
 ⟨_,ZiZ hc,λHf H s xs ds c Q e1 st r q k=>by
  match ds,q,r with
  | [.int i,.int j],q,r=>
   cases q
   obtain⟨v,w,rfl,rv,rw'⟩:=jp r;rw[ja.mp rv,ja.mp rw'];exact⟨i,j,rfl,k _ Hf H (.refl e1) st (ja.mpr rfl) (.scal λz=>z)⟩⟩
noncomputable def ZkK:List D->Option D
 | [.int i]=>some (.int i)
 | [.bl b]=>some (.int (if b then 1 else 0))
 | _=>none
theorem Zg2:X5 X G (.type "int") ZkK:=
 ⟨_,Zi0,λHf H s xs ds c Q e1 st r q k=>by
  match ds,q,r with
  | [.int i],q,r=>
   cases q
   obtain⟨v,rfl,rv⟩:=jh r;rw[ja.mp rv];exact .inl ⟨i,rfl,k _ Hf H (.refl e1) st (ja.mpr rfl) (.scal λz=>z)⟩
  | [.bl i],q,r=>
   cases q
   obtain⟨v,rfl,rv⟩:=jh r;rw[je.mp rv];exact .inr ⟨i,rfl,k _ Hf H (.refl e1) st (ja.mpr rfl) (.scal λz=>z)⟩⟩
noncomputable def Y7:List D->Option (List Bool)
 | []=>some []
 | .bl b::ds=>(Y7 ds).map (b :: ·)
 | _::_=>none
theorem Zbm:∀{ds:List D} {ns:List Bool},Y7 ds=some ns->ds=ns.map D.bl
 | [],ns,h=>by simp[Y7]at h;subst h;rfl
 | .bl i::ds,ns,h=>by
  cases e:Y7 ds with
  | none=>simp[Y7,e]at h
  | some ms=>simp[Y7,e]at h;subst h;simp[Zbm e]
 | .non::_,_,h=>by simp[Y7]at h
 | .int _::_,_,h=>by simp[Y7]at h
 | .str _::_,_,h=>by simp[Y7]at h
 | .tup _::_,_,h=>by simp[Y7]at h
 | .lst _::_,_,h=>by simp[Y7]at h
 | .dk _::_,_,h=>by simp[Y7]at h
 | .dt _::_,_,h=>by simp[Y7]at h
 | .du _::_,_,h=>by simp[Y7]at h
 | .df _::_,_,h=>by simp[Y7]at h
 | .pen::_,_,h=>by simp[Y7]at h
 | .ty _::_,_,h=>by simp[Y7]at h
theorem Zcj (ns:List Bool):Y7 (ns.map D.bl)=some ns:=by
 induction ns with
 | nil=>rfl
 | cons n ns ih=>simp[Y7,ih]
theorem jw:∀{ns:List Bool} {vs:List V},Zj G H (ns.map D.bl) vs->vs=ns.map V.bl
 | [],vs,h=>Zj.nil_iff.mp h
 | n::ns,vs,h=>by
  obtain⟨v,r,rfl,h1,h2⟩:=jd.mp h;rw[je.mp h1,jw h2];rfl
theorem ZcX:∀{bs:List Bool} {us:List Value},Zu (bs.map V.bl) us->us=bs.map zT
 | [],_,.nil=>rfl
 | b::bs,_,.cons r t=>by
  cases (show _=zT b from r)
  rw[ZcX t];rfl
theorem ZcY {hc:X.calm=true}{σ:St}{bs:List Bool}{Q:xH}(fin:Bool)(I:Inv X jI σ H s)(h:H p=some (.lst (bs.map V.bl)))
  (fn:(Nat->Bool)->List Nat->Bool) (hq:∀s',Inv X jI σ H s'->Q (.bool (fn (λi=>bs.getD i false) (qf bs.length))) s') :
  xg (xD X.prog X.w) X.A.in1 (pyIter (.ref p)) (λit s₂=>∃I fp wr n P St tr,it=.ref I/\Walks X.prog X.w X.A.in1 I fp wr n P St/\St 0 s₂.heap/\TruthOf X.prog X.w X.A.in1 P tr/\
   ∀h' tk,(∀b o,b∉wr->s₂.heap.get? b=some o->h'.get? b=some o)->Q (.bool (fn tr (qf n))) { s₂ with heap:=h',toks:=tk }) E s:=by
 obtain⟨jK,rv,pl,hz⟩:=I.list (Zw.of h);have eu:=ZcX rv;subst eu;refine wpAny_pyIter_list pl.isList ?_;have hne:p≠s.heap.objs.size:=qD (by
  obtain⟨o,ho,_⟩:=pl.isList;exact qC ho)
 refine⟨s.heap.objs.size,_,_,_,_,_,λi=>bs.getD i false,rfl,Walks.list (A:=X.A.in1) (I.ok.hd hc) s.heap.objs.size p hne _,⟨⟨_,qz _ rfl,rfl,rfl⟩,pl.isList.at λo e=>qd _ e⟩,?_,?_⟩
 ·intro i v s' Q' E' hP hQ'
  have hv:v=.bool (bs.getD i false):=by
   cases q:bs[i]? with
   | none=>simp_all
   | some b=>simp_all
  subst hv;exact wpAny_truthy_bool hQ'
 ·intro h' tk hk
  have:(List.map zT bs).toArray.size=bs.length:=by simp
  rw[this];refine hq _ (I.kept λb o e=>hk b o ?_ (qd _ e));have:=qD (qC e);simp_all
theorem ZkL (bs:List Bool):(qf bs.length).all (λi=>bs.getD i false)=bs.all id:=by
 induction bs with
 | nil=>rfl
 | cons b bs ih=>
  rw[zo,yU,qbY,List.all_map];show(b&&(qf bs.length).all λi=>bs.getD i false)=_;rw[ih];rfl
theorem ZkM (bs:List Bool):(qf bs.length).any (λi=>bs.getD i false)=bs.any id:=by
 induction bs with
 | nil=>rfl
 | cons b bs ih=>
  rw[zo,yU,qaF,List.any_map];show(b||(qf bs.length).any λi=>bs.getD i false)=_;rw[ih];rfl
theorem Zi8 (hc:X.calm=true):XB X (.builtin "all") (λxs H Q=>∃(p:Addr) (bs:List Bool),xs=[.ref p]/\H p=some (.lst (bs.map V.bl))/\Q (.bl (bs.all id)) H):=by
 intro jI s σ H xs us Q I r h;obtain⟨p,bs,rfl,hp,q⟩:=h;obtain⟨u,rfl,ru⟩:=XC r
 cases ru
 refine call_all_walk (ZcY (hc:=hc) true I hp (λt l=>l.all t) λs' I'=>⟨.bl (bs.all id),H,I',?_,q⟩);show zT _=_;rw[ZkL]
theorem Zi9 (hc:X.calm=true):XB X (.builtin "any") (λxs H Q=>∃(p:Addr) (bs:List Bool),xs=[.ref p]/\H p=some (.lst (bs.map V.bl))/\Q (.bl (bs.any id)) H):=by
 intro jI s σ H xs us Q I r h;obtain⟨p,bs,rfl,hp,q⟩:=h;obtain⟨u,rfl,ru⟩:=XC r
 cases ru
 refine call_any_walk (ZcY (hc:=hc) true I hp (λt l=>l.any t) λs' I'=>⟨.bl (bs.any id),H,I',?_,q⟩);show zT _=_;rw[ZkM]
noncomputable def BC:List D->Option D
 | [.lst ds]=>(Y7 ds).map λbs=>.bl (bs.all id)
 | _=>none
noncomputable def UV:List D->Option D
 | [.lst ds]=>(Y7 ds).map λbs=>.bl (bs.any id)
 | _=>none
theorem Zja (hc:X.calm=true):X5 X G (.builtin "all") BC:=
 ⟨_,Zi8 hc,λHf H s xs ds c Q e1 st r q k=>by
  match ds,q,r with
  | [.lst es],q,r=>
   obtain⟨v,rfl,rv⟩:=jh r;obtain⟨p,vs,rfl,np,hp,rp⟩:=jb.mp rv
   cases e:Y7 es with
   | none=>simp[BC,e]at q
   | some bs=>
    simp[BC,e]at q;subst q;rw[Zbm e]at rp;rw[jw rp]at hp;exact⟨p,bs,rfl,e1 _ _ np hp,k _ Hf H (.refl e1) st (je.mpr rfl) (.scal λz=>z)⟩⟩
theorem Zec (hc:X.calm=true):X5 X G (.builtin "any") UV:=
 ⟨_,Zi9 hc,λHf H s xs ds c Q e1 st r q k=>by
  match ds,q,r with
  | [.lst es],q,r=>
   obtain⟨v,rfl,rv⟩:=jh r;obtain⟨p,vs,rfl,np,hp,rp⟩:=jb.mp rv
   cases e:Y7 es with
   | none=>simp[UV,e]at q
   | some bs=>
    simp[UV,e]at q;subst q;rw[Zbm e]at rp;rw[jw rp]at hp;exact⟨p,bs,rfl,e1 _ _ np hp,k _ Hf H (.refl e1) st (je.mpr rfl) (.scal λz=>z)⟩⟩
end
mutual
noncomputable def Zs:D->Bool
 | .non=>true
 | .bl _=>true
 | .int _=>true
 | .str _=>true
 | .tup ds=>YN ds
 | .lst ds=>YN ds
 | _=>false
noncomputable def YN:List D->Bool
 | []=>true
 | d::ds=>Zs d&&YN ds
end
mutual
noncomputable def Yr:D->Nat
 | .tup ds=>XE ds+1
 | .lst ds=>XE ds+1
 | _=>0
noncomputable def XE:List D->Nat
 | []=>0
 | d::ds=>max (Yr d) (XE ds)
end
theorem Jk:∀{ds:List D} {d:D},d∈ds->Yr d<=XE ds
 | e::ds,d,h=>by
  rcases qy.mp h with rfl | h
  ·simp only[XE];omega
  ·have:=Jk h
   simp only[XE];omega
theorem UD:∀{ds:List D} {d:D},YN ds=true->d∈ds->Zs d=true
 | e::ds,d,n,h=>by
  have n':=by simpa[YN]using n
  rcases qy.mp h with rfl | h
  ·exact n'.1
  ·exact UD n'.2 h
mutual
noncomputable def ZK:D->D->Bool
 | .non,.non=>true
 | .bl a,.bl b=>a==b
 | .bl a,.int i=>(if a then 1 else 0)==i
 | .int i,.bl b=>i==(if b then 1 else 0)
 | .int i,.int j=>i==j
 | .str x,.str y=>x==y
 | .tup a,.tup b=>XF a b
 | .lst a,.lst b=>XF a b
 | _,_=>false
noncomputable def XF:List D->List D->Bool
 | [],[]=>true
 | a::as,b::bs=>ZK a b&&XF as bs
 | _,_=>false
end
mutual
theorem ZfM:∀d:D,Zs d=true->ZK d d=true
 | .non,_=>by simp[ZK]
 | .bl _,_=>by simp[ZK]
 | .int _,_=>by simp[ZK]
 | .str _,_=>by simp[ZK]
 | .tup ds,h=>by simp only[ZK];exact Zb3 ds (by simpa[Zs]using h)
 | .lst ds,h=>by simp only[ZK];exact Zb3 ds (by simpa[Zs]using h)
 | .dk _,h=>by simp[Zs]at h
 | .dt _,h=>by simp[Zs]at h
 | .du _,h=>by simp[Zs]at h
 | .df _,h=>by simp[Zs]at h
 | .pen,h=>by simp[Zs]at h
 | .ty _,h=>by simp[Zs]at h
 | .clo _ _,h=>by simp[Zs]at h
theorem Zb3:∀ds:List D,YN ds=true->XF ds ds=true
 | [],_=>by simp[XF]
 | d::ds,h=>by
  have n':Zs d=true/\YN ds=true:=by simpa[YN]using h
  simp only[XF,ZfM d n'.1,Zb3 ds n'.2,Bool.and_self]
end
theorem ZcZ:∀{a b:List D},XF a b=true->a.length=b.length
 | [],[],_=>rfl
 | a::as,b::bs,h=>by
  have:=by simpa[XF]using h
  simp[ZcZ this.2]
 | [],_::_,h=>by simp[XF]at h
 | _::_,[],h=>by simp[XF]at h
theorem Zbn:∀(a b:List D),a.length=b.length->(qf a.length).all (λj=>ZK (a.getD j .non) (b.getD j .non))=XF a b
 | [],[],_=>rfl
 | a::as,b::bs,h=>by
  have h':=by simpa using h
  rw[zo,yU,qbY,List.all_map,XF,<-Zbn as bs h'];rfl
 | [],_::_,h=>by simp at h
 | _::_,[],h=>by simp at h
theorem ZfN:∀(a b:List D),((qf (min a.length b.length)).all (λj=>ZK (a.getD j .non) (b.getD j .non))&&a.length==b.length)=XF a b:=λa b=>by
 by_cases h:a.length=b.length
 ·rw[<-Zbn a b h,h];simp
 ·have:XF a b=false:=by
   cases e:XF a b with
   | false=>rfl
   | true=>exact absurd (ZcZ e) h
  simp_all
mutual
theorem Zl.inj {G:Gh}{H:Hp}:∀{d e:D} {v:V},Zs d=true->Zs e=true->Zl G H d v->Zl G H e v->d=e
 | .non,e,v,_,pe,h,h'=>by
  rw[jg.mp h]at h'
  cases e <;> first | rfl | (simp[Zs]at pe;done) | (simp[Zl]at h')
 | .bl b,e,v,_,pe,h,h'=>by
  rw[je.mp h]at h'
  cases e <;> first | (simp[Zs]at pe;done) | (simp[Zl]at h';rw[h']) | (simp[Zl]at h')
 | .int b,e,v,_,pe,h,h'=>by
  rw[ja.mp h]at h'
  cases e <;> first | (simp[Zs]at pe;done) | (simp[Zl]at h';rw[h']) | (simp[Zl]at h')
 | .str b,e,v,_,pe,h,h'=>by
  rw[ji.mp h]at h'
  cases e <;> first | (simp[Zs]at pe;done) | (simp[Zl]at h';rw[h']) | (simp[Zl]at h')
 | .tup ds,e,v,pd,pe,h,h'=>by
  obtain⟨a,vs,rfl,n,q,r⟩:=jc.mp h
  cases e with
  | tup es=>
   obtain⟨a',vs',e',n',q',r'⟩:=jc.mp h'
   cases e'
   rw[q]at q';cases q';rw[Zj.inj (by simpa[Zs]using pd) (by simpa[Zs]using pe) r r']
  | lst es=>
   obtain⟨a',vs',e',n',q',r'⟩:=jb.mp h'
   cases e'
   rw[q]at q';cases q'
  | _=>first | (simp[Zl]at h';done) | (simp[Zs]at pe;done)
 | .lst ds,e,v,pd,pe,h,h'=>by
  obtain⟨a,vs,rfl,n,q,r⟩:=jb.mp h
  cases e with
  | lst es=>
   obtain⟨a',vs',e',n',q',r'⟩:=jb.mp h'
   cases e'
   rw[q]at q';cases q';rw[Zj.inj (by simpa[Zs]using pd) (by simpa[Zs]using pe) r r']
  | tup es=>
   obtain⟨a',vs',e',n',q',r'⟩:=jc.mp h'
   cases e'
   rw[q]at q';cases q'
  | _=>first | (simp[Zl]at h';done) | (simp[Zs]at pe;done)
 | .dk _,_,_,pd,_,_,_=>by simp[Zs]at pd
 | .dt _,_,_,pd,_,_,_=>by simp[Zs]at pd
 | .du _,_,_,pd,_,_,_=>by simp[Zs]at pd
 | .df _,_,_,pd,_,_,_=>by simp[Zs]at pd
 | .pen,_,_,pd,_,_,_=>by simp[Zs]at pd
 | .ty _,_,_,pd,_,_,_=>by simp[Zs]at pd
 | .clo _ _,_,_,pd,_,_,_=>by simp[Zs]at pd
theorem Zj.inj {G:Gh}{H:Hp}:∀{ds es:List D} {vs:List V},YN ds=true->YN es=true->Zj G H ds vs->Zj G H es vs->ds=es
 | [],es,vs,_,pe,h,h'=>by
  rw[Zj.nil_iff.mp h]at h'
  cases es with
  | nil=>rfl
  | cons e es=>obtain⟨v,r,e1,_⟩:=jd.mp h';cases e1
 | d::ds,es,vs,pd,pe,h,h'=>by
  obtain⟨v,r,rfl,r1,r2⟩:=jd.mp h;have pd':Zs d=true/\YN ds=true:=by simpa[YN]using pd
  cases es with
  | nil=>have:=Zj.nil_iff.mp h';cases this
  | cons e es=>
   obtain⟨v',r',e1,r1',r2'⟩:=jd.mp h'
   cases e1
   have pe':Zs e=true/\YN es=true:=by simpa[YN]using pe
   rw[Zl.inj pd'.1 pe'.1 r1 r1',Zj.inj pd'.2 pe'.2 r2 r2']
end
section
variable {X:Cx}{G:Gh}{jI:Qb}{σ:St}{Hf H:Hp}{s:Shared}
theorem Za4 (A:xG):A.in1.units=A.units+1:=rfl
theorem ZcF (r:Zj G Hf ds vs)(rv:Zu vs us)(h:j<us.toArray.size):∃v,Zl G Hf (ds.getD j .non) v/\ZG v us.toArray[j]/\ds.getD j .non∈ds:=by
 have hl:j<ds.length:=by rw[r.length,rv.length];omega
 have e:ds[j]?=some (ds.getD j .non):=by simp[hl]
 obtain⟨v,h1,h2⟩:=r.get e;obtain⟨u,h3,h4⟩:=rv.get h1;refine⟨v,h2,?_,?_⟩
 ·have:us.toArray[j]=u:=by
   have h':j<us.length:=by omega
   simp_all
  simp_all
 ·simp[hl]
theorem ZkN (I:Inv X jI σ H s)(e1:Zz G Hf H):∀(n:Nat) (A:xG) (d e:D) (x y:V) (u v:Value),Yr d<=n->Yr e<=n->A.units+n+1<cLine->Zs d=true->Zs e=true->Zl G Hf d x->Zl G Hf e y->ZG x u->ZG y v->
  yZ A s u v (ZK d e)/\qbV A s u v (ZK d e)/\qbf A s u v (!ZK d e):=by
 intro n
 induction n with
 | zero=>
  intro A d e x y u v hd he hu pd pe rd re ru rv;have hu':A.units<cLine:=by omega
  cases d with
  | tup ds=>simp[Yr]at hd
  | lst ds=>simp[Yr]at hd
  | dk _=>simp[Zs]at pd
  | dt _=>simp[Zs]at pd
  | du _=>simp[Zs]at pd
  | df _=>simp[Zs]at pd
  | pen=>simp[Zs]at pd
  | ty _=>simp[Zs]at pd
  | clo _ _=>simp[Zs]at pd
  | non=>
   rw[jg.mp rd]at ru
   cases (show u=qR from ru)
   cases e with
   | tup ds=>simp[Yr]at he
   | lst ds=>simp[Yr]at he
   | dk _=>simp[Zs]at pe
   | dt _=>simp[Zs]at pe
   | du _=>simp[Zs]at pe
   | df _=>simp[Zs]at pe
   | pen=>simp[Zs]at pe
   | ty _=>simp[Zs]at pe
   | clo _ _=>simp[Zs]at pe
   | non=>rw[jg.mp re]at rv;cases (show v=qR from rv);simp only[ZK];exact⟨.same _,.none_none,.none_none⟩
   | bl b=>rw[je.mp re]at rv;cases (show v=zT b from rv);simp only[ZK];exact⟨.none_bool b,.none_bool b,.none_bool b⟩
   | int b=>rw[ja.mp re]at rv;obtain⟨t,rfl⟩:=rv;simp only[ZK];exact⟨.none_int b t,.none_int b t,.none_int b t⟩
   | str b=>rw[ji.mp re]at rv;obtain⟨t,rfl⟩:=rv;simp only[ZK];exact⟨.none_str b t,.none_str b t,.none_str b t⟩
  | bl a=>
   rw[je.mp rd]at ru
   cases (show u=zT a from ru)
   cases e with
   | tup ds=>simp[Yr]at he
   | lst ds=>simp[Yr]at he
   | dk _=>simp[Zs]at pe
   | dt _=>simp[Zs]at pe
   | du _=>simp[Zs]at pe
   | df _=>simp[Zs]at pe
   | pen=>simp[Zs]at pe
   | ty _=>simp[Zs]at pe
   | clo _ _=>simp[Zs]at pe
   | non=>rw[jg.mp re]at rv;cases (show v=qR from rv);simp only[ZK];exact⟨.bool_none a,.bool_none a,.bool_none a⟩
   | bl b=>rw[je.mp re]at rv;cases (show v=zT b from rv);simp only[ZK];exact⟨.bool_bool a b,.bool_bool a b,.bool_bool a b⟩
   | int b=>rw[ja.mp re]at rv;obtain⟨t,rfl⟩:=rv;simp only[ZK];exact⟨.bool_int a b t,.bool_int a b t,.bool_int a b t⟩
   | str b=>rw[ji.mp re]at rv;obtain⟨t,rfl⟩:=rv;simp only[ZK];exact⟨.bool_str a b t,.bool_str a b t,.bool_str a b t⟩
  | int a=>
   rw[ja.mp rd]at ru;obtain⟨ta,rfl⟩:=ru
   cases e with
   | tup ds=>simp[Yr]at he
   | lst ds=>simp[Yr]at he
   | dk _=>simp[Zs]at pe
   | dt _=>simp[Zs]at pe
   | du _=>simp[Zs]at pe
   | df _=>simp[Zs]at pe
   | pen=>simp[Zs]at pe
   | ty _=>simp[Zs]at pe
   | clo _ _=>simp[Zs]at pe
   | non=>rw[jg.mp re]at rv;cases (show v=qR from rv);simp only[ZK];exact⟨.int_none a ta,.int_none a ta,.int_none a ta⟩
   | bl b=>rw[je.mp re]at rv;cases (show v=zT b from rv);simp only[ZK];exact⟨.int_bool a ta b,.int_bool a ta b,.int_bool a ta b⟩
   | int b=>rw[ja.mp re]at rv;obtain⟨t,rfl⟩:=rv;simp only[ZK];exact⟨.int_int a ta b t,.int_int a ta b t,.int_int a ta b t⟩
   | str b=>rw[ji.mp re]at rv;obtain⟨t,rfl⟩:=rv;simp only[ZK];exact⟨.int_str a ta b t,.int_str a ta b t,.int_str a ta b t⟩
  | str a=>
   rw[ji.mp rd]at ru;obtain⟨ta,rfl⟩:=ru
   cases e with
   | tup ds=>simp[Yr]at he
   | lst ds=>simp[Yr]at he
   | dk _=>simp[Zs]at pe
   | dt _=>simp[Zs]at pe
   | du _=>simp[Zs]at pe
   | df _=>simp[Zs]at pe
   | pen=>simp[Zs]at pe
   | ty _=>simp[Zs]at pe
   | clo _ _=>simp[Zs]at pe
   | non=>rw[jg.mp re]at rv;cases (show v=qR from rv);simp only[ZK];exact⟨.str_none a ta,.str_none a ta,.str_none a ta⟩
   | bl b=>rw[je.mp re]at rv;cases (show v=zT b from rv);simp only[ZK];exact⟨.str_bool a ta b,.str_bool a ta b,.str_bool a ta b⟩
   | int b=>rw[ja.mp re]at rv;obtain⟨t,rfl⟩:=rv;simp only[ZK];exact⟨.str_int a ta b t,.str_int a ta b t,.str_int a ta b t⟩
   | str b=>rw[ji.mp re]at rv;obtain⟨t,rfl⟩:=rv;simp only[ZK];exact⟨.str_str a ta b t,.str_str a ta b t,.str_str a ta b t⟩
 | succ n ih=>
  intro A d e x y u v hd he hu pd pe rd re ru rv;have hu':A.units<cLine:=by omega
  by_cases hs:Yr d<=n/\Yr e<=n
  ·exact ih A d e x y u v hs.1 hs.2 (by omega) pd pe rd re ru rv
  -- two refs
  have same:∀{l b:Addr},x=.ref l->y=.ref b->l=b->ZK d e=true:=λex ey el=>by
   subst ex ey el;have:=Zl.inj pd pe rd re;subst this;exact ZfM d pd
  cases d with
  | dk _=>simp[Zs]at pd
  | dt _=>simp[Zs]at pd
  | du _=>simp[Zs]at pd
  | df _=>simp[Zs]at pd
  | pen=>simp[Zs]at pd
  | ty _=>simp[Zs]at pd
  | clo _ _=>simp[Zs]at pd
  | tup ds=>
   obtain⟨l,vs,rfl,nl,hl,rl⟩:=jc.mp rd
   cases (show u=qS l from ru)
   obtain⟨jK,rits,pits,_⟩:=I.tuple (ZO.of (K:=X.K) (e1 _ _ nl hl));have il:s.heap.IsTuple l jK.toArray:=pits
   cases e with
   | dk _=>simp[Zs]at pe
   | dt _=>simp[Zs]at pe
   | du _=>simp[Zs]at pe
   | df _=>simp[Zs]at pe
   | pen=>simp[Zs]at pe
   | ty _=>simp[Zs]at pe
   | clo _ _=>simp[Zs]at pe
   | non=>rw[jg.mp re]at rv;cases (show v=qR from rv);simp only[ZK];exact⟨.tuple_none il hu',.tuple_none il hu',.tuple_none il hu'⟩
   | bl b=>rw[je.mp re]at rv;cases (show v=zT b from rv);simp only[ZK];exact⟨.tuple_bool b il hu',.tuple_bool b il hu',.tuple_bool b il hu'⟩
   | int b=>rw[ja.mp re]at rv;obtain⟨t,rfl⟩:=rv;simp only[ZK];exact⟨.tuple_int b t il hu',.tuple_int b t il hu',.tuple_int b t il hu'⟩
   | str b=>rw[ji.mp re]at rv;obtain⟨t,rfl⟩:=rv;simp only[ZK];exact⟨.tuple_str b t il hu',.tuple_str b t il hu',.tuple_str b t il hu'⟩
   | lst es=>
    obtain⟨b,ws,rfl,nb,hb,rb⟩:=jb.mp re
    cases (show v=qS b from rv)
    obtain⟨jV,kq,jY,_⟩:=I.list (Zw.of (K:=X.K) (e1 _ _ nb hb));simp only[ZK];exact⟨.tuple_list il jY.isList hu',.tuple_list il jY.isList hu',.tuple_list il jY.isList hu'⟩
   | tup es=>
    obtain⟨b,ws,rfl,nb,hb,rb⟩:=jc.mp re
    cases (show v=qS b from rv)
    obtain⟨jV,kq,jY,_⟩:=I.tuple (ZO.of (K:=X.K) (e1 _ _ nb hb));have ib:s.heap.IsTuple b jV.toArray:=jY;have Z9:∀j (h1:j<jK.toArray.size) (h2:j<jV.toArray.size),yZ A.in1 s jK.toArray[j] jV.toArray[j] ((λj=>ZK (ds.getD j .non) (es.getD j .non)) j):=λj h1 h2=>by
     obtain⟨v1,a1,a2,a3⟩:=ZcF rl rits h1;obtain⟨v2,b1,b2,b3⟩:=ZcF rb kq h2;exact(ih A.in1 _ _ v1 v2 _ _ (qV (Jk a3) (by simp[Yr]at hd;omega)) (qV (Jk b3) (by simp[Yr]at he;omega)) (by rw[Za4];omega)
      (UD (by simpa[Zs]using pd) a3) (UD (by simpa[Zs]using pe) b3) a1 b1 a2 b2).1
    have sz1:jK.toArray.size=ds.length:=by rw[rl.length,rits.length];simp
    have sz2:jV.toArray.size=es.length:=by rw[rb.length,kq.length];simp
    have rc:=qbV.tuples (e:=λj=>ZK (ds.getD j .non) (es.getD j .non)) il ib hu' Z9;have rn:=qbf.tuples (e:=λj=>ZK (ds.getD j .non) (es.getD j .non)) il ib hu' Z9;rw[sz1,sz2,ZfN]at rc rn;simp only[ZK];refine⟨?_,rc,rn⟩;by_cases hlb:l=b
    ·have q:=same rfl rfl hlb
     simp only[ZK]at q;subst hlb;rw[q];exact .same _
    ·exact .of_refs hlb rc
  | lst ds=>
   obtain⟨l,vs,rfl,nl,hl,rl⟩:=jb.mp rd
   cases (show u=qS l from ru)
   obtain⟨jK,rits,pits,_⟩:=I.list (Zw.of (K:=X.K) (e1 _ _ nl hl));have il:=pits.isList
   cases e with
   | dk _=>simp[Zs]at pe
   | dt _=>simp[Zs]at pe
   | du _=>simp[Zs]at pe
   | df _=>simp[Zs]at pe
   | pen=>simp[Zs]at pe
   | ty _=>simp[Zs]at pe
   | clo _ _=>simp[Zs]at pe
   | non=>rw[jg.mp re]at rv;cases (show v=qR from rv);simp only[ZK];exact⟨.list_none il hu',.list_none il hu',.list_none il hu'⟩
   | bl b=>rw[je.mp re]at rv;cases (show v=zT b from rv);simp only[ZK];exact⟨.list_bool b il hu',.list_bool b il hu',.list_bool b il hu'⟩
   | int b=>rw[ja.mp re]at rv;obtain⟨t,rfl⟩:=rv;simp only[ZK];exact⟨.list_int b t il hu',.list_int b t il hu',.list_int b t il hu'⟩
   | str b=>rw[ji.mp re]at rv;obtain⟨t,rfl⟩:=rv;simp only[ZK];exact⟨.list_str b t il hu',.list_str b t il hu',.list_str b t il hu'⟩
   | tup es=>
    obtain⟨b,ws,rfl,nb,hb,rb⟩:=jc.mp re
    cases (show v=qS b from rv)
    obtain⟨jV,kq,jY,_⟩:=I.tuple (ZO.of (K:=X.K) (e1 _ _ nb hb));have ib:s.heap.IsTuple b jV.toArray:=jY;simp only[ZK];exact⟨.list_tuple il ib hu',.list_tuple il ib hu',.list_tuple il ib hu'⟩
   | lst es=>
    obtain⟨b,ws,rfl,nb,hb,rb⟩:=jb.mp re
    cases (show v=qS b from rv)
    obtain⟨jV,kq,jY,_⟩:=I.list (Zw.of (K:=X.K) (e1 _ _ nb hb));have ib:=jY.isList;have Z9:∀j (h1:j<jK.toArray.size) (h2:j<jV.toArray.size),yZ A.in1 s jK.toArray[j] jV.toArray[j] ((λj=>ZK (ds.getD j .non) (es.getD j .non)) j):=λj h1 h2=>by
     obtain⟨v1,a1,a2,a3⟩:=ZcF rl rits h1;obtain⟨v2,b1,b2,b3⟩:=ZcF rb kq h2;exact(ih A.in1 _ _ v1 v2 _ _ (qV (Jk a3) (by simp[Yr]at hd;omega)) (qV (Jk b3) (by simp[Yr]at he;omega)) (by rw[Za4];omega)
      (UD (by simpa[Zs]using pd) a3) (UD (by simpa[Zs]using pe) b3) a1 b1 a2 b2).1
    have sz1:jK.toArray.size=ds.length:=by rw[rl.length,rits.length];simp
    have sz2:jV.toArray.size=es.length:=by rw[rb.length,kq.length];simp
    have key:qbV A s (.ref l) (.ref b) (XF ds es)/\qbf A s (.ref l) (.ref b) (!XF ds es):=by
     by_cases hsz:ds.length=es.length
     ·have rc:=qbV.lists (e:=λj=>ZK (ds.getD j .non) (es.getD j .non)) il ib (by rw[sz1,sz2];exact hsz) hu' Z9
      have rn:=qbf.lists (e:=λj=>ZK (ds.getD j .non) (es.getD j .non)) il ib (by rw[sz1,sz2];exact hsz) hu' Z9;rw[sz1,Zbn ds es hsz]at rc rn;exact⟨rc,rn⟩
     ·have hne:(jK.toArray.size != jV.toArray.size)=true:=by rw[sz1,sz2];simpa using hsz
      have hf:XF ds es=false:=by
       cases e:XF ds es with
       | false=>rfl
       | true=>exact absurd (ZcZ e) hsz
      rw[hf];exact⟨.lists_lengths il ib hne hu',.lists_lengths il ib hne hu'⟩
    simp only[ZK];refine⟨?_,key.1,key.2⟩;by_cases hlb:l=b
    ·have q:=same rfl rfl hlb
     simp only[ZK]at q;subst hlb;rw[q];exact .same _
    ·exact .of_refs hlb key.1
  | non=>
   rw[jg.mp rd]at ru
   cases (show u=qR from ru)
   cases e with
   | tup es=>
    obtain⟨b,ws,rfl,nb,hb,rb⟩:=jc.mp re
    cases (show v=qS b from rv)
    obtain⟨jV,kq,jY,_⟩:=I.tuple (ZO.of (K:=X.K) (e1 _ _ nb hb));have ib:s.heap.IsTuple b jV.toArray:=jY;simp only[ZK];exact⟨.none_tuple ib hu',.none_tuple ib hu',.none_tuple ib hu'⟩
   | lst es=>
    obtain⟨b,ws,rfl,nb,hb,rb⟩:=jb.mp re
    cases (show v=qS b from rv)
    obtain⟨jV,kq,jY,_⟩:=I.list (Zw.of (K:=X.K) (e1 _ _ nb hb));have ib:=jY.isList;simp only[ZK];exact⟨.none_list ib hu',.none_list ib hu',.none_list ib hu'⟩
   | _=>simp[Yr]at hs
  | bl a=>
   rw[je.mp rd]at ru
   cases (show u=zT a from ru)
   cases e with
   | tup es=>
    obtain⟨b,ws,rfl,nb,hb,rb⟩:=jc.mp re
    cases (show v=qS b from rv)
    obtain⟨jV,kq,jY,_⟩:=I.tuple (ZO.of (K:=X.K) (e1 _ _ nb hb));have ib:s.heap.IsTuple b jV.toArray:=jY;simp only[ZK];exact⟨.bool_tuple a ib hu',.bool_tuple a ib hu',.bool_tuple a ib hu'⟩
   | lst es=>
    obtain⟨b,ws,rfl,nb,hb,rb⟩:=jb.mp re
    cases (show v=qS b from rv)
    obtain⟨jV,kq,jY,_⟩:=I.list (Zw.of (K:=X.K) (e1 _ _ nb hb));have ib:=jY.isList;simp only[ZK];exact⟨.bool_list a ib hu',.bool_list a ib hu',.bool_list a ib hu'⟩
   | _=>simp[Yr]at hs
  | int a=>
   rw[ja.mp rd]at ru;obtain⟨ta,rfl⟩:=ru
   cases e with
   | tup es=>
    obtain⟨b,ws,rfl,nb,hb,rb⟩:=jc.mp re
    cases (show v=qS b from rv)
    obtain⟨jV,kq,jY,_⟩:=I.tuple (ZO.of (K:=X.K) (e1 _ _ nb hb));have ib:s.heap.IsTuple b jV.toArray:=jY;simp only[ZK];exact⟨.int_tuple a ta ib hu',.int_tuple a ta ib hu',.int_tuple a ta ib hu'⟩
   | lst es=>
    obtain⟨b,ws,rfl,nb,hb,rb⟩:=jb.mp re
    cases (show v=qS b from rv)
    obtain⟨jV,kq,jY,_⟩:=I.list (Zw.of (K:=X.K) (e1 _ _ nb hb));have ib:=jY.isList;simp only[ZK];exact⟨.int_list a ta ib hu',.int_list a ta ib hu',.int_list a ta ib hu'⟩
   | _=>simp[Yr]at hs
  | str a=>
   rw[ji.mp rd]at ru;obtain⟨ta,rfl⟩:=ru
   cases e with
   | tup es=>
    obtain⟨b,ws,rfl,nb,hb,rb⟩:=jc.mp re
    cases (show v=qS b from rv)
    obtain⟨jV,kq,jY,_⟩:=I.tuple (ZO.of (K:=X.K) (e1 _ _ nb hb));have ib:s.heap.IsTuple b jV.toArray:=jY;simp only[ZK];exact⟨.str_tuple a ta ib hu',.str_tuple a ta ib hu',.str_tuple a ta ib hu'⟩
   | lst es=>
    obtain⟨b,ws,rfl,nb,hb,rb⟩:=jb.mp re
    cases (show v=qS b from rv)
    obtain⟨jV,kq,jY,_⟩:=I.list (Zw.of (K:=X.K) (e1 _ _ nb hb));have ib:=jY.isList;simp only[ZK];exact⟨.str_list a ta ib hu',.str_list a ta ib hu',.str_list a ta ib hu'⟩
   | _=>simp[Yr]at hs
end
section
variable {X:Cx}{G:Gh}
noncomputable def VY (d e:D):Bool:=Zs d&&Zs e&&decide (Yr d<=60)&&decide (Yr e<=60)
theorem Zed (h:VY d e=true):Zs d=true/\Zs e=true/\Yr d<=60/\Yr e<=60:=by
 simp only[VY]at h;simp_all
noncomputable def XA (d e:D):Option D:=if VY d e=true then some (.bl (ZK d e))else none
noncomputable def XX (d e:D):Option D:=if VY d e=true then some (.bl (!ZK d e))else none
noncomputable def rEqD (G:Gh)(neg:Bool):R2:=λx y H Q=>∃Hf d e,Zz G Hf H/\VY d e=true/\Zl G Hf d x/\Zl G Hf e y/\Q (.bl (if neg then !ZK d e else ZK d e)) H
theorem Zo0 (hu:X.A.units+64<cLine):Ym X (xl .Eq) (rEqD G false):=by
 intro jI s σ H x y v u Q I rx ry h;obtain⟨Hf,d,e,e1,ok,rd,re,q⟩:=h;obtain⟨o1,o2,o3,o4⟩:=Zed ok;exact(ZkN I e1 60 X.A d e x y v u o3 o4 (by omega) o1 o2 rd re rx ry).2.1 _ _ _ _ ⟨.bl (ZK d e),H,I,rfl,q⟩
theorem Zo1 (hu:X.A.units+64<cLine):Ym X (xl .NotEq) (rEqD G true):=by
 intro jI s σ H x y v u Q I rx ry h;obtain⟨Hf,d,e,e1,ok,rd,re,q⟩:=h;obtain⟨o1,o2,o3,o4⟩:=Zed ok;exact(ZkN I e1 60 X.A d e x y v u o3 o4 (by omega) o1 o2 rd re rx ry).2.2 _ _ _ _ ⟨.bl (!ZK d e),H,I,rfl,q⟩
theorem Bm (hu:X.A.units+64<cLine):XQ X G (xl .Eq) XA:=
 ⟨_,Zo0 hu,λHf H s x y d e c Q e1 st rx ry q k=>by
  unfold XA at q;split at q
  ·rename_i ok
   cases q
   exact⟨Hf,d,e,e1,ok,rx,ry,k _ Hf H (.refl e1) st (je.mpr rfl) (.scal λz=>z)⟩
  ·cases q⟩
theorem Bn (hu:X.A.units+64<cLine):XQ X G (xl .NotEq) XX:=
 ⟨_,Zo1 hu,λHf H s x y d e c Q e1 st rx ry q k=>by
  unfold XX at q;split at q
  ·rename_i ok
   cases q
   exact⟨Hf,d,e,e1,ok,rx,ry,k _ Hf H (.refl e1) st (je.mpr rfl) (.scal λz=>z)⟩
  ·cases q⟩
noncomputable def WF (x:D)(ds:List D):Bool:=Zs x&&YN ds&&decide (Yr x<=60)&&decide (XE ds<=60)
noncomputable def WJ (x:D)(ds:List D):Bool:=ds.any λd=>ZK d x
theorem Zjb (h:WF x ds=true):Zs x=true/\YN ds=true/\Yr x<=60/\XE ds<=60:=by
 simp only[WF]at h;simp_all
open Classical in
noncomputable def UW (G:Gh)(Hf:Hp)(x:D)(u:Value):Bool:=if h:∃d v,Zs d=true/\Zl G Hf d v/\ZG v u then ZK h.choose x else false
theorem Zif (pd:Zs d=true)(r:Zl G Hf d v)(ru:ZG v u):UW G Hf x u=ZK d x:=by
 have h:∃d v,Zs d=true/\Zl G Hf d v/\ZG v u:=⟨d,v,pd,r,ru⟩;unfold UW;rw[dif_pos h];obtain⟨v',p',r',ru'⟩:=h.choose_spec;have ev:=ZG.inj ru' ru;subst ev;rw[Zl.inj p' pd r' r]
theorem ZfO:∀{ds:List D} {vs:List V} {us:List Value},YN ds=true->Zj G Hf ds vs->Zu vs us->us.any (UW G Hf x)=WJ x ds
 | [],vs,us,_,r,rv=>by
  rw[Zj.nil_iff.mp r]at rv
  cases rv
  rfl
 | d::ds,vs,us,p,r,rv=>by
  obtain⟨v,rr,rfl,r1,r2⟩:=jd.mp r;have p':=by simpa[YN]using p
  cases rv with
  | cons a b=>
   rw[qaF,Zif p'.1 r1 a,ZfO p'.2 r2 b];rfl
theorem ZfP:∀{ds:List D} {vs:List V} {us:List Value} {u:Value},Zj G Hf ds vs->Zu vs us->u∈us->∃d v,d∈ds/\Zl G Hf d v/\ZG v u
 | [],vs,us,u,r,rv,m=>by
  rw[Zj.nil_iff.mp r]at rv
  cases rv
  simp at m
 | d::ds,vs,us,u,r,rv,m=>by
  obtain⟨v,rr,rfl,r1,r2⟩:=jd.mp r
  cases rv with
  | cons a b=>
   rcases qy.mp m with e | m
   ·subst e;exact⟨d,v,by simp,r1,a⟩
   ·obtain⟨d',v',m',h1,h2⟩:=ZfP r2 b m
    exact⟨d',v',by simp[m'],h1,h2⟩
noncomputable def rInD (G:Gh)(neg:Bool):R2:=λx y H Q=>∃Hf d ds,Zz G Hf H/\WF d ds=true/\Zl G Hf d x/\(Zl G Hf (.lst ds) y∨Zl G Hf (.tup ds) y)/\Q (.bl (if neg then !WJ d ds else WJ d ds)) H
theorem ZcG {σ:St}(hu:X.A.units+64<cLine)(I:Inv X jI σ H s)(e1:Zz G Hf H)(ok:WF d ds=true)(rd:Zl G Hf d x)(rx:ZG x v)
  (rl:Zj G Hf ds vs) (rv:Zu vs jK):(∀y,y∈jK.toArray->yZ X.A.in1 s y v (UW G Hf d y))/\jK.toArray.any (UW G Hf d)=WJ d ds:=by
 obtain⟨o1,o2,o3,o4⟩:=Zjb ok;refine⟨λy hy=>?_,?_⟩
 ·obtain⟨c,w,m,h1,h2⟩:=ZfP rl rv (by simpa using hy)
  rw[Zif (UD o2 m) h1 h2];exact(ZkN I e1 60 X.A.in1 c d w x y v (qV (Jk m) o4) o3 (by grind) (UD o2 m) o1 h1 rd h2 rx).1
 ·rw[show jK.toArray.any (UW G Hf d)=jK.any (UW G Hf d) by simp,ZfO o2 rl rv]
theorem Zo2 (hu:X.A.units+64<cLine):Ym X (xl .In) (rInD G false):=by
 intro jI s σ H x y v u Q I rx ry h;obtain⟨Hf,d,ds,e1,ok,rd,hl,q⟩:=h;rcases hl with hl | hl
 ·obtain⟨p,vs,rfl,np,hp,rp⟩:=jb.mp hl
  cases (show u=qS p from ry)
  obtain⟨jK,rv,pl,hz⟩:=I.list (Zw.of (e1 _ _ np hp));obtain⟨c1,c2⟩:=ZcG hu I e1 ok rd rx rp rv;refine SeqAt.in_listAt _ pl.isList c1 ⟨.bl _,H,I,rfl,?_⟩;rw[c2];exact q
 ·obtain⟨p,vs,rfl,np,hp,rp⟩:=jc.mp hl
  cases (show u=qS p from ry)
  obtain⟨jK,rv,pl,hz⟩:=I.tuple (ZO.of (e1 _ _ np hp));obtain⟨c1,c2⟩:=ZcG hu I e1 ok rd rx rp rv;refine SeqAt.in_tupleAt _ pl c1 ⟨.bl _,H,I,rfl,?_⟩;rw[c2];exact q
theorem Zjc (hu:X.A.units+64<cLine):Ym X (xl .NotIn) (rInD G true):=by
 intro jI s σ H x y v u Q I rx ry h;obtain⟨Hf,d,ds,e1,ok,rd,hl,q⟩:=h;rcases hl with hl | hl
 ·obtain⟨p,vs,rfl,np,hp,rp⟩:=jb.mp hl
  cases (show u=qS p from ry)
  obtain⟨jK,rv,pl,hz⟩:=I.list (Zw.of (e1 _ _ np hp));obtain⟨c1,c2⟩:=ZcG hu I e1 ok rd rx rp rv;refine SeqAt.notIn_listAt _ pl.isList c1 ⟨.bl _,H,I,rfl,?_⟩;rw[c2];exact q
 ·obtain⟨p,vs,rfl,np,hp,rp⟩:=jc.mp hl
  cases (show u=qS p from ry)
  obtain⟨jK,rv,pl,hz⟩:=I.tuple (ZO.of (e1 _ _ np hp));obtain⟨c1,c2⟩:=ZcG hu I e1 ok rd rx rp rv;refine SeqAt.notIn_tupleAt _ pl c1 ⟨.bl _,H,I,rfl,?_⟩;rw[c2];exact q
end
theorem Zjd:typeLookup (.type "list") "keys" = pure none:=by rfl
theorem Zaj:entryFor table "dict.update.loop" = some Builtin.«dict.update.loop»:=entryFor_of_tree (by kernel_rfl)
theorem BS:plainId "dict.update.loop" = true:=by decide +kernel
theorem Zbo {prog:xF}{w:World}{A:xG}{E:xH}{s:Shared}{a:Addr}{o:Obj}{xs:Array Value}{k:Nat}{Q:Option Value->Shared->Prop}
  (hx:s.heap.get? a=some o) (hc:o.cls=.type "list") (hdat:o.data=.seq xs k) (hd:o.dict=none) (hA:A.handled=none)
  (h:∀h' tk,(∀b o,s.heap.get? b=some o->h'.get? b=some o)->Q none { s with heap:=h',toks:=tk }) :
  xg (xD prog w) A (getAttr? (.ref a) "keys") Q E s:=by
 have hmiss:=Zjd;have hname:(["__module__","__name__","__qualname__","__doc__","__annotations__"]:List Str).contains ("keys" : Str)=false:=by decide +kernel
 have hsz:("keys" : Str).length+100<=xh:=by decide +kernel
 obtain⟨c,dct,dat,sl⟩:=o;simp only at hc hdat hd;subst hc hdat hd;obtain⟨hp,g,d,tk,os⟩:=s;have hT:∀tk',(⟨hp,g,d,tk',os⟩:Shared).TypeIs (.ref a) "list":=λ_=>⟨_,hx,rfl⟩;have f1:=sub_AttributeError;have f3:=qaj.lookup;have f4:=qaj.bind (.ref a);have f5:=am_list_getattr_none;unfold getAttr? getAttrBy?;refine xb ?_;refine wpAny_mkText ?_;refine xb (wpAny_attempt ?_);unfold getAttrBy
 repeat (any_goals (first | assumption | exact hT _ | ((with_reducible show xg _ _ (call (Value.builtin "list.__getattribute__") _ _) _ _ _);refine call_meets qaj (hT _) am_entry_list_getattribute (F.args_list_getattribute_2 _ _) (meets_getattribute_miss_list a xs k sl "keys" _ hmiss hname hsz) ⟨hx,hA,λh' tk' e hx'=>?_⟩) | wp_step))
 obtain⟨t',u',he⟩:=hx'.there;have hTe:∀tk',(⟨h',g,d,tk',os⟩:Shared).TypeIs (.ref e) "AttributeError":=λ_=>⟨_,he,rfl⟩;have fin:∀tk',xg (xD prog w) A (do
   let b<-isInstance (.ref e) (.type "AttributeError")
   if b=true then pure none else throw (.ref e)) Q E ⟨h',g,d,tk',os⟩:=λtk'=>by
  refine xb (wpAny_isInstance (hTe _) f1 ?_);simp only[if_true];exact xc (h h' tk' hx'.of.keeps)
 show xg _ _ (getattributeRaised _ _ _ _ _ _ _) _ _ _;unfold getattributeRaised
 repeat (any_goals (first | assumption | exact fin _ | wp_step))
section
variable {X:Cx}{jI:Qb}{σ:St}{H:Hp}{s:Shared}{A:xG}{E:xH}{a:Addr}{y v:V}{u r:Value}
theorem Zje (hu:A.units<cLine)(I:Inv X jI σ H s)(g:Wr H a y v H')(ry:ZG y u)(rv:ZG v r)(h:∀s',Inv X jI σ H' s'->Q () s') :
  xg (xD X.prog X.w) A (dictSet a u r) Q E s:=by
 rcases g with⟨kvs,k,e,ey,l,eH⟩ | ⟨kvs,k,b,e,ey,eb,l,eH⟩
 ·subst ey eH
  obtain⟨z,hd,vs,rel,dd⟩:=ZkA I.hok e;have hz:vs.length<=xh:=by rw[<-rel.length];exact z
  have hl:(Yh kvs k v).length<=xh:=by have:=V8 kvs k v;omega
  refine wpAny_dictSet_pairs (hsz:=hz) (UM ry) dd λh' dd' hs=>h _ ?_;have he:∃q,h'.get? a=some q:=let ⟨q,_,_,hq,_⟩:=dd';⟨q,hq⟩;exact Be I (by rw[e];exact y6) hs he (ZgT hl hd (rel.put k rv) dd')
 ·subst ey eH
  cases (show u=qS b from ry)
  obtain⟨z,hd,xs,rel,dd⟩:=Zn5 I.hok e;have hz:xs.length<=xh:=by rw[<-y8 rel];exact z
  have hl:(Yh kvs k v).length<=xh:=by have:=V8 kvs k v;omega
  refine wpAny_dictSet_heap hu (Jn I.hok eb) dd λh' dd' hs=>h _ ?_;obtain⟨q,es,ep,hq,h2,h3,h4,_,h5⟩:=dd';refine Be I (by rw[e];exact y6) hs ⟨q,hq⟩ ⟨hl,hd,_,(rel.put k eb rv).keeps λc ys ec=>?_,q,es,ep,hq,h2,h3,h4,h5⟩;rw[Zn (ZnX ec e (λz=>nomatch z))];exact ec
end
section
variable {X:Cx}{jI:Qb}{σ:St}
inductive Puts (d:Addr):Hp->List V->Hp->Prop
 | nil {H:Hp}:Puts d H [] H
 | cons {H H1 H2:Hp} {b:Addr} {k v:V} {r:List V}:H b=some (.tup [k,v])->Wr H d k v H1->Puts d H1 r H2->Puts d H (.ref b::r) H2
theorem ZkO {Q:Shared->Prop}(hA:A.handled=none)(hu:A.units+1<cLine)
  (hQ:∀s',Inv X jI σ H' s'->Q s') (hfp:∀Hx:Hp,Hx it=none->Wq X jI Hx it) :
  ∀(k i:Nat) (s:Shared) (H:Hp),vs.length-i=k->i<=vs.length->Inv X jI σ H s->H it=none->s.heap.IsListIter it l i->H l=some (.lst vs)->l≠d->(∀Hx Hy y v,Wr Hx d y v Hy->Hx l=some (.lst vs)->Hy l=some (.lst vs))->Puts d H (vs.drop i) H'->
   xp (xD X.prog X.w) A (.builtin "dict.update.loop" ⟨[.ref d,.ref it,rawInt i,.none],[]⟩) (wants (λr s₂=>r=.none/\Q s₂) E) s:=by
 intro k
 induction k with
 | zero=>
  intro i s H hk hi I Z9 st hl hne hkeep hp;have hil:i=vs.length:=by omega
  obtain⟨jK,rv,pl,hz⟩:=I.list (Zw.of (K:=X.K) hl);refine xo Zaj ?_;rw[zp BS _];show xg _ A.in1 (pyNext (.ref it) >>= _) _ _ s;obtain⟨f0,f1,f2,f3,f4,f5⟩:=hfp H Z9;have jQ:=rv.length;refine xb (wpAny_pyNext_list_end (A:=A.in1) hA st pl.isList (by simp;omega) λh' eb=>?_);have I2:Inv X jI σ H { s with heap:=h' }:=I.turned (t':=s.toks) (λb o hb e=>eb b o hb e) f0 f1 f3 f4 f5;have e0:vs.drop i=[]:=by rw[hil];simp
  rw[e0]at hp
  cases hp
  show xg _ _ (Builtin.Dict.addKeywords d [] >>= _) _ _ _;refine xb (xc ?_);exact xc ⟨rfl,hQ _ I2⟩
 | succ k ih=>
  intro i s H hk hi I Z9 st hl hne hkeep hp;have hlt:i<vs.length:=by omega
  obtain⟨jK,rv,pl,hz⟩:=I.list (Zw.of (K:=X.K) hl);have jQ:=rv.length;refine xo Zaj ?_;rw[zp BS _];show xg _ A.in1 (pyNext (.ref it) >>= _) _ _ s;obtain⟨f0,f1,f2,f3,f4,f5⟩:=hfp H Z9;have hd:vs.drop i=vs[i]::vs.drop (i+1):=qac hlt;rw[hd]at hp;generalize hvi:vs[i]=x at hp;generalize hrest:vs.drop (i+1)=rest at hp
  cases hp with
  | @cons _ H1 _ b k0 v0 _ hb hput hrec=>
   have gx:vs[i]?=some (.ref b):=by rw[qB hlt,hvi]
   obtain⟨u,hu1,ru⟩:=rv.get gx
   cases (show u=qS b from ru)
   refine xb (wpAny_pyNext_list_item (A:=A.in1) st pl.isList (x:=.ref b) (by simpa using hu1) λh' st' sb=>?_);have I1:Inv X jI σ H { s with heap:=h' }:=I.turned (t':=s.toks) (λc o hc e=>(sb.2 c hc).trans e) f0 f1 f3 f4 f5;obtain⟨jV,rv2,pt,_⟩:=I1.tuple (ZO.of (K:=X.K) hb);obtain⟨ku,vu,e2,rk,rvv⟩:=rv2.two;subst e2;obtain⟨o,ho,hoc,n,hod⟩:=id pt;show xg _ _ (holding [qS b] _ >>= _) _ _ _;refine xb (xy ?_);refine xb (xw ?_);unfold Builtin.Dict.pairItems;refine xb (wpAny_typeOf (T:="tuple") ⟨o,ho,hoc⟩ ?_);rw[if_pos (by decide)];refine xb (xu ho hod ?_);refine xc ?_;show xg _ _ (holding [ku,vu] (dictSet d ku vu)) _ _ _;refine xy ?_;obtain⟨oi,hoi,ci,di⟩:=id st';have Ip:=I1.pinned (fp:=[it]) (λc hc=>by
    have e:c=it:=by simpa using hc
    subst e;exact hfp H Z9) (λc hc=>by
    have e:c=it:=by simpa using hc
    subst e;exact⟨oi,hoi,λw z=>by rw[di]at z;cases z⟩)
   refine Zje (by rw[Za4];exact hu) Ip hput rk rvv λs2 I2=>?_;have pit:=I2.pin (it,oi) (qp _ (qp _ (U8 (by simp) hoi)));have ec:((i:Int)+1)=((i+1:Nat):Int):=by push_cast;rfl
   show xg _ _ (again (.builtin "dict.update.loop" ⟨[.ref d,.ref it,rawInt ((i:Int)+1),.none],[]⟩)) _ _ _;rw[ec];refine xc ⟨plainId_quiet BS _,?_⟩;refine ih (i+1) s2 H1 (by omega) hlt I2.unpinned pit.2.1 ⟨oi,pit.1,ci,di⟩ (hkeep _ _ _ _ hput hl) hne hkeep ?_;rw[hrest];exact hrec
theorem Zbp (hc:X.calm=true)(hu:X.A.units+64<cLine)(tk:Bool):XB X (.type "dict") (λxs H Q=>∃l vs,xs=[.ref l]/\H l=some (.lst vs)/\∀p,H p=none->∃H',Puts p (Zi H p (if tk then .dT []else .dK [])) vs H'/\Q (.ref p) H'):=by
 intro jI s σ H xs us Q I r h;obtain⟨l,vs,rfl,hl,q⟩:=h;obtain⟨u,rfl,ru⟩:=XC r
 cases (show u=qS l from ru)
 obtain⟨H',puts,q'⟩:=q s.heap.objs.size (I.hok.fresh (qq _));have hA:=I.ok.hd hc;refine callType_codes (Q₁:=λobj s₁=>obj=.ref s.heap.objs.size/\s₁ = { s with heap:=s.heap.push { cls:=.type "dict",data:=.dict #[] } }) F.kt_called_dict (F.kt_typeCall_dict_1 _) F.entry_dict_init (kt_code_dict_new _ ⟨rfl,rfl⟩) ?_;rintro obj s₁ ⟨rfl,rfl⟩;have hbig:=I.big;have I1:Inv X jI σ (Zi H s.heap.objs.size (if tk then .dT []else .dK [])) { s with heap:=s.heap.push { cls:=.type "dict",data:=.dict #[] } }:=
  I.laid (t':=s.toks) (λb o e=>qd _ e) (qq _) (by
   cases tk
   ·exact ZcT s.heap hbig
   ·exact ZkB s.heap hbig)
 have hnew:(s.heap.push { cls:=.type "dict",data:=.dict #[] }).get? s.heap.objs.size=some { cls:=.type "dict",data:=.dict #[] }:=qz _ rfl;have hTd:({ s with heap:=s.heap.push { cls:=.type "dict",data:=.dict #[] } }:Shared).TypeIs (.ref s.heap.objs.size) "dict":=⟨_,hnew,rfl⟩;have hld:l≠s.heap.objs.size:=ZY hl (I.hok.fresh (qq _));have hl1:(Zi H s.heap.objs.size (if tk then HO.dT []else HO.dK [])) l=some (.lst vs):=by rw[Zn hld];exact hl
 obtain⟨zz,jK,n,rits,hlo⟩:=(show YO X.prog X.w _ _ l (.lst vs)from I1.hok l _ hl1);refine⟨hTd,F.args_dict_init_2 _ _,?_⟩;unfold Builtin.«dict.__init__»;refine xb ?_;unfold Builtin.Dict.selfAndRest;refine xb (wpAny_notOrdered_dict hTd ?_);show xg _ _ (pure (s.heap.objs.size,[qS l])) _ _ _;refine xc ?_;show xg _ _ (qbm "dict.__init__" s.heap.objs.size (.ref l) [] .none) _ _ _;unfold qbm;have hTl:({ s with heap:=s.heap.push { cls:=.type "dict",data:=.dict #[] } }:Shared).TypeIs (.ref l) "list":=⟨_,hlo,rfl⟩;refine xb (wpAny_typeOf hTl ?_);rw[if_pos (by decide)];refine xb (Zbo hlo rfl rfl rfl hA λh2 tk2 kp2=>?_);simp only[Option.isNone_none,if_true];refine xb (wpAny_rule ?_);have I2:Inv X jI σ (Zi H s.heap.objs.size (if tk then .dT []else .dK [])) { s with heap:=h2,toks:=tk2 }:=I1.kept kp2;obtain⟨its',rv',pl',hz'⟩:=I2.list (Zw.of (K:=X.K) hl1);refine xb (wpAny_pyIter_list pl'.isList ?_);refine xc ⟨plainId_quiet BS _,?_⟩;have I3:Inv X jI σ (Zi H s.heap.objs.size (if tk then .dT []else .dK [])) { s with heap:=h2.push { cls:=.type "list_iterator",data:=.fields #[.ref l,.int 0 0] },toks:=tk2 }:=I2.kept (t':=tk2) λb o e=>qd _ e;have hfresh:(Zi H s.heap.objs.size (if tk then HO.dT []else HO.dK [])) h2.objs.size=none:=I2.hok.fresh (qq _);have hst:(h2.push { cls:=.type "list_iterator",data:=.fields #[.ref l,.int 0 0] }).IsListIter h2.objs.size l 0:=⟨_,qz _ rfl,rfl,rfl⟩;refine ZkO (l:=l) (vs:=vs) (H':=H') (A:=X.A.in1) (jI:=jI) (σ:=σ) hA (by rw[Za4];omega) (λs' I'=>⟨.ref s.heap.objs.size,H',I',rfl,q'⟩) (λHx hn=>I2.fpOk (qq _) hn) vs.length 0 _ _ rfl (zk _) I3 hfresh hst hl1 hld ?_ puts;intro Hx Hy y v hput hxl;rcases hput with⟨kvs,k,e,ey,l',eH⟩ | ⟨kvs,k,b,e,ey,eb,l',eH⟩
 ·subst eH;rw[Zn hld];exact hxl
 ·subst eH;rw[Zn hld];exact hxl
end
section
variable {X:Cx}{G:Gh}
noncomputable def XD:D->Option ZJ
 | .int i=>some (.inl i)
 | .str x=>some (.inr x)
 | _=>none
noncomputable def Xr:List D->Option (List ZJ)
 | []=>some []
 | d::ds=>match XD d,Xr ds with | some k,some ks=>some (k::ks) | _,_=>none
noncomputable def X6:D->Option V
 | .int i=>some (.int i)
 | .bl b=>some (.bl b)
 | .str x=>some (.str x)
 | .non=>some .non
 | _=>none
theorem Jb (h:XD d=some k)(r:Zl G H d v):v=kV k:=by
 cases d with
 | int i=>cases h;rw[ja.mp r];rfl
 | str i=>cases h;rw[ji.mp r];rfl
 | _=>cases h
theorem UB:∀{ds:List D} {vs:List V} {ks:List ZJ},Xr ds=some ks->Zj G H ds vs->vs=ks.map kV
 | [],vs,ks,h,r=>by cases h;exact Zj.nil_iff.mp r
 | d::ds,vs,ks,h,r=>by
  obtain⟨v,rr,rfl,r1,r2⟩:=jd.mp r;unfold Xr at h
  cases e1:XD d with
  | none=>simp_all
  | some k=>
   cases e2:Xr ds with
   | none=>simp_all
   | some ks'=>
    rw[e1,e2]at h
    cases h
    rw[Jb e1 r1,UB e2 r2];rfl
theorem Za5 (h:X6 d=some w)(r:Zl G H d v):v=w:=by
 cases d with
 | int i=>cases h;exact ja.mp r
 | str i=>cases h;exact ji.mp r
 | bl i=>cases h;exact je.mp r
 | non=>cases h;exact jg.mp r
 | _=>cases h
noncomputable def ZkP:D->Option (List ZJ×V)
 | .tup [.tup ks,v]=>match Xr ks,X6 v with | some k,some w=>some (k,w) | _,_=>none
 | _=>none
noncomputable def ZkQ:D->Option (ZJ×V)
 | .tup [k,v]=>match XD k,X6 v with | some k,some w=>some (k,w) | _,_=>none
 | _=>none
noncomputable def WU:List (List ZJ×V)->List D->Option (List (List ZJ×V))
 | jO,[]=>some jO
 | jO,d::ds=>match ZkP d with | some (k,v)=>WU (Yh jO k v) ds | none=>none
noncomputable def Vl:List (ZJ×V)->List D->Option (List (ZJ×V))
 | jO,[]=>some jO
 | jO,d::ds=>match ZkQ d with | some (k,v)=>Vl (Yh jO k v) ds | none=>none
theorem Zg3 (h:ZkP d=some (k,v)):∃ks w,d=.tup [.tup ks,w]/\Xr ks=some k/\X6 w=some v:=by
 match d,h with
 | .tup [.tup ks,w],h=>
  have h':(match Xr ks,X6 w with | some k,some w=>some (k,w) | _,_=>none)=some (k,v):=h
  cases e1:Xr ks with
  | none=>simp_all
  | some k'=>
   cases e2:X6 w with
   | none=>simp_all
   | some w'=>rw[e1,e2]at h';cases h';exact⟨ks,w,rfl,e1,e2⟩
theorem Zg4 (h:ZkQ d=some (k,v)):∃ks w,d=.tup [ks,w]/\XD ks=some k/\X6 w=some v:=by
 match d,h with
 | .tup [ks,w],h=>
  have h':(match XD ks,X6 w with | some k,some w=>some (k,w) | _,_=>none)=some (k,v):=h
  cases e1:XD ks with
  | none=>simp_all
  | some k'=>
   cases e2:X6 w with
   | none=>simp_all
   | some w'=>rw[e1,e2]at h';cases h';exact⟨ks,w,rfl,e1,e2⟩
theorem Zg5 (e1:Zz G Hf H)(hp:H p=none):∀{ds:List D} {vs:List V} {jO res:List (List ZJ×V)},Zj G Hf ds vs->WU jO ds=some res->jO.length+ds.length<=xh->Puts p (Zi H p (.dT jO)) vs (Zi H p (.dT res))
 | [],vs,jO,res,r,h,_=>by
  rw[Zj.nil_iff.mp r]
  cases h
  exact .nil
 | d::ds,vs,jO,res,r,h,hl=>by
  obtain⟨v,rr,rfl,r1,r2⟩:=jd.mp r;unfold WU at h
  cases e:ZkP d with
  | none=>simp_all
  | some kv=>
   obtain⟨k,w⟩:=kv;rw[e]at h;obtain⟨ks,wd,rfl,q1,q2⟩:=Zg3 e;obtain⟨b,ws,rfl,nb,hb,rb⟩:=jc.mp r1;obtain⟨v1,v2,rfl,rk,rv⟩:=jp rb;obtain⟨c,cs,rfl,nc,hcx,rc⟩:=jc.mp rk;have ec:=UB q1 rc;subst ec;have ev:=Za5 q2 rv;subst ev;have hb':=e1 _ _ nb hb;have hc':=e1 _ _ nc hcx;have ll:=V8 jO k v2;have hl':jO.length+(ds.length+1)<=xh:=by omega
   refine .cons (by rw[Zn (ZY hb' hp)];exact hb') (Wr.t ZD (by rw[Zn (ZY hc' hp)];exact hc') (by omega)) ?_;rw[ZeI];exact Zg5 e1 hp r2 h (by omega)
theorem ZkR (e1:Zz G Hf H)(hp:H p=none):∀{ds:List D} {vs:List V} {jO res:List (ZJ×V)},Zj G Hf ds vs->Vl jO ds=some res->jO.length+ds.length<=xh->Puts p (Zi H p (.dK jO)) vs (Zi H p (.dK res))
 | [],vs,jO,res,r,h,_=>by
  rw[Zj.nil_iff.mp r]
  cases h
  exact .nil
 | d::ds,vs,jO,res,r,h,hl=>by
  obtain⟨v,rr,rfl,r1,r2⟩:=jd.mp r;unfold Vl at h
  cases e:ZkQ d with
  | none=>simp_all
  | some kv=>
   obtain⟨k,w⟩:=kv;rw[e]at h;obtain⟨ks,wd,rfl,q1,q2⟩:=Zg4 e;obtain⟨b,ws,rfl,nb,hb,rb⟩:=jc.mp r1;obtain⟨v1,v2,rfl,rk,rv⟩:=jp rb;have ek:=Jb q1 rk;subst ek;have ev:=Za5 q2 rv;subst ev;have hb':=e1 _ _ nb hb;have ll:=V8 jO k v2;have hl':jO.length+(ds.length+1)<=xh:=by omega
   refine .cons (by rw[Zn (ZY hb' hp)];exact hb') (Wr.k ZD (by omega)) ?_;rw[ZeI];exact ZkR e1 hp r2 h (by omega)
noncomputable def ZkS:List D->Option D
 | [.lst ds]=>if ds.length<=xh then (WU [] ds).map .dt else none
 | _=>none
noncomputable def ZeU:List D->Option D
 | [.lst ds]=>if ds.length<=xh then (Vl [] ds).map .dk else none
 | _=>none
theorem Zg6 (hc:X.calm=true)(hu:X.A.units+64<cLine):XB X (.type "dict") (λxs H Q=>∃l vs,xs=[.ref l]/\H l=some (.lst vs)/\∀p,H p=none->∃kvs,Puts p (Zi H p (.dT [])) vs (Zi H p (.dT kvs))/\∀o,Q (.ref p) (Zi H p (.frz o (.dT kvs)))):=by
 intro jI s σ H xs us Q I r h;obtain⟨l,vs,ex,hl,hp⟩:=h;refine ZI (Zbp hc hu true jI s σ H xs us (λv H'=>∃p kvs,v=.ref p/\H'=Zi H p (.dT kvs)/\∀o,Q (.ref p) (Zi H p (.frz o (.dT kvs)))) I r ⟨l,vs,ex,hl,λp hn=>?_⟩) λu s1 ⟨v,H1,I1,r1,p,kvs,ev,eH,q⟩=>?_
 ·obtain⟨kvs,pu,q⟩:=hp p hn
  exact⟨_,pu,p,kvs,rfl,rfl,q⟩
 ·subst ev eH
  have ok:=I1.hok p (.dT kvs) ZD;obtain⟨_,_,xs',_,o,es,ep,h1,_⟩:=(show YO X.prog X.w _ s1.heap p (.dT kvs)from ok);have I2:=I1.write (o:=.frz o (.dT kvs)) (t':=s1.toks) (by rw[ZD];trivial) (.inl rfl) (λ_ _ _ e=>e) ⟨o,h1⟩ ⟨h1,ok.stay (λ_ _ _ e=>e) (λb e=>?_) λb xs e=>?_⟩
  ·rw[ZeI]at I2
   exact⟨.ref p,_,I2,r1,q o⟩
  ·have:b≠p:=λz=>by rw[z,ZD]at e;cases e
   rw[Zn this];exact e
  ·have:b≠p:=λz=>by rw[z,ZD]at e;cases e
   rw[Zn this];exact e
theorem Zg7 (hc:X.calm=true)(hu:X.A.units+64<cLine):X5 X G (.type "dict") ZkS:=
 ⟨_,Zg6 hc hu,λHf H s xs ds c Q e1 st r q k=>by
  match ds,q,r with
  | [.lst es],q,r=>
   have q:(if es.length<=xh then (WU [] es).map D.dt else none)=some c:=q;split at q
   ·cases e:WU [] es with
    | none=>simp_all
    | some res=>
     rw[e]at q
     cases q
     obtain⟨v,rfl,rv⟩:=jh r;obtain⟨l,vs,rfl,nl,hl,rl⟩:=jb.mp rv;refine⟨l,vs,rfl,e1 _ _ nl hl,λp hp=>⟨_,Zg5 e1 hp rl e (by simp_all),λo=>?_⟩⟩;have nf:=Gh.nofp st hp;have g2:=Gr.new (o:=.frz o (.dT res)) e1 hp nf;exact k (.ref p) _ _ g2 (Gh.grow st hp) (jl.mpr ⟨p,o,rfl,nf,ZD⟩) λa ea _=>by simp_all
   ·cases q⟩
theorem Zg8 (hc:X.calm=true)(hu:X.A.units+64<cLine):X5 X G (.type "dict") ZeU:=
 ⟨_,Zbp hc hu false,λHf H s xs ds c Q e1 st r q k=>by
  match ds,q,r with
  | [.lst es],q,r=>
   have q:(if es.length<=xh then (Vl [] es).map D.dk else none)=some c:=q;split at q
   ·cases e:Vl [] es with
    | none=>simp_all
    | some res=>
     rw[e]at q
     cases q
     obtain⟨v,rfl,rv⟩:=jh r;obtain⟨l,vs,rfl,nl,hl,rl⟩:=jb.mp rv;refine⟨l,vs,rfl,e1 _ _ nl hl,λp hp=>⟨_,ZkR e1 hp rl e (by simp_all),?_⟩⟩;have nf:=Gh.nofp st hp;have g2:=Gr.new (o:=.dK res) e1 hp nf;exact k (.ref p) _ _ g2 (Gh.grow st hp) (jj.mpr ⟨p,rfl,nf,ZD⟩) λa ea _=>by simp_all
   ·cases q⟩
theorem Zo3 (hu:X.A.units+1<cLine):Ym X (xl .In) (λx y H Q=>∃a o,y=.ref a/\Xt H a x o/\Q (.bl o.isSome) H):=by
 intro jI s σ H x y v u Q I rx ry h;obtain⟨a,o,rfl,g,q⟩:=h
 cases (show u=qS a from ry)
 exact d_in hu I g rx λs' I'=>⟨.bl _,H,I',rfl,q⟩
theorem Zjf (hu:X.A.units+1<cLine):Ym X (xl .NotIn) (λx y H Q=>∃a o,y=.ref a/\Xt H a x o/\Q (.bl (!o.isSome)) H):=by
 intro jI s σ H x y v u Q I rx ry h;obtain⟨a,o,rfl,g,q⟩:=h
 cases (show u=qS a from ry)
 exact ZmN hu I g rx λs' I'=>⟨.bl _,H,I',rfl,q⟩
noncomputable def Us:D->D->Option Bool
 | x,.lst ds=>if WF x ds=true then some (WJ x ds)else none
 | x,.tup ds=>if WF x ds=true then some (WJ x ds)else none
 | .tup ks,.dt kvs=>(Xr ks).map λk=>(Z1 kvs k).isSome
 | .tup ks,.du kvs=>(Xr ks).map λk=>(Z1 kvs k).isSome
 | x,.dk kvs=>(XD x).map λk=>(Z1 kvs k).isSome
 | _,_=>none
noncomputable def Ys (x y:D):Option D:=(Us x y).map .bl
noncomputable def XU (x y:D):Option D:=(Us x y).map λb=>.bl (!b)
theorem Zee (e1:Zz G Hf H)(rx:Zl G Hf d x)(ry:Zl G Hf e y)(h:Us d e=some b) :
  (∃ds,WF d ds=true/\(Zl G Hf (.lst ds) y∨Zl G Hf (.tup ds) y)/\b=WJ d ds)∨∃a o,y=.ref a/\Xt H a x o/\b=o.isSome:=by
 cases e with
 | lst ds=>
  have h:(if WF d ds=true then some (WJ d ds)else none)=some b:=by cases d <;> exact h
  split at h
  ·rename_i ok;cases h;exact .inl ⟨ds,ok,.inl ry,rfl⟩
  ·cases h
 | tup ds=>
  have h:(if WF d ds=true then some (WJ d ds)else none)=some b:=by cases d <;> exact h
  split at h
  ·rename_i ok;cases h;exact .inl ⟨ds,ok,.inr ry,rfl⟩
  ·cases h
 | dt kvs=>
  obtain⟨a,o,rfl,na,ha⟩:=jl.mp ry
  cases d with
  | tup ks=>
   have h:(Xr ks).map (λk=>(Z1 kvs k).isSome)=some b:=h
   cases q:Xr ks with
   | none=>rw[q]at h;cases h
   | some k=>
    rw[q]at h;cases h;obtain⟨c,cs,rfl,nc,hcx,rc⟩:=jc.mp rx;have ec:=UB q rc;subst ec;exact .inr ⟨a,_,rfl,.inr ⟨kvs,k,c,.inr ⟨o,e1 _ _ na ha⟩,rfl,e1 _ _ nc hcx,rfl⟩,rfl⟩
  | _=>cases h
 | du kvs=>
  obtain⟨a,rfl,na,ha⟩:=jm.mp ry
  cases d with
  | tup ks=>
   have h:(Xr ks).map (λk=>(Z1 kvs k).isSome)=some b:=h
   cases q:Xr ks with
   | none=>rw[q]at h;cases h
   | some k=>
    rw[q]at h;cases h;obtain⟨c,cs,rfl,nc,hcx,rc⟩:=jc.mp rx;have ec:=UB q rc;subst ec;exact .inr ⟨a,_,rfl,Xt.t (e1 _ _ na ha) (e1 _ _ nc hcx),rfl⟩
  | _=>cases h
 | dk kvs=>
  obtain⟨a,rfl,na,ha⟩:=jj.mp ry;have h:(XD d).map (λk=>(Z1 kvs k).isSome)=some b:=by cases d <;> exact h
  cases q:XD d with
  | none=>simp_all
  | some k=>
   rw[q]at h;cases h;have ek:=Jb q rx;subst ek;exact .inr ⟨a,_,rfl,Xt.k (e1 _ _ na ha),rfl⟩
 | _=>cases d <;> cases h
theorem Vw (hu:X.A.units+64<cLine):XQ X G (xl .In) Ys:=
 ⟨_,(Zo2 hu).or (Zo3 (by omega)),λHf H s x y d e c Q e1 st rx ry q k=>by
  unfold Ys at q
  cases h:Us d e with
  | none=>simp_all
  | some b=>
   rw[h]at q;cases q;have kk:=k (.bl b) Hf H (.refl e1) st (je.mpr rfl) (.scal λz=>z);rcases Zee e1 rx ry h with⟨ds,ok,hl,rfl⟩ | ⟨a,o,ey,g,rfl⟩
   ·exact .inl ⟨Hf,d,ds,e1,ok,rx,hl,kk⟩
   ·exact .inr ⟨a,o,ey,g,kk⟩⟩
theorem J3 (hu:X.A.units+64<cLine):XQ X G (xl .NotIn) XU:=
 ⟨_,(Zjc hu).or (Zjf (by omega)),λHf H s x y d e c Q e1 st rx ry q k=>by
  unfold XU at q
  cases h:Us d e with
  | none=>simp_all
  | some b=>
   rw[h]at q;cases q;have kk:=k (.bl (!b)) Hf H (.refl e1) st (je.mpr rfl) (.scal λz=>z);rcases Zee e1 rx ry h with⟨ds,ok,hl,rfl⟩ | ⟨a,o,ey,g,rfl⟩
   ·exact .inl ⟨Hf,d,ds,e1,ok,rx,hl,kk⟩
   ·exact .inr ⟨a,o,ey,g,kk⟩⟩
end
section
variable {X:Cx}{G:Gh}{own ob:List Nat}{fr:Bool}{f:Zc->M D}
noncomputable def Zig (ta:TA):TE:=fun σ H Q=>ta σ H λvs H1=>∃j:Int,vs=[.int j]/\∀p,H1 p=none->Q (.ref p) (Zi H1 p (.rng 0 j))
theorem Zb4 (hg:Gl X "range")(hm:X.mg "range" = none)(ha:PA X [a] ta)(hs:xi [a] X.env=[(false,eval a X.env)]:=by rfl):PE X (.Call (.Name "range" p) [a] [] pos) (Zig ta):=by
 intro jI s σ H Q I h;refine Call_ (Uh I hg hm boot_range (yg (ZI (ha pos jI s σ H _ I h) λus s1 ⟨vs,H1,I1,r1,q1⟩=>?_) hs rfl));obtain⟨j,e,q⟩:=q1;subst e
 cases r1 with
 | cons r rr=>
  cases rr
  obtain⟨t,rfl⟩:=r;refine call_range_1 ⟨.ref s1.heap.objs.size,Zi H1 s1.heap.objs.size (.rng 0 j),I1.laid (λb o e=>qd _ e) (qq _) ?_,rfl,q _ (I1.hok.fresh (qq _))⟩;exact⟨_,_,_,qz _ rfl⟩
theorem Zbq:∀(ys:List Value) (lo:Int),(∀(j:Nat) v,ys[j]?=some v->∃t,v=.int (lo+j) t)->Zu ((qf ys.length).map λ(i:Nat)=>V.int (lo+i)) ys
 | [],lo,_=>.nil
 | y::ys,lo,h=>by
  obtain⟨t,e⟩:=h 0 y rfl;rw[zo,yU,yc,qw];refine .cons ⟨t,by rw[e]⟩ ?_;have q:=Zbq ys (lo+1) λj v hv=>by
   obtain⟨t,e⟩:=h (j+1) v (by simpa using hv);exact⟨t,by rw[e];congr 1;push_cast;omega⟩
  have ee:((λ(i:Nat)=>V.int (lo+i))∘Nat.succ)=λ(i:Nat)=>V.int (lo+1+i):=by
   funext i;show V.int (lo+(Nat.succ i:Nat))=V.int (lo+1+i);congr 1;push_cast;omega
  rw[ee];exact q
theorem ZbB (hc:X.calm=true):XB X (.type "list") (λxs H Q=>∃r j,xs=[.ref r]/\H r=some (.rng 0 j)/\-(2 ^ 62)<=j/\j<=2 ^ 24/\∀l,H l=none->Q (.ref l) (Zi H l (.lst ((qf j.toNat).map λ(i:Nat)=>V.int (0+i))))):=by
 intro jI s σ H xs us Q I r h;obtain⟨rr,j,rfl,hr,h1,h2,q⟩:=h;obtain⟨u,rfl,ru⟩:=XC r
 cases (show u=qS rr from ru)
 obtain⟨t,u',v',hro⟩:=(show YO X.prog X.w H s.heap rr (.rng 0 j)from I.hok rr _ hr);have hn:yN 0 j 1=((j.toNat:Nat):Int):=by rw[rangeSize_one];split <;> omega
 refine call_list_range (I.ok.hd hc) (show IsRange s.heap rr 0 j 1 t u' v' from hro) (small_one (by omega) (by omega) h1 (by omega)) hn (by omega) λh' tk acc' c' hk hS hacc=>?_;obtain⟨sz,Z9⟩:=hacc;have rv:=Zbq acc'.toList 0 λi v hv=>by
  simp_all
 have el:acc'.toList.length=j.toNat:=by omega
 rw[el]at rv;refine⟨.ref s.heap.objs.size,Zi H s.heap.objs.size (.lst ((qf j.toNat).map λ(i:Nat)=>V.int (0+i))),I.laid hk (qq _) ?_,rfl,q _ (I.hok.fresh (qq _))⟩;refine⟨?_,acc'.toList,c',rv,?_⟩
 ·rw[qj,qI]
  show j.toNat<=2 ^ 24;omega
 ·omega
noncomputable def Vu (f:Zc->M D):Zc->M D:=fun ρ=>Zp (f ρ) λd=>match d with | .int j=>if -(2 ^ 62)<=j/\j<=2 ^ 24 then Zy (.lst (Yo 0 j.toNat))else Zv | _=>Zv
theorem Zc0 (lo:Int):∀(l:List Nat),Zj G Hf (l.map λ(i:Nat)=>D.int (lo+i)) (l.map λ(i:Nat)=>V.int (lo+i))
 | []=>Zj.nil_iff.mpr rfl
 | i::l=>Zj.cons (ja.mpr rfl) (Zc0 lo l)
theorem B2 {p1 p2 pos1 pos:Pos}(hc:X.calm=true)(hg:Gl X "range")(hm:X.mg "range" = none)(hg2:Gl X "list")(hm2:X.mg "list" = none)(hv2:xk "list" = some (.type "list"))(ha:PD X G r1 a f)
  (hs:xi [a] X.env=[(false,eval a X.env)]:=by rfl)
  (he:xi [.Call (.Name "range" p1) [a] [] pos1] X.env=(false,eval (.Call (.Name "range" p1) [a] [] pos1) X.env)::xi [] X.env:=by rfl):PD X G true (.Call (.Name "list" p2) [.Call (.Name "range" p1) [a] [] pos1] [] pos) (Vu f):=by
 obtain⟨t,pa,qa⟩:=ha.drop;refine⟨_,Za3 (ZbB hc) hg2 hm2 hv2 (YF (Zb4 hg hm (YF pa YX (by rw[hs];rfl)) hs) YX he) (by decide) (by decide) he rfl,fun σ Hf H ρ s d s' Q e1 e2 e3 e4 k=>?_⟩;obtain⟨dj,s1,a1,a2⟩:=ZA e4
 cases dj with
 | int j=>
  obtain⟨c,a3⟩:=Y6 a2;obtain⟨rfl,rfl⟩:=ZM a3;refine qa σ Hf H ρ s _ _ _ e1 e2 e3 a1 λv jU H1 g st r=>?_;rw[ja.mp r];refine⟨j,rfl,λp hp=>⟨p,j,rfl,ZD,c.1,c.2,λl hl=>?_⟩⟩;have hlp:l≠p:=λz=>by rw[z,ZD]at hl;cases hl
  have hl1:H1 l=none:=by rw[Zn hlp]at hl;exact hl
  have jW:G.st s' (Zi H1 p (.rng 0 j)):=Gh.grow st hp;have nf:=Gh.nofp jW hl;have fp:jU p=none:=by
   cases q:jU p with
   | none=>rfl
   | some o=>rw[g.fh p o (Gh.nofp st hp) q]at hp;cases hp
  have gA:Gr G jU H1 jU (Zi H1 p (.rng 0 j)):=⟨λb o n q=>by rw[Zn (ZY q hp)];exact q,.refl _ _,λb o n q=>by rw[Zn (ZY q fp)];exact g.fh b o n q,λb n h1 h2=>h1⟩;have gB:=Gr.new (o:=.lst ((qf j.toNat).map λ(i:Nat)=>V.int (0+i))) gA.fh hl nf;have rr:Zj G jU (Yo 0 j.toNat) ((qf j.toNat).map λ(i:Nat)=>V.int (0+i)):=Zc0 0 _;refine k (.ref l) _ _ ((g.trans gA).trans gB) (Gh.grow jW hl) (jb.mpr ⟨l,_,rfl,nf,ZD,rr.ext gB.ff⟩) λ_=>?_;exact jn (g.trans gA).hh (λa ea _=>by simp_all) (YA.mk gA.fh hl nf rr)
 | _=>cases a2
noncomputable def BD (i:Nat)(f:Zc->M D):Zc->M Out:=fun ρ=>Zp (f ρ) λd=>match d,(ρ[i]?).bind id with
 | .lst es,some (.lst ds)=>if ds.length+es.length<=xh then Zy (.nx (ρ.set i (some (.lst (ds++es)))))else Zv
 | _,_=>Zv
theorem ZmW (hi:i∈own)(hy:WC G own r1 te f):JN G ob own own fr (VR (VH X.K "list" ZeO (Z6 i) (Xa te Xo))) (BD i f):=λkn jS H0 σ H ρ s out s' E ⟨Hf,j⟩ st e po=>by
 obtain⟨d,s1,a1,a2⟩:=ZA e
 match d,hb:(ρ[i]?).bind id,a2 with
 | .lst es,some (.lst ds),a2=>
  have a2':(if ds.length+es.length<=xh then Zy (.nx (ρ.set i (some (.lst (ds++es)))))else Zv) s1=some (out,s'):=a2;obtain⟨c2,a3⟩:=Y6 a2';obtain⟨rfl,rfl⟩:=ZM a3;have ei:=Jj hb;obtain⟨a,vs,h1,h2,h3,h4⟩:=Ji j hi ei;refine⟨_,h1,.inl ⟨rfl,vs,Zw.of h3⟩,?_⟩;refine hy kn jS H0 σ Hf H ρ s _ s' _ j st a1 λv Hf' H' j' e1 e2 st' r fz=>?_;obtain⟨a',vs',h1',h2',h3',h4'⟩:=Ji j' hi ei;rw[h1]at h1';cases h1';obtain⟨b,ws,rfl,nb,hb2,rb⟩:=jb.mp r;refine⟨a,b,vs',ws,rfl,rfl,h3',j'.gr.fh _ _ nb hb2,by rw[<-h4'.length,<-rb.length];exact c2,?_⟩;exact po σ _ ⟨Hf',j'.put hi ei h1 ⟨vs'++ws,ZD,h4'.append rb⟩⟩ (js st' h2)
 | .lst _,none,a2=>cases a2
 | .lst _,some .non,a2=>cases a2
 | .lst _,some (.bl _),a2=>cases a2
 | .lst _,some (.int _),a2=>cases a2
 | .lst _,some (.str _),a2=>cases a2
 | .lst _,some (.tup _),a2=>cases a2
 | .lst _,some (.dk _),a2=>cases a2
 | .lst _,some (.dt _),a2=>cases a2
 | .lst _,some (.du _),a2=>cases a2
 | .lst _,some (.df _),a2=>cases a2
 | .lst _,some .pen,a2=>cases a2
 | .lst _,some (.ty _),a2=>cases a2
 | .lst _,some (.clo _ _),a2=>cases a2
theorem Zjg {pos p2 p3:Pos}(hv:PE X (.Name x p1) (Z6 i))(p:PE X e te)
  (hbase:xr (.Name x p1) "extend" X.env (eval (.Name x p1) X.env)=eval (.Name x p1) X.env:=by rfl)
  (hfew:((backTo p3 (xi [e] X.env)).all (λx=>!x.1)&&(xq p3 (xj [] X.env)).all (λx=>x.1.isSome)
   && decide ([e].length+([]:List Keyword).length+(if ([]:List Keyword).isEmpty then 0 else 1)<30))=true:=by rfl)
  (hline:(p2.endLine==p3.line)=true:=by rfl) (hs:xi [e] X.env=(false,eval e X.env)::xi [] X.env:=by rfl)
  (hsw:xt (.Call (.Attribute (.Name x p1) "extend" p2) [e] [] p3) none pos.line X.env=pure false:=by rfl) :
  PS X (.Expr (.Call (.Attribute (.Name x p1) "extend" p2) [e] [] p3) pos) (VR (VH X.K "list" ZeO (Z6 i) (Xa te Xo))):=
 ZcA (Jx yf PySem.F.slot_list_extend PySem.F.type_list_extend Zi2 hv (YF p YX hs) hbase hfew hline hs rfl) hsw
end
structure BlkS (X:Cx)(XN:List Str)(NS:List (Str×NameKind))(N':List Str)(src:List (Option Nat))(scope:Scope):Prop where
 xn:X.N=XN
 ns:X.env.scope.names=NS
 nocell:∀y∈scope.names,y.2≠.cell
 kind:scope.kind=.function
 names:∀y∈scope.names,y.2=.local->scope.names.lookup y.1=some .local
 len:src.length=N'.length
 free:∀y∈scope.names,y.2=.free->NS.lookup y.1=some .cell∨NS.lookup y.1=some .free
 from_:(src.zip N').all (λp=>match p.1 with | some j=>decide (XN[j]?=some p.2)&&(decide (NS.lookup p.2=some .cell)||decide (NS.lookup p.2=some .free))&&decide (scope.names.lookup p.2=some .free) | none=>true)=true
theorem Zag {env:Env}:∀{names:List (Str×NameKind)} {x:Str},names.lookup x=some .free->
  (names.map λ(n,k)=>if (k==zV&&env.scope.kind == .function&&env.kindOf n==some .cell)then (n,y9)else (n,k)).lookup x=some .cell∨
  (names.map λ(n,k)=>if (k==zV&&env.scope.kind == .function&&env.kindOf n==some .cell)then (n,y9)else (n,k)).lookup x=some .free
 | [],_,h=>by simp at h
 | (n,k)::r,x,h=>by
  have ih:=@Zag env r x;show qcc x ((if (k==zV&&env.scope.kind == .function&&env.kindOf n==some .cell)=true then (n,y9)else (n,k))::_)=_∨qcc x ((if (k==zV&&env.scope.kind == .function&&env.kindOf n==some .cell)=true then (n,y9)else (n,k))::_)=_
  cases hx:x==n with
  | true=>
   simp only[zu,hx]at h
   cases h
   by_cases hc:(zV==zV&&env.scope.kind == .function&&env.kindOf n==some .cell)=true
   ·rw[if_pos hc];left;simp[zu,hx]
   ·rw[if_neg hc];right;simp_all
  | false=>
   simp only[zu,hx]at h;by_cases hc:(k==zV&&env.scope.kind == .function&&env.kindOf n==some .cell)=true
   ·rw[if_pos hc];simp only[zu,hx];exact ih h
   ·rw[if_neg hc];simp only[zu,hx];exact ih h
theorem Zaa {env:Env}:∀{names:List (Str×NameKind)} {x:Str} {k':NameKind},(∀y∈names,y.2≠.cell)->(k'=.cell∨k'=.free)->
  (names.map λ(n,k)=>if (k==zV&&env.scope.kind == .function&&env.kindOf n==some .cell)then (n,y9)else (n,k)).lookup x=some k'->names.lookup x=some .free
 | [],_,_,_,_,h=>by simp at h
 | (n,k)::r,x,k',nc,hk,h=>by
  have ih:=@Zaa env r x k' (λy hy=>nc y (qY _ hy)) hk;have h:qcc x ((if (k==zV&&env.scope.kind == .function&&env.kindOf n==some .cell)=true then (n,y9)else (n,k))::_)=_:=h
  cases hx:x==n with
  | true=>
   by_cases hc:(k==zV&&env.scope.kind == .function&&env.kindOf n==some .cell)=true
   ·have:k=.free:=by
     simp_all
    simp_all
   ·simp_all
  | false=>
   by_cases hc:(k==zV&&env.scope.kind == .function&&env.kindOf n==some .cell)=true
   ·rw[if_pos hc]at h;simp only[zu,hx]at h⊢;exact ih h
   ·rw[if_neg hc]at h;simp only[zu,hx]at h⊢;exact ih h
theorem B3:∀(names:List (Str×NameKind)) (jO:List (Str×Addr)),(∀y∈names,y.2=.free->∃c,env.cells.lookup y.1=some c)->
  (∀x c,jO.lookup x=some c->env.cells.lookup x=some c)->
  ∃cl,(forIn names jO λ(p:Str×NameKind) (cs:List (Str×Addr))=>(if (p.2==zV)=true then do let a<-cellOf env p.1;pure (yS ((p.1,a)::cs))else pure (yS cs):Sem (ForInStep (List (Str×Addr)))))=pure cl/\
   (∀x c,cl.lookup x=some c->env.cells.lookup x=some c)/\(∀x c,jO.lookup x=some c->∃c',cl.lookup x=some c')/\∀y∈names,y.2=.free->∃c,cl.lookup y.1=some c
 | [],jO,_,h2=>⟨jO,by simp,h2,λx c h=>⟨c,h⟩,λy hy=>by simp at hy⟩
 | (n,k)::r,jO,h1,h2=>by
  by_cases hk:k=.free
  ·subst hk
   obtain⟨c,hc⟩:=h1 (n,.free) qak rfl;have hcell:cellOf env n=pure c:=by unfold cellOf;rw[hc]
   obtain⟨cl,q1,q2,q3,q4⟩:=B3 (env:=env) r ((n,c)::jO) (λy hy=>h1 y (qY _ hy)) λx c' h=>by
    cases hx:x==n with
    | true=>
     simp only[zu,hx]at h
     cases h
     have:x=n:=by simpa using hx
     rw[this];exact hc
    | false=>simp only[zu,hx]at h;exact h2 x c' h
   refine⟨cl,?_,q2,λx c' h=>?_,λy hy hf=>?_⟩
   ·rw[qbu]
    simp only[beq_self_eq_true,if_true,hcell,pure_bind];exact q1
   ·cases hx:x==n with
    | true=>exact q3 x c (by simp[zu,hx])
    | false=>exact q3 x c' (by simp only[zu,hx];exact h)
   ·rcases qy.mp hy with e | hy
    ·subst e;exact q3 n c (by simp[zu])
    ·exact q4 y hy hf
  ·obtain⟨cl,q1,q2,q3,q4⟩:=B3 (env:=env) r jO (λy hy=>h1 y (qY _ hy)) h2
   refine⟨cl,?_,q2,q3,λy hy hf=>?_⟩
   ·rw[qbu]
    simp_all
   ·rcases qy.mp hy with e | hy
    ·simp_all
    ·exact q4 y hy hf
theorem BlkS.ok (B:BlkS X XN NS N' src scope)(ok:X.Ok):∃cl,BlkOk X N' src scope cl:=by
 have hcells:∀y∈scope.names,y.2=.free->∃c,X.env.cells.lookup y.1=some c:=λy hy hf=>ok.has y.1 (by
  have:=B.free y hy hf;rw[<-B.ns]at this;exact this)
 obtain⟨cl,q1,q2,q3,q4⟩:=B3 scope.names [] hcells (λx c h=>by simp at h);refine⟨cl,?_,B.nocell,B.kind,B.names,B.len,q2,λx hx=>?_,λi j x e1 e2=>?_⟩
 ·unfold closureFor
  simp_all
 ·have hf:scope.names.lookup x=some .free:=by
   rcases hx with h | h
   ·exact Zaa B.nocell (.inl rfl) h
   ·exact Zaa B.nocell (.inr rfl) h
  exact q4 (x,.free) (zC hf) rfl
 ·have hm:=by
   have:(src.zip N')[i]?=some (some j,x):=by
    rw[qad];exact⟨e1,e2⟩
   exact ye this
  have q:=yz.mp B.from_ _ hm;simp at q;obtain⟨⟨p1,p2⟩,p3⟩:=q;refine⟨by rw[B.xn];exact p1,?_,Zag p3⟩;show X.env.scope.names.lookup x=_∨X.env.scope.names.lookup x=_;rw[B.ns];exact p2
section
variable {X:Cx}{G:Gh}{elt tg iter:Expr}{ifs:List Expr}{scope:Scope}{pos pos' spos:Pos}{XN:List Str}{NS:List (Str×NameKind)}{N':List Str}{src:List (Option Nat)}{fi:Zc->M (List D)}{τ:D->Zc->Option Zc}{ft:Zc->M Bool}{fe:Zc->M D}{r1:Bool}{i:Nat}{x:Str}
theorem ZkT (hc:X.calm=true)(B:BlkS X XN NS N' src scope)(hi:WI X G tg iter fi)
  (hg:∀cl jI C s H fp,V4 (blk X jI N' scope cl C s H fp) G tg (λi=>src[i]?=some none) τ) (ht:∀cl jI C s H fp,Vp (blk X jI N' scope cl C s H fp) ifs (UU G ft)) (he:∀cl jI C s H fp,PD (blk X jI N' scope cl C s H fp) G r1 elt fe)
  (hs:∀x,foldedSetIterable iter X.env x=pure x:=by intro _;rfl):PD X G true (.ListComp elt [⟨tg,iter,ifs,0⟩] scope pos) (ZR src fi τ ft fe):=by
 obtain⟨wi,pi,qi⟩:=hi;refine⟨_,λjI s σ H Q I h=>?_,ZfK (r1:=r1) qi⟩;obtain⟨cl,B'⟩:=B.ok I.ok;exact Zh9 hc B' pi (λjI C s H fp=>(hg cl jI C s H fp).canon) (ht cl) (λjI C s H fp=>(he cl jI C s H fp).canon) hs jI s σ H Q I h
theorem U9 (hN:X.N.Nodup)(hi':X.N[i]?=some x)(hx:WH X.env.scope x)
  (hc:X.calm=true) (B:BlkS X XN NS N' src scope) (hi:WI X G tg iter fi)
  (hg:∀cl jI C s H fp,V4 (blk X jI N' scope cl C s H fp) G tg (λi=>src[i]?=some none) τ) (ht:∀cl jI C s H fp,Vp (blk X jI N' scope cl C s H fp) ifs (UU G ft)) (he:∀cl jI C s H fp,PD (blk X jI N' scope cl C s H fp) G r1 elt fe)
  (hsw:xt (.ListComp elt [⟨tg,iter,ifs,0⟩] scope pos) (some (.Name x pos')) spos.line X.env=pure true:=by rfl)
  (hs:∀x,foldedSetIterable iter X.env x=pure x:=by intro _;rfl)
  (hf:X.fn x=true∨X.env.scope.names.lookup x=some .local:=by first | exact .inl rfl | exact .inr rfl | assumption) :
  JH X G true i (.Assign [.Name x pos'] (.ListComp elt [⟨tg,iter,ifs,0⟩] scope pos) spos) (ZR src fi τ ft fe):=by
 obtain⟨wi,pi,qi⟩:=hi;refine⟨_,λjI s σ H D I h=>?_,ZfK (r1:=r1) qi⟩;obtain⟨cl,B'⟩:=B.ok I.ok;exact ZmS hN hi' hx hc B' pi (λjI C s H fp=>(hg cl jI C s H fp).canon) (ht cl) (λjI C s H fp=>(he cl jI C s H fp).canon) hsw hs hf jI s σ H D I h
end
noncomputable def ZL (P:xF)(w:World)(K:qk)(mg:Str->Option Value)(base:Heap)(k:Nat)(x:Str)(n:Nat)(fr:Bool)(GG:Gh->Prop)(F:List D->M D):Prop:=
 ∃f fd ps,FnOk P w K mg base ZQ k f fd ps (Yj n fr GG F)/\mg x=some (.ref f)/\yd K (.ref f)=true/\Wh K fd ps []
theorem ZL.mono {K:qk}(c:ZL P w K mg base j x n fr GG F)(h:j<=k:=by decide):ZL P w K mg base k x n fr GG F:=
 let ⟨f,fd,ps,a,b,c,d⟩:=c
 ⟨f,fd,ps,a.mono h,b,c,d⟩
theorem Zo4 {p pos:Pos}(c:ZL X.prog X.w X.K X.mg X.base k x n fr GG F)(hG:GG G)(hr:Room k X.A)(hg:Gl X x)
  (ha:Vc X G (e::es) fs) (hal:∀ρ s ds s',fs ρ s=some (ds,s')->ds.length=(e::es).length) (jQ:(e::es).length=n:=by rfl)
  (hdb:(x==("__debug__" : Str))=false:=by decide) (he:xi (e::es) X.env=(false,eval e X.env)::xi es X.env:=by rfl) (hpl:(backTo pos (xi es X.env)).any (·.1)=false:=by rfl) :
  PD X G fr (.Call (.Name x p) (e::es) [] pos) (Zm F fs):=by
 obtain⟨f,fd,ps,a,b,c,d⟩:=c;exact ZmT a hG hr hg b c d Zh7 ha jQ hal hdb he hpl
noncomputable def Vr (h base:Heap)(as:List Addr):Heap:=PySem.W.hideAll h ((qf h.objs.size).filter λa=>!((base.get? a).isSome||decide (a∈as)))
theorem Zjh:(Vr h base as).objs.size=h.objs.size:=qbP _ _
theorem ZfQ (e:h.get? b=some o)(n:(∃u,base.get? b=some u)∨b∈as):(Vr h base as).get? b=some o:=
 qb0 _ e λhm=>by grind
theorem Zih (e:(Vr h base as).get? b=some o):h.get? b=some o/\((∃u,base.get? b=some u)∨b∈as):=by
 have e':=PySem.W.of_hideAll _ e;refine⟨e',?_⟩;by_cases c:((base.get? b).isSome||decide (b∈as))=true
 ·rcases qb1.mp c with c | c
  ·exact .inl (zM.mp c)
  ·simp_all
 ·have z:(Vr h base as).get? b=none:=qbQ _ (qm.mpr ⟨qu.mpr (qC e'),by grind⟩)
  grind
theorem jD {K:qk}(e:Env0 P w K mg base A outer s H)(ha:∀b∈as,H b=none)(hf:∀b∈as,b∉Wk outer) :
  Env0 P w K mg (Vr s.heap base as) A outer s H:=by
 have up:∀b o,base.get? b=some o->(Vr s.heap base as).get? b=some o:=λb o q=>ZfQ (e.bs b o q).1 (.inl ⟨o,q⟩);refine⟨e.frames,⟨e.mod.kin.keeps up,e.mod.glob.keeps up,let ⟨mb,h1,h2⟩:=e.mod.blt;⟨mb,h1.keeps up,h2⟩,e.mod.nolimit.keeps up⟩,λb o q=>?_,qb7 Zjh,?_,e.frf,e.hok,e.bare⟩
 ·obtain⟨q1,q2⟩:=Zih q
  refine⟨q1,?_⟩;rcases q2 with⟨u,q2⟩ | q2
  ·exact(e.bs b u q2).2
  ·exact ha b q2
 ·have all:∀l,(∀b∈Wk l,b∈Wk outer)->s.heap.FunFrames base l->s.heap.FunFrames (Vr s.heap base as) l:=by
   intro l
   induction l with
   | nil=>intro _ _;trivial
   | cons env r ih=>
    intro hs hl;obtain⟨hk,⟨L,o,hf',hn,ho,hd⟩,hr⟩:=hl;have hL:=hs L (by unfold Wk;simp_all);refine⟨hk,⟨L,o,hf',?_,ho,hd⟩,ih (λb hb=>hs b (by unfold Wk;rw[qaS,hf'];exact qY _ hb)) hr⟩
    cases q:(Vr s.heap base as).get? L with
    | none=>rfl
    | some u=>
     rcases (Zih q).2 with⟨u',q'⟩ | q'
     ·grind
     ·simp_all
  exact all outer (λ_ h=>h) e.funs
noncomputable def fnφ (p:Addr)(fd:xE):Heap->Prop:=λh=>∃oc od sl,h.get? p=some ⟨oc,od,.func fd,sl⟩
noncomputable def codeφ (c:Addr)(q:Str):Heap->Prop:=λh=>h.CodeRec (.ref c) q
theorem fnφ_at (ok:Yw P w H h)(e:H p=some (.ext (fnφ p fd))):fnφ p fd h:=(ok p _ e).1
theorem codeφ_at (ok:Yw P w H h)(e:H c=some (.ext (codeφ c q))):h.CodeRec (.ref c) q:=(ok c _ e).1
structure CloScope (N ps:List Str)(sc:Scope):Prop where
 kind:sc.kind=.function
 co:sc.isCoroutine=false
 gen:sc.isGenerator=false
 nd:N.Nodup
 pre:N.take ps.length=ps
 par:∀x∈ps,sc.names.lookup x=some .local
 nocell:∀y∈sc.names,y.2≠.cell
noncomputable def V5 (CX:V2)(P:xF)(w:World)(K:qk)(mg:Str->Option Value)(base:Heap)(N:List Str)(qual:Str)(scope:Scope)(f:Addr)(cd:Value)(cl:List (Str×Addr))(A:xG)(outer:List Env)(s:Shared)(H:Hp)(E:XK):Cx where
 prog:=P
 w:=w
 K:=K
 mg:=mg
 base:=base
 A:=A.deeper (yb qual scope s.heap.objs.size f cd cl)
 N:=N
 s₀:=s
 H₀:=H
 env:=yb qual scope s.heap.objs.size f cd cl
 outer:=outer
 stack:=yb qual scope s.heap.objs.size f cd cl::outer
 ex:=[]
 calm:=true
 fn:=λ_=>false
 pn:=[]
 xe:=λe s'=>xg (xD P w) (A.deeper (yb qual scope s.heap.objs.size f cd cl)) (leaving (yb qual scope s.heap.objs.size f cd cl) e) (λ_ s''=>CX outer H s E e s'') (λe' s''=>CX outer H s E e' s'') s'
structure CloAt (base:Heap)(cl:List (Str×Addr))(sc:Scope)(N ps:List Str)(cvs:List V):Prop where
 inj:∀x y c,cl.lookup x=some c->cl.lookup y=some c->x=y
 cell:∀x c,cl.lookup x=some c->∃v,base.IsCell c v
 has:∀x,sc.names.lookup x=some .free->∃c,cl.lookup x=some c
 cap:∀(i:Nat) (x:Str) (v:V),N[ps.length+i]?=some x->cvs[i]?=some v->sc.names.lookup x=some .free/\∃c u,cl.lookup x=some c/\base.IsCell c (some u)/\ZG v u
 len:N.length=ps.length+cvs.length
theorem ZbC {α:Type}:∀{l:List (Str×α)} {x:Str} {u:α},(l.map (·.1)).Nodup->(x,u)∈l->l.lookup x=some u
 | [],_,_,_,h=>by simp at h
 | (y,w)::l,x,u,nd,h=>by
  rw[yc,zq]at nd;rcases qy.mp h with e | hm
  ·simp_all
  ·have hne:(x==y)=false:=by
    simp;rintro rfl;exact nd.1 (qaT (f:=(·.1)) hm)
   rw[zu,hne];exact ZbC nd.2 hm
theorem Zck:∀(ps:List Str) (us:List Value),((ps.zip us).map (·.1)).Sublist ps
 | [],_=>by simp
 | _::_,[]=>by simp
 | p::ps,u::us=>by simpa using Zck ps us
theorem Zc1 {ps:List Str}{us:List Value}{i:Nat}(nd:ps.Nodup)(h1:ps[i]?=some x)(h2:us[i]?=some u):(ps.zip us).reverse.lookup x=some u:=by
 refine ZbC ?_ ?_
 ·rw[List.map_reverse]
  refine qaL.mpr ?_;exact(nd.sublist (Zck _ _)).imp zh
 ·rw[qaJ]
  exact ye (qad.mpr ⟨h1,h2⟩)
theorem ZmX {K:qk}
  (S:CloScope N ps scope) (C:CloAt base cl scope N ps cvs) (hd:A.handled=none) (e0:Env0 P w K mg base A outer s H) (hl:vs.length=ps.length) (r:Zu vs us)
  (hns:h'.Ns s.heap.objs.size (λx=>(ps.zip us).reverse.lookup x)) (hk:∀b o,s.heap.get? b=some o->h'.get? b=some o) :
  Inv (V5 CX P w K mg base N qual scope f cd cl A outer s H E) [] (vs.map some++cvs.map some) H { s with heap:=h',toks:=tk }:=by
 have noA:∀b:Addr,b∉(V5 CX P w K mg base N qual scope f cd cl A outer s H E).ex:=λb z=>absurd (show b∈([]:List Addr)from z) (by simp);have up:∀b o,base.get? b=some o->h'.get? b=some o:=λb o q=>hk b o (e0.bs b o q).1;have cellAt:∀x c,cl.lookup x=some c->∃v,base.IsCell c v:=C.cell;refine⟨⟨e0.mod,S.kind,rfl,rfl,qq _,λy z c h1 h2=>C.inj y z c h1 h2,λy hy=>?_,λy c z _=>(by cases z),λ_=>hd,qbR e0.frames,.inr ⟨rfl,rfl⟩,λb z=>absurd z (noA b),e0.bs,e0.bsz,λb _ _=>noA b,λb z=>absurd z (noA b),e0.funs,e0.frf⟩,
  rfl,e0.bare,Un.kept hk,⟨_,hns,λi y v h1 h2 h3=>?_⟩,λy c h=>?_,e0.hok.fresh (qq _),λy c h=>?_,λp hp=>absurd (show p∈([]:Qb)from hp) (by simp),e0.hok.kept hk,?_⟩
 ·have hy:scope.names.lookup y=some .cell∨scope.names.lookup y=some .free:=hy
  rcases hy with hy | hy
  ·exact absurd rfl (S.nocell _ (zC hy))
  ·exact C.has y hy
 ·have h1:N[i]?=some y:=h1
  by_cases hi:i<vs.length
  ·have ha:vs[i]?=some v:=by
    rw[zK (by simpa using hi),qM]at h2
    cases e:vs[i]? with
    | none=>rw[e]at h2;cases h2
    | some a=>rw[e]at h2;cases h2;rfl
   obtain⟨u,hu,rv⟩:=r.get ha;have hp:ps[i]?=some y:=by
    rw[<-S.pre,qah (by omega)];exact h1
   have ndP:ps.Nodup:=by rw[<-S.pre];exact S.nd.sublist (qat _ _)
   exact⟨u,rv,.inl ⟨S.par y (ye hp),Zc1 ndP hp hu⟩⟩
  ·rw[yB (by simpa using hi),qM,qj]at h2
   have hc:cvs[i-vs.length]?=some v:=by
    cases e:cvs[i-vs.length]? with
    | none=>simp_all
    | some a=>rw[e]at h2;simp_all
   obtain⟨q1,c,u,q2,q3,q4⟩:=C.cap (i-vs.length) y v (by simp_all) hc;exact⟨u,q4,.inr ⟨.inr q1,c,q2,q3.keeps up⟩⟩
 ·obtain⟨v,q⟩:=C.cell y c h
  exact⟨v,q.keeps up⟩
 ·obtain⟨v,o,q,_⟩:=C.cell y c h
  exact(e0.bs c o q).2
 ·show _=N.length
  rw[C.len];simp[hl]
theorem ZmY {K:qk}
  (S:CloScope N ps scope) (C:CloAt base cl scope N ps cvs) (len:∀vs H Q E,sp vs H Q E->vs.length=ps.length)
  (at_:∀vs H Q E,sp vs H Q E->H f=some (.ext (fnφ f (zi name qual params body scope cl pm (.ref c') ct)))/\H c'=some (.ext (codeφ c' qual)))
  (hbody:∀(A:xG) (outer:List Env) (s:Shared) (H:Hp) (vs:List V) (Q:VK) (E:XK),Room k (A.deeper (yb qual scope s.heap.objs.size f (.ref c') cl))->sp vs H Q E->
   ∃t,PE (V5 CX P w K mg base N qual scope f (.ref c') cl A outer s H E) body t/\t (vs.map some++cvs.map some) H Q) :
  FnOk P w K mg base CX (k+1) f (zi name qual params body scope cl pm (.ref c') ct) ps sp:=by
 refine⟨len,λA outer s H args us vs Q E hr e0 hb r hsp=>?_⟩;have hl:=len _ _ _ _ hsp;obtain⟨a1,a2⟩:=at_ _ _ _ _ hsp;obtain⟨oc,od,sl,ho⟩:=fnφ_at e0.hok a1;have lim:=e0.mod.nolimit.keeps λb o e=>(e0.bs b o e).1;have hkind:∀y∈ps.zip us,scope.names.lookup y.1=some .local:=λ⟨n,v⟩ hy=>S.par n (qaN hy).1;refine PySem.W.kla_callFunE hr.depth ho rfl S.co S.gen rfl (codeφ_at e0.hok a2) (hb _ _ _ _ ?_);refine wpAny_newFunctionEnv S.nocell hkind (λh' hns hsb=>?_) S.kind;have hk:=λb o e=>hsb.extBut b o (qD (qC e)) (qd _ e);refine⟨lim.keeps hk,?_⟩;obtain⟨t,ht,hq⟩:=hbody A outer s H vs Q E (hr.deeper _) hsp;refine PySem.W.kla_codeExpr (xf (ht [] _ _ H Q (ZmX S C hr.hd e0 hl r hns hk) hq) (λu s' hs=>?_) λe s' hs=>hs);obtain⟨v,H',J,rv,q⟩:=hs;exact⟨v,H',J.os,J.bare,J.base,J.hok,rv,q⟩
structure Mk0 (X:Cx)(c P:Addr):Prop where
 code:X.env.code=.ref c
 hd:zO X.base c P
 bm:∃bm o,X.mg "__builtins__" = some (.ref bm)/\bm≠builtinsNs/\bm≠mainGlobals/\X.base.get? bm=some o/\o.cls=.type "module"/\o.dict=some builtinsNs/\o.data=.plain
noncomputable def Slot (P:Addr)(q:Str)(lpos:Pos)(ps:Array Value)(H Hm:Hp)(c':Addr):Prop:=
 (Hm=H/\codeAmong lpos ps.toList=some (.ref c')/\H c'=some (.ext (codeφ c' q)))∨(codeAmong lpos ps.toList=none/\H c'=none/\c'≠P/\Hm=Zi (Zi H P (.tbl (ps ++ #[rawInt lpos.line,rawInt lpos.col,.ref c']))) c' (.ext (codeφ c' q)))
noncomputable def ZkU (P:Addr)(q:Str)(lpos:Pos)(isFd:xE->Addr->Prop)(H:Hp)(R:Addr->Addr->xE->Hp->Prop):Prop:=
 ∃ps,H P=some (.tbl ps)/\TriplesOk ps.toList/\(∀cv,codeAmong lpos ps.toList=some cv->∃c',cv=.ref c'/\H c'=some (.ext (codeφ c' q)))/\
  ∀p c' fd Hm,isFd fd c'->Slot P q lpos ps H Hm c'->Hm p=none->R p c' fd (Zi Hm p (.ext (fnφ p fd)))
section
variable {X:Cx}{jI:Qb}{σ:St}{H:Hp}{s:Shared}{c P:Addr}{ps:Array Value}
theorem Mk0.bat (M:Mk0 X c P)(I:Inv X jI σ H s)(hP:H P=some (.tbl ps)):s.heap.BuiltinsAt X.mg P:=by
 obtain⟨bm,o,e1,e2,e3,e4,e5⟩:=M.bm;refine⟨bm,o,e1,e2,e3,λz=>?_,I.bk _ _ e4,e5⟩;have:=(I.bs _ _ e4).2
 grind
theorem gne (I:Inv X jI σ H s)(hP:H P=some (.tbl ps)):mainGlobals≠P:=λz=>by
 obtain⟨o,es,ep,e,_⟩:=I.mod.glob;have:=(I.bs _ _ e).2
 grind
theorem Zg9 (h1:φ h)(h2:∃o,h.get? a=some o)(h3:∀h1 h2:Heap,φ h1->(∀o,h1.get? a=some o->h2.get? a=some o)->φ h2):YO P0 w H' h a (.ext φ):=⟨h1,h2,h3⟩
theorem fnφ_keep:∀h1 h2:Heap,fnφ p fd h1->(∀o,h1.get? p=some o->h2.get? p=some o)->fnφ p fd h2:=λh1 h2 ⟨oc,od,sl,e⟩ k=>⟨oc,od,sl,k _ e⟩
theorem codeφ_keep:∀h1 h2:Heap,codeφ p q h1->(∀o,h1.get? p=some o->h2.get? p=some o)->codeφ p q h2:=λh1 h2 ⟨a,o,vs,t,e,e1,r⟩ k=>by
 cases e
 exact⟨p,o,vs,t,rfl,k _ e1,r⟩
theorem codeφ_there (x:codeφ p q h):∃o,h.get? p=some o:=by
 obtain⟨a,o,vs,t,e,e1,r⟩:=x;simp_all
theorem ZmZ {c':Addr}(I:Inv X jI σ H s)(hP:H P=some (.tbl ps))(hx:qaB P s.heap h')(hge:s.heap.objs.size<=c')(hc:h'.CodeRec (.ref c') q)(ht:h'.get? P=some (qaU (ps++more))) :
  Inv X jI σ (Zi (Zi H P (.tbl (ps++more))) c' (.ext (codeφ c' q))) { s with heap:=h',toks:=tk }/\H c'=none/\c'≠P:=by
 have hc0:H c'=none:=I.hok.fresh hge;have hcP:c'≠P:=λz=>by rw[z,hP]at hc0;cases hc0
 have old:∀{b:Addr} {u:HO},H b=some u->b≠c':=λe z=>by rw[z,hc0]at e;cases e
 have get:∀{b:Addr} {u:HO},H b=some u->b≠P->Zi (Zi H P (.tbl (ps++more))) c' (.ext (codeφ c' q)) b=some u:=λ{b u} e n=>by rw[Zn (old e),Zn n];exact e
 refine⟨I.call (g':=s.gens) (d':=s.drawn) (ch:=[]) ?_ ?_ I.bare (λb hb=>absurd hb (by simp)),hc0,hcP⟩
 ·refine⟨λb o e n _ _=>hx b o (λz=>by rw[z,hP]at n;cases n) e,λb o e n _ _=>⟨o.slots,hx b o (λz=>by rw[z,hP]at n;cases n) e⟩,λb o e n _=>?_,λb o e _=>?_,λb xs e=>get e (λz=>by rw[z,hP]at e;cases e),λb o u e=>get e (λz=>by rw[z,hP]at e;cases e),λb ps' e=>?_⟩
  ·rw[Zn (qD (qT (qC e) hge)),Zn (λz=>by rw[z,hP]at n;cases n)];exact n
  ·by_cases hb:b=P
   ·exact⟨_,hb▸ht⟩
   ·exact⟨o,hx b o hb e⟩
  ·by_cases hb:b=P
   ·subst hb
    rw[hP]at e;cases e;exact⟨more,by rw[Zn (old hP),ZD]⟩
   ·exact⟨#[],by rw[get e hb];simp⟩
 ·intro a o e
  by_cases ha:a=c'
  ·subst ha
   rw[ZD]at e;cases e;exact Zg9 hc (codeφ_there hc) codeφ_keep
  ·rw[Zn ha]at e
   by_cases hb:a=P
   ·subst hb
    rw[ZD]at e;cases e;exact ht
   ·rw[Zn hb]at e
    refine(I.hok a o e).stay (λb u hb' r=>hx b u ?_ r) (λb r=>get r (λz=>by grind)) λb xs r=>get r (λz=>by grind)
    grind
structure CloOf (X:Cx)(scope:Scope)(cl:List (Str×Addr)):Prop where
 of:∀x c,cl.lookup x=some c->X.env.cells.lookup x=some c
 has:∀y∈scope.names,y.2=.free->∃c,cl.lookup y.1=some c
theorem Zm0 (ok:X.Ok)(hfree:∀y∈scope.names,y.2=.free->X.env.kindOf y.1=some .cell∨X.env.kindOf y.1=some .free):∃cl,closureFor scope X.env=pure cl/\CloOf X scope cl:=by
 obtain⟨cl,q1,q2,q3,q4⟩:=B3 scope.names [] (λy hy hf=>ok.has y.1 (hfree y hy hf)) (λx c h=>by simp at h);refine⟨cl,?_,q2,q4⟩;unfold closureFor;simp_all
theorem Zha (M:Mk0 X c P)(hq:X.env.qual ++ "<lambda>" = q)(hfree:∀y∈scope.names,y.2=.free->X.env.kindOf y.1=some .cell∨X.env.kindOf y.1=some .free)(hdef:defaultsOf params X.env=([],[]):=by rfl) :
  PE X (.Lambda params body scope lpos) (fun σ H Q=>ZkU P q lpos (λfd c'=>∃cl pm ctv,CloOf X scope cl/\fd=zi "<lambda>" q params body scope cl pm (.ref c') ctv) H λp _ _ H'=>Q (.ref p) H'):=by
 intro jI s σ H Q I ⟨ps,hP,ht,hhit,h⟩;obtain⟨cl,hcl,co⟩:=Zm0 I.ok hfree;have hP':=I.hok P _ hP;have hg:=I.mod.glob.keeps I.bk;have hb:=M.bat I hP;refine PySem.W.kla_eval hdef ?_;rw[hq]
 cases hc:codeAmong lpos ps.toList with
 | some cv=>
  obtain⟨c',rfl,hc'⟩:=hhit cv hc;refine PySem.W.kla_makeFunctionHit hcl I.ok.glob hg M.code (M.hd.keeps I.bk) hP' ht hc hb λctv h' tk hk hsz=>?_;refine⟨.ref h'.objs.size,Zi H h'.objs.size (.ext (fnφ _ _)),I.laid (λb u e=>qd _ (hk b u e)) hsz (Zg9 ⟨_,_,_,qz _ rfl⟩ ⟨_,qz _ rfl⟩ fnφ_keep),rfl,h _ c' _ H ⟨cl,_,_,co,rfl⟩ (.inl ⟨rfl,hc,hc'⟩) (I.hok.fresh hsz)⟩
 | none=>
  refine PySem.W.kla_makeFunction hcl I.ok.glob hg M.code (M.hd.keeps I.bk) hP' ht hc (gne I hP) hb λc' ctv h' tk hx hge hlt hrec htb=>?_;obtain⟨I1,hc0,hcP⟩:=ZmZ (tk:=tk) I hP hx hge hrec htb;refine⟨.ref h'.objs.size,Zi _ h'.objs.size (.ext (fnφ _ _)),I1.laid (λb u e=>qd _ e) (qq _) (Zg9 ⟨_,_,_,qz _ rfl⟩ ⟨_,qz _ rfl⟩ fnφ_keep),rfl,h _ c' _ _ ⟨cl,_,_,co,rfl⟩ (.inr ⟨hc,hc0,hcP,rfl⟩) (I1.hok.fresh (qq _))⟩
end
structure Cells (X:Cx)(σ:St)(base':Heap):Prop where
 inj:∀x y c,X.env.cells.lookup x=some c->X.env.cells.lookup y=some c->x=y
 cell:∀x c,X.env.cells.lookup x=some c->∃v,base'.IsCell c v
 has:∀x,(X.env.kindOf x=some .cell∨X.env.kindOf x=some .free)->∃c,X.env.cells.lookup x=some c
 val:∀(i:Nat) (x:Str) (v:V),X.N[i]?=some x->σ[i]?=some (some v)->X.env.kindOf x=some .cell->∃c u,X.env.cells.lookup x=some c/\base'.IsCell c (some u)/\ZG v u
section
variable {X:Cx}{jI:Qb}{σ:St}{H:Hp}{s:Shared}
noncomputable def Bu (X:Cx):List Addr:=X.env.cells.filterMap λp=>X.env.cells.lookup p.1
theorem Zji (e:X.env.cells.lookup x=some c):c∈Bu X:=qag.mpr ⟨(x,c),zC e,e⟩
theorem ZfR (h:c∈Bu X):∃x,X.env.cells.lookup x=some c:=by
 obtain⟨p,_,e⟩:=qag.mp h;exact⟨p.1,e⟩
theorem Zef (I:Inv X jI σ H s)(hfn:∀x,X.fn x=true):Env0 X.prog X.w X.K X.mg (Vr s.heap X.base (Bu X)) X.A X.stack s H/\Cells X σ (Vr s.heap X.base (Bu X)):=by
 have cellK:∀x c v,X.env.cells.lookup x=some c->s.heap.IsCell c v->(Vr s.heap X.base (Bu X)).IsCell c v:=λx c v e ⟨o,ho,hd⟩=>⟨o,ZfQ ho (.inr (Zji e)),hd⟩;refine⟨jD I.env0 (λb hb=>?_) λb hb hf=>?_,⟨I.ok.inj,λx c e=>?_,I.ok.has,λi x v h1 h2 h3=>?_⟩⟩
 ·obtain⟨x,e⟩:=ZfR hb
  exact I.freeC x b e
 ·obtain⟨x,e⟩:=ZfR hb
  rcases qy.mp (I.stkSub b hf)with z | z
  ·exact I.cne x b e z
  ·obtain⟨_,o,ho,_⟩:=I.ok.funs.mem z
   exact absurd (qT (qC ho) (I.ok.cab x b (hfn x) e)) (yk _)
 ·obtain⟨v,q⟩:=I.cell x c e
  exact⟨v,cellK x c v e q⟩
 ·obtain⟨m,_,hl⟩:=I.loc
  obtain⟨u,r,l⟩:=hl i x v h1 h2 (.inr (.inl h3));rcases l with⟨hk,_⟩ | ⟨_,c,hc,hcell⟩
  ·grind
  ·exact⟨c,u,hc,cellK x c _ hc hcell,r⟩
theorem ZkV {p pos:Pos}{sp:Heap->Sp}(F:∀base,FnOk X.prog X.w X.K X.mg base ZQ k f fd ps (sp base))(hfn:∀x,X.fn x=true)(hr:Room k X.A)(hg:Gl X x)(hm:X.mg x=some (.ref f))(hk:yd X.K (.ref f)=true)(hb:Wh X.K fd ps [])
  (ha:PA X (e::es) t) (hdb:(x==("__debug__" : Str))=false:=by decide) (he:xi (e::es) X.env=(false,eval e X.env)::xi es X.env:=by rfl) (hpl:(backTo pos (xi es X.env)).any (·.1)=false:=by rfl) :
  PE X (.Call (.Name x p) (e::es) [] pos) (fun σ H Q=>t σ H λvs H1=>∀base',Cells X σ base'->sp base' vs H1 Q E0):=by
 intro jI s σ H Q I h;refine wpAny_Call_Name_kw (ZhX I hg hm ?_ hdb);refine PySem.W.callWith_K I.ok.mod.kin hk (ZI (ha pos jI s σ H _ I h) λus s1 ⟨vs,H1,I1,r,q⟩=>⟨I1.kIn,?_⟩) he hpl;obtain⟨e0,cs⟩:=Zef I1 hfn;have q':=q _ cs;have hl:(us ++ []).length=ps.length:=by rw[z0,<-r.length];exact(F _).len _ _ _ _ q'
 refine xC (codeAny_mono ((F _).run X.A X.stack s1 H1 ⟨us,[]⟩ us vs Q E0 hr e0 (by have:=hb s1 us I1.kIn hl;simp_all) r q') λr s' hq=>?_)
 cases r with
 | error e=>exact hq.elim
 | ok fl=>
  cases fl with
  | ret u=>exact I1.after hq
  | next=>exact zZ hq
  | brk=>exact zZ hq
  | cont=>exact zZ hq
theorem ZkW {pos:Pos}(hf:PE X (.Name x p) (Z6 i))(hr:Room k X.A)(ha:PA X (e::es) t)
  (he:xi (e::es) X.env=(false,eval e X.env)::xi es X.env:=by rfl) (hpl:(backTo pos (xi es X.env)).any (·.1)=false:=by rfl) :
  PE X (.Call (.Name x p) (e::es) [] pos) (fun σ H Q=>∃f fd ps sp,σ[i]?=some (some (.ref f))/\Wh X.K fd ps []/\FnOk X.prog X.w X.K X.mg X.base ZQ k f fd ps sp/\(∀h:Heap,Yw X.prog X.w H h->X.K.In h->fnφ f fd h)/\
   t σ H λvs H1=>(∀h:Heap,Yw X.prog X.w H1 h->X.K.In h->fnφ f fd h)/\sp vs H1 Q E0):=by
 intro jI s σ H Q I ⟨f,fd,ps,sp,e,hb,F,h0,h⟩;refine wpAny_Call_Name_kw (ZI (hf jI s σ H (λv H'=>v=.ref f/\H'=H) I ⟨_,e,rfl,rfl⟩) λu s1 ⟨v,H1,I1,rv,ev,eH⟩=>?_);subst ev eH
 cases (show u=qS f from rv)
 have at1:∀{jI σ H s},Inv X jI σ H s->(∀h,Yw X.prog X.w H h->X.K.In h->fnφ f fd h)->PySem.W.FnAt f s.heap:=λI z=>by
  obtain⟨oc,od,sl,q⟩:=z _ I.hok I.kIn;exact⟨oc,od,fd,sl,q⟩
 refine PySem.W.callWith_F (at1 I1 h0) (ZI (ha pos jI s1 σ _ _ I1 h) λus s2 ⟨vs,H2,I2,r,h2,q⟩=>⟨at1 I2 h2,?_⟩) he hpl;exact Zkt F hr hb .nil Zh7 I2 r (by simp_all)
end
mutual
noncomputable def YQ:D->Bool
 | .tup ds=>YY ds
 | .lst ds=>YY ds
 | .clo _ _=>false
 | _=>true
noncomputable def YY:List D->Bool
 | []=>true
 | d::ds=>YQ d&&YY ds
end
mutual
theorem Zl.re {G G':Gh}{H:Hp}(hf:G'.fp=G.fp)(hp:G'.pen=G.pen):∀{d:D} {v:V},YQ d=true->Zl G H d v->Zl G' H d v
 | .non,_,_,h=>jg.mpr (jg.mp h)
 | .bl _,_,_,h=>je.mpr (je.mp h)
 | .int _,_,_,h=>ja.mpr (ja.mp h)
 | .str _,_,_,h=>ji.mpr (ji.mp h)
 | .tup ds,v,n,h=>by
  obtain⟨a,vs,e1,nf,e2,r⟩:=jc.mp h;exact jc.mpr ⟨a,vs,e1,by rw[hf];exact nf,e2,Zj.re hf hp (by simpa[YQ]using n) r⟩
 | .lst ds,v,n,h=>by
  obtain⟨a,vs,e1,nf,e2,r⟩:=jb.mp h;exact jb.mpr ⟨a,vs,e1,by rw[hf];exact nf,e2,Zj.re hf hp (by simpa[YQ]using n) r⟩
 | .dk _,_,_,h=>by
  obtain⟨a,e1,nf,e2⟩:=jj.mp h;exact jj.mpr ⟨a,e1,by rw[hf];exact nf,e2⟩
 | .dt _,_,_,h=>by
  obtain⟨a,o,e1,nf,e2⟩:=jl.mp h;exact jl.mpr ⟨a,o,e1,by rw[hf];exact nf,e2⟩
 | .du _,_,_,h=>by
  obtain⟨a,e1,nf,e2⟩:=jm.mp h;exact jm.mpr ⟨a,e1,by rw[hf];exact nf,e2⟩
 | .df _,_,_,h=>by
  obtain⟨a,o,e1,nf,e2⟩:=jr.mp h;exact jr.mpr ⟨a,o,e1,by rw[hf];exact nf,e2⟩
 | .pen,_,_,h=>jo.mpr ((jo.mp h).trans hp.symm)
 | .ty _,_,_,h=>jt.mpr (jt.mp h)
 | .clo _ _,_,n,_=>by simp[YQ]at n
theorem Zj.re {G G':Gh}{H:Hp}(hf:G'.fp=G.fp)(hp:G'.pen=G.pen):∀{ds:List D} {vs:List V},YY ds=true->Zj G H ds vs->Zj G' H ds vs
 | [],_,_,h=>Zj.nil_iff.mpr (Zj.nil_iff.mp h)
 | d::ds,vs,n,h=>by
  obtain⟨v,r,e,h1,h2⟩:=jd.mp h;have n':YQ d=true/\YY ds=true:=by simpa[YY]using n
  exact jd.mpr ⟨v,r,e,Zl.re hf hp n'.1 h1,Zj.re hf hp n'.2 h2⟩
end
theorem Gr.re (hf:G'.fp=G.fp)(g:Gr G Hf H Hf' H'):Gr G' Hf H Hf' H':=
 ⟨λb o n=>g.hh b o (by simp_all),λb o n=>g.ff b o (by simp_all),λb o n=>g.fh b o (by simp_all),λb n=>g.nw b (by simp_all)⟩
theorem Zz.re (hf:G'.fp=G.fp)(g:Zz G H H'):Zz G' H H':=λb o n=>g b o (by simp_all)
theorem YA.re (hf:G'.fp=G.fp)(hp:G'.pen=G.pen)(n:YQ d=true)(h:YA G H Hf' d v):YA G' H Hf' d v:=λa e m=>by
 obtain⟨h1,h2⟩:=h a e m;refine⟨h1,λds ed=>?_⟩;obtain⟨vs,Hm,q1,q2,q3,q4⟩:=h2 ds ed;subst ed;exact⟨vs,Hm,q1,q2,q3.re hf,q4.re hf hp (by simpa[YQ]using n)⟩
noncomputable def BN (n:Nat)(G:Gh)(cvs:List V)(F:List D->M D):Sp:=λus H Q _=>∃(Hf:Hp) (ds cds:List D) (s:Pn) (d:D) (s':Pn),us.length=n/\Zz G Hf H/\Zj G Hf ds us/\Zj G Hf cds cvs/\G.st s H/\F (ds++cds) s=some (d,s')/\
 ∀v Hf' H',Gr G Hf H Hf' H'->G.st s' H'->Zl G Hf' d v->Q v H'
noncomputable def UX (P:xF)(w:World)(K:qk)(mg:Str->Option Value)(k n:Nat)(T:Nat->List D->M D)(base:Heap)(G:Gh):Prop:=
 ∀t v cvs,G.clo t v cvs->∃f fd ps,v=.ref f/\ps.length=n/\Wh K fd ps []/\(∀s H,G.st s H->∀h:Heap,Yw P w H h->K.In h->fnφ f fd h)/\FnOk P w K mg base ZQ k f fd ps (BN n G cvs (T t))
noncomputable def BE (T:Nat->List D->M D)(i:Nat)(fs:Zc->M (List D)):Zc->M D:=fun ρ=>Zp (Za i ρ) λc=>Zp (fs ρ) λds=>match c with | .clo t cds=>T t (ds++cds) | _=>Zv
theorem Zjj (h:Za i ρ s=some (d,s')):ρ[i]?=some (some d)/\s'=s:=by
 obtain⟨e,rfl⟩:=Wx h
 cases q:ρ[i]? with
 | none=>simp_all
 | some o=>simp_all
section
variable {X:Cx}{G:Gh}
theorem ZkX {pos:Pos}(hG:UX X.prog X.w X.K X.mg k n T X.base G)(hr:Room k X.A)(hf:PE X (.Name x p) (Z6 i))(ha:Vc X G (e::es) fs)
  (hal:∀ρ s ds s',fs ρ s=some (ds,s')->ds.length=(e::es).length) (jQ:(e::es).length=n:=by rfl)
  (he:xi (e::es) X.env=(false,eval e X.env)::xi es X.env:=by rfl) (hpl:(backTo pos (xi es X.env)).any (·.1)=false:=by rfl) :
  PD X G false (.Call (.Name x p) (e::es) [] pos) (BE T i fs):=by
 obtain⟨t,pa,qa⟩:=ha;refine⟨_,ZkW hf hr pa he hpl,fun σ Hf H ρ s d s' Q e1 e2 e3 e4 k=>?_⟩;obtain⟨c,s0,b0,b1⟩:=ZA e4;obtain⟨a0,rfl⟩:=Zjj b0;obtain⟨ds,s1,a1,a2⟩:=ZA b1
 cases c with
 | clo t cds=>
  obtain⟨v,hσ,r⟩:=e2 i _ a0;obtain⟨cvs,hc,rc⟩:=jy.mp r;obtain⟨f,fd,ps,rfl,hl,hb,hat,F⟩:=hG t v cvs hc;refine⟨f,fd,ps,_,hσ,hb,F,hat _ H e3,qa σ Hf H ρ _ ds s1 _ e1 e2 e3 a1 λvs jU H1 g1 j9 r1=>⟨hat _ H1 j9,jU,ds,cds,s1,d,s',?_,g1.fh,r1,rc.ext g1.ff,j9,a2,λv j8 H2 g2 jW r2=>k v j8 H2 (g1.trans g2) jW r2 (λz=>by cases z)⟩⟩;rw[<-r1.length,hal _ _ _ _ a1];exact jQ
 | _=>cases a2
end
noncomputable def Y1 (n:Nat)(f:Zc->M D):List D->M D:=λds=>if ds.length=n then f (ds.map some)else Zv
theorem Zm1 (r:Zj G Hf ds vs):YL G Hf (vs.map some) (ds.map some):=λi d e=>by
 cases q:ds[i]? with
 | none=>simp_all
 | some d'=>
  obtain⟨v,h1,h2⟩:=r.get q;simp_all
theorem fnKE {K:qk}
  (S:CloScope N ps scope) (C:CloAt base cl scope N ps cvs) (hG:∀s H,G.st s H->H f=some (.ext (fnφ f (zi name qual params body scope cl pm (.ref c') ct)))/\H c'=some (.ext (codeφ c' qual)))
  (hb:∀(A:xG) (outer:List Env) (s:Shared) (H:Hp) (E:XK),Room k (A.deeper (yb qual scope s.heap.objs.size f (.ref c') cl))->PD (V5 ZQ P w K mg base N qual scope f (.ref c') cl A outer s H E).nox G fr body fe) :
  FnOk P w K mg base ZQ (k+1) f (zi name qual params body scope cl pm (.ref c') ct) ps (BN ps.length G cvs (Y1 N.length fe)):=by
 refine ZmY S C (λvs H Q E ⟨_,_,_,_,_,_,h,_⟩=>h) (λvs H Q E ⟨_,_,_,s,_,_,_,_,_,_,st,_⟩=>hG s H st) λA outer s H vs Q E hr h=>?_;obtain⟨Hf,ds,cds,pn,d,pn',el,e1,r1,r2,st,eF,k'⟩:=h;obtain⟨t,p,q⟩:=hb A outer s H E hr;refine⟨t,p.nox,?_⟩;obtain⟨hl,a0⟩:=Y6 eF;have env:=Zm1 (r1.append r2);rw[zQ]at env;exact q _ Hf H _ pn d pn' Q e1 env st a0 λv Hf' H' g st' r _=>k' v Hf' H' g st' r
structure TabG (P:Addr)(q:Str)(G:Gh):Prop where
 get:∀s H,G.st s H->∃ps,H P=some (.tbl ps)/\TriplesOk ps.toList/\∀pos cv,codeAmong pos ps.toList=some cv->∃c',cv=.ref c'/\H c'=some (.ext (codeφ c' q))/\¬G.fp c'
 fp:G.fp P
 put:∀s H ps (pos:Pos) c',G.st s H->H P=some (.tbl ps)->H c'=none->codeAmong pos ps.toList=none->G.st s (Zi (Zi H P (.tbl (ps ++ #[rawInt pos.line,rawInt pos.col,.ref c']))) c' (.ext (codeφ c' q)))
noncomputable def Wi (G:Gh)(t:Nat)(p c':Addr)(fd:xE)(q:Str)(cvs:List V):Gh where
 fp:=G.fp
 rd:=G.rd
 pen:=G.pen
 st:=λs H=>G.st s H/\H p=some (.ext (fnφ p fd))/\H c'=some (.ext (codeφ c' q))
 mono:=λs H H' ⟨h1,h2,h3⟩ k1 k2=>⟨G.mono s H H' h1 k1 k2,k2 _ _ h2,k2 _ _ h3⟩
 sub:=G.sub
 dom:=λs H b h=>G.dom s H b h.1
 ntp:=λs H b vs h=>G.ntp s H b vs h.1
 clo:=λt' v cs=>t'=t/\v=.ref p/\cs=cvs
noncomputable def UY (P:xF)(w:World)(K:qk)(mg:Str->Option Value)(k:Nat)(x:Str)(n:Nat)(fr:Bool)(GG:Heap->Gh->Prop)(F:List D->M D):Prop:=
 ∃f fd ps,(∀base,FnOk P w K mg base ZQ k f fd ps (Yj n fr (GG base) F))/\mg x=some (.ref f)/\yd K (.ref f)=true/\Wh K fd ps []
theorem UY.mono {K:qk}(c:UY P w K mg j x n fr GG F)(h:j<=k:=by decide):UY P w K mg k x n fr GG F:=
 let ⟨f,fd,ps,a,b,c,d⟩:=c
 ⟨f,fd,ps,λbase=>(a base).mono h,b,c,d⟩
structure CapS (X:Cx)(XN:List Str)(NS:List (Str×NameKind))(N ps:List Str)(cix:List Nat)(scope:Scope):Prop where
 xn:X.N=XN
 ns:X.env.scope.names=NS
 len:N.length=ps.length+cix.length
 at_:(cix.zip (N.drop ps.length)).all (λp=>decide (XN[p.1]?=some p.2)&&decide (NS.lookup p.2=some .cell)&&decide (scope.names.lookup p.2=some .free))=true
 free:∀y∈scope.names,y.2=.free->NS.lookup y.1=some .cell∨NS.lookup y.1=some .free
theorem CapS.hfree (B:CapS X XN NS N ps cix scope):∀y∈scope.names,y.2=.free->X.env.kindOf y.1=some .cell∨X.env.kindOf y.1=some .free:=λy hy hf=>by
 have:=B.free y hy hf;rw[<-B.ns]at this;exact this
theorem CapS.cloAt (B:CapS X XN NS N ps cix scope)(cs:Cells X σ base')(co:CloOf X scope cl)(hl:cvs.length=cix.length)
  (hv:∀(i j:Nat) (v:V),cix[i]?=some j->cvs[i]?=some v->σ[j]?=some (some v)):CloAt base' cl scope N ps cvs:=by
 refine⟨λx y c h1 h2=>cs.inj x y c (co.of x c h1) (co.of y c h2),λx c h=>cs.cell x c (co.of x c h),λx h=>co.has (x,.free) (zC h) rfl,λi x v h1 h2=>?_,by rw[B.len,hl]⟩;have hi:i<cix.length:=by rw[<-hl];exact(qG.mp h2).1
 have hj:=qB hi;have hx:(N.drop ps.length)[i]?=some x:=by simp_all
 have q:=yz.mp B.at_ (cix[i],x) (ye (qad.mpr ⟨hj,hx⟩));simp at q;obtain⟨⟨q1,q2⟩,q3⟩:=q;refine⟨q3,?_⟩;obtain⟨c,u,e1,e2,e3⟩:=cs.val cix[i] x v (by rw[B.xn];exact q1) (hv i _ v hj h2) (by show X.env.scope.names.lookup x=_;rw[B.ns];exact q2);obtain⟨c2,e4⟩:=co.has (x,.free) (zC q3) rfl;have e5:=co.of x c2 e4;rw[e1]at e5;cases e5;exact⟨c,u,e4,e2,e3⟩
noncomputable def Vm (ρ:Zc):List Nat->Option (List D)
 | []=>some []
 | i::r=>((ρ[i]?).bind id).bind λd=>(Vm ρ r).map (d :: ·)
theorem Zc2 (e:YL G Hf σ ρ):∀{cix:List Nat} {cds:List D},Vm ρ cix=some cds->∃cvs,cvs.length=cix.length/\Zj G Hf cds cvs/\∀(i j:Nat) (v:V),cix[i]?=some j->cvs[i]?=some v->σ[j]?=some (some v)
 | [],cds,h=>by cases h;exact⟨[],rfl,Zj.nil_iff.mpr rfl,λi j v h1=>by simp at h1⟩
 | a::r,cds,h=>by
  unfold Vm at h
  cases q:(ρ[a]?).bind id with
  | none=>simp_all
  | some d=>
   rw[q]at h
   cases q2:Vm ρ r with
   | none=>simp_all
   | some ds=>
    rw[q2]at h;cases h;obtain⟨v,h1,h2⟩:=e a d (by
     cases q3:ρ[a]? with
     | none=>simp_all
     | some o=>simp_all)
    obtain⟨cvs,l1,l2,l3⟩:=Zc2 e q2;refine⟨v::cvs,by simp[l1],Zj.cons h2 l2,λi j u e1 e2=>?_⟩
    cases i with
    | zero=>simp at e1 e2;subst e1;subst e2;exact h1
    | succ i=>exact l3 i j u (by simpa using e1) (by simpa using e2)
noncomputable def JI (F:List D->M D)(t:Nat)(cix:List Nat)(f:Zc->M D):Zc->M D:=fun ρ=>Zp (f ρ) λd=>Zp (YI (Vm ρ cix)) λcds=>if (YQ d&&YY cds)=true then Zp (F [d,.clo t cds]) λc=>if YQ c=true then Zy c else Zv else Zv
section
variable {X:Cx}{G:Gh}{P c:Addr}{q:Str}
theorem Zii (TG:TabG P q G)(st:G.st s H)(hP:H P=some (.tbl ps))(sl:Slot P q lpos ps H Hm c'):G.st s Hm/\Hm c'=some (.ext (codeφ c' q))/\Zz G H Hm:=by
 rcases sl with⟨rfl,h1,h2⟩ | ⟨h1,h2,h3,rfl⟩
 ·exact⟨st,h2,.refl _ _⟩
 ·refine⟨TG.put s H ps lpos c' st hP h2 h1,ZD,λb o n e=>?_⟩
  rw[Zn (ZY e h2),Zn (λz=>n (by rw[z];exact TG.fp))];exact e
theorem Zij (e1:Zz G Hf H)(ex:Zz G H Hm)(hp:Hm p=none):Gr G Hf H Hf (Zi Hm p o):=by
 have hh:Zz G H (Zi Hm p o):=λb u n e=>by
  have:=ex b u n e;rw[Zn (ZY this hp)];exact this
 exact⟨hh,.refl _ _,e1.trans hh,λ_ _ h _=>h⟩
theorem Zo5 (hb:Wh X.K fd ps [])(hF:FnOk X.prog X.w X.K X.mg base' ZQ k p fd ps (BN ps.length (Wi G t p c' fd q cvs) cvs F))(hT:T t=F) :
  UX X.prog X.w X.K X.mg k ps.length T base' (Wi G t p c' fd q cvs):=by
 rintro t' v cs ⟨rfl,rfl,rfl⟩;exact⟨p,fd,ps,rfl,rfl,hb,λs H st h ok _=>fnφ_at ok st.2.1,by simp_all⟩
variable {k kl:Nat}{x:Str}{fr frb:Bool}{F:List D->M D}{T:Nat->List D->M D}{t:Nat}{e1:Expr}{f1:Zc->M D}{r1:Bool}{params:Arguments}{scope:Scope}{lpos ppos pos:Pos}{XN N ps:List Str}{NS:List (Str×NameKind)}{cix:List Nat}
theorem ofC (n:YQ d=true)(r:Zl (Wi G t p c' fd q cvs) H d v):Zl G H d v:=Zl.re (G:=Wi G t p c' fd q cvs) (G':=G) rfl rfl n r
theorem toC (n:YQ d=true)(r:Zl G H d v):Zl (Wi G t p c' fd q cvs) H d v:=Zl.re (G:=G) (G':=Wi G t p c' fd q cvs) rfl rfl n r
theorem toCL (n:YY d=true)(r:Zj G H d v):Zj (Wi G t p c' fd q cvs) H d v:=Zj.re (G:=G) (G':=Wi G t p c' fd q cvs) rfl rfl n r
theorem grC (g:Gr (Wi G t p c' fd q cvs) Hf H Hf' H'):Gr G Hf H Hf' H':=Gr.re (G:=Wi G t p c' fd q cvs) rfl g
theorem frC (n:YQ d=true)(h:YA (Wi G t p c' fd q cvs) H Hf' d v):YA G H Hf' d v:=YA.re (G:=Wi G t p c' fd q cvs) rfl rfl n h
theorem Zc3 (M:Mk0 X c P)(TG:TabG P q G)(hW:UY X.prog X.w X.K X.mg k x 2 fr (UX X.prog X.w X.K X.mg (kl+1) ps.length T) F)(hfn:∀x,X.fn x=true)(hr:Room k X.A)(hg:Gl X x)(h1:PD X G r1 e1 f1)
  (hq:X.env.qual ++ "<lambda>" = q) (S:CloScope N ps scope) (B:CapS X XN NS N ps cix scope) (hT:T t=Y1 N.length fe)
  (hbind:∀(cl:List (Str×Addr)) (pm cd ct:Value) (us:List Value),us.length=ps.length->bindArgs (zi "<lambda>" q params body scope cl pm cd ct) ⟨us,[]⟩=pure (ps.zip us))
  (hb:∀(base:Heap) (f c':Addr) (cl:List (Str×Addr)) (G:Gh) (A:xG) (outer:List Env) (s:Shared) (H:Hp) (E:XK),Room kl (A.deeper (yb q scope s.heap.objs.size f (.ref c') cl))->PD (V5 ZQ X.prog X.w X.K X.mg base N q scope f (.ref c') cl A outer s H E).nox G frb body fe)
  (hdef:defaultsOf params X.env=([],[]):=by rfl) (hdb:(x==("__debug__" : Str))=false:=by decide)
  (he:xi [e1,.Lambda params body scope lpos] X.env=(false,eval e1 X.env)::xi [.Lambda params body scope lpos] X.env:=by rfl) (he2:xi [Expr.Lambda params body scope lpos] X.env=(false,eval (.Lambda params body scope lpos) X.env)::xi [] X.env:=by rfl)
  (hpl:(backTo pos (xi [Expr.Lambda params body scope lpos] X.env)).any (·.1)=false:=by rfl) :
  PD X G fr (.Call (.Name x ppos) [e1,.Lambda params body scope lpos] [] pos) (JI F t cix f1):=by
 obtain⟨t1,p1,q1⟩:=h1.drop;obtain⟨f,fd0,ps0,FN,hm,hk,hbd⟩:=hW;refine⟨_,ZkV FN hfn hr hg hm hk hbd (YF p1 (YF (Zha M hq B.hfree hdef) YX he2) he) hdb he hpl,fun σ Hf H ρ s d s' Q x1 x2 x3 x4 k=>?_⟩;obtain⟨d1,s1,a1,a2⟩:=ZA x4;obtain⟨cds,s2,b3,a4⟩:=ZA a2;obtain⟨a3,rfl⟩:=Wx b3;obtain⟨hn,a5⟩:=Y6 a4;obtain⟨cc,s3,a6,a7⟩:=ZA a5;obtain⟨hn2,a8⟩:=Y6 a7;obtain⟨rfl,rfl⟩:=ZM a8;obtain⟨hn0,hn1⟩:=yE.mp hn;refine q1 σ Hf H ρ s d1 _ _ x1 x2 x3 a1 λv1 jU H1 g1 j9 rv1=>?_;obtain⟨tp,hP,htr,hhit⟩:=TG.get _ H1 j9;refine⟨tp,hP,htr,λcv h=>let ⟨c',z1,z2,_⟩:=hhit lpos cv h;⟨c',z1,z2⟩,λp c' fd Hm ⟨cl,pm,ctv,co,efd⟩ sl hp=>?_⟩;subst efd;obtain⟨stm,hc',ex⟩:=Zii TG j9 hP sl;have gr:=Zij (o:=.ext (fnφ p (zi "<lambda>" q params body scope cl pm (.ref c') ctv))) g1.fh ex hp;have hcp:c'≠p:=λz=>by rw[z,hp]at hc';cases hc'
 obtain⟨cvs,l1,l2,l3⟩:=Zc2 (x2.ext g1.ff) a3;intro base' cs;have C:CloAt base' cl scope N ps cvs:=B.cloAt cs co l1 l3;refine⟨Wi G t p c' (zi "<lambda>" q params body scope cl pm (.ref c') ctv) q cvs,jU,[d1,.clo t cds],_,d,_,Zo5 (X:=X) (.all (hbind cl pm (.ref c') ctv)) (fnKE S C (λs H st=>st.2) λA outer s H E hr=>hb base' p c' cl _ A outer s H E hr) hT,rfl,gr.fh,?_,⟨Gh.grow stm hp,ZD,by rw[Zn hcp];exact hc'⟩,a6,λv Hf3 H3 g3 st3 r3 fz=>?_⟩
 ·refine .cons (toC hn0 rv1) (.one (jy.mpr ⟨cvs,⟨rfl,rfl,rfl⟩,toCL hn1 l2⟩))
 ·have g3':=grC g3
  have gg:=(g1.trans gr).trans g3';have rr:=ofC hn2 r3;refine k v Hf3 H3 gg st3.1 rr λz=>?_;exact jn (g1.hh.trans gr.hh) rr.nofp (frC hn2 (fz z))
end
theorem boot_len:xk "len" = some (.builtin "len"):=by rfl
theorem boot_all:xk "all" = some (.builtin "all"):=by rfl
theorem boot_any:xk "any" = some (.builtin "any"):=by rfl
theorem boot_max:xk "max" = some (.builtin "max"):=by rfl
theorem boot_min:xk "min" = some (.builtin "min"):=by rfl
theorem boot_set:xk "set" = some (.type "set"):=by rfl
theorem boot_sorted:xk "sorted" = some (.builtin "sorted"):=by rfl
theorem boot_tuple:xk "tuple" = some (.type "tuple"):=by rfl
theorem boot_list:xk "list" = some (.type "list"):=by rfl
theorem boot_int:xk "int" = some (.type "int"):=by rfl
theorem boot_dict:xk "dict" = some (.type "dict"):=by rfl
noncomputable abbrev Z0:Gh->Prop:=λ_=>True
noncomputable def Zn8 (G:Gh)(ob own own':List Nat)(fr:Bool)(g:Zc->M Out):TS:=λE σ H=>∃kn jS H0 ρ s out s',J G own kn jS H0 σ H ρ/\G.st s H/\g ρ s=some (out,s')/\Post G ob own' kn jS H0 fr out s' E
noncomputable def Ok {α:Type}(m:M α)(s:Pn)(Q:α->Pn->Prop):Prop:=∃a s',m s=some (a,s')/\Q a s'
theorem Ok.bind {m:M α}{k:α->M β}{Q:β->Pn->Prop}(h:Ok m s λa s1=>Ok (k a) s1 Q):Ok (Zp m k) s Q:=by
 obtain⟨a,s1,e,b,s2,e2,q⟩:=h;exact⟨b,s2,by unfold Zp;simp_all,q⟩
theorem Ok.ret {a:α}{Q:α->Pn->Prop}(h:Q a s):Ok (Zy a) s Q:=⟨a,s,rfl,h⟩
theorem Ok.eq {m:M α}{a:α}{Q:α->Pn->Prop}(e:m s=some (a,s'))(h:Q a s'):Ok m s Q:=⟨a,s',e,h⟩
theorem Ok.mono {m:M α}{Q Q':α->Pn->Prop}(h:Ok m s Q)(k:∀a s',Q a s'->Q' a s'):Ok m s Q':=let ⟨a,s',e,q⟩:=h;⟨a,s',e,k a s' q⟩
theorem Ok.of {o:Option α}{a:α}{Q:α->Pn->Prop}(e:o=some a)(h:Q a s):Ok (YI o) s Q:=⟨a,s,by unfold YI;rw[e],h⟩
theorem Ok.ite {α:Type}{c:Prop}[Decidable c]{m:M α}{s:Pn}{Q:α->Pn->Prop}(hc:c)(h:Ok m s Q):Ok (if c then m else Zv) s Q:=by simp_all
section
variable {ρ:Zc}{s:Pn}{Q:Out->Pn->Prop}{f:Zc->M D}{g1 g2:Zc->M Out}
theorem Ok.seq (h:Ok (g1 ρ) s λo s1=>match o with | .nx ρ'=>Ok (g2 ρ') s1 Q | .rt d=>Q (.rt d) s1 | .bk ρ'=>Q (.bk ρ') s1 | .ct ρ'=>Q (.ct ρ') s1):Ok (Zg g1 g2 ρ) s Q:=by
 refine Ok.bind (h.mono λo s1 q=>?_)
 cases o with
 | nx ρ'=>exact q
 | rt d=>exact .ret q
 | bk ρ'=>exact .ret q
 | ct ρ'=>exact .ret q
theorem Ok.next (h:Q (.nx ρ) s):Ok (Zq ρ) s Q:=.ret h
theorem Ok.sset (h:Ok (f ρ) s λd s1=>Q (.nx (ρ.set i (some d))) s1):Ok (ZS i f ρ) s Q:=.bind (h.mono λ_ _ q=>.ret q)
theorem Ok.sown (h:Ok (f ρ) s λd s1=>ZeR d=true/\Q (.nx (ρ.set i (some d))) s1):Ok (WD i f ρ) s Q:=.bind (h.mono λ_ _ q=>.ite q.1 (.ret q.2))
theorem Ok.sret (h:Ok (f ρ) s λd s1=>Q (.rt d) s1):Ok (ZN f ρ) s Q:=.bind (h.mono λ_ _ q=>.ret q)
theorem Ok.sif (h:Ok (c ρ) s λb s1=>if b=true then Ok (g1 ρ) s1 Q else Ok (g2 ρ) s1 Q):Ok (YR c g1 g2 ρ) s Q:=by
 refine .bind (h.mono λb s1 q=>?_)
 cases b with
 | true=>simp_all
 | false=>simp_all
theorem Ok.sapp (hi:(ρ[i]?).bind id=some (.lst ds))(hl:ds.length<xh)(h:Ok (f ρ) s λd s1=>Q (.nx (ρ.set i (some (.lst (ds ++ [d]))))) s1):Ok (VE i f ρ) s Q:=by
 refine .bind (h.mono λd s1 q=>?_);simp only[hi];exact .ite hl (.ret q)
theorem Ok.sext (hi:(ρ[i]?).bind id=some (.lst ds))(h:Ok (f ρ) s λd s1=>∃es,d=.lst es/\ds.length+es.length<=xh/\Q (.nx (ρ.set i (some (.lst (ds++es))))) s1):Ok (BD i f ρ) s Q:=by
 refine .bind (h.mono λd s1 q=>?_);obtain⟨es,rfl,hl,q⟩:=q;simp only[hi];exact .ite hl (.ret q)
theorem Ok.loop (I:Nat->Zc->Pn->Prop):∀(ds:List D) (k:Nat) (ρ:Zc) (s:Pn),I k ρ s->
  (∀i d ρ s,ds[i]?=some d->I (k+i) ρ s->∃ρ1,τ d ρ=some ρ1/\Ok (body ρ1) s λo s'=>∃ρ',o=.nx ρ'/\I (k+i+1) ρ' s')->Ok (WE τ body ds ρ) s λo s'=>∃ρ',o=.nx ρ'/\I (k+ds.length) ρ' s'
 | [],k,ρ,s,h0,_=>.ret ⟨ρ,rfl,h0⟩
 | d::ds,k,ρ,s,h0,h=>by
  obtain⟨ρ1,e1,ok⟩:=h 0 d ρ s rfl h0;refine Ok.bind (.of e1 (.bind (ok.mono λo s' q=>?_)));obtain⟨ρ',rfl,q⟩:=q;refine(Ok.loop I ds (k+1) ρ' s' q λi d' ρ2 s2 e2 q2=>?_).mono λo s2 q2=>?_
  ·have:=h (i+1) d' ρ2 s2 (by simpa using e2) (by grind)
   rw[show k+(i+1)+1=k+1+i+1 by omega]at this;exact this
  ·rw[show k+(d::ds).length=k+1+ds.length by simp;omega]
   exact q2
theorem Ok.sfor (I:Nat->Zc->Pn->Prop)(h:Ok (fi ρ) s λds s1=>I 0 ρ s1/\(∀i d ρ s,ds[i]?=some d->I i ρ s->∃ρ1,τ d ρ=some ρ1/\Ok (body ρ1) s λo s'=>∃ρ',o=.nx ρ'/\I (i+1) ρ' s')/\
  ∀ρ' s',I ds.length ρ' s'->Q (.nx ρ') s'):Ok (YU fi τ body ρ) s Q:=by
 refine .bind (h.mono λds s1 q=>?_);obtain⟨q0,q1,q2⟩:=q;refine(Ok.loop I ds 0 ρ s1 q0 λi d ρ s e=>?_).mono λo s' q=>?_
 ·rw[qb8];exact q1 i d ρ s e
 ·obtain⟨ρ',rfl,q⟩:=q
  simp_all
end
section
variable {ρ ρ':Zc}{s s1 s2:Pn}{f f2:Zc->M D}{g1 g2:Zc->M Out}{d e c:D}{r:Option (Out×Pn)}
theorem Xe (hl:ds.length=k)(h:g (ds.map some++qA (n-k) none) s=some (.rt d,s1)):runB n k g ds s=some (d,s1):=by
 unfold runB;rw[if_pos hl];unfold Zp;rw[h];rfl
theorem Y8 (h:f ρ s=some (d,s1)):ZN f ρ s=some (.rt d,s1):=by unfold ZN Zp;rw[h];rfl
theorem YG (h:g1 ρ s=some (.rt d,s1)):Zg g1 g2 ρ s=some (.rt d,s1):=by unfold Zg Zp;rw[h];rfl
theorem Y3 (h:g1 ρ s=some (.nx ρ',s1))(h2:g2 ρ' s1=r):Zg g1 g2 ρ s=r:=by unfold Zg Zp;simp_all
theorem XT (h:f ρ s=some (d,s1)):ZS i f ρ s=some (.nx (ρ.set i (some d)),s1):=by unfold ZS Zp;rw[h];rfl
theorem ZC (h1:f ρ s=some (d,s1))(h2:f2 ρ s1=some (e,s2))(h:g d e=some c):Ze g f f2 ρ s=some (c,s2):=by
 unfold Ze Zp;rw[h1];simp;rw[h2];simp;unfold YI;rw[h]
theorem Yy (h1:fs ρ s=some (ds,s1))(h:g ds=some c):ZF g fs ρ s=some (c,s1):=by
 unfold ZF Zp;rw[h1];simp;unfold YI;rw[h]
theorem Z4 (h1:fs ρ s=some (ds,s1))(h:F ds s1=q):Zm F fs ρ s=q:=by
 unfold Zm Zp;simp_all
theorem Zh (h1:f ρ s=some (d,s1))(h2:fs ρ s1=some (ds,s2)):Zb f fs ρ s=some (d::ds,s2):=by
 unfold Zb Zp;rw[h1];simp;rw[h2];rfl
theorem Wg (h1:fs ρ s=some (ds,s1))(hl:ds.length<=xh):ZT fs ρ s=some (.tup ds,s1):=by
 unfold ZT Zp;rw[h1];simp;rw[if_pos hl];rfl
theorem Jp (h1:fs ρ s=some (ds,s1))(hl:ds.length<=xh):Xu fs ρ s=some (.lst ds,s1):=by
 unfold Xu Zp;rw[h1];simp;rw[if_pos hl];rfl
theorem Yp (h:f ρ s=some (.bl b,s1)):asB f ρ s=some (b,s1):=by unfold asB Zp;rw[h];rfl
end
theorem Zeg (r:D->Zc)(b:D->Bool)(c:D->D):∀(ds:List D),(∀d∈ds,τ d ρ=some (r d)/\ft (r d) s=some (b d,s)/\(b d=true->fe (r d) s=some (c d,s)))->
  UO τ ft fe ρ ds s=some ((ds.filter b).map c,s)
 | [],_=>rfl
 | d::ds,h=>by
  obtain⟨h1,h2,h3⟩:=h d (by simp);have ih:=Zeg r b c ds λd' m=>h d' (by simp[m]);unfold UO;simp only[Zp,YI,h1,h2]
  cases hb:b d with
  | true=>simp[Zp,h3 hb,ih,hb,Zy]
  | false=>simp_all
end TF
namespace TP
open L2 TF
noncomputable def Zhb:Zc->M Out:=(Zg (WD 1 (Xu Zd))
 (Zg (YU (Z3 (ZF Yi (Zb (Za 0) Zd))) (Zt 2)
 (Zg (YU (ZcE (Ze Y0 (Za 2) (dC (.int 1))) (ZF Yi (Zb (Za 0) Zd))) (Zt 3)
 (Zg (VE 1 (fun ρ=>(ZT (Zb (Ze Zk (Za 0) (Za 2)) (Zb (Ze Zk (Za 0) (Za 3)) Zd))) (YB [1] ρ)))
 Zq))
 Zq))
 (Zg (ZN (Za 1))
 Zq)))
noncomputable def J0:List D->M D:=runB 4 1 Zhb
noncomputable def Zbr:Zc->M Out:=(Zg (ZN (Ze Ys (ZT (Zb (ZF Um (Zb (Za 1) (Zb (Za 2) Zd))) (Zb (ZF Zie (Zb (Za 1) (Zb (Za 2) Zd))) Zd))) (Za 0)))
 Zq)
noncomputable def Ww:List D->M D:=runB 3 3 Zbr
noncomputable def Zo6:Zc->M Out:=(Zg (ZN (ZR [none,some 0,some 1] (Z3 (Ze Zk (Za 0) (dC (.int 0)))) (Zt 0) (asB (Zm Ww (Zb (Ze Zk (Za 1) (dC (.int 1))) (Zb (Za 2) (Zb (Za 0) Zd))))) (Za 0)))
 Zq)
noncomputable def VQ:List D->M D:=runB 2 2 Zo6
noncomputable def ZdK:Zc->M Out:=(Zg (ZN (ZF ZkS (Zb (ZR [none] (Vk (Ze Zk (Za 0) (dC (.int 1)))) (Zt 0) Z7 (ZT (Zb (Za 0) (Zb (dC (.bl true)) Zd)))) Zd)))
 Zq)
noncomputable def Uz:List D->M D:=runB 1 1 ZdK
local macro_rules | `(tactic| walk_at "ev")=>`(tactic| simp[runB,Zg,ZN,ZS,Zq,YR,asB,Ze,ZF,Zb,Zd,ZT,Xu,Za,dC,Zm,Zp,Zy,YI,Y0,dSub,dI,YB,X3,JM,JF,JG,XW,bOr,bNot])
noncomputable def Zr (p:Nat×Nat):D:=.tup [.int p.1,.int p.2]
noncomputable def ZU (n:Nat)(jJ:Qa):D:=.tup [.int n,.tup (jJ.map Zr)]
noncomputable def tied (jJ:Qa)(a b:Nat):Bool:=decide ((min a b,max a b)∈jJ)
theorem ZkY (p q:Nat×Nat):ZK (Zr p) (Zr q)=decide (p=q):=by
 simp only[Zr,ZK,XF]
 grind
theorem Zjk (p:Nat×Nat)(jJ:Qa):WJ (Zr p) (jJ.map Zr)=decide (p∈jJ):=by
 unfold WJ
 induction jJ with
 | nil=>simp
 | cons t ts ih=>
  rw[yc,qaF,ih,ZkY]
  grind
theorem plain_pairs:∀jJ:Qa,YN (jJ.map Zr)=true
 | []=>by rfl
 | t::ts=>by simp[YN,Zr,Zs,plain_pairs ts]
theorem Zc4:∀jJ:Qa,XE (jJ.map Zr)<=1
 | []=>by simp[XE]
 | t::ts=>by
  have:=Zc4 ts;simp only[yc,XE,Zr,Yr];omega
theorem ZkZ (p:Nat×Nat):Yr (Zr p)=1:=by rfl
theorem Zhc (p:Nat×Nat):Zs (Zr p)=true:=by rfl
theorem Zhd (p:Nat×Nat)(jJ:Qa):WF (Zr p) (jJ.map Zr)=true:=by
 have:=Zc4 jJ;simp[WF,Zhc,plain_pairs,ZkZ];omega
theorem Zjl (p:Nat×Nat)(jJ:Qa):Ys (Zr p) (.tup (jJ.map Zr))=some (.bl (decide (p∈jJ))):=by
 have:Us (Zr p) (.tup (jJ.map Zr))=some (decide (p∈jJ)):=by
  show(if WF (Zr p) (jJ.map Zr)=true then some (WJ (Zr p) (jJ.map Zr))else none)=_;rw[if_pos (Zhd p jJ),Zjk]
 unfold Ys;simp_all
theorem UP (x:α)(xs:List α):Wl (x::xs) 0=some x:=X2 rfl
theorem Zk0 (x y:α)(xs:List α):Wl (x::y::xs) 1=some y:=X2 rfl
theorem two_le:2<=xh:=by decide
theorem Zc5 (a b:Nat):D.tup [.int (if b<a then (b:Int)else a),.int (if a<b then (b:Int)else a)]=Zr (min a b,max a b):=by
 unfold Zr
 grind
theorem ZfS (jJ:Qa)(a b:Nat)(s:Pn):Ww [.tup (jJ.map Zr),.int a,.int b] s=some (.bl (tied jJ a b),s):=by
 simp[Ww,Zbr,runB,Zg,ZN,Ze,ZF,Zb,Zd,ZT,Za,Zp,Zy,YI,Um,Zie,two_le,Zc5,Zjl,tied]
theorem YK (r:D->Zc)(b:D->Bool)(c:D->D)(hi:fi ρ s=some (ds,s))(hl:ds.length<=xh)
  (h:∀d∈ds,τ d (X3 src ρ)=some (r d)/\ft (r d) s=some (b d,s)/\(b d=true->fe (r d) s=some (c d,s))):ZR src fi τ ft fe ρ s=some (.lst ((ds.filter b).map c),s):=by
 unfold ZR;simp only[Zp,hi,hl,if_true,Zeg r b c ds h,Zy]
theorem small_int (n:Nat)(h:n<=100000):-(2 ^ 62)<=(n:Int)/\(n:Int)<2 ^ 62:=by omega
theorem Yf:xh=16777216:=by decide
theorem Xy {n:Nat}(h:f ρ s=some (.int n,s))(hn:n<=100000):Z3 f ρ s=some (Yo 0 n,s):=by
 unfold Z3;simp only[Zp,h];rw[if_pos (small_int n hn)];rfl
theorem Zjm {a n:Nat}(h:f ρ s=some (.int a,s))(h2:g ρ s=some (.int n,s))(ha:a<=100000)(hn:n<=100000):ZcE f g ρ s=some (Yo a (n-a),s):=by
 unfold ZcE;simp only[Zp,h,h2];rw[if_pos (by omega),show((n:Int)-(a:Int)).toNat=n-a by omega];rfl
theorem Xk (lo:Int)(n:Nat):(Yo lo n).length=n:=by simp[Yo]
theorem Zbs {lo:Nat}(h:(Yo lo n)[i]?=some d):i<n/\d=.int ((lo+i:Nat):Int):=by
 have hi:=by
  have:=(qG.mp h).1;simpa[Yo]using this
 unfold Yo at h;simp_all
theorem Ve (h:d∈Yo 0 n):∃i:Nat,i<n/\d=.int (i:Int):=by
 obtain⟨i,hi,e⟩:=qt.mp h;exact⟨i,by simp_all,by simp_all⟩
theorem Vh (n:Nat):Yo 0 n=(qf n).map λ(i:Nat)=>D.int (i:Int):=by
 unfold Yo;simp
noncomputable def ZZ:D->Nat
 | .int i=>i.toNat
 | _=>0
theorem B6 (n:Nat)(p:Nat->Bool):((Yo 0 n).filter λd=>p (ZZ d)).map (λd=>d)=((qf n).filter p).map λ(i:Nat)=>D.int (i:Int):=by
 rw[Vh,zR];simp;congr 1
theorem jv {m:M α}{a:α}(h:Ok m s λb t=>b=a/\t=s'):m s=some (a,s'):=by
 obtain⟨b,t,e,rfl,rfl⟩:=h;exact e
theorem Bg (hn:n<=100000):(Yo 0 n).length<=xh:=by rw[Xk,Yf];omega
theorem Zo7 (n:Nat)(jJ:Qa)(p:Nat)(s:Pn)(hn:n<=100000):ZR [none,some 0,some 1] (Z3 (Ze Zk (Za 0) (dC (.int 0)))) (Zt 0) (asB (Zm Ww (Zb (Ze Zk (Za 1) (dC (.int 1))) (Zb (Za 2) (Zb (Za 0) Zd))))) (Za 0) [some (ZU n jJ),some (.int p)] s
   = some (.lst (((qf n).filter λo=>tied jJ p o).map λ(i:Nat)=>D.int (i:Int)),s):=by
 rw[<-B6];refine YK (λd=>[some d,some (ZU n jJ),some (.int p)]) (λd=>tied jJ p (ZZ d)) (λd=>d) (Xy (ZC rfl rfl (by rfl)) hn) (Bg hn) ?_;intro d hd;obtain⟨i,hi,rfl⟩:=Ve hd;refine⟨rfl,Yp (Z4 (Zh (ZC rfl rfl (by rfl)) (Zh rfl (Zh rfl rfl))) ?_),λ_=>rfl⟩;exact ZfS jJ p i s
theorem Zm2 (n:Nat)(jJ:Qa)(p:Nat)(s:Pn)(hn:n<=100000):VQ [ZU n jJ,.int p] s=some (.lst (((qf n).filter λo=>tied jJ p o).map λ(i:Nat)=>D.int (i:Int)),s):=
 Xe rfl (YG (Y8 (Zo7 n jJ p s hn)))
noncomputable def JJ (row:D)(ds:List D):Prop:=row=.lst ds∨row=.tup ds
theorem JJ.len (h:JJ row ds):Yi [row]=some (.int ds.length):=by
 rcases h with rfl | rfl <;> rfl
theorem JJ.ix (h:JJ row ds)(hi:i<ds.length):Zk row (.int (i:Int))=some (ds.getD i .non):=by
 have e:ds[i]?=some (ds.getD i .non):=by simp[hi]
 rcases h with rfl | rfl <;> exact X2 e
noncomputable def Vs (n i:Nat):Qa:=(qf i).flatMap λa=>(qf (n-(a+1))).map λk=>(a,a+1+k)
noncomputable def X8 (n:Nat):Qa:=Vs n n
theorem Zeh (n i:Nat):Vs n (i+1)=Vs n i++(qf (n-(i+1))).map λk=>(i,i+1+k):=by
 unfold Vs;rw[qaR];simp
theorem ZbD (n:Nat):∀i,(Vs n i).length<=i*n
 | 0=>by simp[Vs]
 | i+1=>by
  have:=ZbD n i;rw[Zeh,zl,qj,qI]
  grind
noncomputable def Uw (ds:List D)(p:Nat×Nat):D:=.tup [ds.getD p.1 .non,ds.getD p.2 .non]
theorem Zm3 (n i j:Nat)(hn:n<=1000)(hi:i<n)(hj:j<=n):(Vs n i).length+j<xh:=by
 have h1:=ZbD n i;have h2:i*n<=1000*1000:=qbD (by omega) hn;rw[Yf];omega
theorem ZfT (row:D)(ds:List D)(h:JJ row ds)(hn:ds.length<=1000)(s:Pn):J0 [row] s=some (.lst ((X8 ds.length).map (Uw ds)),s):=by
 refine Xe rfl (jv ?_);refine Ok.seq (.sown (.eq (a:=.lst []) rfl ⟨rfl,?_⟩));show Ok _ s _;refine Ok.seq (.sfor (λi ρ s'=>s=s'/\∃o2 o3,ρ=[some row,some (.lst ((Vs ds.length i).map (Uw ds))),o2,o3]) (.eq (Xy (Yy (Zh rfl rfl) h.len) (by omega)) ⟨⟨rfl,none,none,rfl⟩,λi d ρ s' hd hI=>?_,fun ρ' s' hI=>?_⟩))
 ·obtain⟨rfl,o2,o3,rfl⟩:=hI
  obtain⟨hi,rfl⟩:=Zbs hd;refine⟨_,rfl,?_⟩;refine Ok.seq (.sfor (λj ρ s'=>s=s'/\∃o3,ρ=[some row,some (.lst ((Vs ds.length i).map (Uw ds)++(qf j).map λk=>Uw ds (i,i+1+k))),some (.int ((0+i:Nat):Int)),o3]) (.eq (Zjm (a:=i+1) (ZC (d:=.int ((0+i:Nat):Int)) (e:=.int 1) (c:=.int ((i+1:Nat):Int)) rfl rfl (by simp[Y0])) (Yy (Zh rfl rfl) h.len) (by omega) (by omega)) ⟨⟨rfl,o3,by simp⟩,λj d ρ s' hd hJ=>?_,fun ρ' s' hJ=>?_⟩))
  ·obtain⟨rfl,o3,rfl⟩:=hJ
   obtain⟨hj,rfl⟩:=Zbs hd;refine⟨_,rfl,?_⟩;refine Ok.seq (.sapp (ds:=(Vs ds.length i).map (Uw ds)++(qf j).map λk=>Uw ds (i,i+1+k)) rfl (by simp only[zl,qj,qI];exact Zm3 _ _ _ hn hi (by omega)) (.eq (Wg (Zh (ZC (d:=row) (e:=.int ((0+i:Nat):Int)) rfl rfl (by rw[qb8];exact h.ix hi)) (Zh (ZC (d:=row) (e:=.int ((i+1+j:Nat):Int)) rfl rfl (h.ix (by omega))) rfl)) two_le) ?_));refine Ok.next ⟨_,rfl,rfl,some (.int ((i+1+j:Nat):Int)),?_⟩;rw[qaR,zQ,<-qa8];rfl
  ·obtain⟨rfl,o3',rfl⟩:=hJ
   refine Ok.next ⟨_,rfl,rfl,some (.int ((0+i:Nat):Int)),o3',?_⟩;rw[Zeh,zQ,qw,Xk];rfl
 ·obtain⟨rfl,o2,o3,rfl⟩:=hI
  refine Ok.seq (.sret (.eq rfl ⟨?_,rfl⟩));rw[Xk];rfl
noncomputable def WW (p:Nat×Nat):List ZJ:=[.inl (p.1:Int),.inl (p.2:Int)]
theorem Zk1 (h:WW p=WW q):p=q:=by
 simp only[WW]at h
 grind
noncomputable def Z8 (jO:List (List ZJ×V))(jJ:Qa):List (List ZJ×V):=jJ.foldl (λjO p=>Yh jO (WW p) (.bl true)) jO
theorem Zb5:∀(jJ:Qa) (jO:List (List ZJ×V)),WU jO (jJ.map λp=>D.tup [Zr p,.bl true])=some (Z8 jO jJ)
 | [],jO=>rfl
 | t::ts,jO=>by
  exact Zb5 ts _
theorem ZfU (p:Nat×Nat):∀(jJ:Qa) (jO:List (List ZJ×V)),(Z1 (Z8 jO jJ) (WW p)).isSome=(decide (p∈jJ)||(Z1 jO (WW p)).isSome)
 | [],jO=>by simp[Z8]
 | t::ts,jO=>by
  have ih:=ZfU p ts (Yh jO (WW t) (.bl true));have e:Z8 jO (t::ts)=Z8 (Yh jO (WW t) (.bl true)) ts:=rfl;rw[e,ih,Zfy];by_cases h:p=t
  ·simp_all
  ·have hk:=λz=>h (Zk1 z)
   simp_all
theorem Zei (n:Nat)(jJ:Qa)(s:Pn)(hl:jJ.length<=100000):Uz [ZU n jJ] s=some (.dt (Z8 [] jJ),s):=by
 have hc:ZR [none] (Vk (Ze Zk (Za 0) (dC (.int 1)))) (Zt 0) Z7 (ZT (Zb (Za 0) (Zb (dC (.bl true)) Zd))) [some (ZU n jJ)] s=some (.lst ((jJ.map Zr).map λd=>D.tup [d,.bl true]),s):=by
  have q:=YK (src:=[none]) (fi:=Vk (Ze Zk (Za 0) (dC (.int 1)))) (τ:=Zt 0) (ft:=Z7) (fe:=ZT (Zb (Za 0) (Zb (dC (.bl true)) Zd))) (ρ:=[some (ZU n jJ)]) (s:=s) (λd=>[some d]) (λ_=>true) (λd=>D.tup [d,.bl true])
   (by rfl) (by rw[qj,Yf];omega)
   (λd hd=>⟨rfl,rfl,λ_=>Wg (Zh rfl (Zh rfl rfl)) two_le⟩)
  have q2:(jJ.map Zr).filter (λ_=>true)=jJ.map Zr:=yK.mpr (by simp);rw[q,q2]
 refine Xe rfl (YG (Y8 (Yy (Zh hc rfl) ?_)));rw[qw];show(if ((jJ.map ((λd=>D.tup [d,.bl true])∘Zr)).length<=xh)then (WU [] _).map D.dt else none)=_;rw[if_pos (by rw[qj,Yf];omega)];have e:=Zb5 jJ [];show(WU [] (jJ.map λp=>D.tup [Zr p,.bl true])).map D.dt=_;rw[e];rfl
theorem ZfV (h:p∈Vs n i):p.1<i/\p.1<p.2/\p.2<n:=by
 obtain⟨a,ha,h⟩:=List.mem_flatMap.mp h;obtain⟨k,hk,rfl⟩:=qt.mp h;simp at ha hk
 grind
theorem Zjn (h:p∈X8 n):Uw (Yo 0 n) p=Zr p:=by
 obtain⟨h1,h2,h3⟩:=ZfV h;have g:∀i,i<n->(Yo 0 n).getD i .non=.int (i:Int):=λi hi=>by
  rw[Vh];simp[hi]
 unfold Uw Zr;rw[g _ h1,g _ h3]
theorem ZfW (s:Pn)(hn:n<=1000):J0 [.lst (Yo 0 n)] s=some (.lst ((X8 n).map Zr),s):=by
 rw[ZfT _ _ (.inl rfl) (by rw[Xk];exact hn) s,Xk];congr 3;exact zm λp hp=>Zjn hp
theorem Zaz {n:Nat}(h:f ρ s=some (.int n,s))(hn:n<=1000):Vu f ρ s=some (.lst (Yo 0 n),s):=by
 unfold Vu Zp;rw[h];show(if -(2 ^ 62)<=(n:Int)/\(n:Int)<=2 ^ 24 then Zy (D.lst (Yo 0 (n:Int).toNat))else Zv) s=_;rw[if_pos (by omega)];rfl
theorem Zk2 (n:Nat)(hn:n<=1000):(X8 n).length<=1000000:=by
 have h1:=ZbD n n;have h2:=qbD hn hn;unfold X8;omega
theorem ZeV (l:Qa)(b:D->Bool)(q:Nat×Nat->Bool)(h:∀p,b (Zr p)=q p):((l.map Zr).filter b).map (λd=>d)=(l.filter q).map Zr:=by
 rw[zR,qb9];congr 1;exact qav λp _=>h p
noncomputable def WG:D->Nat×Nat
 | .tup [a,b]=>(ZZ a,ZZ b)
 | _=>(0,0)
theorem Zjo (p:Nat×Nat):WG (Zr p)=p:=rfl
end TP
namespace TF
open L2
theorem Ok.runB (hl:ds.length=k)(h:Ok (g (ds.map some++qA (n-k) none)) s λo s'=>match o with | .rt d=>Q d s' | .nx _=>Q .non s' | _=>False):Ok (runB n k g ds) s Q:=by
 unfold TF.runB;rw[if_pos hl];refine .bind (h.mono λo s' q=>?_)
 cases o with
 | rt d=>exact .ret q
 | nx ρ=>exact .ret q
 | bk ρ=>exact q.elim
 | ct ρ=>exact q.elim
theorem Ok.fn (h1:fs ρ s=some (ds,s1))(h:Ok (F ds) s1 Q):Ok (Zm F fs ρ) s Q:=by
 obtain⟨a,s',e,q⟩:=h;exact⟨a,s',Z4 h1 e,q⟩
theorem Ok.op (h:Ok (f ρ) s λd s1=>Ok (f2 ρ) s1 λe s2=>∃c,g d e=some c/\Q c s2):Ok (Ze g f f2 ρ) s Q:=
 .bind (h.mono λd s1 q=>.bind (q.mono λe s2 q=>let ⟨c,e1,q⟩:=q;.of e1 q))
theorem Ok.asB (h:Ok (f ρ) s λd s1=>∃b,d=.bl b/\Q b s1):Ok (asB f ρ) s Q:=
 .bind (h.mono λd s1 q=>by obtain⟨b,rfl,q⟩:=q;exact .ret q)
end TF
namespace TP
open L2 TF
theorem Je:p∈X8 n↔p.1<p.2/\p.2<n:=by
 constructor
 ·intro h;exact(ZfV h).2
 ·intro ⟨h1,h2⟩
  refine List.mem_flatMap.mpr ⟨p.1,by simp;omega,qt.mpr ⟨p.2-(p.1+1),by simp;omega,?_⟩⟩
  grind
theorem V9 (h:(Yo 0 n)[i]?=some d):i<n/\d=.int (i:Int):=by
 have:=Zbs h;simp_all
noncomputable def IsWeb (n:Nat)(jJ:Qa):Prop:=jJ.Sublist (X8 n)
theorem IsWeb.mem (h:IsWeb n jJ)(hp:p∈jJ):p.1<p.2/\p.2<n:=Je.mp (h.subset hp)
theorem IsWeb.len (h:IsWeb n jJ)(hn:n<=24):jJ.length<=576:=by
 have h1:=h.length_le;have h2:=ZbD n n;have h3:=qbD hn hn;unfold X8 at h1;omega
theorem IsWeb.filter (f:Nat×Nat->Bool):IsWeb n ((X8 n).filter f):=qP
theorem Uf (h:a<b):tied jJ a b=decide ((a,b)∈jJ):=by
 unfold tied
 grind
theorem VL (jJ:Qa)(a b:Nat):tied jJ a b=tied jJ b a:=by
 unfold tied
 grind
theorem JK:Zk (ZU n jJ) (.int 0)=some (.int n):=by rfl
end TP
namespace HT
section
variable {prog:xF}{w:World}{A:xG}{E:xH}{s:Shared}
theorem getItem_tuple_whole {lo:Option Int}(ht:IsTup s.heap t items)(hs:s.heap.IsSliceOf sl vl vu .none)(pl:IsPart vl lo)(pu:IsPart vu hi)
  (hw:sIx items.size 0 lo=0/\sIx items.size items.size hi=items.size)
  (h:Q (.ref t) s)
  (hsz:items.size<=xh):xg (xD prog w) A (getItem (.ref t) (.ref sl)) Q E s:=by
 obtain⟨os,hos,hcs,hds⟩:=id hs;have hTs:s.TypeIs (.ref sl) "slice":=⟨os,hos,hcs⟩;unfold getItem
 try with_reducible refine xy ?_
 first | refine xb (xc ?_) | skip
 refine xb (wpAny_sequenceKey ht.typeIs (by decide) ?_);refine xb (wpAny_callSpecial?_slot (name:=qH "__getitem__") ht.typeIs zE
  (wpAny_call_entry zE ht.typeIs entry_tuple_getitem ?_ (args_tuple_getitem _ _)))
 show xg _ _ (qa2 (.ref t) >>= _) _ _ s;refine xb (tupleItemsOf_ ht ?_);refine xb (wpAny_typeOf hTs ?_);rw[if_pos (by decide)];refine xb (Zau hs pl pu ?_);have hyes:((((sIx items.size 0 lo:Nat):Int)==0&&(1:Int)==1&&(sIx items.size items.size hi-sIx items.size 0 lo)==items.size)=true):=by
  rw[hw.1,hw.2];simp
 show xg _ _ (if (((sIx items.size 0 lo:Nat):Int)==0&&(1:Int)==1&&(sIx items.size items.size hi-sIx items.size 0 lo)==items.size)=true then _ else _) _ _ s;rw[if_pos hyes];refine xb (xb (wpAny_typeOf ht.typeIs ?_));refine xc ?_;refine xb (wpAny_rule ?_)
 first
  | rfl
  | exact xb (xc (xc ⟨_,rfl,xc h⟩))
end
end HT
namespace TF
open L2
noncomputable def ZpO (K:qk):V->Option Int->Option Int->Hp->VK->Prop:=λx lo hi H Q=>∃a xs,x=.ref a/\ZO K H a xs/\
 (HT.sIx xs.length 0 lo=0/\HT.sIx xs.length xs.length hi=xs.length)/\Q (.ref a) H
section
variable {X:Cx}{G:Gh}
theorem Zm4:Uu X (ZpO X.K):=by
 intro jI s σ H x v vl vu lo hi sl Q I rx hs pl pu h;obtain⟨a,xs,rfl,hx,hw,q⟩:=h
 cases rx
 obtain⟨jK,r,ht,hz⟩:=I.tuple hx;have jQ:jK.toArray.size=xs.length:=(r.length.symm);refine⟨"tuple",_,zE.lookup,ht.typeIs,?_⟩;exact HT.getItem_tuple_whole ht hs pl pu (by rw[jQ];exact hw) ⟨.ref a,H,I,rfl,q⟩ (by rw[jQ];exact hz)
noncomputable def VZ (ds:List D)(lo hi:Option Int):List D:=(ds.drop (HT.sIx ds.length 0 lo)).take (HT.sIx ds.length ds.length hi-HT.sIx ds.length 0 lo)
noncomputable def POD (X:Cx)(G:Gh)(e:Option Expr)(f:Zc->M (Option Int)):Prop:=
 ∃t,PO X e t/\∀(σ:St) (Hf H:Hp) (ρ:Zc) (s:Pn) (o:Option Int) (s':Pn) (Q:Option Int->Hp->Prop),Zz G Hf H->YL G Hf σ ρ->G.st s H->f ρ s=some (o,s')->
  (∀Hf' H',Gr G Hf H Hf' H'->G.st s' H'->Q o H')->t σ H Q
noncomputable def Zk3:Zc->M (Option Int):=λ_=>Zy none
noncomputable def Zk4 (f:Zc->M D):Zc->M (Option Int):=fun ρ=>Zp (f ρ) λd=>match d with | .int i=>Zy (some i) | _=>Zv
theorem Zk5:POD X G none Zk3:=⟨_,ZmJ,fun σ Hf H ρ s o s' Q e1 e2 e3 e4 k=>by
 obtain⟨rfl,rfl⟩:=ZM e4;exact k Hf H (.refl e1) e3⟩
theorem Zk6 (h:PD X G r1 e f):POD X G (some e) (Zk4 f):=by
 obtain⟨t,p,q⟩:=h.drop;refine⟨_,ZmK p,fun σ Hf H ρ s o s' Q e1 e2 e3 e4 k=>?_⟩;obtain⟨d,s1,a1,a2⟩:=ZA e4;refine q σ Hf H ρ s d s1 _ e1 e2 e3 a1 λv jU H1 g1 j9 r1=>?_
 match d,a2,r1 with
 | .int i,a2,r1=>
  obtain⟨rfl,rfl⟩:=ZM a2;exact⟨i,ja.mp r1,k jU H1 g1 j9⟩
noncomputable def Bo (f:Zc->M D)(fl fh:Zc->M (Option Int)):Zc->M D:=fun ρ=>Zp (f ρ) λd=>Zp (fl ρ) λlo=>Zp (fh ρ) λhi=>match d with
 | .tup ds=>Zy (.tup (VZ ds lo hi))
 | .lst ds=>Zy (.lst (VZ ds lo hi))
 | _=>Zv
theorem Zik (r:Zj G Hf ds vs)(lo hi:Option Int):Zj G Hf (VZ ds lo hi) (Uq vs lo hi):=by
 unfold VZ Uq;rw[r.length];exact(r.drop _).take _
theorem Zhe {lo:Option Int}(h:HT.sIx ds.length 0 lo=0/\HT.sIx ds.length ds.length hi=ds.length):VZ ds lo hi=ds:=by
 unfold VZ;simp_all
theorem Zk7 {lo:Option Expr}(he:PD X G r1 e f)(hl:POD X G lo fl)(hh:POD X G hi fh):PD X G true (.Subscript e (.Slice lo hi none p2) pos) (Bo f fl fh):=by
 obtain⟨t,p,q⟩:=he.drop;obtain⟨tl,pl,ql⟩:=hl;obtain⟨th,ph,qh⟩:=hh;refine⟨_,Zky (ZmM.or (ZoN.or Zm4)) p pl ph,fun σ Hf H ρ s d s' Q e1 e2 e3 e4 k=>?_⟩;obtain⟨d0,s1,a1,a2⟩:=ZA e4;obtain⟨lo',s2,a3,a4⟩:=ZA a2;obtain⟨hi',s3,a5,a6⟩:=ZA a4;refine q σ Hf H ρ s d0 s1 _ e1 e2 e3 a1 λv jU H1 g1 j9 r1=>?_;refine ql σ jU H1 ρ s1 lo' s2 _ g1.fh (e2.ext g1.ff) j9 a3 λj8 H2 g2 jW=>?_;refine qh σ j8 H2 ρ s2 hi' s3 _ g2.fh ((e2.ext g1.ff).ext g2.ff) jW a5 λHf3 H3 g3 st3=>?_;have rr:=(r1.ext g2.ff).ext g3.ff;have g:=(g1.trans g2).trans g3
 match d0,a6,rr with
 | .lst ds,a6,rr=>
  obtain⟨rfl,rfl⟩:=ZM a6;obtain⟨a,vs,rfl,na,ha,ra⟩:=jb.mp rr;refine .inl ⟨a,vs,rfl,Zw.of (g.fh _ _ na ha),λl hl=>?_⟩;have nf:=Gh.nofp st3 hl;have g2:=Gr.new (o:=.lst (Uq vs lo' hi')) g.fh hl nf;have rr:=Zik ra lo' hi';exact k (.ref l) _ _ (g.trans g2) (Gh.grow st3 hl) (jb.mpr ⟨l,_,rfl,nf,ZD,rr.ext g2.ff⟩) λ_=>jn g.hh (λa ea _=>by cases ea;exact nf) (YA.mk g.fh hl nf rr)
 | .tup ds,a6,rr=>
  obtain⟨rfl,rfl⟩:=ZM a6;obtain⟨a,vs,rfl,na,ha,ra⟩:=jc.mp rr;by_cases hw:HT.sIx vs.length 0 lo'=0/\HT.sIx vs.length vs.length hi'=vs.length
  ·refine .inr (.inr ⟨a,vs,rfl,ZO.of (g.fh _ _ na ha),hw,?_⟩)
   rw[<-ra.length]at hw;exact k (.ref a) _ _ g st3 (by rw[Zhe hw];exact rr) λ_=>.scal λz=>z
  ·refine .inr (.inl ⟨a,vs,rfl,ZO.of (g.fh _ _ na ha),hw,λl hl=>?_⟩)
   have nf:=Gh.nofp st3 hl;have g2:=Gr.new (o:=.tup (Uq vs lo' hi')) g.fh hl nf;exact k (.ref l) _ _ (g.trans g2) (Gh.grow st3 hl) (jc.mpr ⟨l,_,rfl,nf,ZD,(Zik ra lo' hi').ext g2.ff⟩) λ_=>.scal λz=>z
theorem ZL.none {K:qk}(hm:mg x=some (.ref f))(hk:yd K (.ref f)=true)(hb:Wh K fd ps []) :
  ZL P w K mg base k x n fr GG (λ_=>Zv):=by
 refine⟨f,fd,ps,⟨λvs H Q E h=>?_,λA outer s H args us vs Q E _ _ _ _ h=>?_⟩,hm,hk,hb⟩
 ·obtain⟨G,Hf,ds,s,d,s',_,_,_,_,_,h,_⟩:=h
  cases h
 ·obtain⟨G,Hf,ds,s,d,s',_,_,_,_,_,h,_⟩:=h
  cases h
end
open PySem.SeqAt
open AutoSeq1 (wpAny_loadPart')
theorem Zhf (l:Addr)(items:Array Value)(n:Nat)(dd:Option Addr)(sl:Array (Option Value))(x:Int)(u:Tok)(hc0:¬((x < -(2 ^ 63):Bool)||(x≥2 ^ 63:Bool))=true)(hc1:¬(items.isEmpty||x==1)=true)(hc2:¬((x<=0:Bool)||items.isEmpty)=true)
  (hc3:¬((items.size:Int)*x > (2 ^ 63-1) / 8)) (hc4:¬qa3 ((items.size:Int)*x)=true) (hsz:(qaO (λx1 x2=>x1++x2) #[] (qA x.toNat items)).size<=xh) :
  Meets (Builtin.«tuple.__mul__» ⟨[.ref l,.int x u],[]⟩) (λ_ R s=>s.heap.get? l=some { cls:=.type "tuple",dict:=dd,data:=.seq items n,slots:=sl }/\R (.ok (.ret (qS s.heap.objs.size))) { s with heap:=s.heap.push { cls:=yj "tuple",data:=Data.seq (qaO (λx1 x2=>x1++x2) #[] (qA x.toNat items)) },toks:=s.toks }):=
 .of_wp λprog w A R s h=>by
  obtain⟨hp,g,d,tk,os⟩:=s;obtain⟨hl,h⟩:=h;have f1:=qbg;have f2:=yG;have f3:=qaC;have f4:=qaq;have f5:=qar;wp_walk using wpAny_loadPart' hl;rw[if_neg hc0];wp_walk using wpAny_loadPart' hl;rw[if_neg hc3];wp_walk using wpAny_loadPart' hl
  try (refine wpAny_ite_false (decide_eq_false (Nat.not_lt.mpr hsz)) ?_;wp_walk)
  exact⟨_,rfl,h⟩
theorem Zab:fillsNumberSlot (.type "tuple") "mul" = pure false:=
 PySem.fillsNumberSlot_seq yV.lookup (by rfl) PySem.F.slot_tuple_rmul.lookup (by rfl)
theorem ZaA:seqRepeat? (.type "tuple")=pure (some (.builtin "tuple.__mul__")):=by
 rfl
theorem Zah (a:Int)(t:Tok)(l:Addr)(items:Array Value)(n:Nat)(dd:Option Addr)(sl:Array (Option Value)) :
  Meets (Builtin.«int.__rmul__» ⟨[.int a t,.ref l],[]⟩) (λ_ R s=>s.heap.get? l=some { cls:=.type "tuple",dict:=dd,data:=.seq items n,slots:=sl }/\R (.ok (.ret qbS)) s):=
 .of_wp λprog w A R s h=>by obtain⟨hl,h⟩:=h;wp_walk;exact⟨_,rfl,h⟩
section
variable {X:Cx}{G:Gh}
noncomputable def ZpP (K:qk):R2:=λx y H Q=>∃l k xs,x=.ref l/\y=.int k/\ZO K H l xs/\xs≠[]/\2<=k/\k<2 ^ 62/\xs.length*k.toNat<=xh/\
 ∀p,H p=none->Q (.ref p) (Zi H p (.tup (qA k.toNat xs).flatten))
theorem Zm5:Ym X (binaryOp .Mult) (ZpP X.K):=by
 intro jI s σ H x y v u Q I rx ry h;obtain⟨l,k,xs,rfl,rfl,hH,hne,h1,h2,hz,q⟩:=h
 cases rx
 obtain⟨t,rfl⟩:=ry;obtain⟨jK,r,p1,_⟩:=I.tuple hH;obtain⟨⟨cls,dd,data,sl⟩,ho,hc,n,hd⟩:=id p1;simp only at hc hd;subst hc hd;have hl:=r.length;have hsz:jK.toArray.size=xs.length:=by rw[qX];exact hl.symm
 have hne':jK≠[]:=λz=>hne (r.nil_iff.mp z);have hemp:jK.toArray.isEmpty=false:=by cases jK with | nil=>exact absurd rfl hne' | cons a b=>rfl
 have e0:((k.toNat:Nat):Int)=k:=by omega
 have hcap:((jK.toArray.size:Int)*k)=((xs.length*k.toNat:Nat):Int):=by rw[hsz,Int.natCast_mul,e0]
 have sl2:(xh:Nat)=16777216:=sizeLine_eq;have hnew:qaO (λx1 x2=>x1++x2) #[] (qA k.toNat jK.toArray)=(qA k.toNat jK).flatten.toArray:=by
  have:=Zb1 jK k.toNat [];rw[List.nil_append]at this;exact this
 have hfl:(qA k.toNat jK).flatten.length<=xh:=by rw[ZeP,qb6,<-hl];exact hz
 refine wpAny_binaryOp_repeat_ref (T:="tuple") (U:="int") (by decide) ⟨_,ho,rfl⟩ (λs'=>typeIs_int s' k t) Zab qaP yu ZaA qaH.lookup
  (call_meets yu (typeIs_int s k t) qaI (qau _ _) (Zah k t l jK.toArray n dd sl)
   ⟨ho,rfl,⟨_,ho,rfl⟩,call_meets yV ⟨_,ho,rfl⟩ qas (qal _ _) (Zhf l jK.toArray n dd sl k t ?_ ?_ ?_ ?_ ?_ ?_) ⟨ho,?_⟩⟩)
 ·simp;omega
 ·rw[hemp];simp;omega
 ·rw[hemp];simp;omega
 ·rw[hcap];omega
 ·unfold qa3
  grind
 ·rw[hnew];exact hfl
 ·rw[hnew]
  exact⟨.ref s.heap.objs.size,_,I.laid (o:=.tup (qA k.toNat xs).flatten) (λb ob q=>qd _ q) (qq _) ⟨by rw[ZeP,qb6];exact hz,_,r.rep k.toNat,qbs _ _⟩,rfl,q _ (I.hok.fresh (qq _))⟩
theorem Zj.rep (r:Zj G Hf ds vs):∀k:Nat,Zj G Hf (qA k ds).flatten (qA k vs).flatten
 | 0=>Zj.nil_iff.mpr rfl
 | k+1=>by
  exact r.append (Zj.rep r k)
noncomputable def Jz:D->D->Option D
 | .int i,.int j=>if ZkJ i j=true then some (.int (i*j))else none
 | .tup ds,.int k=>if ds≠[]/\2<=k/\k<2 ^ 62/\ds.length*k.toNat<=xh then some (.tup (qA k.toNat ds).flatten)else none
 | .lst ds,.int k=>if -(2 ^ 63)<=k/\k<2 ^ 63/\ds.length*k.toNat<=xh then some (.lst (qA k.toNat ds).flatten)else none
 | _,_=>none
theorem Zk8:XQ X G (binaryOp .Mult) Jz:=by
 obtain⟨r0,po,qo⟩:=Zic (X:=X) (G:=G);refine⟨_,po.or (Zm5.or ZoS),λHf H s x y d e c Q e1 st rx ry q k=>?_⟩
 match d,e,q,rx,ry with
 | .int i,.int j,q,rx,ry=>exact .inl (qo Hf H s x y _ _ c Q e1 st rx ry q k)
 | .tup ds,.int j,q,rx,ry=>
  have q:(if ds≠[]/\2<=j/\j<2 ^ 62/\ds.length*j.toNat<=xh then some (D.tup (qA j.toNat ds).flatten)else none)=some c:=q;split at q
  ·rename_i hz
   cases q
   obtain⟨p,vs,rfl,np,hp,rp⟩:=jc.mp rx;refine .inr (.inl ⟨p,j,vs,rfl,ja.mp ry,ZO.of (e1 _ _ np hp),λz=>hz.1 (zF.mp (by rw[rp.length,z];rfl)),hz.2.1,hz.2.2.1,by rw[<-rp.length];exact hz.2.2.2,λl hl=>?_⟩);have nf:=Gh.nofp st hl;have g2:=Gr.new (o:=.tup (qA j.toNat vs).flatten) e1 hl nf;exact k (.ref l) _ _ g2 (Gh.grow st hl) (jc.mpr ⟨l,_,rfl,nf,ZD,(rp.rep _).ext g2.ff⟩) (.scal λz=>z)
  ·cases q
 | .lst ds,.int j,q,rx,ry=>
  have q:(if -(2 ^ 63)<=j/\j<2 ^ 63/\ds.length*j.toNat<=xh then some (D.lst (qA j.toNat ds).flatten)else none)=some c:=q;split at q
  ·rename_i hz
   cases q
   obtain⟨p,vs,rfl,np,hp,rp⟩:=jb.mp rx;refine .inr (.inr ⟨p,j,vs,rfl,ja.mp ry,e1 _ _ np hp,hz.1,hz.2.1,by rw[<-rp.length];exact hz.2.2,λl hl=>?_⟩);have nf:=Gh.nofp st hl;have g2:=Gr.new (o:=.lst (qA j.toNat vs).flatten) e1 hl nf;exact k (.ref l) _ _ g2 (Gh.grow st hl) (jb.mpr ⟨l,_,rfl,nf,ZD,(rp.rep _).ext g2.ff⟩) (YA.mk e1 hl nf (rp.rep _))
  ·cases q
end
end TF
namespace TF
open L2
section
variable {X:Cx}{G:Gh}
theorem Zo8:PD X G true (.UnaryOp .USub (.Constant (.int i) j p) pos) (dC (.int (-i))):=by
 refine⟨_,ZpH ZoI Y9,fun σ Hf H ρ s d s' Q e1 e2 e3 e4 k=>?_⟩;obtain⟨rfl,rfl⟩:=ZM e4;exact⟨i,rfl,k _ Hf H (.refl e1) e3 (ja.mpr rfl) λ_=>.scal λz=>z⟩
end
section
variable {f g:Zc->M D}{ρ:Zc}{s s1:Pn}{a b:Bool}{r:Option (D×Pn)}
theorem Zil (h:f ρ s=some (.bl a,s1)):JG f ρ s=some (.bl (!a),s1):=by unfold JG Zp;rw[h];rfl
end
section
variable {f g:Zc->M Bool}{ρ:Zc}{s s1:Pn}{a b:Bool}{r:Option (Bool×Pn)}
theorem Zo9 (h:f ρ s=some (false,s1)):XW f g ρ s=some (false,s1):=by unfold XW Zp;rw[h];rfl
theorem Zpa (h:f ρ s=some (true,s1))(h2:g ρ s1=r):XW f g ρ s=r:=by unfold XW Zp;rw[h];exact h2
theorem ZeW (h:f ρ s=some (a,s))(h2:a=true->g ρ s=some (b,s)):XW f g ρ s=some (a&&b,s):=by
 cases a with
 | false=>exact Zo9 h
 | true=>exact Zpa h (h2 rfl)
end
section
variable {c:Zc->M Bool}{g1 g2:Zc->M Out}{ρ:Zc}{s s1:Pn}{r:Option (Out×Pn)}
theorem JA (h:c ρ s=some (true,s1))(h2:g1 ρ s1=r):YR c g1 g2 ρ s=r:=by unfold YR Zp;rw[h];exact h2
theorem Bv (h:c ρ s=some (false,s1))(h2:g2 ρ s1=r):YR c g1 g2 ρ s=r:=by unfold YR Zp;rw[h];exact h2
end
section
variable {fa fb:Zc->M D}{f:D->Zc->M Bool}{g:D->D->Option D}{ρ:Zc}{s s1 s2:Pn}{d e:D}{k:Bool}{r:Option (Bool×Pn)}
end
theorem eqi (a b:Int):XA (.int a) (.int b)=some (.bl (a==b)):=by
 rfl
theorem nei (a b:Int):XX (.int a) (.int b)=some (.bl (!(a==b))):=by
 rfl
theorem Zm6 {ds:List D}(h:r<ds.length):∃d∈ds,Zk (.lst ds) (.int (r:Int))=some d:=
 ⟨ds[r],yn h,X2 (qB h)⟩
theorem ZbE (h:τ d ρ=some ρ1)(hb:body ρ1 s=some (.nx ρ2,s1))(h2:WE τ body ds ρ2 s1=r):WE τ body (d::ds) ρ s=r:=by
 unfold WE Zp YI;simp_all
theorem ZeX (h:τ d ρ=some ρ1)(hb:body ρ1 s=some (.rt e,s1)):WE τ body (d::ds) ρ s=some (.rt e,s1):=by
 unfold WE Zp YI;simp only[h,hb];rfl
theorem ZcH (h:fi ρ s=some (ds,s1))(h2:WE τ body ds ρ s1=r):YU fi τ body ρ s=r:=by
 unfold YU Zp;simp_all
theorem Zim (h:f ρ s=some (.tup ds,s1)):Vk f ρ s=some (ds,s1):=by unfold Vk Zp;rw[h];rfl
theorem XI (h:f ρ s=some (.lst ds,s1)):ZV f ρ s=some (ds,s1):=by unfold ZV Zp;rw[h];rfl
end TF
namespace TP
open L2 TF
theorem W1 {α:Type}(l:List α):l.filter (λ_=>true)=l:=yK.mpr (by simp)
end TP
namespace TF
open L2
section
variable {f:Zc->M D}{fs:Zc->M (List D)}{ρ:Zc}{s:Pn}
theorem Ok.range1 (h:Ok (f ρ) s λd s1=>∃n:Nat,d=.int (n:Int)/\n<=100000/\Q (Yo 0 n) s1):Ok (Z3 f ρ) s Q:=
 .bind (h.mono λd s1 q=>by
  obtain⟨n,rfl,hn,q⟩:=q;exact .ite (TP.small_int n hn) (.ret (by simp_all)))
end
theorem Zin (h1:f ρ s=some (x,s)):ZT (Zb f Zd) ρ s=some (.tup [x],s):=Wg (Zh h1 rfl) (by show 1<=xh;decide)
theorem Zio (h1:f ρ s=some (x,s))(h2:g ρ s=some (y,s)):ZT (Zb f (Zb g Zd)) ρ s=some (.tup [x,y],s):=Wg (Zh h1 (Zh h2 rfl)) TP.two_le
theorem Zm7 (h1:f ρ s=some (x,s)):Xu (Zb f Zd) ρ s=some (.lst [x],s):=Jp (Zh h1 rfl) (by show 1<=xh;decide)
noncomputable def Xm (m t:Int)(wa:Addr):List (ZJ×V):=[(.inr (qH "mixed"),.int m),(.inr (qH "turn"),.int t),(.inr (qH "wide"),.ref wa)]
theorem k_mt:¬((qaa (qH "mixed"):ZJ)=qaa (qH "turn")):=by decide
theorem k_mw:¬((qaa (qH "mixed"):ZJ)=qaa (qH "wide")):=by decide
theorem k_tw:¬((qaa (qH "turn"):ZJ)=qaa (qH "wide")):=by decide
theorem ZpQ (m t:Int)(wa:Addr):Z1 (Xm m t wa) (.inr (qH "mixed"))=some (.int m):=Wa rfl
theorem ZpR (m t:Int)(wa:Addr):Z1 (Xm m t wa) (.inr (qH "turn"))=some (.int t):=(Wc k_mt).trans (Wa rfl)
theorem ZpS (m t:Int)(wa:Addr):Z1 (Xm m t wa) (.inr (qH "wide"))=some (.ref wa):=(Wc k_mw).trans ((Wc k_tw).trans (Wa rfl))
theorem Zm8 (m t t':Int)(wa:Addr):Yh (Xm m t wa) (.inr (qH "turn")) (.int t')=Xm m t' wa:=by
 rfl
noncomputable def BO (p wa:Addr)(s:Pn)(H:Hp):Prop:=∃m t,s.1=[m,t]/\H p=some (.dK (Xm m t wa))/\H wa=some (.lst (s.2.map V.int))/\p≠wa
noncomputable def Xb (p wa:Addr):Gh where
 fp:=λb=>b=p∨b=wa
 rd:=λb=>b=p∨b=wa
 pen:=.ref p
 st:=BO p wa
 mono:=λs H H' ⟨m,t,e0,e1,e2,ne⟩ k _=>⟨m,t,e0,k p _ (.inl rfl) e1,k wa _ (.inr rfl) e2,ne⟩
 sub:=λb h=>h
 dom:=λs H b ⟨m,t,e0,e1,e2,ne⟩ hb=>by
  rcases hb with rfl | rfl
  ·exact⟨_,e1⟩
  ·exact⟨_,e2⟩
 ntp:=λs H b vs ⟨m,t,e0,e1,e2,ne⟩ hb z=>by
  rcases hb with r | r
  ·rw[r,e1]at z;cases z
  ·rw[r,e2]at z;cases z
noncomputable def XY:Gh->Prop:=λG=>∃p wa,G=Xb p wa
noncomputable def Zn9 (k:Int):List Int->List Int
 | c::r=>if c<k then r else c::r
 | []=>[]
noncomputable def Zip (m t:Int):Int:=
 let one:=(m+7919*t*t) % 2147483629
 let two:=(one*one+40692*t+3) % 998244353
 (two*two+one) % 2147483587 / 16
noncomputable def VB (k m t:Int)(w:List Int):D×Pn:=match Zn9 k w with
 | c::r=>(.int (c % k),([m,t],(c / k)::r))
 | []=>(.int (Zip m (t+1) % k),([m,t+1],[]))
noncomputable def Yq:List D->M D:=λds s=>match ds,s with
 | [.pen,.int k],([m,t],w)=>if 0<k/\k<1073741824/\0<=t/\t<2 ^ 60 then some (VB k m t w)else none
 | _,_=>none
theorem Zc6 (h:Yq ds s=some (d,s')):∃k m t w,ds=[.pen,.int k]/\s=([m,t],w)/\0<k/\k<1073741824/\0<=t/\t<2 ^ 60/\VB k m t w=(d,s'):=by
 unfold Yq at h;split at h
 ·split at h
  ·rename_i k m t w c
   exact⟨k,m,t,w,rfl,rfl,c.1,c.2.1,c.2.2.1,c.2.2.2,zY h⟩
  ·cases h
 ·cases h
noncomputable def Xq (T:Nat)(s:Pn):Prop:=∃m t:Int,s.1=[m,t]/\0<=t/\t<=T
theorem Xq.mono (h:Xq T s)(hT:T<=T'):Xq T' s:=by
 obtain⟨m,t,e,h1,h2⟩:=h;exact⟨m,t,e,h1,by omega⟩
theorem Ziq (ok:Xq T s)(hT:T<1000000000)(h1:0<k)(h2:k<1073741824):∃r s',Yq [.pen,.int k] s=some (.int r,s')/\0<=r/\r<k/\Xq (T+1) s':=by
 obtain⟨l,w⟩:=s;obtain⟨m,t,e,t0,tT⟩:=ok;subst e;have hd:Yq [.pen,.int k] ([m,t],w)=some (VB k m t w):=if_pos ⟨h1,h2,t0,by omega⟩;unfold VB at hd;split at hd
 ·exact⟨_,_,hd,Int.emod_nonneg _ (by omega),Int.emod_lt_of_pos _ h1,m,t,rfl,t0,by omega⟩
 ·exact⟨_,_,hd,Int.emod_nonneg _ (by omega),Int.emod_lt_of_pos _ h1,m,t+1,rfl,by omega,by omega⟩
theorem Ok.drawD {m:Nat}(ok:Xq T s)(hT:T<1000000000)(h1:fs ρ s=some ([.pen,.int (m:Int)],s))(hm:0<m)(hm2:m<1073741824)(h:∀(r:Nat) s',r<m->Xq (T+1) s'->Q (.int (r:Int)) s'):Ok (Zm Yq fs ρ) s Q:=by
 obtain⟨r,s1,e,r0,r1,ok1⟩:=Ziq ok hT (show 0<(m:Int) by omega) (show(m:Int)<1073741824 by omega);obtain⟨n,rfl⟩:=qbn r0;exact .fn h1 (.eq e (h n s1 (by omega) ok1))
theorem Zk9 {GG:Gh->Prop}(h:∀G,GG G->X7 X G ob own own' fr sts g):Wt X sts (λE σ H=>∃G,GG G/\Zn8 G ob own own' fr g E σ H):=by
 intro jI s σ H D I ⟨G,hG,kn,jS,H0,ρ,pn,out,pn',j,st,e,po⟩;obtain⟨t,p,q⟩:=h G hG;exact p jI s σ H D I (q kn jS H0 σ H ρ pn out pn' D j st e po)
noncomputable def Vi (ns:List Int):List Int:=ns.filter λc=>decide (10 ^ 15<=c)
noncomputable def Zoa (K:qk):Sp:=λvs H Q _=>∃(a:Addr) (ns:List Int),vs=[.ref a]/\Zw K H a (ns.map V.int)/\ns.length<=63/\
 ∀(p wa:Addr) (m:Int) (H':Hp),BO p wa ([m,0],Vi ns) H'->(∀b u,H b=some u->H' b=some u)->H p=none->H wa=none->Q (.ref p) H'
noncomputable def tW:TE:=Zh6 (Z6 0) (tC (.str (qH "wide")))
noncomputable def tTn:TE:=Zh6 (Z6 0) (tC (.str (qH "turn")))
noncomputable def tMx:TE:=Zh6 (Z6 0) (tC (.str (qH "mixed")))
noncomputable def Zob (K:qk):TE:=BK (λxs H Q=>∃p ys,xs=[.ref p]/\(Zw K H p ys∨ZO K H p ys)/\Q (.int ys.length) H) (Xa tW Xo)
noncomputable def tW0 (K:qk):TE:=YE (rIxL K) tW (tC (.int 0))
noncomputable def Zoc:TS:=Vo (Zn6 (Z6 0) (tC (.str (qH "turn"))) (YE (XO λi j=>.int (i+j)) tTn (tC (.int 1))))
 (Vo (VW (YE (rI (λ_ j=>0<j) λi j=>.int (i % j)) (YE (XO λi j=>.int (i+j)) tMx (YE (rI VX λi j=>.int (i*j)) (YE (rI VX λi j=>.int (i*j)) (tC (.int 7919)) tTn) tTn)) (tC (.int 2147483629))) (Wz 3))
 (Vo (VW (YE (rI (λ_ j=>0<j) λi j=>.int (i % j)) (YE (XO λi j=>.int (i+j)) (YE (XO λi j=>.int (i+j)) (YE (rI VX λi j=>.int (i*j)) (Z6 3) (Z6 3)) (YE (rI VX λi j=>.int (i*j)) (tC (.int 40692)) tTn)) (tC (.int 3))) (tC (.int 998244353))) (Wz 4))
 (BA (YE (rI (λ_ j=>0<j) λi j=>.int (i % j)) (YE (rI CDiv λi j=>.int (i / j)) (YE (rI (λ_ j=>0<j) λi j=>.int (i % j)) (YE (XO λi j=>.int (i+j)) (YE (rI VX λi j=>.int (i*j)) (Z6 4) (Z6 4)) (Z6 3)) (tC (.int 2147483587))) (tC (.int 16))) (Z6 1)))))
noncomputable def Zla (K : qk) : TS := Vo (tIfS (Br (YE (XO λi j => .bl (decide (j < i))) (Zob K) (tC (.int 0))))
    (Vo (VW (YE (rI (λ_ j => 0 < j) λi j => .int (i % j)) (tW0 K) (Z6 1)) (Wz 2)) (Vo (VW (YE (rI CDiv λi j => .int (i / j)) (tW0 K) (Z6 1)) (gSub tW (tC (.int 0)) Zn3)) (BA (Z6 2)))) Zkj) Zoc
noncomputable def Zlb (K : qk) : TS := Vo (tIfS (tAnd (Br (YE (XO λi j => .bl (decide (j < i))) (Zob K) (tC (.int 0)))) (Br (YE (XO λi j => .bl (decide (i < j))) (tW0 K) (Z6 1))))
    (VR (VH K "list" ZgS tW (Xa (tC (.int 0)) Xo))) Zkj) (Zla K)
theorem UZ (h:H p=some (.dK (Xm m t wa))):Xt H p (.str (qH "wide")) (some (.ref wa)):=by have:=Xt.k (k:=.inr (qH "wide")) h;rwa[ZpS]at this
theorem dg_t (h:H p=some (.dK (Xm m t wa))):Xt H p (.str (qH "turn")) (some (.int t)):=by have:=Xt.k (k:=.inr (qH "turn")) h;rwa[ZpR]at this
theorem dg_m (h:H p=some (.dK (Xm m t wa))):Xt H p (.str (qH "mixed")) (some (.int m)):=by have:=Xt.k (k:=.inr (qH "mixed")) h;rwa[ZpQ]at this
theorem dp_t (h:H p=some (.dK (Xm m t wa))):Wr H p (.str (qH "turn")) (.int t') (Zi H p (.dK (Xm m t' wa))):=by
 have:=Wr.k (k:=.inr (qH "turn")) (v:=.int t') h (by show 3<xh;decide)
 rwa[Zm8]at this
theorem Zjp {N:St->Hp->Prop}(m0:0<m)(m1:m<1073741824)(t0:0<=t)(t1:t<2 ^ 60)(hp:H p=some (.dK (Xm x t wa)))
  (k:Q (.int (Zip x (t+1) % m)) (Zi H p (.dK (Xm x (t+1) wa)))):Zoc { nx:=N,rt:=Q } [some (.ref p),some (.int m),o2,none,none] H:=by
 have hp2:Zi H p (.dK (Xm x (t+1) wa)) p=some (.dK (Xm x (t+1) wa)):=ZD;generalize hT:t+1=T at hp2 k;refine⟨.ref p,rfl,p,.int t,rfl,dg_t hp,t,1,rfl,rfl,.ref p,rfl,p,Zi H p (.dK (Xm x T wa)),rfl,by rw[<-hT];exact dp_t hp,?_⟩;refine⟨.ref p,rfl,p,.int x,rfl,dg_m hp2,.ref p,rfl,p,.int T,rfl,dg_t hp2,7919,T,rfl,rfl,.inl ⟨by decide,by decide⟩,.ref p,rfl,p,.int T,rfl,dg_t hp2,7919*T,T,rfl,rfl,.inr ⟨by omega,by omega⟩,x,7919*T*T,rfl,rfl,x+7919*T*T,2147483629,rfl,rfl,(by simp),?_⟩;refine⟨.int ((x+7919*T*T) % 2147483629),rfl,.int ((x+7919*T*T) % 2147483629),rfl,((x+7919*T*T) % 2147483629),((x+7919*T*T) % 2147483629),rfl,rfl,.inl ⟨by omega,by omega⟩,.ref p,rfl,p,.int T,rfl,dg_t hp2,40692,T,rfl,rfl,.inl ⟨by decide,by decide⟩,((x+7919*T*T) % 2147483629)*((x+7919*T*T) % 2147483629),40692*T,rfl,rfl,((x+7919*T*T) % 2147483629)*((x+7919*T*T) % 2147483629)+40692*T,3,rfl,rfl,((x+7919*T*T) % 2147483629)*((x+7919*T*T) % 2147483629)+40692*T+3,998244353,rfl,rfl,(by simp),?_⟩;refine⟨.int ((((x+7919*T*T) % 2147483629)*((x+7919*T*T) % 2147483629)+40692*T+3) % 998244353),rfl,.int ((((x+7919*T*T) % 2147483629)*((x+7919*T*T) % 2147483629)+40692*T+3) % 998244353),rfl,((((x+7919*T*T) % 2147483629)*((x+7919*T*T) % 2147483629)+40692*T+3) % 998244353),((((x+7919*T*T) % 2147483629)*((x+7919*T*T) % 2147483629)+40692*T+3) % 998244353),rfl,rfl,.inl ⟨by omega,by omega⟩,.int ((x+7919*T*T) % 2147483629),rfl,((((x+7919*T*T) % 2147483629)*((x+7919*T*T) % 2147483629)+40692*T+3) % 998244353)*((((x+7919*T*T) % 2147483629)*((x+7919*T*T) % 2147483629)+40692*T+3) % 998244353),((x+7919*T*T) % 2147483629),rfl,rfl,((((x+7919*T*T) % 2147483629)*((x+7919*T*T) % 2147483629)+40692*T+3) % 998244353)*((((x+7919*T*T) % 2147483629)*((x+7919*T*T) % 2147483629)+40692*T+3) % 998244353)+((x+7919*T*T) % 2147483629),2147483587,rfl,rfl,(by simp),(((((x+7919*T*T) % 2147483629)*((x+7919*T*T) % 2147483629)+40692*T+3) % 998244353)*((((x+7919*T*T) % 2147483629)*((x+7919*T*T) % 2147483629)+40692*T+3) % 998244353)+((x+7919*T*T) % 2147483629)) % 2147483587,16,rfl,rfl,(by show(0:Int)<16/\(16:Int)<1073741824;decide),.int m,rfl,(((((x+7919*T*T) % 2147483629)*((x+7919*T*T) % 2147483629)+40692*T+3) % 998244353)*((((x+7919*T*T) % 2147483629)*((x+7919*T*T) % 2147483629)+40692*T+3) % 998244353)+((x+7919*T*T) % 2147483629)) % 2147483587 / 16,m,rfl,rfl,m0,?_⟩;exact k
theorem ZfX (w:List Int):((w.map V.int).length:Int)=(w.length:Int):=by simp
theorem ix0 (c:Int)(r:List Int):VG ((c::r).map V.int).length 0=some 0:=by
 unfold VG;simp
theorem Zjq {K:qk}{N:St->Hp->Prop}(m0:0<m)(m1:m<1073741824)(t0:0<=t)(t1:t<2 ^ 60)(hp:H p=some (.dK (Xm x t wa)))(hw:H wa=some (.lst (w1.map V.int)))(ne:p≠wa)
  (k1:∀c r,w1=c::r->Q (.int (c % m)) (Zi H wa (.lst (((c / m)::r).map V.int)))) (k2:w1=[]->Q (.int (Zip x (t+1) % m)) (Zi H p (.dK (Xm x (t+1) wa)))) :
  Zla K { nx:=N,rt:=Q } [some (.ref p),some (.int m),none,none,none] H:=by
 refine⟨.ref p,rfl,p,.ref wa,rfl,UZ hp,wa,w1.map V.int,rfl,.inl (Zw.of hw),_,0,rfl,rfl,_,rfl,?_⟩
 cases w1 with
 | nil=>
  exact Zjp m0 m1 t0 t1 hp (k2 rfl)
 | cons c r=>
  have e:decide ((0:Int)<(((c::r).map V.int).length:Int))=true:=by simp
  rw[e];have hi:Wl ((c::r).map V.int) 0=some (.int c):=X2 rfl;refine⟨.ref p,rfl,p,.ref wa,rfl,UZ hp,wa,_,0,.int c,rfl,rfl,Zw.of hw,hi,.int m,rfl,c,m,rfl,rfl,m0,?_⟩;refine⟨.ref p,rfl,p,.ref wa,rfl,UZ hp,wa,_,0,.int c,rfl,rfl,Zw.of hw,hi,.int m,rfl,c,m,rfl,rfl,⟨m0,m1⟩,.ref p,rfl,p,.ref wa,rfl,UZ hp,wa,(c::r).map V.int,0,0,rfl,rfl,hw,ix0 c r,?_⟩;exact⟨_,rfl,k1 c r rfl⟩
theorem Zlc {K:qk}{N:St->Hp->Prop}(m0:0<m)(m1:m<1073741824)(t0:0<=t)(t1:t<2 ^ 60)(eS:VB m x t ww=(d,pn'))(hp:H p=some (.dK (Xm x t wa)))(hw:H wa=some (.lst (ww.map V.int)))(ne:p≠wa)
  (k:∀(i:Int) (H':Hp),d=.int i->(∀b,b≠p->b≠wa->H' b=H b)->BO p wa pn' H'->Q (.int i) H') :
  Zlb K { nx:=N,rt:=Q } [some (.ref p),some (.int m),none,none,none] H:=by
 have fin:∀(H1:Hp) (w1:List Int),w1=Zn9 m ww->H1 p=some (.dK (Xm x t wa))->H1 wa=some (.lst (w1.map V.int))->(∀b,b≠p->b≠wa->H1 b=H b)->Zla K { nx:=N,rt:=Q } [some (.ref p),some (.int m),none,none,none] H1:=by
  intro H1 w1 e1 hp1 hw1 ag;refine Zjq m0 m1 t0 t1 hp1 hw1 ne (λc r ec=>?_) λec=>?_
  ·have:VB m x t ww=(.int (c % m),([x,t],(c / m)::r)):=by unfold VB;rw[<-e1,ec]
   rw[this]at eS
   cases eS
   refine k _ _ rfl (λb h1 h2=>by rw[Zn h2];exact ag b h1 h2) ⟨x,t,rfl,by rw[Zn ne];exact hp1,ZD,ne⟩
  ·have:VB m x t ww=(.int (Zip x (t+1) % m),([x,t+1],[])):=by unfold VB;rw[<-e1,ec]
   rw[this]at eS
   cases eS
   subst ec;refine k _ _ rfl (λb h1 h2=>by rw[Zn h1];exact ag b h1 h2) ⟨x,t+1,rfl,ZD,by rw[Zn (zh ne)];exact hw1,ne⟩
 refine⟨.ref p,rfl,p,.ref wa,rfl,UZ hp,wa,ww.map V.int,rfl,.inl (Zw.of hw),_,0,rfl,rfl,_,rfl,?_⟩
 cases ww with
 | nil=>
  refine Ur ?_;refine Ur ?_;exact fin H [] rfl hp hw λ_ _ _=>rfl
 | cons c r=>
  have e:decide ((0:Int)<(((c::r).map V.int).length:Int))=true:=by rw[decide_eq_true_eq,ZfX];simp
  rw[e];refine VD ?_;have hi:Wl ((c::r).map V.int) 0=some (.int c):=X2 (j:=0) rfl;refine⟨.ref p,rfl,p,.ref wa,rfl,UZ hp,wa,_,0,.int c,rfl,rfl,Zw.of hw,hi,.int m,rfl,c,m,rfl,rfl,_,rfl,?_⟩;by_cases hc:c<m
  ·rw[decide_eq_true hc]
   refine VD ?_;refine⟨.ref p,rfl,p,.ref wa,rfl,UZ hp,.inl ⟨rfl,_,Zw.of hw⟩,wa,(c::r).map V.int,0,0,.int c,rfl,rfl,hw,by decide,by decide,seqIndex_of (by decide) (by simp),rfl,?_⟩;refine fin _ r (by show r=if c<m then r else c::r;simp_all) (by rw[Zn ne];exact hp) (by rw[ZD];rfl) λb h1 h2=>by rw[Zn h2]
  ·rw[decide_eq_false hc]
   exact fin H (c::r) (by show c::r=if c<m then r else c::r;rw[if_neg hc]) hp hw λ_ _ _=>rfl
theorem Zpb (e1:Zz (Xb p wa) Hf H)(ag:∀b,b≠p->b≠wa->H' b=H b):Gr (Xb p wa) Hf H Hf H':=
 have no:∀b,¬(Xb p wa).fp b->b≠p/\b≠wa:=λb n=>⟨λz=>n (.inl z),λz=>n (.inr z)⟩
 ⟨λb u n q=>by rw[ag b (no b n).1 (no b n).2];exact q,.refl _ _,λb u n q=>by rw[ag b (no b n).1 (no b n).2];exact e1 b u n q,λb n h1 h2=>h1⟩
theorem Zjr {K:qk}{N:St->Hp->Prop}(h:Yj 2 true XY Yq vs H Q E):∃p m,vs=[.ref p,.int m]/\Zlb K { nx:=N,rt:=Q } [some (.ref p),some (.int m),none,none,none] H:=by
 obtain⟨G,Hf,ds,pn,d,pn',hG,el,e1,r,st',eF,k'⟩:=h;obtain⟨p,wa,rfl⟩:=hG;obtain⟨m,x,t,ww,rfl,rfl,m0,m1,t0,t1,eS⟩:=Zc6 eF;obtain⟨v1,v2,rfl,r1,r2⟩:=jp r
 cases (jo.mp r1)
 cases (ja.mp r2)
 obtain⟨x',t',ea,hp,hw,ne⟩:=st';simp at ea;obtain⟨rfl,rfl⟩:=ea;refine⟨p,m,rfl,Zlc m0 m1 t0 t1 eS hp hw ne λi H' ed ag st=>?_⟩;exact k' _ Hf H' (Zpb e1 ag) st (by rw[ed];rfl) λ_=>.scal λz=>by rw[ed]at z;exact z
theorem ZfY (hc:X.calm=true)(B:BlkS X XN NS N' src scope)(hi:PI X tg iter wi)
  (hg:∀cl jI C s H fp,PG (L2.blk X jI N' scope cl C s H fp) tg g) (ht:∀cl jI C s H fp,Vp (L2.blk X jI N' scope cl C s H fp) ifs tt) (he:∀cl jI C s H fp,PE (L2.blk X jI N' scope cl C s H fp) elt te)
  (hs:∀x,foldedSetIterable iter X.env x=pure x:=by intro _;rfl):PE X (.ListComp elt [⟨tg,iter,ifs,0⟩] scope pos) (Jy src wi g tt te):=by
 intro jI s σ H Q I h;obtain⟨cl,B'⟩:=B.ok I.ok;exact Zh9 hc B' hi (hg cl) (ht cl) (he cl) hs jI s σ H Q I h
noncomputable def Zld (K:qk):TE:=Jy [none] (Zko K (Z6 0)) (Wz 0) (Br (YE (XO λi j=>.bl (decide (j<=i))) (Z6 0) (YE (rI CPow λi j=>.int (i ^ j.toNat)) (tC (.int 10)) (tC (.int 15))))) (Z6 0)
noncomputable def ZpT (K:qk):TS:=Vo (VW (tC (.int 7)) (Wz 1))
 (Vo (tFor (Zko K (Z6 0)) (Wz 2) (VW (YE (rI (λ_ j=>0<j) λi j=>.int (i % j)) (YE (XO λi j=>.int (i+j)) (YE (XO λi j=>.int (i+j)) (YE (rI VX λi j=>.int (i*j)) (Z6 1) (tC (.int 48271))) (YE (rI (λ_ j=>0<j) λi j=>.int (i % j)) (Z6 2) (tC (.int 1000000007)))) (tC (.int 11))) (tC (.int 2147483629))) (Wz 1)))
 (BA (Zn7 [(tC (.str (qH "mixed")),Z6 1),(tC (.str (qH "turn")),tC (.int 0)),(tC (.str (qH "wide")),Zld K)])))
theorem Zle {K:qk}(sq:Zw K H a xs)(hp:H p=none):Zw K (Zi H p o) a xs:=by
 have hne:∀u,H a=some u->a≠p:=λu e z=>by grind
 rcases sq with(q | ⟨o',q⟩) | q
 ·exact .inl (.inl (by rw[Zn (hne _ q)];exact q))
 ·exact .inl (.inr ⟨o',by rw[Zn (hne _ q)];exact q⟩)
 ·exact .inr q
theorem Zlf:Zi (Zi H p o) p o'=Zi H p o':=by
 funext b;by_cases h:b=p
 ·subst h;rw[ZD,ZD]
 ·rw[Zn h,Zn h,Zn h]
theorem Zjs (m t:Int)(wa:Addr):UK [] (Xm m t wa)=Xm m t wa:=by
 rfl
theorem Zjt (ns:List Int)(i:Nat)(c:Int)(h:ns[i]?=some c):Vi (ns.take (i+1))=Vi (ns.take i)++(if decide (10 ^ 15<=c)=true then [c]else []):=by
 unfold Vi;rw[List.take_succ];by_cases hc:(10:Int) ^ 15<=c
 ·simp_all
 ·simp_all
theorem Zlg {K:qk}(sq:Zw K H a (ns.map V.int))(hl:ns.length<=63)(k:∀p,H p=none->Q (.ref p) (Zi H p (.lst ((Vi ns).map V.int)))):Zld K [some (.ref a),o1,o2] H Q:=by
 refine⟨.ref a,rfl,a,rfl,⟨_,sq⟩,λp hp=>?_⟩;refine⟨λi n σ2 H2=>i<=ns.length/\n=ns.length-i/\(∃o,σ2=[o])/\H2=Zi H p (.lst ((Vi (ns.take i)).map V.int)),⟨ns.length,zk _,by omega,⟨none,rfl⟩,rfl⟩,λi n σ2 H2 ⟨hi,hn,⟨o,hσ⟩,hH⟩=>?_⟩;subst hσ hH;have sq2:Zw K (Zi H p (.lst ((Vi (ns.take i)).map V.int))) a (ns.map V.int):=Zle sq hp;by_cases he:i=ns.length
 ·refine .inl ⟨⟨_,sq2,by rw[qj];omega⟩,?_⟩
  subst he;rw[qaK];exact k p hp
 ·have hlt:i<ns.length:=by omega
  have gi:(ns.map V.int)[i]?=some (.int ns[i]):=by rw[qM,qB hlt];rfl
  refine .inr ⟨⟨_,_,sq2,gi⟩,λx H3 ⟨y1,y2⟩=>?_⟩;subst y1;have ex:=y2 _ sq2;rw[gi]at ex
  cases ex
  refine⟨.int ns[i],rfl,10,15,rfl,rfl,⟨by decide,by decide,by decide⟩,ns[i],10 ^ (15:Int).toNat,rfl,rfl,_,rfl,?_⟩;have ew:=Zjt ns i ns[i] (qB hlt);by_cases hc:(10:Int) ^ 15<=ns[i]
  ·have hd:decide ((10:Int) ^ (15:Int).toNat<=ns[i])=true:=decide_eq_true hc
   rw[hd];refine VD ?_;refine⟨.int ns[i],rfl,(Vi (ns.take i)).map V.int,ZD,?_,n-1,by omega,by omega,by omega,⟨_,rfl⟩,?_⟩
   ·have:(Vi (ns.take i)).length<=(ns.take i).length:=za ..
    rw[qj,sizeLine_eq];have:=List.length_take_le i ns;omega
   ·rw[Zlf,ew,if_pos (decide_eq_true hc),zQ]
    rfl
  ·have hd:decide ((10:Int) ^ (15:Int).toNat<=ns[i])=false:=decide_eq_false hc
   rw[hd];refine⟨n-1,by omega,by omega,by omega,⟨_,rfl⟩,?_⟩;rw[ew,if_neg (by simp_all),z0]
theorem Zm9 {K:qk}{N:St->Hp->Prop}(sq:Zw K H a (ns.map V.int))(hl:ns.length<=63)(k:∀(p wa:Addr) (m:Int) (H':Hp),BO p wa ([m,0],Vi ns) H'->(∀b u,H b=some u->H' b=some u)->H p=none->H wa=none->Q (.ref p) H') :
  ZpT K { nx:=N,rt:=Q } [some (.ref a),none,none] H:=by
 refine⟨.ref a,rfl,a,rfl,⟨_,sq⟩,?_⟩;refine⟨λi n σ2 H2=>i<=ns.length/\n=ns.length-i/\(∃x o2,σ2=[some (.ref a),some (.int x),o2])/\H2=H,⟨ns.length,zk _,by omega,⟨7,none,rfl⟩,rfl⟩,λi n σ2 H2 ⟨hi,hn,⟨x,o2,hσ⟩,hH⟩=>?_⟩;subst hσ hH;by_cases he:i=ns.length
 ·refine .inl ⟨⟨_,sq,by rw[qj];omega⟩,?_⟩
  intro p hp;refine⟨.int x,rfl,?_⟩;have hp2:(Zi H2 p (.dK [])) p=some (.dK []):=ZD;show Zld K [some (.ref a),some (.int x),o2] (Zi H2 p (.dK [])) (λy H3=>H3 p=some (.dK [])/\∃kvs:List (ZJ×V),[(V.str (qH "mixed"),V.int x),(V.str (qH "turn"),V.int 0),(V.str (qH "wide"),y)]=kvs.map (λkv=>(kV kv.1,kv.2))/\kvs.length<=15/\Q (.ref p) (Zi H3 p (.dK (UK [] kvs))));refine Zlg (Zle sq hp) hl λwa hwa=>?_;have ne:p≠wa:=λz=>by rw[<-z,ZD]at hwa;cases hwa
  refine⟨by rw[Zn ne];exact hp2,Xm x 0 wa,rfl,by show 3<=15;decide,?_⟩;rw[Zjs];have hwa0:H2 wa=none:=by rw[Zn (zh ne)]at hwa;exact hwa
  exact k p wa x _ ⟨x,0,rfl,ZD,by rw[Zn (zh ne)];exact ZD,ne⟩ (λb u e=>by rw[Zn (ZY e hp),Zn (ZY e hwa0),Zn (ZY e hp)];exact e) hp hwa0
 ·have hlt:i<ns.length:=by omega
  have gi:(ns.map V.int)[i]?=some (.int ns[i]):=by simp
  refine .inr ⟨⟨_,_,sq,gi⟩,fun σ' H'=>(∃x o2,σ'=[some (.ref a),some (.int x),o2])/\H'=H2,fun σ' H' h=>⟨n-1,by omega,by omega,by omega,h.1,h.2⟩,λx' H' ⟨y1,y2⟩=>?_⟩;subst y1;have ex:=y2 _ sq;rw[gi]at ex
  cases ex
  refine⟨.int x,rfl,x,48271,rfl,rfl,.inr ⟨by decide,by decide⟩,.int ns[i],rfl,ns[i],1000000007,rfl,rfl,(by simp),x*48271,ns[i] % 1000000007,rfl,rfl,x*48271+ns[i] % 1000000007,11,rfl,rfl,x*48271+ns[i] % 1000000007+11,2147483629,rfl,rfl,(by simp),⟨_,_,rfl⟩,rfl⟩
noncomputable def X0 (L:List (Addr×Str))(b:Addr):Prop:=∃q,(b,q)∈L
noncomputable def Zod (G0:Gh)(L:List (Addr×Str))(P:Addr)(q:Str)(H:Hp):Prop:=∃ps,H P=some (.tbl ps)/\TriplesOk ps.toList/\∀pos cv,codeAmong pos ps.toList=some cv->∃c',cv=.ref c'/\H c'=some (.ext (codeφ c' q))/\¬G0.fp c'/\¬X0 L c'
noncomputable def UQ (G0:Gh)(L:List (Addr×Str)):Gh where
 fp:=λb=>G0.fp b∨X0 L b
 rd:=λb=>G0.rd b∨X0 L b
 pen:=G0.pen
 st:=λs H=>G0.st s H/\∀P q,(P,q)∈L->Zod G0 L P q H
 mono:=λs H H' ⟨h1,h2⟩ k1 k2=>⟨G0.mono s H H' h1 (λb o r=>k1 b o (.inl r)) k2,λP q m=>by
  obtain⟨ps,e,t,h⟩:=h2 P q m;refine⟨ps,k1 P _ (.inr ⟨q,m⟩) e,t,λpos cv hc=>?_⟩;obtain⟨c',z1,z2,z3⟩:=h pos cv hc;exact⟨c',z1,k2 _ _ z2,z3⟩⟩
 sub:=λb h=>h.elim (λz=>.inl (G0.sub b z)) .inr
 dom:=λs H b ⟨h1,h2⟩ hb=>by
  rcases hb with z | ⟨q,m⟩
  ·exact G0.dom s H b h1 z
  ·obtain⟨ps,e,_⟩:=h2 b q m
   exact⟨_,e⟩
 ntp:=λs H b vs ⟨h1,h2⟩ hb=>by
  rcases hb with z | ⟨q,m⟩
  ·exact G0.ntp s H b vs h1 z
  ·obtain⟨ps,e,_⟩:=h2 b q m
   rw[e];intro z;cases z
theorem ZdL {pos:Pos}(l:List Value)(h:TriplesOk l)(hc:codeAmong pos' (l ++ [rawInt pos.line,rawInt pos.col,c])=some cv):codeAmong pos' l=some cv∨cv=c:=by
 fun_induction TriplesOk l with
 | case1=>
  simp only[List.nil_append,rawInt,codeAmong]at hc;simp_all
 | case2 a b d e f rest ih=>
  simp only[List.cons_append,codeAmong]at hc⊢;split at hc
  ·rename_i h1;rw[if_pos h1];exact .inl hc
  ·rename_i h1;rw[if_neg h1];exact ih h hc
 | case3=>cases h
theorem ZfZ {pos:Pos}(l:List Value)(h:TriplesOk l):TriplesOk (l ++ [rawInt pos.line,rawInt pos.col,c]):=by
 fun_induction TriplesOk l with
 | case1=>simp[TriplesOk,rawInt]
 | case2 a b d e f rest ih=>exact ih h
 | case3=>cases h
noncomputable def WK (L:List (Addr×Str)):Prop:=∀P q q',(P,q)∈L->(P,q')∈L->q=q'
noncomputable def Ws (GG0:Gh->Prop)(L:List (Addr×Str))(G:Gh):Prop:=∃G0,GG0 G0/\(∀b,X0 L b->¬G0.rd b)/\G=UQ G0 L
theorem Zna (lo:WK L)(hrd:∀b,X0 L b->¬G0.rd b)(m:(P,q)∈L):TabG P q (UQ G0 L):=by
 refine⟨λs H st=>?_,.inr ⟨q,m⟩,λs H ps pos c' st hP hc hn=>?_⟩
 ·obtain⟨ps,e,t,h⟩:=st.2 P q m
  refine⟨ps,e,t,λpos cv hc=>?_⟩;obtain⟨c',z1,z2,z3,z4⟩:=h pos cv hc;exact⟨c',z1,z2,λz=>z.elim z3 z4⟩
 ·have hcP:c'≠P:=λz=>by rw[z,hP]at hc;cases hc
  have notL:¬X0 L c':=λ⟨q',m'⟩=>by
   obtain⟨_,e,_⟩:=st.2 c' q' m';rw[hc]at e;cases e
  have k2:∀b φ,H b=some (.ext φ)->Zi (Zi H P (.tbl (ps ++ #[rawInt pos.line,rawInt pos.col,.ref c']))) c' (.ext (codeφ c' q)) b=some (.ext φ):=λb φ e=>by
   rw[Zn (ZY e hc),Zn (λz=>by rw[z,hP]at e;cases e)];exact e
  refine⟨G0.mono s H _ st.1 (λb o r e=>?_) k2,λP' q' m'=>?_⟩
  ·rw[Zn (ZY e hc),Zn (λz=>hrd P ⟨q,m⟩ (by simp_all))];exact e
  ·by_cases hb:P'=P
   ·subst hb
    have:=lo P' q q' m m';subst this;obtain⟨ps',e,t,h⟩:=st.2 P' q m;rw[hP]at e;cases e;refine⟨_,by rw[Zn (zh hcP),ZD],?_,λpos' cv hcv=>?_⟩
    ·rw[qb2];exact ZfZ _ t
    ·rw[qb2]at hcv
     rcases ZdL _ t hcv with z | z
     ·obtain⟨c2,z1,z2,z3⟩:=h pos' cv z
      exact⟨c2,z1,k2 _ _ z2,z3⟩
     ·exact⟨c',z,ZD,Gh.nofp st.1 hc,notL⟩
   ·obtain⟨ps',e,t,h⟩:=st.2 P' q' m'
    refine⟨ps',by rw[Zn (ZY e hc),Zn hb];exact e,t,λpos' cv hcv=>?_⟩;obtain⟨c2,z1,z2,z3⟩:=h pos' cv hcv;exact⟨c2,z1,k2 _ _ z2,z3⟩
noncomputable def YD (L:List (Addr×Str))(G:Gh):Prop:=∀P q,(P,q)∈L->TabG P q G
theorem jA (lo:WK L)(h:Ws GG0 L G):YD L G:=by
 obtain⟨G0,_,hrd,rfl⟩:=h;exact λP q m=>Zna lo hrd m
mutual
theorem Zl.tr {G G':Gh}{H H':Hp}(h:∀a o,¬G.fp a->H a=some o->(∀ps,o≠.tbl ps)->¬G'.fp a/\H' a=some o)(hp:G'.pen=G.pen):∀{d:D} {v:V},YQ d=true->Zl G H d v->Zl G' H' d v
 | .non,_,_,r=>jg.mpr (jg.mp r)
 | .bl _,_,_,r=>je.mpr (je.mp r)
 | .int _,_,_,r=>ja.mpr (ja.mp r)
 | .str _,_,_,r=>ji.mpr (ji.mp r)
 | .tup ds,v,n,r=>by
  obtain⟨a,vs,e1,nf,e2,r⟩:=jc.mp r;obtain⟨z1,z2⟩:=h a _ nf e2 (λ_ z=>by cases z);exact jc.mpr ⟨a,vs,e1,z1,z2,Zj.tr h hp (by simpa[YQ]using n) r⟩
 | .lst ds,v,n,r=>by
  obtain⟨a,vs,e1,nf,e2,r⟩:=jb.mp r;obtain⟨z1,z2⟩:=h a _ nf e2 (λ_ z=>by cases z);exact jb.mpr ⟨a,vs,e1,z1,z2,Zj.tr h hp (by simpa[YQ]using n) r⟩
 | .dk _,_,_,r=>by
  obtain⟨a,e1,nf,e2⟩:=jj.mp r;obtain⟨z1,z2⟩:=h a _ nf e2 (λ_ z=>by cases z);exact jj.mpr ⟨a,e1,z1,z2⟩
 | .dt _,_,_,r=>by
  obtain⟨a,o,e1,nf,e2⟩:=jl.mp r;obtain⟨z1,z2⟩:=h a _ nf e2 (λ_ z=>by cases z);exact jl.mpr ⟨a,o,e1,z1,z2⟩
 | .du _,_,_,r=>by
  obtain⟨a,e1,nf,e2⟩:=jm.mp r;obtain⟨z1,z2⟩:=h a _ nf e2 (λ_ z=>by cases z);exact jm.mpr ⟨a,e1,z1,z2⟩
 | .df _,_,_,r=>by
  obtain⟨a,o,e1,nf,e2⟩:=jr.mp r;obtain⟨z1,z2⟩:=h a _ nf e2 (λ_ z=>by cases z);exact jr.mpr ⟨a,o,e1,z1,z2⟩
 | .pen,_,_,r=>jo.mpr ((jo.mp r).trans hp.symm)
 | .ty _,_,_,r=>jt.mpr (jt.mp r)
 | .clo _ _,_,n,_=>by simp[YQ]at n
theorem Zj.tr {G G':Gh}{H H':Hp}(h:∀a o,¬G.fp a->H a=some o->(∀ps,o≠.tbl ps)->¬G'.fp a/\H' a=some o)(hp:G'.pen=G.pen):∀{ds:List D} {vs:List V},YY ds=true->Zj G H ds vs->Zj G' H' ds vs
 | [],_,_,r=>Zj.nil_iff.mpr (Zj.nil_iff.mp r)
 | d::ds,vs,n,r=>by
  obtain⟨v,rr,e,h1,h2⟩:=jd.mp r;have n':YQ d=true/\YY ds=true:=by simpa[YY]using n
  exact jd.mpr ⟨v,rr,e,Zl.tr h hp n'.1 h1,Zj.tr h hp n'.2 h2⟩
end
open Classical in
noncomputable def V0 (L:List (Addr×Str))(H H2:Hp):Hp:=λb=>if X0 L b then H2 b else H b
theorem Znb (h:X0 L b):V0 L H H2 b=H2 b:=by unfold V0;simp_all
theorem W4 (h:¬X0 L b):V0 L H H2 b=H b:=by unfold V0;simp_all
theorem Znc {K:qk}(FN:FnOk P w K mg base ZQ k f fd ps (Yj n fr GG0 F))
  (hF:∀ds s d s',F ds s=some (d,s')->YY ds=true/\YQ d=true):FnOk P w K mg base ZQ k f fd ps (Yj n fr (Ws GG0 L) F):=by
 refine FN.imp λvs H Q E h=>?_;obtain⟨G,Hf,ds,s,d,s',⟨G0,hG0,hrd,rfl⟩,hl,e1,r,st,eF,k⟩:=h;obtain⟨n1,n2⟩:=hF _ _ _ _ eF;have nfp:∀b,X0 L b->¬G0.fp b:=λb m z=>hrd b m (G0.sub b z);have e1':Zz G0 (V0 L Hf λ_=>none) H:=λb o nb q=>by
  by_cases m:X0 L b
  ·rw[Znb m]at q;cases q
  ·rw[W4 m]at q;exact e1 b o (λz=>z.elim nb m) q
 refine⟨G0,V0 L Hf λ_=>none,ds,s,d,s',hG0,hl,e1',Zj.tr (G:=UQ G0 L) (G':=G0) (λa o na q _=>?_) rfl n1 r,st.1,eF,λv Hf' H' g st' r' fz=>?_⟩
 ·have m:¬X0 L a:=λz=>na (.inr z)
  exact⟨λz=>na (.inl z),by rw[W4 m];exact q⟩
 ·have tab:∀b,X0 L b->∃ps,H' b=some (.tbl ps):=λb ⟨q,m⟩=>by
   obtain⟨ps,e,_⟩:=st.2 b q m;exact⟨ps,g.hh b _ (nfp b ⟨q,m⟩) e⟩
  have out:∀a o,¬G0.fp a->Hf' a=some o->(∀ps,o≠.tbl ps)->¬X0 L a:=λa o na q no m=>by
   obtain⟨ps,e⟩:=tab a m;rw[g.fh a o na q]at e;exact no ps (zY e)
  have tr:∀a o,¬G0.fp a->Hf' a=some o->(∀ps,o≠.tbl ps)->¬(UQ G0 L).fp a/\V0 L Hf' Hf a=some o:=λa o na q no=>by
   have m:=out a o na q no;exact⟨λz=>z.elim na m,by rw[W4 m];exact q⟩
  refine k v (V0 L Hf' Hf) H' ⟨λb o nb q=>g.hh b o (λz=>nb (.inl z)) q,λb o nb q=>?_,λb o nb q=>?_,λb nb q1 q2=>?_⟩ ⟨st',λP q m=>?_⟩ (Zl.tr (G:=G0) (G':=UQ G0 L) tr rfl n2 r') λz a ea mu=>?_
  ·have m:¬X0 L b:=λz=>nb (.inr z)
   rw[W4 m];exact g.ff b o (λz=>nb (.inl z)) (by rw[W4 m];exact q)
  ·have m:¬X0 L b:=λz=>nb (.inr z)
   rw[W4 m]at q;exact g.fh b o (λz=>nb (.inl z)) q
  ·have m:¬X0 L b:=λz=>nb (.inr z)
   rw[W4 m];exact g.nw b (λz=>nb (.inl z)) (by rw[W4 m];exact q1) q2
  ·obtain⟨ps,e,t,h⟩:=st.2 P q m
   refine⟨ps,g.hh P _ (nfp P ⟨q,m⟩) e,t,λpos cv hc=>?_⟩;obtain⟨c',z1,z2,z3,z4⟩:=h pos cv hc;exact⟨c',z1,g.hh c' _ z3 z2,z3,z4⟩
  ·obtain⟨h1,h2⟩:=fz z a ea mu
   refine⟨h1,λxs ed=>?_⟩;obtain⟨us,Hm,q1,q2,q3,q4⟩:=h2 xs ed;have na:¬X0 L a:=λm=>by
    obtain⟨q,m⟩:=m;obtain⟨ps,e,_⟩:=st.2 a q m;rw[h1]at e;cases e
   refine⟨us,V0 L Hm λ_=>none,by rw[W4 na];exact q1,by rw[W4 na];exact q2,λb o nb q=>?_,?_⟩
   ·have m:=λz=>nb (.inr z)
    rw[W4 m]at q⊢;exact q3 b o (λz=>nb (.inl z)) q
   ·subst ed
    refine Zj.tr (G:=G0) (G':=UQ G0 L) (λb o nb q no=>?_) rfl (by simpa[YQ]using n2) q4;have m:=out b o nb (q3 b o nb q) no;exact⟨λz=>z.elim nb m,by rw[W4 m];exact q⟩
theorem Zf0 {K:qk}(c:ZL P w K mg base k x n fr GG0 F)(hF:∀ds s d s',F ds s=some (d,s')->YY ds=true/\YQ d=true):ZL P w K mg base k x n fr (Ws GG0 L) F:=
 let ⟨f,fd,ps,a,b,c,d⟩:=c
 ⟨f,fd,ps,Znc a hF,b,c,d⟩
theorem Zlh:∀ds s d s',Yq ds s=some (d,s')->YY ds=true/\YQ d=true:=λds s d s' h=>by
 obtain⟨k,m,t,w,rfl,rfl,_,_,_,_,e⟩:=Zc6 h;refine⟨rfl,?_⟩;unfold VB at e;split at e <;> (cases e;rfl)
theorem Zli {ps:List Str}(hpl:ps.length<=N.length)(q:JN G [] [] own fr t g)(e1:Zz G Hf H)(r:Zj G Hf ds vs)(st':G.st pn H)(eF:runB N.length ps.length g ds pn=some (d,pn'))
  (k':∀v Hf' H',Gr G Hf H Hf' H'->G.st pn' H'->Zl G Hf' d v->(fr=true->YA G H Hf' d v)->Q v H'):t { nx:=λ_ H'=>Q .non H',rt:=Q } (L2.start N vs) H:=by
 obtain⟨hl,a0⟩:=Y6 eF;obtain⟨o,s1,a1,a2⟩:=ZA a0;have j0:Jf G [] Hf Hf H (L2.start N vs) Hf H (ds.map some++qA (N.length-ps.length) none):=by
  refine⟨?_,.refl _ _,.refl e1,λi d n e=>?_,λi d m e=>absurd m (by simp),λi j a di dj mi mj n e=>absurd mi (by simp)⟩
  ·have:=r.length
   unfold L2.start;simp;omega
  ·have hi:i<ds.length:=by
    by_cases hi:i<ds.length
    ·exact hi
    ·rw[yB (by simpa using hi),yO]at e
     split at e <;> cases e
   have e':ds[i]?=some d:=by
    rw[zK (by simpa using hi),qM]at e
    cases q:ds[i]? with
    | none=>rw[q]at e;cases e
    | some c=>rw[q]at e;simp at e;rw[e]
   obtain⟨v,h1,h2⟩:=r.get e';refine⟨v,?_,h2⟩;unfold L2.start;rw[zK (by simp;rw[<-r.length];exact hi),qM,h1];rfl
 refine q Hf Hf H (L2.start N vs) H _ pn o s1 _ ⟨Hf,j0⟩ st' a1 ?_
 cases o with
 | rt c=>
  obtain⟨rfl,rfl⟩:=ZM a2;exact λv Hf' H' g' jW r2 fz=>k' v Hf' H' g' jW r2 fz
 | nx ρ'=>
  obtain⟨rfl,rfl⟩:=ZM a2;exact fun σ' H' ⟨Hf',j'⟩ jW=>k' .non Hf' H' j'.gr jW (jg.mpr rfl) λ_=>.scal λz=>z
 | bk ρ'=>cases a2
 | ct ρ'=>cases a2
theorem fnDC {K:qk}{st:Stmt}
  (F:Fun K x qual st f fd) (S:FnScope N ps (Zx st))
  (hb:∀(A:xG) (outer:List Env) (s:Shared) (H:Hp) (E:XK),Room k (A.deeper (envOfC qual (Zx st) s.heap.objs.size f fd.code))->∀G,GG G->X7 (Va ZQ P w K mg base N qual (Zx st) f fd.code A outer s H E).nox G [] [] own fr (Wy st) g) :
  FnOk P w K mg base ZQ (k+1) f fd ps (Yj ps.length fr GG (runB N.length ps.length g)):=by
 obtain⟨oc,od,kV,doc,pm,an,cdv,ct,osl,rfl,lk,hcd⟩:=F.ex;refine Zn2 lk hcd S (λvs H Q E ⟨_,_,_,_,_,_,_,e,_⟩=>e) λA outer s H vs Q E hr h=>?_;obtain⟨G,Hf,ds,pn,d,pn',hG,el,e1,r,st',eF,k'⟩:=h;obtain⟨t,p,q⟩:=hb A outer s H E hr G hG;exact⟨t,p.nox,Zli (by have:=congrArg qaW S.pre;grind) q e1 r st' eF k'⟩
section
variable {X:Cx}{G:Gh}{P c:Addr}{q:Str}{k kl n:Nat}{x:Str}{fr frb:Bool}{F:List D->M D}{T:Nat->List D->M D}{t:Nat}{e1:Expr}{f1:Zc->M D}{r1:Bool}{params:Arguments}{scope:Scope}{lpos ppos pos:Pos}{XN N ps:List Str}{NS:List (Str×NameKind)}{cix:List Nat}
end
noncomputable def Ux (mg:Str->Option Value)(h:Heap):Prop:=∃bm o,mg "__builtins__" = some (.ref bm)/\bm≠builtinsNs/\bm≠mainGlobals/\h.get? bm=some o/\o.cls=.type "module"/\o.dict=some builtinsNs/\o.data=.plain
theorem Zju {K:qk}{tb:List (Addr×Addr)}
  (KX:K.In s₁.heap) (hns:s₁.heap.Ns mainGlobals mg) (hb:s₁.heap.Ns builtinsNs mb) (hbb:∀x:Str,x≠"__name__"->mb x=xk x) (hlim:s₁.heap.NoLimit) (hg:s₁.gens = #[])
  (hT:∀e∈tb,zO s₁.heap e.1 e.2/\s₁.heap.get? e.2=some (qaU #[])) (hKt:PySem.W.noTabs K=true) (hbm:Ux mg s₁.heap)
  (ha:s₁.heap.get? a=some { cls:=.type "list",data:=.seq vs.toArray }) (hi:IntsAre vs ns) (hl:ns.length<=xh) (hr:Room k callerA)
  (F:∀base:Heap,K.In base->base.Ns mainGlobals mg->(∀e∈tb,zO base e.1 e.2)->Ux mg base->FnOk P w K mg base CX k fa fd [x] sp) (hbind:∀(s:Shared) (u:Value),BindsTo s fd ⟨[u],[]⟩ [(x,u)])
  (hsp:∀H:Hp,Zw K H a (ns.map V.int)->(∀e∈tb,H e.2=some (.tbl #[]))->sp [.ref a] H (λv _=>v=.bl true) λ_ _ _=>False)
  (hCX:∀H e s',CX [] H s₁ (λ_ _ _=>False) e s'->False) :
  xp (xD P w) callerA (.call (.ref fa) ⟨[.ref a],[]⟩) (λr s'=>r=.ok (.ret (.bool true))/\OldK s₁.heap s'.heap/\s'.os=s₁.os/\AllBare s'.gens) s₁:=by
 have rv:=Zea hi;have lenV:=hi.length;have tabne:∀e∈tb,e.2≠a:=λe he z=>by
  have:=(hT e he).2;rw[z,ha]at this;cases this
 have noK:∀e∈tb,K.lookup e.2=none:=λe he=>by
  cases q:K.lookup e.2 with
  | none=>rfl
  | some o=>
   have h2:=yz.mp hKt (e.2,o) (PySem.W.mem_of_lookupK q);have e1:=KX _ _ q;rw[(hT e he).2]at e1
   cases e1
   exact absurd (show false=true from h2) yR
 have core:∀H:Hp,(∀b u,H b=some u->(b=a/\u=.frz { cls:=.type "list",data:=.seq vs.toArray } (.lst (ns.map V.int))/\K.lookup a=none)∨(u=.tbl #[]/\∃e∈tb,e.2=b))->Zw K H a (ns.map V.int)->(∀e∈tb,H e.2=some (.tbl #[]))->
   xp (xD P w) callerA (.call (.ref fa) ⟨[.ref a],[]⟩) (λr s'=>r=.ok (.ret (.bool true))/\OldK s₁.heap s'.heap/\s'.os=s₁.os/\AllBare s'.gens) s₁:=by
  intro H hO hS hTb;have hok:Yw P w H s₁.heap:=λb u e=>by
   rcases hO b u e with⟨rfl,rfl,_⟩ | ⟨rfl,e',he,rfl⟩
   ·exact⟨ha,by rw[qj];exact hl,vs,_,rv,ha⟩
   ·exact(hT e' he).2
  have base_of:∀{b:Addr} {o:Obj},s₁.heap.get? b=some o->H b=none->(Vn s₁.heap H).get? b=some o:=λe n=>Zkg e n;have noA:∀{b:Addr} {o:Obj},s₁.heap.get? b=some o->(∀vs n,o.data≠.seq vs n)->(∀vs,o.data≠.fields vs∨o.cls≠.none)->H b=none:=λ{b o} e d1 d2=>by
   cases q:H b with
   | none=>rfl
   | some u=>
    rcases hO b u q with⟨rfl,_,_⟩ | ⟨_,e',he,rfl⟩
    ·rw[ha]at e;cases e;exact absurd rfl (d1 _ _)
    ·rw[(hT e' he).2]at e;cases e
     rcases d2 #[]with z | z
     ·exact absurd rfl z
     ·exact absurd rfl z
  have nsK:∀{b:Addr} {m:Str->Option Value},s₁.heap.Ns b m->(Vn s₁.heap H).Ns b m:=λ{b m} ⟨o,es,ep,e,d,r⟩=>⟨o,es,ep,base_of e (noA e (λ_ _ z=>by rw[d]at z;cases z) λ_=>.inl λz=>by rw[d]at z;cases z),d,r⟩;have hKb:K.In (Vn s₁.heap H):=λb o e=>base_of (KX b o e) (by
   cases q:H b with
   | none=>rfl
   | some u=>
    rcases hO b u q with⟨rfl,_,z⟩ | ⟨_,e',he,rfl⟩
    ·rw[z]at e;cases e
    ·rw[noK e' he]at e;cases e)
  have hM:Mod K mg (Vn s₁.heap H):=⟨hKb,nsK hns,⟨mb,nsK hb,hbb⟩,let ⟨mc,h1,h2⟩:=hlim;⟨mc,nsK h1,h2⟩⟩;have e0:Env0 P w K mg (Vn s₁.heap H) callerA [] s₁ H:=⟨rfl,hM,λb o e=>ZmF e,qb7 (ZiT _ _),trivial,λb hb=>absurd (show b∈([]:List Addr)from hb) (by simp),hok,.of_eq hg⟩;have hCd:∀e∈tb,zO (Vn s₁.heap H) e.1 e.2:=λe he=>by
   obtain⟨o,vs',file,tf,flags,tg,inF,text,tt,e1,r1,r2,r3⟩:=(hT e he).1;exact⟨o,vs',file,tf,flags,tg,inF,text,tt,base_of e1 (noA e1 (λ_ _ z=>by rw[r2]at z;cases z) λ_=>.inr (by rw[r1];nofun)),r1,r2,r3⟩
  have hBm:Ux mg (Vn s₁.heap H):=by
   obtain⟨bm,o,e1,e2,e3,e4,e5,e6,e7⟩:=hbm;exact⟨bm,o,e1,e2,e3,base_of e4 (noA e4 (λ_ _ z=>by rw[e7]at z;cases z) λ_=>.inl λz=>by rw[e7]at z;cases z),e5,e6,e7⟩
  refine codeAny_mono ((F _ hKb (nsK hns) hCd hBm).run callerA [] s₁ H ⟨[.ref a],[]⟩ [.ref a] [.ref a] _ _ hr e0 (hbind s₁ (.ref a)) (.cons rfl .nil) (hsp H hS hTb)) λr s' h=>?_
  cases r with
  | error e=>exact(hCX H e s' h).elim
  | ok fl=>
   cases fl with
   | next=>exact zZ h
   | brk=>exact zZ h
   | cont=>exact zZ h
   | ret u=>
    obtain⟨v,H',os,bare,un,hok',r',q⟩:=h;have q':v=.bl true:=q;subst q';obtain rfl:u=zT true:=r';refine⟨rfl,⟨λb o e=>?_,λb o e=>un.there b o e (by simp)⟩,os,bare⟩
    cases q:H b with
    | none=>exact .inl (un.keep b o e q (by intro z;exact absurd (show b∈([]:List Addr)from z) (by simp)) (by simp))
    | some u=>
     rcases hO b u q with⟨rfl,rfl,_⟩ | ⟨rfl,e',he,rfl⟩
     ·have z2:=un.frzs b _ _ q
      obtain⟨e1,_⟩:=hok b _ q;obtain⟨e2,_⟩:=hok' b _ z2;rw[e]at e1;cases e1;exact .inl e2
     ·obtain⟨more,z⟩:=un.tbls _ _ q
      have z2:s'.heap.get? e'.2=some (qaU (#[]++more)):=hok' _ _ z;have e1:=(hT e' he).2;rw[e]at e1;cases e1;exact .inr (.inl ⟨((hT e' he).1.tab (hT e' he).2).isCodeTable,rfl,#[],more,rfl,z2⟩)
 cases hk:K.lookup a with
 | some o=>
  have e:=KX a o hk;rw[ha]at e
  cases e
  refine core (λb=>open Classical in if ∃e∈tb,e.2=b then some (.tbl #[])else none) (λb u z=>?_) (.inr ⟨_,vs.toArray,_,hk,rfl,rfl,rfl,by rw[qX,lenV];exact hl,by simpa using rv⟩) (λe he=>if_pos ⟨e,he,rfl⟩);by_cases h:∃e∈tb,e.2=b
  ·rw[if_pos h]at z;cases z;exact .inr ⟨rfl,h⟩
  ·rw[if_neg h]at z;cases z
 | none=>
  refine core (λb=>open Classical in if ∃e∈tb,e.2=b then some (.tbl #[])else if b=a then some (.frz { cls:=.type "list",data:=.seq vs.toArray } (.lst (ns.map V.int)))else none) (λb u z=>?_) (.inl (.inr ⟨{ cls:=.type "list",data:=.seq vs.toArray },?_⟩)) (λe he=>if_pos ⟨e,he,rfl⟩)
  ·by_cases h:∃e∈tb,e.2=b
   ·rw[if_pos h]at z;cases z;exact .inr ⟨rfl,h⟩
   ·rw[if_neg h]at z
    by_cases hb:b=a
    ·rw[if_pos hb]at z;cases z;exact .inl ⟨hb,rfl,hk⟩
    ·simp_all
  ·show(if ∃e∈tb,e.2=a then _ else _)=_
   rw[if_neg (λ⟨e,he,z⟩=>tabne e he z),if_pos rfl]
theorem Zlj {l : PySem.W.OpenLaw}{K : Params -> qk}{CX : World -> V2}{sp : World -> Sp}{tb : List (Str × Addr × Addr)}
    (hn : l.most = some n) (hn2 : n <= xh) (hdf : d.params.defaults = []) (hr : Room k callerA)
    (hY : ∀ (w : World) (h : Heap), YP w h -> (K w.params).In h)
    (hrec : ∀ e ∈ tb, ∃ d, (recsOf q).find? (λr => r.name == e.1) = some d) (htab : ∀ w : World, ∀ e ∈ tb, PySem.W.tabIn (K w.params) e.1 = some e.2) (hno : ∀ w : World, PySem.W.noTabs (K w.params) = true)
    (F : ∀ (w : World) (mg : Str -> Option Value) (fa : Addr) (h : Heap), (K w.params).In h -> h.Ns mainGlobals mg -> mg d.name = some (.ref fa) ->
      ∃ fd : xE, (∀ (s : Shared) (u : Value), BindsTo s fd ⟨[u], []⟩ [(x, u)]) /\
        ∀ base : Heap, (K w.params).In base -> base.Ns mainGlobals mg -> (∀ e ∈ tb, zO base e.2.1 e.2.2) -> Ux mg base -> FnOk l.prog w (K w.params) mg base (CX w) k fa fd [x] (sp w))
    (hsp : ∀ (w : World) (H : Hp) (a : Addr) (ns : List Int), ns.length <= n -> Zw (K w.params) H a (ns.map V.int) -> (∀ e ∈ tb, H e.2.2 = some (.tbl #[])) -> sp w [.ref a] H (λv _ => v = .bl true) λ_ _ _ => False)
    (hCX : ∀ (w : World) (H : Hp) (s : Shared) (e : Value) (s' : Shared), CX w [] H s (λ_ _ _ => False) e s' -> False) :
    qbZ q loose XP YP l.row.toRowW d [] (λf vs => qbT f vs) := by
  refine Att.attach_call hn hdf λw s₀ s₁ mg mb fa o pm cd doc a vs ns G Y ho hd hcd hmg hobj hints jQ hg => ?_;have KX := hY w _ Y;obtain⟨fd, hb, hF⟩ := F w mg fa _ KX G.T.g hmg;have hT : ∀ e ∈ tb.map (·.2), zO s₁.heap e.1 e.2 /\ s₁.heap.get? e.2 = some (qaU #[]) := λe he => by
    obtain⟨e', he', rfl⟩ := qt.mp he;obtain⟨d', hd'⟩ := hrec e' he';exact PySem.W.tab_of G.T KX hd' (htab w e' he')
  exact Zju KX G.T.g G.T.b G.T.builtins G.T.nolimit hg hT (hno w) (let ⟨bm, ob, a, b, c, d, e, f⟩ := G.T.bmain; ⟨bm, ob, a, b, (λz => by
      obtain⟨o, es, ep, e', hd', _⟩ := G.T.g
      grind), c, d, e, f⟩) hobj hints (qV jQ hn2) hr
    (λbase h1 h2 h3 h4 => hF base h1 h2 (λe he => h3 e.2 (qaT he)) h4) hb (λH hS hTb => hsp w H a ns jQ hS λe he => hTb e.2 (qaT he)) λH e s' => hCX w H s₁ e s'
end TF
namespace L2
section
variable {X:Cx}{jI:Qb}{σ:St}{H:Hp}{s:Shared}{h':Heap}
theorem Inv.turnedN {fp:List Addr}(I:Inv X jI σ H s)(k:∀b o,b∉fp->s.heap.get? b=some o->h'.get? b=some o)(hf:∀b∈fp,Wq X jI H b):Inv X jI σ H { s with heap:=h',toks:=t' }:=by
 have nit:∀b u,H b=some u->b∉fp:=λb u e z=>by rw[(hf b z).1]at e;cases e
 refine I.step (λb hb=>?_) (λb o _ _ hc e _=>k b o hc e) (λb o _ _ hc e _=>⟨o.slots,k b o hc e⟩) (λ_ _ _ _ n=>n)
  (λb o hc e=>⟨o,k b o hc e⟩) (λ_ _ e=>e) (λ_ _ _ e=>e) (λb ps e=>⟨#[],by rw[e];simp⟩) (λm hm=>?_) (λb u e=>?_) I.bare
 ·obtain⟨f0,f1,f2,f3,f4,f5⟩:=hf b hb
  exact⟨f3,f1,f4,f5⟩
 ·obtain⟨o,es,ep,ho,r⟩:=hm
  exact⟨o,es,ep,k _ o (λz=>(hf _ z).2.1 rfl) ho,r⟩
 ·refine(I.hok b u e).stay (λc v hc q=>k c v ?_ q) (λ_ q=>q) λ_ _ q=>q
  rcases hc with z | z
  ·rw[z];exact nit b u e
  ·exact nit c _ z
theorem Inv.turnedT {fp:List Addr}{T:Addr}(I:Inv X jI σ H s)(k:∀b o,b∉fp->s.heap.get? b=some o->h'.get? b=some o)(hf:∀b∈fp,Wq X jI H b)(hT:s.heap.objs.size<=T)(new:YO X.prog X.w (Zi H T o) h' T o):Inv X jI σ (Zi H T o) { s with heap:=h',toks:=t' }:=by
 have hn:=I.hok.fresh hT;have nit:∀b u,H b=some u->b∉fp:=λb u e z=>by rw[(hf b z).1]at e;cases e
 refine I.step (λb hb=>?_) (λb o _ _ hc e _=>k b o hc e) (λb o _ _ hc e _=>⟨o.slots,k b o hc e⟩) (λb u _ q n=>by rw[Zn (qD (qT (qC q) hT))];exact n)
  (λb o hc e=>⟨o,k b o hc e⟩) (λb xs q=>by rw[Zn (ZY q hn)];exact q) (λb u xs q=>by rw[Zn (ZY q hn)];exact q) (λb ps q=>⟨#[],by rw[Zn (ZY q hn),q];simp⟩) (λm hm=>?_) (λb u e=>?_) I.bare
 ·obtain⟨f0,f1,f2,f3,f4,f5⟩:=hf b hb
  exact⟨f3,f1,f4,f5⟩
 ·obtain⟨o,es,ep,ho,r⟩:=hm
  exact⟨o,es,ep,k _ o (λz=>(hf _ z).2.1 rfl) ho,r⟩
 ·by_cases hb:b=T
  ·subst hb;rw[ZD]at e;grind
  ·rw[Zn hb]at e
   refine(I.hok b u e).stay (λc v hc q=>k c v ?_ q) (λc q=>by rw[Zn (ZY q hn)];exact q) λc xs q=>by rw[Zn (ZY q hn)];exact q
   rcases hc with z | z
   ·rw[z];exact nit b u e
   ·exact nit c _ z
end
noncomputable def Itz (K:qk)(a b:Addr):It where
 go:=λi H=>∃xs ys x y,Zw K H a xs/\Zw K H b ys/\xs[i]?=some x/\ys[i]?=some y
 yld:=λi H v H'=>∃T x y,H T=none/\v=.ref T/\H'=Zi H T (.tup [x,y])/\(∀xs,Zw K H a xs->xs[i]?=some x)/\(∀ys,Zw K H b ys->ys[i]?=some y)
 stop:=λi H=>∃xs ys,Zw K H a xs/\Zw K H b ys/\i=min xs.length ys.length
structure ZDist (z TI TO i1 i2:Addr):Prop where
 TIz:TI≠z
 TOz:TO≠z
 i1z:i1≠z
 i2z:i2≠z
 TITO:TI≠TO
 TIi1:TI≠i1
 TIi2:TI≠i2
 TOi1:TO≠i1
 TOi2:TO≠i2
 i12:i1≠i2
theorem ZpU (n:Nat):ZDist (n+4) (n+2) (n+3) n (n+1):=by
 have h:∀a b:Nat,a≠b->(a:Addr)≠(b:Addr):=λ_ _ h=>h;exact⟨h _ _ (by omega),h _ _ (by omega),h _ _ (by omega),h _ _ (by omega),h _ _ (by omega),h _ _ (by omega),h _ _ (by omega),h _ _ (by omega),h _ _ (by omega),h _ _ (by omega)⟩
noncomputable def Zoe (z TI TO i1 i2 a b:Addr)(i:Nat)(h:Heap):Prop:=IsZip h z TI TO .none/\IsPair h TI (.ref i1) (.ref i2)/\(∃x y,IsPair h TO x y)/\h.IsListIter i1 a i/\h.IsListIter i2 b i
theorem Uk {h:Heap}(ha:∃oa,h.get? a=some oa/\oa.cls=.type "list")(hb:h.get? b=some o)(hc:o.cls=.type T)(hT:T≠"list"):a≠b:=λz=>by
 grind
theorem Zej {TI TO:Addr}(D:ZDist z TI TO i1 i2)(st:Zoe z TI TO i1 i2 a b i h)(ha:h.IsList a xs)(hb:h.IsList b ys):ZipApart z TI TO i1 i2 a b:=by
 obtain⟨hz,hTI,⟨x,y,hTO⟩,h1,h2⟩:=st;obtain⟨o1,e1,c1,d1⟩:=h1;obtain⟨o2,e2,c2,d2⟩:=h2;have la:∃oa,h.get? a=some oa/\oa.cls=.type "list":=let ⟨o,e,c,_⟩:=ha;⟨o,e,c⟩;have lb:∃oa,h.get? b=some oa/\oa.cls=.type "list":=let ⟨o,e,c,_⟩:=hb;⟨o,e,c⟩;exact⟨D.TIz,D.TOz,D.i1z,D.i2z,D.TITO,D.TIi1,D.TIi2,D.TOi1,D.TOi2,D.i12,Uk la hz rfl (by decide),Uk la hTO rfl (by decide),Uk la e1 c1 (by decide),Uk la e2 c2 (by decide),Uk lb hz rfl (by decide),Uk lb hTO rfl (by decide),Uk lb e1 c1 (by decide),Uk lb e2 c2 (by decide)⟩
theorem Zlk {K:qk}(a b z TI TO i1 i2:Addr)(D:ZDist z TI TO i1 i2):Turn P w K (.Tuple elts k pos) (Itz K a b) [z,TI,TO,i1,i2] z (Zoe z TI TO i1 i2 a b) where
 mem:=by simp
 obj:=λi h st c hc=>by
  obtain⟨hz,hTI,⟨x,y,hTO⟩,⟨o1,e1,c1,d1⟩,⟨o2,e2,c2,d2⟩⟩:=st;simp only[qy,zI,or_false]at hc;rcases hc with rfl | rfl | rfl | rfl | rfl
  ·exact⟨_,hz,λv q=>by cases q⟩
  ·exact⟨_,hTI,λv q=>by cases q⟩
  ·exact⟨_,hTO,λv q=>by cases q⟩
  ·exact⟨_,e1,λv q=>by rw[d1]at q;cases q⟩
  ·exact⟨_,e2,λv q=>by rw[d2]at q;cases q⟩
 keep:=λi h h' st kk=>by
  obtain⟨hz,hTI,⟨x,y,hTO⟩,h1,h2⟩:=st;exact⟨kk z (by simp) _ hz,kk TI (by simp) _ hTI,⟨x,y,kk TO (by simp) _ hTO⟩,h1.at λo e=>kk i1 (by simp) o e,h2.at λo e=>kk i2 (by simp) o e⟩
 item:=by
  intro X hP hw hK hc i jI s σ H E I hf st hg;subst hP hw hK;obtain⟨xs,ys,x,y,hq,hq2,hx,hy⟩:=hg;obtain⟨jK,rv,p,hz⟩:=I.list hq;obtain⟨jV,rv2,p2,hz2⟩:=I.list hq2;obtain⟨u,hu,ru⟩:=rv.get hx;obtain⟨u2,hu2,ru2⟩:=rv2.get hy;have A:=Zej D st p.isList p2.isList;have W:=WalksT.zip2 (prog:=X.prog) (w:=X.w) (I.ok.hd hc) z TI TO i1 i2 a b A jK.toArray jV.toArray;obtain⟨t1,t2,t3,t4,t5⟩:=st;have hl1:i<jK.length:=(qG.mp hu).1;have hl2:i<jV.length:=(qG.mp hu2).1;refine W.item i s _ _ (by simp only[qX];omega) ⟨t1,t2,t3,t4,t5,p.isList,p2.isList⟩ λT vals h1 tk hp hT hI hM kk=>⟨_,rfl,?_⟩;obtain⟨v1,v2,g1,g2,rfl⟩:=hp;have e1:v1=u:=by simpa[hu]using g1.symm
  have e2:v2=u2:=by simpa[hu2]using g2.symm
  subst e1 e2;have hap:=W.apart i T h1 hM;refine W.go elts k pos i T _ _ _ hM λh2 hS kk2=>?_;have hI2:h2.IsTuple T #[v1,v2]:=hI.at λo e=>kk2 T o hap e;have hfw:∀c,c∉[z,TI,TO,i1,i2]->c∉[z,TO,i1,i2]:=λc hc hm=>hc (by
   simp only[qy,zI,or_false]at hm⊢;rcases hm with r | r | r | r <;> simp[r])
  have I1:Inv X jI σ (Zi H T (.tup [x,y])) { s with heap:=h2,toks:=tk }:=I.turnedT (fp:=[z,TI,TO,i1,i2]) (λc o hc e=>kk2 c o (hfw c hc) (kk c o (hfw c hc) e)) hf hT ⟨by show 2<=xh;decide,[v1,v2],.cons ru (.cons ru2 .nil),hI2⟩;have hTn:H T=none:=I.hok.fresh hT;refine⟨.ref T,_,I1,rfl,⟨T,x,y,hTn,rfl,rfl,λxs' h=>by rw[I.list_inj h hq];exact hx,λys' h=>by rw[I.list_inj h hq2];exact hy⟩,⟨hS.1,hS.2.1,hS.2.2.1,hS.2.2.2.1,hS.2.2.2.2.1⟩,λc hc=>?_⟩;rw[Zn ?_]
  ·exact(hf c hc).1
  ·intro zc
   subst zc;have old:∃o,s.heap.get? c=some o:=by
    obtain⟨o1,e1,_⟩:=t4;obtain⟨o2,e2,_⟩:=t5;obtain⟨q1,q2,q3⟩:=t3;simp only[qy,zI,or_false]at hc;rcases hc with r | r | r | r | r
    ·rw[r];exact⟨_,t1⟩
    ·rw[r];exact⟨_,t2⟩
    ·rw[r];exact⟨_,q3⟩
    ·rw[r];exact⟨_,e1⟩
    ·rw[r];exact⟨_,e2⟩
   obtain⟨o,e⟩:=old;exact absurd (qC e) (Nat.not_lt.mpr hT)
 done:=by
  intro X hP hw hK hc i jI s σ H E I hf st hg;subst hP hw hK;obtain⟨xs,ys,hq,hq2,rfl⟩:=hg;obtain⟨jK,rv,p,hz⟩:=I.list hq;obtain⟨jV,rv2,p2,hz2⟩:=I.list hq2;have A:=Zej D st p.isList p2.isList;have W:=WalksT.zip2 (prog:=X.prog) (w:=X.w) (I.ok.hd hc) z TI TO i1 i2 a b A jK.toArray jV.toArray;obtain⟨t1,t2,t3,t4,t5⟩:=st;have e:min jK.toArray.size jV.toArray.size=min xs.length ys.length:=by rw[qX,qX,rv.length,rv2.length]
  refine W.done s _ _ (by rw[e];exact⟨t1,t2,t3,t4,t5,p.isList,p2.isList⟩) λh1 tk kk=>⟨rfl,?_⟩;exact I.turnedN (λc o hc e=>kk c o (λhm=>hc (by
   grind)) e) hf
 self:=λA i s Q E st h=>wpAny_pyIter_zip st.1 h
noncomputable def iZip (K:qk)(ta:TA):TI:=fun σ H R=>ta σ H λvs H1=>∃a b,vs=[.ref a,.ref b]/\(∃xs,Zw K H1 a xs)/\(∃ys,Zw K H1 b ys)/\R (Itz K a b) H1
theorem Zll:xk "zip" = some (.type "zip"):=by rfl
theorem Zpc {elts:List Expr}{k:Nat}{tp:Pos}{p pos:Pos}(hg:Gl X "zip")(hm:X.mg "zip" = none)(ha:PA X [a,b] ta)(hs:xi [a,b] X.env=[(false,eval a X.env),(false,eval b X.env)]:=by rfl)(hs2:xi [b] X.env=[(false,eval b X.env)]:=by rfl) :
  PI X (.Tuple elts k tp) (.Call (.Name "zip" p) [a,b] [] pos) (iZip X.K ta):=by
 intro jI s σ H R I h;refine Call_ (Uh I hg hm Zll (yg (ZI (ha pos jI s σ H _ I h) λus s1 ⟨vs,H1,I1,r1,q1⟩=>?_) (by rw[hs,hs2]) (by rw[hs2];rfl)));obtain⟨a',b',e,⟨xs,hq⟩,⟨ys,hq2⟩,q⟩:=q1;subst e
 cases r1 with
 | cons r rr=>
  cases rr with
  | cons r' rr=>
   cases rr
   cases r
   cases r'
   obtain⟨jK,rv,p1,hz⟩:=I1.list hq;obtain⟨jV,rv2,p2,hz2⟩:=I1.list hq2;refine call_zip_2 p1.isList p2.isList λh' g1 g2 g3 g4 g5 g6 g7=>?_;refine wpAny_pyIter_zip g1 ?_;have I2:Inv X jI σ H1 { s1 with heap:=h' }:=I1.kept g7;refine⟨s1.heap.objs.size+4,[s1.heap.objs.size+4,s1.heap.objs.size+2,s1.heap.objs.size+3,s1.heap.objs.size,s1.heap.objs.size+1],_,_,H1,rfl,I2,Zlk a' b' (s1.heap.objs.size+4) (s1.heap.objs.size+2) (s1.heap.objs.size+3) s1.heap.objs.size (s1.heap.objs.size+1) (ZpU _),⟨g1,g2,⟨_,_,g3⟩,g4,g5⟩,λc hc=>?_,q⟩;simp at hc;have hle:s1.heap.objs.size<=c:=by rcases hc with r | r | r | r | r <;> rw[r] <;> first | rfl | simp
   exact I1.fpOk hle (I1.hok.fresh hle)
end L2
namespace TF
open L2
section
variable {X:Cx}{G:Gh}
noncomputable def U0 (xs ys:List D):List D:=List.zipWith (λx y=>D.tup [x,y]) xs ys
theorem Vq.zip {K:qk}(na:¬G.fp a)(h:Hf a=some (.lst vs))(r:Zj G Hf ds vs)(nb:¬G.fp b)(h':Hf b=some (.lst us))(r':Zj G Hf es us):Vq G (Itz K a b) Hf (U0 ds es):=λi j8 H2 s e1 e2 st=>by
 have h2:Zw K H2 a vs:=Zw.of (e2 _ _ na (e1 _ _ na h));have h3:Zw K H2 b us:=Zw.of (e2 _ _ nb (e1 _ _ nb h'));refine⟨λd q=>?_,λq=>⟨vs,us,h2,h3,by rw[q];unfold U0;rw[List.length_zipWith,r.length,r'.length]⟩⟩;unfold U0 at q;rw[qbE]at q
 cases qa:ds[i]? with
 | none=>simp_all
 | some x=>
  cases qb:es[i]? with
  | none=>simp_all
  | some y=>
   rw[qa,qb]at q;simp at q;subst q;obtain⟨v,q1,q2⟩:=r.get qa;obtain⟨u,q3,q4⟩:=r'.get qb;refine⟨⟨vs,us,v,u,h2,h3,q1,q3⟩,λz H3 ⟨T,v',u',hT,y0,y1,y2,y3⟩=>?_⟩;have ev:=y2 vs h2;have eu:=y3 us h3;rw[q1]at ev;cases ev;rw[q3]at eu;cases eu;subst y0 y1;have nf:=Gh.nofp st hT;have g2:=Gr.new (o:=.tup [v,u]) e2 hT nf;refine⟨Zi j8 T (.tup [v,u]),g2,Gh.grow st hT,jc.mpr ⟨T,_,rfl,nf,ZD,?_⟩⟩;exact .cons ((q2.ext e1).ext g2.ff) (.one ((q4.ext e1).ext g2.ff))
noncomputable def Bw (f g:Zc->M D):Zc->M (List D):=fun ρ=>Zp (f ρ) λd=>Zp (g ρ) λe=>match d,e with | .lst ds,.lst es=>Zy (U0 ds es) | _,_=>Zv
theorem Znd {elts:List Expr}{k:Nat}{tp:Pos}{p pos:Pos}(hg:Gl X "zip")(hm:X.mg "zip" = none)(ha:PD X G r1 a f)(hb:PD X G r2 b f2)
  (hs:xi [a,b] X.env=[(false,eval a X.env),(false,eval b X.env)]:=by rfl) (hs2:xi [b] X.env=[(false,eval b X.env)]:=by rfl):WI X G (.Tuple elts k tp) (.Call (.Name "zip" p) [a,b] [] pos) (Bw f f2):=by
 obtain⟨t,pa,qa⟩:=ha.drop;obtain⟨u,pb,qb⟩:=hb.drop;refine⟨_,Zpc hg hm (YF pa (YF pb YX (by rw[hs2];rfl)) (by rw[hs,hs2])) hs hs2,fun σ Hf H ρ s ds s' R e1 e2 e3 e4 k=>?_⟩;obtain⟨d,s1,a1,a2⟩:=ZA e4;obtain⟨d2,s2,a3,a4⟩:=ZA a2
 match d,d2,a4,a1,a3 with
 | .lst xs,.lst ys,a4,a1,a3=>
  obtain⟨rfl,rfl⟩:=ZM a4;refine qa σ Hf H ρ s _ _ _ e1 e2 e3 a1 λv jU H1 g st r=>?_;refine qb σ jU H1 ρ s1 _ _ _ g.fh (e2.ext g.ff) st a3 λv2 j8 H2 g2 jW r2=>?_;obtain⟨p1,vs,rfl,n1,h1,rl1⟩:=jb.mp (r.ext g2.ff);obtain⟨p2,us,rfl,n2,h2,rl2⟩:=jb.mp r2;exact⟨p1,p2,rfl,⟨vs,Zw.of (g2.fh _ _ n1 h1)⟩,⟨us,Zw.of (g2.fh _ _ n2 h2)⟩,k _ j8 H2 (g.trans g2) jW (.zip n1 h1 rl1 n2 h2 rl2)⟩
end
section
variable {X:Cx}{G:Gh}
noncomputable def UR:D->Option Bool
 | .non=>some true
 | .pen=>none
 | .ty _=>none
 | .clo _ _=>none
 | _=>some false
noncomputable def dIsN (d e:D):Option D:=match e with | .non=>(UR d).map .bl | _=>none
theorem Zek (h:UR d=some b)(r:Zl G Hf d v):decide (v=.non)=b:=by
 cases d with
 | non=>cases h;rw[jg.mp r];rfl
 | bl _=>cases h;rw[je.mp r];rfl
 | int _=>cases h;rw[ja.mp r];rfl
 | str _=>cases h;rw[ji.mp r];rfl
 | tup _=>cases h;obtain⟨p,vs,rfl,_⟩:=jc.mp r;rfl
 | lst _=>cases h;obtain⟨p,vs,rfl,_⟩:=jb.mp r;rfl
 | dk _=>cases h;obtain⟨p,rfl,_⟩:=jj.mp r;rfl
 | dt _=>cases h;obtain⟨p,_,rfl,_⟩:=jl.mp r;rfl
 | du _=>cases h;obtain⟨p,rfl,_⟩:=jm.mp r;rfl
 | df _=>cases h;obtain⟨p,_,rfl,_⟩:=jr.mp r;rfl
 | pen=>cases h
 | ty _=>cases h
 | clo _ _=>cases h
theorem Zne:XQ X G (xl .Is) dIsN:=
 ⟨_,ZoJ,λHf H s x y d e c Q e1 st rx ry q k=>by
  cases e with
  | non=>
   have q:(UR d).map D.bl=some c:=q
   cases hb:UR d with
   | none=>simp_all
   | some b=>
    rw[hb]at q
    cases q
    refine⟨jg.mp ry,?_⟩;rw[Zek hb rx];exact k _ Hf H (.refl e1) st (je.mpr rfl) (.scal λz=>z)
  | _=>cases q⟩
noncomputable def maxI (n:Int)(r:List Int):Int:=r.foldl max n
theorem Znf (r:List Int):∀n,n<=maxI n r/\∀a∈r,a<=maxI n r:=by
 induction r with
 | nil=>intro n;exact⟨Int.le_refl _,by simp⟩
 | cons b r ih=>
  intro n;obtain⟨h1,h2⟩:=ih (max n b);refine⟨?_,λa ha=>?_⟩
  ·show n<=maxI (max n b) r;omega
  ·show a<=maxI (max n b) r
   grind
theorem Zlm (r:List Int):∀n,maxI n r∈n::r:=by
 induction r with
 | nil=>simp[maxI]
 | cons b r ih=>
  intro n;show maxI (max n b) r∈n::b::r
  grind
theorem max_uniq {M:Int}(h1:M∈n::r)(h2:∀a∈n::r,a<=M):M=maxI n r:=by
 obtain⟨g1,g2⟩:=Znf r n;have g3:=h2 _ (Zlm r n)
 grind
noncomputable def Zir:List D->Option D
 | [.lst ds]=>match ZE ds with | some (n::r)=>some (.int (maxI n r)) | _=>none
 | _=>none
theorem Zjv (hc:X.calm=true):XB X (.builtin "max") (λxs H Q=>∃p n r,xs=[.ref p]/\Zw X.K H p ((n::r).map V.int)/\Q (.int (maxI n r)) H):=by
 intro jI s σ H xs us Q I r h;obtain⟨p,n,rr,rfl,hp,q⟩:=h;obtain⟨u,rfl,ru⟩:=XC r
 cases ru
 obtain⟨jK,rv,pl,hz⟩:=I.list hp;have hi:IntsAre jK (n::rr):=W0 rv;obtain⟨xs,e⟩:=hi.allInts.items;have hns:n::rr=xs.toList.map (·.1):=by rw[<-hi.numsOf,<-nums_intItems,<-e]
 have hl:=pl.isList;rw[e]at hl;have hsz:0<xs.size:=by
  have h3:0<(n::rr).length:=by simp
  simp_all
 refine max_intList (I.ok.hd hc) hl hsz λv h' tk hv hk=>?_;obtain⟨t,rfl⟩:=intItems_at hv;obtain⟨h1,h2⟩:=argBest_gt (numAt xs) (xs.size-1);have e2:numAt xs (argBest (λi j=>decide (numAt xs i > numAt xs j)) (xs.size-1))=maxI n rr:=by
  refine max_uniq ?_ λa ha=>?_
  ·rw[hns,numAt_eq];exact getD_mem (by rw[qj,qO];omega)
  ·rw[hns]at ha
   obtain⟨j,hj,rfl⟩:=mem_getD ha;rw[qj,qO]at hj;rw[<-numAt_eq];exact h2 j (by omega)
 rw[e2];exact⟨.int (maxI n rr),H,I.kept hk,⟨_,rfl⟩,q⟩
theorem Zhg (hc:X.calm=true):X5 X G (.builtin "max") Zir:=
 ⟨_,Zjv hc,λHf H s xs ds c Q e1 st r q k=>by
  match ds,q,r with
  | [.lst es],q,r=>
   have q:(match ZE es with | some (n::r)=>some (D.int (maxI n r)) | _=>none)=some c:=q
   cases he:ZE es with
   | none=>simp_all
   | some ns=>
    cases ns with
    | nil=>simp_all
    | cons n rr=>
     rw[he]at q
     cases q
     obtain⟨v,rfl,rv⟩:=jh r;obtain⟨p,vs,rfl,np,hp,rp⟩:=jb.mp rv;rw[Wm he]at rp;rw[jk rp]at hp;exact⟨p,n,rr,rfl,Zw.of (e1 _ _ np hp),k _ Hf H (.refl e1) st (ja.mpr rfl) (.scal λz=>z)⟩⟩
end
theorem ZaM:∀{a b:List Int},a.Perm b->a.Pairwise (·<=·)->b.Pairwise (·<=·)->a=b
 | [],b,p,_,_=>(List.nil_perm.mp p).symm
 | x::a,[],p,_,_=>absurd p.length_eq (by simp)
 | x::a,y::b,p,ha,hb=>by
  have ha':=zt.mp ha;have hb':=zt.mp hb;have e:x=y:=by
   have h1:x∈y::b:=p.mem_iff.mp (by simp);have h2:y∈x::a:=p.mem_iff.mpr (by simp)
   grind
  subst e;rw[ZaM (yT.cons_inv p) ha'.2 hb'.2]
noncomputable def Xh (ns:List Int):List Int:=ns.mergeSort λa b=>decide (a<=b)
theorem Zbt (ns:List Int):(Xh ns).Perm ns:=qb3 ns _
theorem ZeY (ns:List Int):(Xh ns).Pairwise (·<=·):=by
 have h:=qbo (le:=λ(a b:Int)=>decide (a<=b)) (λa b c h1 h2=>by grind) (λa b=>by simp;omega) ns;exact h.imp λh=>by simp_all
theorem B9 (p:a.Perm ns)(h:a.Pairwise (·<=·)):a=Xh ns:=ZaM (p.trans (Zbt ns).symm) h (ZeY ns)
section
variable {X:Cx}{G:Gh}
theorem ZaB:∀{vs:List Value} {ns:List Int},IntsAre vs ns->Zu (ns.map V.int) vs
 | _,_,.nil=>.nil
 | _,_,.cons n t r=>.cons ⟨t,rfl⟩ (ZaB r)
theorem Zhh:XB X (.builtin "sorted") (λxs H Q=>∃(p:Addr) (ns:List Int),xs=[.ref p]/\Zw X.K H p (ns.map V.int)/\ns.length<64/\∀l,H l=none->Q (.ref l) (Zi H l (.lst ((Xh ns).map V.int)))):=by
 intro jI s σ H xs us Q I r h;obtain⟨p,ns,rfl,hp,h64,q⟩:=h;obtain⟨u,rfl,ru⟩:=XC r
 cases ru
 obtain⟨jK,rv,pl,hz⟩:=I.list hp;have hi:=W0 rv;have hl:=rv.length;rw[qj]at hl;refine sorted_ints pl.isList hi (by omega) λout ns' a1 a2 a3=>?_;obtain⟨e,he⟩:=sortedAll_at s.heap jK out;have en:=B9 a2 a3;subst en;have hle:s.heap.objs.size<=s.heap.objs.size+1:=qaA _;refine⟨.ref (s.heap.objs.size+1),_,I.laid (o:=.lst ((Xh ns).map V.int)) (λ_ _=>sortedAll_old) hle ⟨?_,out.toList,e,ZaB a1,he⟩,rfl,q _ (I.hok.fresh hle)⟩;rw[qj,(Zbt ns).length_eq,sizeLine_eq];omega
noncomputable def ZcI:List D->Option D
 | [.lst ds]=>match ZE ds with | some ns=>if ns.length<64 then some (.lst ((Xh ns).map .int))else none | none=>none
 | _=>none
theorem Uc:∀ns:List Int,Zj G Hf (ns.map D.int) (ns.map V.int)
 | []=>Zj.nil_iff.mpr rfl
 | n::ns=>.cons (ja.mpr rfl) (Uc ns)
theorem ZeZ:X5 X G (.builtin "sorted") ZcI:=
 ⟨_,Zhh,λHf H s xs ds c Q e1 st r q k=>by
  match ds,q,r with
  | [.lst es],q,r=>
   have q:(match ZE es with | some ns=>if ns.length<64 then some (D.lst ((Xh ns).map .int))else none | none=>none)=some c:=q
   cases he:ZE es with
   | none=>simp_all
   | some ns=>
    rw[he]at q;have q:(if ns.length<64 then some (D.lst ((Xh ns).map .int))else none)=some c:=q;split at q
    ·rename_i h64
     cases q
     obtain⟨v,rfl,rv⟩:=jh r;obtain⟨p,vs,rfl,np,hp,rp⟩:=jb.mp rv;rw[Wm he]at rp;rw[jk rp]at hp;refine⟨p,ns,rfl,Zw.of (e1 _ _ np hp),h64,λl hl=>?_⟩;have nf:=Gh.nofp st hl;have g2:=Gr.new (o:=.lst ((Xh ns).map V.int)) e1 hl nf;exact k (.ref l) _ _ g2 (Gh.grow st hl) (jb.mpr ⟨l,_,rfl,nf,ZD,Uc _⟩) (YA.mk e1 hl nf (Uc _))
    ·cases q⟩
theorem Zjw:X7 X G ob own own' fr sts (λ_=>Zv):=⟨λ_ _ _=>False,λ_ _ _ _ _ _ h=>h.elim,λ_ _ _ _ _ _ _ _ _ _ _ _ e _=>by cases e⟩
end
end TF
namespace HT
section
variable {prog:xF}{w:World}{A:xG}{E:xH}{s:Shared}
end
end HT
namespace TF
open L2
section
variable {X:Cx}{G:Gh}
end
end TF
namespace L2
open AutoSeq1 (wpAny_loadPart')
section
variable {prog:xF}{w:World}{A:xG}{E:xH}{s:Shared}
end
end L2
namespace TF
open L2
section
variable {X:Cx}{G:Gh}
end
section
variable {X:Cx}{G:Gh}
theorem Zln {pos p2 p3:Pos}{fr:Bool}{ob:List Nat}(hi:i∈own)(hv:PE X (.Name x p1) (Z6 i))(he:PD X G r1 e f)
  (hbase:xr (.Name x p1) "append" X.env (eval (.Name x p1) X.env)=eval (.Name x p1) X.env:=by rfl)
  (hfew:((backTo p3 (xi [e] X.env)).all (λx=>!x.1)&&(xq p3 (xj [] X.env)).all (λx=>x.1.isSome)
   && decide ([e].length+([]:List Keyword).length+(if ([]:List Keyword).isEmpty then 0 else 1)<30))=true:=by rfl)
  (hline:(p2.endLine==p3.line)=true:=by rfl) (hs:xi [e] X.env=(false,eval e X.env)::xi [] X.env:=by rfl)
  (hsw:xt (.Call (.Attribute (.Name x p1) "append" p2) [e] [] p3) none pos.line X.env=pure false:=by rfl) :
  YM X G ob own own fr (.Expr (.Call (.Attribute (.Name x p1) "append" p2) [e] [] p3) pos) (VE i (fun ρ=>f (YB own ρ))):=
 ZfL hi he λte p=>Zb2 hv p hbase hfew hline hs hsw
end
noncomputable def VC:Nat->List Int->M (List Int)
 | 0,_=>Zy []
 | k+1,left=>Zp (Yq [.pen,.int (left.length:Int)]) λd=>match d with
  | .int r=>if 0<=r then (match left[r.toNat]? with | some x=>Zp (VC k (left.eraseIdx r.toNat)) λxs=>Zy (x::xs) | none=>Zv)else Zv
  | _=>Zv
noncomputable def WV (n:Nat):List Int:=(qf n).map λ(i:Nat)=>(i:Int)
noncomputable def Vx:List D->M D
 | [.pen,.int n]=>if 0<=n/\n<=1000 then Zp (VC n.toNat (WV n.toNat)) λxs=>Zy (.lst (xs.map D.int))else Zv
 | _=>Zv
theorem Zhi (h:VC (k+1) left s=some (xs,s')):∃r s1 x ys,Yq [.pen,.int (left.length:Int)] s=some (.int r,s1)/\0<=r/\left[r.toNat]?=some x/\VC k (left.eraseIdx r.toNat) s1=some (ys,s')/\xs=x::ys:=by
 obtain⟨d,s1,a1,a2⟩:=ZA h
 cases d with
 | int r=>
  obtain⟨r0,a3⟩:=Y6 (show(if 0<=r then (match left[r.toNat]? with | some x=>Zp (VC k (left.eraseIdx r.toNat)) λxs=>Zy (x::xs) | none=>Zv)else Zv) s1=some (xs,s')from a2)
  cases hx:left[r.toNat]? with
  | none=>rw[hx]at a3;cases a3
  | some x=>
   rw[hx]at a3;obtain⟨ys,s2,a4,a5⟩:=ZA (show Zp (VC k (left.eraseIdx r.toNat)) (λxs=>Zy (x::xs)) s1=some (xs,s')from a3);obtain⟨rfl,rfl⟩:=ZM a5;exact⟨r,s1,x,ys,a1,r0,hx,a4,rfl⟩
 | _=>cases a2
noncomputable def tPop (K:qk)(E:XK):TE:=VH K "list" ZgS (Z6 1) (Xa (Zn1 (Yj 2 true XY Yq) [] E (Xa (Z6 2) (Xa (BK (λxs H Q=>∃p ys,xs=[.ref p]/\(Zw K H p ys∨ZO K H p ys)/\Q (.int ys.length) H) (Xa (Z6 1) Xo)) Xo))) Xo)
noncomputable def tOrd (K:qk)(E:XK):TE:=Jy [none,some 2,some 0] (ZnY (Xa (Z6 1) Xo)) (Wz 0) Zh8 (tPop K E)
theorem Zel {α β:Type}(f:α->β):∀(l:List α) (i:Nat),(l.eraseIdx i).map f=(l.map f).eraseIdx i
 | [],i=>by simp
 | a::l,0=>by simp
 | a::l,i+1=>by simp[Zel f l i]
theorem Zng {K:qk}(hn:n<=1000)(e1:Zz (Xb p wa) Hf H)(st:(Xb p wa).st s H)(hl:H l=some (.lst ((WV n).map V.int)))(nl:¬(Xb p wa).fp l)(hfl:Hf l=none)(he:VC n (WV n) s=some (xs,s'))
  (k:∀(q:Addr) (H':Hp),H q=none->¬(Xb p wa).fp q->H' q=some (.lst (xs.map V.int))->(∀b o,¬(Xb p wa).fp b->b≠l->H b=some o->H' b=some o)->(Xb p wa).st s' H'->Q (.ref q) H') :
  tOrd K E [some (.ref p),some (.int (n:Int)),some (.ref l)] H Q:=by
 refine⟨.int (n:Int),rfl,(n:Int),rfl,by omega,by omega,λq hq=>?_⟩;have nq:¬(Xb p wa).fp q:=Gh.nofp st hq;have nql:q≠l:=λz=>by rw[z,hl]at hq;cases hq
 refine⟨λi m σ2 H2=>∃(si:Pn) (left done rest:List Int) (o:Option V),m=n-i/\i<=n/\σ2=[o,some (.ref l),some (.ref p)]/\(Xb p wa).st si H2/\H2 l=some (.lst (left.map V.int))/\H2 q=some (.lst (done.map V.int))/\VC (n-i) left si=some (rest,s')/\done++rest=xs/\done.length=i/\left.length<=1000/\(∀b u,¬(Xb p wa).fp b->b≠l->b≠q->H b=some u->H2 b=some u)/\Zz (Xb p wa) Hf H2,?_,?_⟩
 ·refine⟨n,s,WV n,[],xs,none,by omega,by omega,rfl,Gh.grow st hq,by rw[Zn (zh nql)];exact hl,ZD,by rw[Nat.sub_zero];exact he,rfl,rfl,by unfold WV;simp;exact hn,λb u nb n1 n2 hb=>by rw[Zn n2];exact hb,?_⟩
  exact λb u nb hb=>by rw[Zn (ZY (e1 b u nb hb) hq)];exact e1 b u nb hb
 ·rintro i m σ2 H2 ⟨si,left,done,rest,o,hm,hi,hσ,hst,hL,hD,hp,hx,hdl,hll,keep,ext⟩
  subst hσ;have sub':H2 q≠none:=by rw[hD];exact Option.some_ne_none _
  by_cases hin:i=n
  ·refine .inl ⟨by show n<=i;omega,?_⟩
   subst hin;rw[Nat.sub_self]at hp;obtain⟨rfl,rfl⟩:=ZM hp;rw[z0]at hx;subst hx;exact k q H2 hq nq hD (λb u nb n1 hb=>keep b u nb n1 (λz=>by rw[z,hq]at hb;cases hb) hb) hst
  ·refine .inr ⟨by show i<n;omega,λx H3 ⟨y1,y2⟩=>?_⟩
   subst y1;obtain⟨kk,hkk⟩:∃kk,n-i=kk+1:=⟨n-i-1,by omega⟩;rw[hkk]at hp;obtain⟨r,s1,y,ys,hd,r0,hy,hp2,rfl⟩:=Zhi hp;unfold Wz Zh8;have hrl:r.toNat<left.length:=(qG.mp hy).1;refine VD ?_;refine⟨.ref l,rfl,.inl ⟨rfl,_,Zw.of hL⟩,.ref p,rfl,.ref l,rfl,l,left.map V.int,rfl,.inl (Zw.of hL),?_⟩;refine⟨Xb p wa,Hf,[.pen,.int (left.length:Int)],si,.int r,s1,⟨p,wa,rfl⟩,rfl,ext,?_,hst,hd,λv Hf4 H4 g4 st4 r4 _=>?_⟩
   ·rw[z0,qj]
    exact .cons (jo.mpr rfl) (.one (ja.mpr rfl))
   ·rw[ja.mp r4]
    have hL4:H4 l=some (.lst (left.map V.int)):=g4.hh l _ nl hL;have hD4:H4 q=some (.lst (done.map V.int)):=g4.hh q _ nq hD;refine⟨l,left.map V.int,r,r.toNat,.int y,rfl,rfl,hL4,by omega,by omega,seqIndex_of r0 (by rw[qj];omega),by rw[qM,hy];rfl,?_⟩;refine⟨done.map V.int,by rw[Zn nql];exact hD4,by rw[qj,sizeLine_eq];omega,n-(i+1),by omega,s1,left.eraseIdx r.toNat,done ++ [y],ys,_,rfl,by omega,rfl,?_,?_,?_,?_,?_,?_,?_,?_,?_⟩
    ·exact js (js st4 nl) nq (fun φ z=>by rw[Zn nql,hD4]at z;cases z)
    ·rw[Zn (zh nql),ZD]
     congr 2;rw[Zel]
    ·rw[ZD,zQ];rfl
    ·rw[show n-(i+1)=kk by omega];exact hp2
    ·rw[qa8];exact hx
    ·rw[zl,hdl];rfl
    ·rw[List.length_eraseIdx];split <;> omega
    ·intro b u nb n1 n2 hb
     rw[Zn n2,Zn n1];exact g4.hh b u nb (keep b u nb n1 n2 hb)
    ·intro b u nb hb
     have hbl:b≠l:=λz=>by rw[z,hfl]at hb;cases hb
     have hbq:b≠q:=λz=>by rw[z]at hb;exact absurd (e1 q u nq hb) (by simp_all)
     rw[Zn hbq,Zn hbl];exact g4.hh b u nb (ext b u nb hb)
noncomputable def Znh (K:qk)(E:XK):TS:=Vo (VW (BK (λxs H Q=>∃r j,xs=[.ref r]/\H r=some (.rng 0 j)/\-(2 ^ 62)<=j/\j<=2 ^ 24/\∀l,H l=none->Q (.ref l) (Zi H l (.lst ((qf j.toNat).map λ(i:Nat)=>V.int (0+i))))) (Xa (Zig (Xa (Z6 1) Xo)) Xo)) (Wz 2)) (BA (tOrd K E))
theorem Zhj {K:qk}{N:St->Hp->Prop}(h:Yj 2 true XY Vx vs H Q E):∃p m,vs=[.ref p,.int m]/\Znh K E' { nx:=N,rt:=Q } [some (.ref p),some (.int m),none] H:=by
 obtain⟨G,Hf,ds,pn,d,pn',hG,el,e1,r,st',eF,k'⟩:=h;obtain⟨p,wa,rfl⟩:=hG;have eF0:∃(n:Nat) (xs:List Int),n<=1000/\ds=[.pen,.int (n:Int)]/\VC n (WV n) pn=some (xs,pn')/\d=.lst (xs.map D.int):=by
  unfold Vx at eF;split at eF
  ·rename_i m
   obtain⟨c,a1⟩:=Y6 eF;obtain⟨xs,s1,a2,a3⟩:=ZA a1;obtain⟨rfl,rfl⟩:=ZM a3;obtain⟨n,rfl⟩:=qbn c.1;exact⟨n,xs,by omega,rfl,a2,rfl⟩
  ·cases eF
 obtain⟨n,xs,hn,rfl,he,rfl⟩:=eF0;obtain⟨v1,v2,rfl,r1,r2⟩:=jp r
 cases (jo.mp r1)
 cases (ja.mp r2)
 refine⟨p,(n:Int),rfl,?_⟩;refine⟨.int (n:Int),rfl,(n:Int),rfl,λg hg=>⟨g,(n:Int),rfl,ZD,by omega,by omega,λl hl=>?_⟩⟩;have hlg:l≠g:=λz=>by rw[z,ZD]at hl;cases hl
 have hl1:H l=none:=by rw[Zn hlg]at hl;exact hl
 have jW:(Xb p wa).st pn (Zi H g (.rng 0 (n:Int))):=Gh.grow st' hg;have nl:¬(Xb p wa).fp l:=Gh.nofp jW hl;have st3:(Xb p wa).st pn (Zi (Zi H g (.rng 0 (n:Int))) l (.lst ((qf (n:Int).toNat).map λ(i:Nat)=>V.int (0+i)))):=Gh.grow jW hl;have ng:¬(Xb p wa).fp g:=Gh.nofp st' hg;have fz:∀b,¬(Xb p wa).fp b->H b=none->Hf b=none:=λb nb hb=>by
  cases q:Hf b with
  | none=>rfl
  | some o=>rw[e1 b o nb q]at hb;cases hb
 have eE:Zz (Xb p wa) Hf (Zi (Zi H g (.rng 0 (n:Int))) l (.lst ((qf (n:Int).toNat).map λ(i:Nat)=>V.int (0+i)))):=λb u nb hb=>by
  have h1:=e1 b u nb hb;rw[Zn (ZY h1 hl1),Zn (ZY h1 hg)];exact h1
 have hll:(qf (n:Int).toNat).map (λ(i:Nat)=>V.int (0+i))=(WV n).map V.int:=by
  unfold WV;rw[qw];show(qf n).map _=_;refine zm λi _=>?_;show V.int (0+(i:Int))=V.int (i:Int);rw[Int.zero_add]
 refine Zng hn eE st3 (by rw[ZD,hll]) nl (fz l nl hl1) he λq H' hq nq hD keep stf=>?_;have hql:q≠l:=λz=>by rw[z,ZD]at hq;cases hq
 have hqg:q≠g:=λz=>by rw[z,Zn (zh hlg),ZD]at hq;cases hq
 have hqH:H q=none:=by rw[Zn hql,Zn hqg]at hq;exact hq
 have hh:Zz (Xb p wa) H H':=λb u nb hb=>by
  have n1:b≠l:=ZY hb hl1;refine keep b u nb n1 ?_;rw[Zn n1,Zn (ZY hb hg)];exact hb
 have hfq:Hf q=none:=fz q nq hqH;have rr:Zj (Xb p wa) Hf (xs.map D.int) (xs.map V.int):=Uc xs;refine k' (.ref q) (Zi Hf q (.lst (xs.map V.int))) H' ⟨hh,λb u nb hb=>by rw[Zn (ZY hb hfq)];exact hb,λb u nb hb=>?_,λb nb h1 h2=>?_⟩ stf (jb.mpr ⟨q,_,rfl,nq,ZD,Uc xs⟩) λ_=>λa ea _=>?_
 ·by_cases hb2:b=q
  ·subst hb2;rw[ZD]at hb;cases hb;exact hD
  ·rw[Zn hb2]at hb;exact hh b u nb (e1 b u nb hb)
 ·have hbq:b≠q:=λz=>h2.no (by simp_all)
  rw[Zn hbq];exact h1
 ·cases ea
  exact⟨hqH,λds' ed=>by cases ed;exact⟨xs.map V.int,Hf,ZD,hfq,λb u nb hb=>by rw[Zn (ZY hb hfq)];exact hb,rr⟩⟩
theorem erase_perm:∀(l:List Int) (i:Nat) (h:i<l.length),(l[i]::l.eraseIdx i).Perm l
 | [],i,h=>absurd h (by simp)
 | a::l,0,h=>yT.refl _
 | a::l,i+1,h=>by
  have hi:i<l.length:=by simp_all
  have:=erase_perm l i hi;exact(yT.swap _ _ _).trans (qbF a this)
theorem Zis:∀(k:Nat) (left:List Int) (T:Nat) (s:Pn),left.length=k->k<=1000->Xq T s->T+k<1000000000->Ok (VC k left) s λxs s'=>xs.Perm left/\Xq (T+k) s'
 | 0,left,T,s,hl,_,ok,_=>by
  have:=zF.mp hl;subst this;exact .ret ⟨yT.refl _,ok⟩
 | k+1,left,T,s,hl,hk,ok,hT=>by
  obtain⟨r,s1,e,r0,r1,ok1⟩:=Ziq (k:=(left.length:Int)) ok (by omega) (by omega) (by omega);have hr:r.toNat<left.length:=by omega
  have hx:=qB hr;have ih:=Zis k (left.eraseIdx r.toNat) (T+1) s1 (by grind) (by omega) ok1 (by omega);refine .bind (.eq e ?_);refine .ite r0 ?_;rw[hx];refine .bind (ih.mono λxs s' q=>.ret ⟨?_,q.2.mono (by omega)⟩);refine(qbF _ q.1).trans ?_;exact erase_perm left r.toNat hr
theorem Zlo {n:Nat}(ok:Xq T s)(hT:T<900000000)(hn:n<=1000):Ok (Vx [.pen,.int (n:Int)]) s λd s'=>Xq (T+n) s'/\∃xs:List Int,d=.lst (xs.map D.int)/\xs.Perm (WV n):=by
 refine .ite ⟨by omega,by omega⟩ (.bind ((Zis n (WV n) T s (by unfold WV;simp) hn ok (by omega)).mono λxs s' q=>.ret ⟨q.2,xs,rfl,q.1⟩))
end TF
namespace L2
section
variable {prog:xF}{w:World}{A:xG}{E:xH}{s:Shared}
theorem Zlp (ht:s.heap.IsTuple t vs.toArray)(k:Q vs { s with heap:=(s.heap.push (seqObj "list" #[] 0)).update s.heap.objs.size (qU (· ++ vs.toArray)) })(hz:vs.length<=xh):xg (xD prog w) A (collect (.ref t)) Q E s:=by
 obtain⟨o,ho,hc,n,hd⟩:=id ht;unfold collect;refine xb (wpAny_runValue (xo entry_proto_collect' ?_));show xg _ _ (do again (.builtin "list.__iadd__" ⟨[<-newList [],.ref t],[]⟩)) _ _ s;refine xb (xB (xc ⟨qaY _ (by decide +kernel),xo entry_list_iadd' ?_⟩));show xg _ _ (yh (.ref s.heap.objs.size) (.ref t) (.ref s.heap.objs.size)) _ _ { s with heap:=s.heap.push (seqObj "list" #[] 0) };unfold yh;have ho':(s.heap.push (seqObj "list" #[] 0)).get? t=some o:=qd _ ho;refine xb (wpAny_typeOf (T:="tuple") ⟨o,ho',hc⟩ ?_);have hb:(yj "tuple" == yj "tuple")=true:=by rfl
 rw[if_pos (by rw[hb];simp)];refine xb (listItems_at ho' hd ?_);refine xb (listItems_at (xs:=#[]) (n:=0) (qz _ rfl) rfl ?_);rw[if_neg (by simp)];refine xb (listUpdate_at (xs:=#[]) (n:=0) (qz _ rfl) rfl ?_ (zk _) (by show(#[]++vs.toArray).size<=xh+1;grind));refine xc ?_;refine xb (wpAny_load (get?_update_seq (qz _ rfl) _) ?_);show xg _ _ (pure ((#[]:Array Value)++vs.toArray).toList) Q E _;rw[show((#[]:Array Value)++vs.toArray).toList=vs by simp];exact xc k
end
end L2
namespace TF
open L2
section
variable {X:Cx}{G:Gh}
end
end TF
namespace L2
end L2
namespace TF
open L2
section
variable {X:Cx}{G:Gh}
end
end TF
namespace L2
section
variable {prog:xF}{w:World}{A:xG}{E:xH}{s:Shared}{o:Obj}{es:Array DictEntry}{d it:Addr}{ep i:Nat}
end
section
variable {X:Cx}{tg:Expr}
end
end L2
namespace TF
open L2
section
variable {X:Cx}{G:Gh}
end
end TF
namespace L2
section
variable {prog:xF}{w:World}{A:xG}{E:xH}{s:Shared}{z TI TO i1 i2:Addr}{f1 f2:List Addr}{n1 n2 k:Nat}{P1 P2:Nat->Value->Prop}{S1 S2:Nat->Heap->Prop}{a b:Value}
end
section
variable {prog:xF}{w:World}{A:xG}{E:xH}{s:Shared}
end
end L2
namespace TF
open L2
section
variable {X:Cx}{G:Gh}
end
end TF
namespace TS
open PySem.W
noncomputable def ZP {α:Type}(lt:Nat->Nat->Bool)(n:Nat):KasT α->(α->Prop)->Prop
 | .ret a,Q=>Q a
 | .ask i j k,Q=>i<n/\j<n/\ZP lt n (k (lt i j)) Q
theorem ZP.bind {f:α->KasT β}{Q:β->Prop}:∀{t:KasT α},ZP lt n t (λa=>ZP lt n (f a) Q)->ZP lt n (t.bind f) Q
 | .ret _,h=>h
 | .ask i j k,h=>⟨h.1,h.2.1,ZP.bind h.2.2⟩
theorem ZP.mono {Q R:α->Prop}(hr:∀a,Q a->R a):∀{t:KasT α},ZP lt n t Q->ZP lt n t R
 | .ret _,h=>hr _ h
 | .ask i j k,h=>⟨h.1,h.2.1,ZP.mono hr h.2.2⟩
theorem jB {Q:α->Prop}{R:α->Shared->Prop}(hc:∀i j,i<n->j<n->∀C:Bool->Shared->Prop,C (lt i j) s->cmp i j C s)(hr:∀a,Q a->R a s):∀{t:KasT α},ZP lt n t Q->t.kasWp cmp R s
 | .ret _,h=>hr _ h
 | .ask i j k,h=>hc i j h.1 h.2.1 _ (jB hc hr h.2.2)
noncomputable def g (p:Array Nat)(k:Nat):Nat:=p.getD k 0
theorem VF (h:p[i]?=q[j]?):g p i=g q j:=by
 have e:∀(r:Array Nat) (k:Nat),g r k=(r[k]?).getD 0:=λr k=>by unfold g;simp
 rw[e,e,h]
structure Pm (n:Nat)(p:Array Nat):Prop where
 pos:0<n
 pm:p.toList.Perm (qf n)
section
variable {lt:Nat->Nat->Bool}{n:Nat}{p q:Array Nat}
theorem Pm.size (h:Pm n p):p.size=n:=by
 have:=h.pm.length_eq;simpa using this
theorem Pm.of (h:Pm n p)(e:q.Perm p):Pm n q:=⟨h.pos,(Array.perm_iff_toList_perm.mp e).trans h.pm⟩
theorem Pm.bd (h:Pm n p)(k:Nat):g p k<n:=by
 unfold g;by_cases hk:k<p.size
 ·have:p.getD k 0=p[k]:=by simp[hk]
  rw[this];have m:p[k]∈p.toList:=by simp
  have:=h.pm.mem_iff.mp m;simp_all
 ·have:p.getD k 0=0:=by simp[Array.getD,hk]
  rw[this];exact h.pos
theorem Pm.inj (h:Pm n p)(hi:i<n)(hj:j<n)(e:g p i=g p j):i=j:=by
 have hi':i<p.size:=by rw[h.size];exact hi
 have hj':j<p.size:=by rw[h.size];exact hj
 have nd:=h.pm.nodup_iff.mpr zw;have e1:g p i=p.toList[i]'(by omega):=by unfold g;simp[hi']
 have e2:g p j=p.toList[j]'(by omega):=by unfold g;simp[hj']
 rw[e1,e2]at e;have pw:=zf.mp nd;rcases yC i j with z | z | z
 ·simp_all
 ·exact z
 ·exact absurd e.symm (pw j i (by omega) (by omega) z)
structure Ord (lt:Nat->Nat->Bool)(n:Nat):Prop where
 tr:∀a b c,lt a b=true->lt b c=true->lt a c=true
 to:∀a b,a<n->b<n->a≠b->lt a b=false->lt b a=true
noncomputable def So (lt:Nat->Nat->Bool)(p:Array Nat)(m:Nat):Prop:=∀i j,i<j->j<m->lt (g p i) (g p j)=true
noncomputable def De (lt:Nat->Nat->Bool)(p:Array Nat)(m:Nat):Prop:=∀i j,i<j->j<m->lt (g p j) (g p i)=true
theorem Pm.to (h:Pm n p)(o:Ord lt n)(hi:i<n)(hj:j<n)(hij:i≠j)(e:lt (g p i) (g p j)=false):lt (g p j) (g p i)=true:=
 o.to _ _ (h.bd i) (h.bd j) (λz=>hij (h.inj hi hj z)) e
theorem Zhk (o:Ord lt n)(h:Pm n p):∀(f k:Nat),1<=k->k+f=n->So lt p k->ZP lt n (kas_asc p f k) (λm=>k<=m/\m<=n/\So lt p m/\(m<n->lt (g p m) (g p (m-1))=true))
 | 0,k,h1,h2,hs=>⟨qq _,by omega,hs,λz=>by omega⟩
 | f+1,k,h1,h2,hs=>by
  show g p k<n/\g p (k-1)<n/\ZP lt n (if lt (g p k) (g p (k-1))=true then .ret k else kas_asc p f (k+1)) _;refine⟨h.bd _,h.bd _,?_⟩
  cases e:lt (g p k) (g p (k-1))with
  | true=>rw[if_pos rfl];exact⟨qq _,by omega,hs,λ_=>e⟩
  | false=>
   rw[if_neg (by simp)];have e2:=h.to o (by omega) (by omega) (by omega) e;refine ZP.mono (λm ⟨a,b⟩=>⟨by omega,b⟩) (Zhk o h f (k+1) (by omega) (by omega) λi j hij hj=>?_);by_cases hjk:j<k
   ·exact hs i j hij hjk
   ·have:j=k:=by omega
    subst this;by_cases hi:i=j-1
    ·simp_all
    ·exact o.tr _ _ _ (hs i (j-1) (by omega) (by omega)) e2
theorem Zit (o:Ord lt n)(h:Pm n p):∀(f k:Nat),1<=k->k+f=n->De lt p k->ZP lt n (kas_desc f p k 0) (λr=>r.1=p/\r.2.2=0/\k<=r.2.1/\r.2.1<=n/\De lt p r.2.1)
 | 0,k,h1,h2,hs=>⟨rfl,rfl,qq _,by show k<=n;omega,hs⟩
 | f+1,k,h1,h2,hs=>by
  show g p k<n/\g p (k-1)<n/\ZP lt n (if lt (g p k) (g p (k-1))=true then (if 0 > 0 then kas_desc f (kas_rev p (k-(0+1)) k) (k+1) 0 else kas_desc f p (k+1) 0)else .ask (g p (k-1)) (g p k) λd=>if d=true then .ret (p,k,0)else kas_desc f p (k+1) (0+1)) _;refine⟨h.bd _,h.bd _,?_⟩
  cases e:lt (g p k) (g p (k-1))with
  | true=>
   rw[if_pos rfl,if_neg (by omega)];refine ZP.mono (λm ⟨a,b,c,d⟩=>⟨a,b,by omega,d⟩) (Zit o h f (k+1) (by omega) (by omega) λi j hij hj=>?_);by_cases hjk:j<k
   ·exact hs i j hij hjk
   ·have:j=k:=by omega
    subst this;by_cases hi:i=j-1
    ·simp_all
    ·exact o.tr _ _ _ e (hs i (j-1) (by omega) (by omega))
  | false=>
   have e2:=h.to o (by omega) (by omega) (by omega) e;refine⟨h.bd _,h.bd _,?_⟩;rw[e2];exact⟨rfl,rfl,qq _,by show k<=n;omega,hs⟩
theorem Ziu (hj:q.size=n)(hm:m<=n)(k:Nat):g (kas_rev q 0 m) k=if k<m then g q (m-1-k)else g q k:=by
 have e:=getElem?_mirror_all (xs:=q) (i:=0) (j:=m) (by omega) k;unfold kas_rev;by_cases hk:k<m
 ·rw[if_pos ⟨by omega,hk⟩]at e
  rw[if_pos hk];exact VF (by rw[e];simp)
 ·rw[if_neg (λz=>hk z.2)]at e
  rw[if_neg hk];exact VF e
theorem Zni (o:Ord lt n)(h:Pm n p)(h1:1<=k)(h2:k<=n)(hs:De lt p k):ZP lt n (kas_tail3 k n p) (λr=>1<=r.1/\r.1<=n/\Pm n r.2/\So lt r.2 r.1):=by
 have h':Pm n (kas_rev p 0 k):=h.of (mirror_perm _ _ _ _);have hs':So lt (kas_rev p 0 k) k:=λi j hij hj=>by
  rw[Ziu h.size h2,Ziu h.size h2,if_pos (by omega),if_pos hj];exact hs _ _ (by omega) (by omega)
 refine ZP.bind (ZP.mono (λm ⟨a,b,c,_⟩=>?_) (Zhk o h' (n-k) k h1 (by omega) hs'));exact⟨by omega,b,h',c⟩
theorem Zlq (o:Ord lt n)(h:Pm n p):ZP lt n (kas_count n p) (λr=>1<=r.1/\r.1<=n/\Pm n r.2/\So lt r.2 r.1):=by
 have hn:=h.pos;refine ZP.bind (ZP.mono (λm ⟨a,b,c,d⟩=>?_) (Zhk o h (n-1) 1 (by omega) (by omega) λi j hij hj=>by omega));by_cases hm:m=n
 ·rw[if_pos (by simpa using hm)]
  exact⟨a,b,h,c⟩
 ·rw[if_neg (by simpa using hm)]
  by_cases h1:m > 1
  ·rw[if_pos h1]
   refine⟨h.bd 0,h.bd (m-1),?_⟩;have e:lt (p.getD 0 0) (p.getD (m-1) 0)=true:=c 0 (m-1) (by omega) (by omega);show ZP lt n (if lt (p.getD 0 0) (p.getD (m-1) 0)=true then _ else _) _;rw[e,if_pos rfl];exact⟨a,b,h,c⟩
  ·have:m=1:=by omega
   subst this;have hd:De lt p (1+1):=λi j hij hj=>by
    grind
   refine ZP.bind (ZP.mono (λr ⟨r1,r2,r3,r4,r5⟩=>?_) (Zit o h (n-(1+1)) (1+1) (by omega) (by omega) hd));rw[if_neg (by omega),r1];exact Zni o h (by omega) r4 r5
theorem Zc7 (o:Ord lt n)(h:Pm n p)(hk:k<n)(hs:So lt p k):∀(f l r:Nat),l<=r->r<=k->r-l<=f->(∀i,i<l->lt (g p i) (g p k)=true)->(∀i,r<=i->i<k->lt (g p k) (g p i)=true)->
  ZP lt n (kas_place p k f l r) (λm=>m<=k/\(∀i,i<m->lt (g p i) (g p k)=true)/\∀i,m<=i->i<k->lt (g p k) (g p i)=true)
 | 0,l,r,h1,h2,h3,ha,hb=>⟨by omega,ha,λi hi=>hb i (by omega)⟩
 | f+1,l,r,h1,h2,h3,ha,hb=>by
  show ZP lt n (if l≥r then .ret l else .ask (g p k) (g p ((l+r) / 2)) λc=>if c=true then kas_place p k f l ((l+r) / 2)else kas_place p k f ((l+r) / 2+1) r) _;by_cases hlr:l≥r
  ·rw[if_pos hlr]
   exact⟨by omega,ha,λi hi=>hb i (by omega)⟩
  ·rw[if_neg hlr]
   refine⟨h.bd _,h.bd _,?_⟩;show ZP lt n (if lt (g p k) (g p ((l+r) / 2))=true then kas_place p k f l ((l+r) / 2)else kas_place p k f ((l+r) / 2+1) r) _
   cases e:lt (g p k) (g p ((l+r) / 2))with
   | true=>
    rw[if_pos rfl];refine Zc7 o h hk hs f l _ (by omega) (by omega) (by omega) ha λi hi hik=>?_;by_cases hq:i=(l+r) / 2
    ·subst hq;exact e
    ·exact o.tr _ _ _ e (hs _ i (by omega) hik)
   | false=>
    have e2:=h.to o hk (by omega) (by omega) e;refine Zc7 o h hk hs f _ r (by omega) h2 (by omega) (λi hi=>?_) hb;by_cases hq:i=(l+r) / 2
    ·simp_all
    ·exact o.tr _ _ _ (hs i _ (by omega) (by omega)) e2
theorem Zlr (o:Ord lt n):∀(f k:Nat) (p:Array Nat),Pm n p->1<=k->k+f=n->So lt p k->ZP lt n (kas_bin f p k) (λq=>Pm n q/\So lt q n)
 | 0,k,p,h,h1,h2,hs=>⟨h,by have:k=n:=(by omega);subst this;exact hs⟩
 | f+1,k,p,h,h1,h2,hs=>by
  refine ZP.bind (ZP.mono (λm ⟨a,b,c⟩=>?_) (Zc7 o h (k:=k) (by omega) hs k 0 k (by omega) (by omega) (by omega) (λi hi=>by omega) λi hi hik=>by omega));have hg:∀i,g (bubble p k (k-m)) i=if i=m then g p k else if m<i/\i<=k then g p (i-1)else g p i:=λi=>by
   have e:=getElem?_bubble (xs:=p) (src:=k) (by rw[h.size];omega) (k-m) (by omega) i;rw[show k-(k-m)=m by omega]at e;by_cases q1:i=m
   ·rw[if_pos q1]at e⊢;exact VF e
   ·rw[if_neg q1]at e⊢
    by_cases q2:m<i/\i<=k
    ·rw[if_pos q2]at e⊢;exact VF e
    ·rw[if_neg q2]at e⊢;exact VF e
  refine Zlr o f (k+1) _ (h.of (bubble_perm _ _ _)) (by omega) (by omega) λi j hij hj=>?_;rw[hg,hg];by_cases i1:i=m
  ·rw[if_pos i1,if_neg (by omega),if_pos (by omega)]
   exact c _ (by omega) (by omega)
  ·rw[if_neg i1]
   by_cases i2:m<i/\i<=k
   ·rw[if_pos i2,if_neg (by omega),if_pos (by omega)]
    exact hs _ _ (by omega) (by omega)
   ·rw[if_neg i2]
    by_cases j1:j=m
    ·rw[if_pos j1];exact b i (by omega)
    ·rw[if_neg j1]
     by_cases j2:m<j/\j<=k
     ·rw[if_pos j2]
      exact hs _ _ (by omega) (by omega)
     ·rw[if_neg j2]
      exact hs _ _ hij (by omega)
theorem Znj (o:Ord lt n)(hn:0<n):ZP lt n (kas_sort n) (λq=>Pm n q/\So lt q n):=by
 have h:Pm n (qK (qf n)):=⟨hn,by simp⟩;refine ZP.bind (ZP.mono (λr ⟨a,b,c,d⟩=>?_) (Zlq o h));by_cases hr:r.1<n
 ·rw[if_pos hr]
  have e:max r.1 1=r.1:=by omega
  rw[e];exact Zlr o _ _ _ c a (by omega) d
 ·rw[if_neg hr]
  exact⟨c,by grind⟩
end
noncomputable def Xj:List Int->List Int->Bool
 | [],[]=>false
 | [],_::_=>true
 | _::_,[]=>false
 | a::as,b::bs=>if a=b then Xj as bs else decide (a<b)
theorem Zf1:∀a,Xj a a=false
 | []=>rfl
 | a::as=>by unfold Xj;rw[if_pos rfl];exact Zf1 as
theorem ZcJ:∀a b c,Xj a b=true->Xj b c=true->Xj a c=true
 | [],[],_,h,_=>by cases h
 | [],_::_,[],_,h=>by cases h
 | [],_::_,_::_,_,_=>rfl
 | _::_,[],_,h,_=>by cases h
 | _::_,_::_,[],_,h=>by cases h
 | a::as,b::bs,c::cs,h1,h2=>by
  unfold Xj at h1 h2⊢;split at h1
  ·rename_i e;subst e
   split at h2
   ·rename_i e;subst e;rw[if_pos rfl];exact ZcJ as bs cs h1 h2
   ·simp_all
  ·split at h2
   ·simp_all
   ·grind
theorem Bh:∀a b,a≠b->Xj a b=false->Xj b a=true
 | [],[],n,_=>absurd rfl n
 | [],_::_,_,h=>by cases h
 | _::_,[],_,_=>rfl
 | a::as,b::bs,n,h=>by
  unfold Xj at h⊢;split at h
  ·rename_i e;subst e;rw[if_pos rfl]
   exact Bh as bs (λz=>n (by rw[z])) h
  ·simp at h
   grind
theorem ZbF (h:Xj a b=true):Xj b a=false:=by
 cases e:Xj b a with
 | false=>rfl
 | true=>have:=ZcJ _ _ _ h e;rw[Zf1]at this;cases this
noncomputable def XG (a b:List Int):Bool:=!Xj b a
theorem Zls (h1:XG a b=true)(h2:XG b a=true):a=b:=by
 unfold XG at h1 h2;simp at h1 h2;by_cases e:a=b
 ·exact e
 ·rw[Bh a b e h2]at h1;cases h1
theorem Zlt (a b c:List Int)(h1:XG a b=true)(h2:XG b c=true):XG a c=true:=by
 unfold XG at h1 h2⊢;simp at h1 h2⊢;by_cases e1:a=b
 ·simp_all
 ·by_cases e2:b=c
  ·simp_all
  ·exact ZbF (ZcJ _ _ _ (Bh b a (zh e1) h1) (Bh c b (zh e2) h2))
theorem Zpd (a b:List Int):(XG a b||XG b a)=true:=by
 unfold XG
 cases e:Xj b a with
 | false=>rfl
 | true=>rw[ZbF e];rfl
theorem Zc8:∀{a b:List (List Int)},a.Perm b->a.Pairwise (λx y=>XG x y=true)->b.Pairwise (λx y=>XG x y=true)->a=b
 | [],b,p,_,_=>(List.nil_perm.mp p).symm
 | x::a,[],p,_,_=>absurd p.length_eq (by simp)
 | x::a,y::b,p,ha,hb=>by
  have ha':=zt.mp ha;have hb':=zt.mp hb;have e:x=y:=by
   have h1:x∈y::b:=p.mem_iff.mp (by simp);have h2:y∈x::a:=p.mem_iff.mpr (by simp);rcases qy.mp h1 with h1 | h1
   ·exact h1
   ·rcases qy.mp h2 with h2 | h2
    ·exact h2.symm
    ·exact Zls (ha'.1 y h2) (hb'.1 x h1)
  subst e;rw[Zc8 (yT.cons_inv p) ha'.2 hb'.2]
noncomputable def XM (jP:List (List Int)):List (List Int):=jP.mergeSort XG
theorem ZaC (jP:List (List Int)):(XM jP).Perm jP:=qb3 jP _
theorem ZbG (jP:List (List Int)):(XM jP).Pairwise (λx y=>XG x y=true):=qbo Zlt Zpd jP
theorem Zbu (p:a.Perm jP)(h:a.Pairwise (λx y=>XG x y=true)):a=XM jP:=Zc8 (p.trans (ZaC jP).symm) h (ZbG jP)
noncomputable def W9 (h:Heap)(v:Value)(ns:List Int):Prop:=∃a xs,v=.ref a/\h.IsTuple a (qK xs)/\IntsAre xs ns
section
variable {prog:xF}{w:World}{A:xG}{E:xH}{s:Shared}
theorem Zof:∀{as bs:List Int} {xs ys:List Value} (i:Nat),IntsAre xs as->IntsAre ys bs->fin=decide (as.length<bs.length)->Q (Xj as bs) s->KatLex prog w A true fin Q (xs.zip ys) i s
 | [],[],_,_,i,.nil,.nil,e,h=>by subst e;exact kat_nil h
 | [],_::_,_,_,i,.nil,.cons _ _ _,e,h=>by subst e;exact kat_nil h
 | _::_,[],_,_,i,.cons _ _ _,.nil,e,h=>by subst e;exact kat_nil h
 | a::as,b::bs,_,_,i,.cons _ t hx,.cons _ u hy,e,h=>by
  unfold Xj at h;refine kat_cons (wpAny_eqBool_int ?_);by_cases q:a=b
  ·rw[if_pos q]at h
   rw[show(a==b)=true by simp[q]];exact kat_yes (Zof (i+1) hx hy (by rw[e];simp) h)
  ·rw[if_neg q]at h
   rw[show(a==b)=false by simp[q]];refine kat_no ?_;by_cases hi:i=0
   ·subst hi
    exact oneLt_int h
   ·rw[show(true&&i==0)=false by simp[hi]]
    exact kat_one _ _ (lt_int h)
theorem Zog (hx:W9 s.heap x as)(hy:W9 s.heap y bs)(h:C (Xj as bs) s):xg (xD prog w) A (keyLt' (tuples' true) x y) C E s:=by
 obtain⟨a,xs,rfl,⟨o,ho,hc,n,hd⟩,ix⟩:=hx;obtain⟨b,ys,rfl,⟨o',ho',hc',n',hd'⟩,iy⟩:=hy;refine kat_lt ho hd ho' hd' ?_;have e:decide ((qK xs).size<(qK ys).size)=decide (as.length<bs.length):=by rw[qX,qX,ix.length,iy.length]
 exact Zof 0 ix iy e h
theorem Zlu:∀{vs:List Value} {jP:List (List Int)},Paired (W9 h) vs jP->(∀ns∈jP,ns≠[])->∃fs,KatTups h vs fs/\fs.length=vs.length/\∀v∈fs,∃n t,v=qbr n t
 | _,_,.nil,_=>⟨[],.nil,rfl,λ_ z=>by simp at z⟩
 | _,_,.cons hv r,hne=>by
  obtain⟨fs,h1,h2,h3⟩:=Zlu r λns' m=>hne ns' (qY _ m);obtain⟨a,xs,rfl,⟨o,ho,hc,n,hd⟩,ix⟩:=hv
  cases ix with
  | nil=>simp_all
  | cons m t r'=>
   refine⟨.int m t::fs,.cons ho hc hd (by simp) h1,by simp[h2],λv hv=>?_⟩
   grind
theorem Zlv (h:Paired (W9 s.heap) vs jP)(hne:∀ns∈jP,ns≠[])(h0:0<vs.length)(q:Q (tuples' true) s):xg (xD prog w) A (keyKind' vs.toArray) Q E s:=by
 obtain⟨fs,h1,h2,h3⟩:=Zlu h hne;refine kat_kind (T:=.type "int") h1 (by omega) (λv hv=>?_) rfl ?_
 ·obtain⟨n,t,rfl⟩:=h3 v hv
  exact Looks.of_pure rfl
 ·exact q
theorem W9.at (k:∀c o,c≠b->h.get? c=some o->h'.get? c=some o)(hb:∃o,h.get? b=some o/\o.cls=.type "list")(x:W9 h v ns):W9 h' v ns:=by
 obtain⟨a,xs,e,⟨o,ho,hc,r⟩,i⟩:=x;refine⟨a,xs,e,⟨o,k a o (λz=>?_) ho,hc,r⟩,i⟩
 grind
theorem jq {F:α->β->Prop}:∀{l:List α} {r:List β} {i:Nat} (d:α) (d':β),Paired F l r->i<l.length->F (l.getD i d) (r.getD i d')
 | _,_,i,_,_,.nil,e=>absurd e (by simp)
 | _,_,0,_,_,.cons h t,e=>h
 | _,_,i+1,d,d',.cons h t,e=>by
  have:=jq d d' t (i:=i) (by simp_all);simpa using this
theorem range_getD {α:Type}(vs:List α)(d:α):((qf vs.length).map λi=>vs.getD i d)=vs:=by
 refine List.ext_getElem (by simp) λi h1 h2=>?_;simp[h2]
theorem Znk (vs:List Value)(κ:SortKind):(arrOf (SortSt.mk' κ (vs.toArray.zip vs.toArray) #[] 7 none)).map (·.2)=qK ((qK (qf vs.length)).toList.map λi=>vs.getD i qR):=by
 apply Array.toList_inj.mp;rw[range_getD,Array.toList_map];show(pairsOf vs).toList.map Prod.snd=_;rw[pairsOf_toList];exact List.map_snd_zip (qq _)
theorem Zf2 (ho:s.heap.get? a=some (seqObj "list" vs.toArray n))(ht:Paired (W9 s.heap) vs jP)(h64:vs.length<64)(nd:jP.Nodup)(hne:2<=vs.length->∀ns∈jP,ns≠[])
  (h:∀p:Array Nat,p.toList.Perm (qf vs.length)->(p.toList.map λi=>jP.getD i [])=XM jP->P (.done (.ret .none)) { s with heap:=sortedHeap s.heap a vs (qK (p.toList.map λi=>vs.getD i qR)) }) :
  xg (xD prog w) A (Builtin.«list.sort» ⟨[.ref a],[]⟩) P E s:=by
 have jQ:vs.length=jP.length:=y8 ht;rw[list_sort_plain];have ha:a<s.heap.objs.size:=qC ho;refine xb (listItems_at ho rfl ?_);refine xb (listUpdate_at ho rfl ?_);obtain⟨e1,ho1⟩:∃e1,(s.heap.update a (qU λ_=>#[])).get? a=some (seqObj "list" #[] e1):=⟨_,get?_update_seq ho (λ_=>#[])⟩;refine xb (seqEpoch_at ho1 rfl ?_);refine xb (wpAny_newTuple ?_);refine xb (xB ?_);refine xy ?_;have ho6:(((s.heap.update a (qU λ_=>#[])).push (seqObj "tuple" vs.toArray 0)).push (seqObj "list" #[] 0)).get? a=some (seqObj "list" #[] e1):=qd _ (qd _ ho1);have kk:∀c o,c≠a->s.heap.get? c=some o->(((s.heap.update a (qU λ_=>#[])).push (seqObj "tuple" vs.toArray 0)).push (seqObj "list" #[] 0)).get? c=some o:=λc o hc e=>qd _ (qd _ (by rw[zX _ _ _ _ hc];exact e));have ht2:Paired (W9 (((s.heap.update a (qU λ_=>#[])).push (seqObj "tuple" vs.toArray 0)).push (seqObj "list" #[] 0))) vs jP:=L2.Paired.mapP ht λv ns x=>x.at kk ⟨_,ho,rfl⟩;show xg (xD prog w) A _ P E { s with heap:=((s.heap.update a (qU λ_=>#[])).push (seqObj "tuple" vs.toArray 0)).push (seqObj "list" #[] 0) };dsimp only;have hsz:vs.toArray.size=vs.length:=by simp
 by_cases h2:vs.toArray.size<2
 ·rw[if_pos h2,if_pos h2];refine xb (xc ?_);rw[StateT.run_pure]
  refine xb (xc ?_);dsimp only;refine xb (seqEpoch_at ho6 rfl ?_);refine xb (listUpdate_at ho6 rfl ?_ (hsz2:=by rw[Array.size_map];show(pairsOf vs).size<=_;rw[pairsOf_size,sizeLine_eq];omega));simp only[bne_self_eq_false,yo,if_false];have eo:(arrOf (SortSt.mk' general' (vs.toArray.zip vs.toArray) #[] 7 none)).map (·.2)=qK ((qK (qf vs.length)).toList.map λi=>vs.getD i qR):=by
   exact Znk vs general'
  rw[eo];refine xc (h _ (by simp) ?_)
  match jP,(by omega:jP.length<2),jQ with
  | [],_,hl=>
   simp only[yt]at hl;rw[hl];exact Zbu (by simp) (by simp)
  | [x],_,hl=>
   simp only[zo,yt]at hl;rw[hl];exact Zbu (by simp) (by simp)
 ·rw[if_neg h2,if_neg h2]
  have h2':2<=vs.length:=by omega
  refine xb (Zlv (s:={ s with heap:=((s.heap.update a (qU λ_=>#[])).push (seqObj "tuple" vs.toArray 0)).push (seqObj "list" #[] 0) }) ht2 (hne h2') (by omega) ?_)
  let lt:Nat->Nat->Bool:=λi j=>Xj (jP.getD i []) (jP.getD j [])
  have hord:Ord lt vs.length:=⟨λx y z=>ZcJ _ _ _,λx y hx hy hxy=>Bh _ _ λz=>hxy ?_⟩
  ·have wp:=jB (s:={ s with heap:=((s.heap.update a (qU λ_=>#[])).push (seqObj "tuple" vs.toArray 0)).push (seqObj "list" #[] 0) }) (cmp:=kas_ask prog w A (tuples' true) vs) (R:=λq s'=>(Pm vs.length q/\So lt q vs.length)/\s' = { s with heap:=((s.heap.update a (qU λ_=>#[])).push (seqObj "tuple" vs.toArray 0)).push (seqObj "list" #[] 0) }) (λi j hi hj C hC=>Zog (jq _ [] ht2 hi) (jq _ [] ht2 hj) hC) (λq hq=>⟨hq,rfl⟩) (Znj hord (by omega))
   refine xb (xf (kat_run (ks:=vs) (vs:=vs) (Q:=λst' s'=>∃p:Array Nat,(Pm vs.length p/\So lt p vs.length)/\arrOf st'=p.map (kas_item (vs.toArray.zip vs.toArray))/\failedOf st'=none/\s' = { s with heap:=((s.heap.update a (qU λ_=>#[])).push (seqObj "tuple" vs.toArray 0)).push (seqObj "list" #[] 0) }) rfl h2' h64 (λp' st' s' a1 a2 a3 a4=>⟨p',a4.1,a2,a3,a4.2⟩) wp) ?_ λ_ _ e=>e);rintro⟨⟨⟩,st'⟩ s' ⟨p,⟨hpm,hso⟩,har,hf,rfl⟩;dsimp only;have hout:=kat_snds (ks:=vs) (vs:=vs) rfl har;have hps:p.toList.length=vs.length:=by rw[qO];exact hpm.size
   rw[hout];refine xb (seqEpoch_at ho6 rfl ?_);refine xb (listUpdate_at ho6 rfl ?_ (hsz2:=by rw[qX,qj,hps,sizeLine_eq];omega));rw[hf];simp only[bne_self_eq_false,yo,if_false];refine xc (h p hpm.pm (Zbu ?_ ?_))
   ·have e:=(hpm.pm).map (λi=>jP.getD i [])
    rw[jQ]at e;rw[range_getD]at e;exact e
   ·rw[zf]
    intro i j hi hj hij;have hj':j<vs.length:=by rw[qj,hps]at hj;exact hj
    have:=hso i j hij hj';have e1:g p i=p.toList[i]'(by rw[hps];omega):=by unfold g;simp[Array.getD,show i<p.size by rw[hpm.size];omega]
    have e2:g p j=p.toList[j]'(by rw[hps];omega):=by unfold g;simp[Array.getD,show j<p.size by rw[hpm.size];omega]
    rw[e1,e2]at this;rw[qbh,qbh];unfold XG;rw[ZbF this];rfl
  ·have hx':x<jP.length:=by omega
   have hy':y<jP.length:=by omega
   have e1:jP.getD x []=jP[x]:=by simp[hx']
   have e2:jP.getD y []=jP[y]:=by simp[hy']
   rw[e1,e2]at z;have pw:=zf.mp nd;rcases yC x y with q | q | q
   ·exact absurd z (pw x y hx' hy' q)
   ·exact q
   ·exact absurd z.symm (pw y x hy' hx' q)
end
section
variable {prog:xF}{w:World}{A:xG}{E:xH}{s:Shared}
theorem Zlw (hl:s.heap.IsList l vs.toArray)(ht:Paired (W9 s.heap) vs jP)(h64:vs.length<64)(nd:jP.Nodup)(hne:2<=vs.length->∀ns∈jP,ns≠[])
  (h:∀p:Array Nat,p.toList.Perm (qf vs.length)->(p.toList.map λi=>jP.getD i [])=XM jP->Q (.ref (s.heap.objs.size+1)) { s with heap:=sortedAll s.heap vs (qK (p.toList.map λi=>vs.getD i qR)) }):xg (xD prog w) A (call (.builtin "sorted") [.ref l]) Q E s:=by
 refine qbc kind_sorted plain_sorted entry_sorted (args_sorted1 _) ?_;unfold Builtin.«sorted»;refine xb (m:=checkCount "sorted" 1 1 _) (xc ?_);refine xb (collect_list hl ?_ (by rw[sizeLine_eq];omega));refine xb (xB ?_);have z1:((s.heap.push (seqObj "list" #[] 0)).update s.heap.objs.size (qU (· ++ vs.toArray))).objs.size=s.heap.objs.size+1:=by rw[Heap.size_update,size_push']
 have g1:(((s.heap.push (seqObj "list" #[] 0)).update s.heap.objs.size (qU (· ++ vs.toArray))).push (seqObj "list" vs.toArray 0)).get? (s.heap.objs.size+1)=some (seqObj "list" vs.toArray 0):=by rw[<-z1];exact qz _ rfl
 have kp:∀c o,c≠s.heap.objs.size->s.heap.get? c=some o->(((s.heap.push (seqObj "list" #[] 0)).update s.heap.objs.size (qU (· ++ vs.toArray))).push (seqObj "list" vs.toArray 0)).get? c=some o:=λc o hc e=>qd _ (by rw[zX _ _ _ _ hc];exact qd _ e);have ht2:Paired (W9 (((s.heap.push (seqObj "list" #[] 0)).update s.heap.objs.size (qU (· ++ vs.toArray))).push (seqObj "list" vs.toArray 0))) vs jP:=L2.Paired.mapP ht λv ns ⟨a,xs,e,⟨o,ho,r⟩,i⟩=>⟨a,xs,e,⟨o,kp a o (qD (qC ho)) ho,r⟩,i⟩;rw[z1];refine xb (xy (wpAny_call_entry slot_list_sort ⟨_,g1,rfl⟩ entry_list_sort (Zf2 g1 ht2 h64 nd hne λp a1 a2=>⟨_,rfl,?_⟩) (args_list_sort _)));exact xc ⟨_,rfl,h p a1 a2⟩
end
theorem Paired.pick {F:α->β->Prop}{l:List α}{r:List β}(d:α)(d':β)(h:Paired F l r):∀(ix:List Nat),(∀i∈ix,i<l.length)->Paired F (ix.map λi=>l.getD i d) (ix.map λi=>r.getD i d')
 | [],_=>.nil
 | i::ix,hb=>.cons (jq d d' h (hb i (by simp))) (Paired.pick d d' h ix λj m=>hb j (qY _ m))
end TS
namespace TF
open L2 TS
section
variable {X:Cx}{G:Gh}
theorem Zb6 {σ:St}(I:Inv X jI σ H s)(hT:∀v ns,T v ns->∃a,v=.ref a/\ZO X.K H a (ns.map V.int)):∀{vs:List V} {jK:List Value} {jP:List (List Int)},Zu vs jK->Paired T vs jP->Paired (W9 s.heap) jK jP
 | _,_,_,.nil,.nil=>.nil
 | _,_,_,.cons r rr,.cons t tt=>by
  refine .cons ?_ (Zb6 I hT rr tt);obtain⟨a,rfl,hq⟩:=hT _ _ t
  cases r
  obtain⟨xs,rv,pl,hz⟩:=I.tuple hq;exact⟨a,xs,rfl,show s.heap.IsTuple a xs.toArray from pl,W0 rv⟩
theorem Zf3:XB X (.builtin "sorted") (λxs H Q=>∃(p:Addr) (vs:List V) (jP:List (List Int)) (T:V->List Int->Prop),xs=[.ref p]/\Zw X.K H p vs/\(∀v ns,T v ns->∃a,v=.ref a/\ZO X.K H a (ns.map V.int))/\Paired T vs jP/\
  jP.length<64/\jP.Nodup/\(2<=jP.length->∀ns∈jP,ns≠[])/\∀l vs',Paired T vs' (XM jP)->H l=none->Q (.ref l) (Zi H l (.lst vs'))):=by
 intro jI s σ H xs us Q I r h;obtain⟨p,vs,jP,T,rfl,hp,hT,pT,h64,nd,hne,q⟩:=h;obtain⟨u,rfl,ru⟩:=XC r
 cases ru
 obtain⟨jK,rv,pl,hz⟩:=I.list hp;have hl:=rv.length;have hl2:vs.length=jP.length:=y8 pT;refine Zlw pl.isList (Zb6 I hT rv pT) (by omega) nd (λz=>hne (by omega)) λpm a1 a2=>?_;obtain⟨e,he⟩:=sortedAll_at s.heap jK (qK (pm.toList.map λi=>jK.getD i qR));have hle:s.heap.objs.size<=s.heap.objs.size+1:=qaA _;have hb:∀i∈pm.toList,i<jK.length:=λi m=>by
  have:=a1.mem_iff.mp m;simp_all
 have pv:Zu (pm.toList.map λi=>vs.getD i V.non) (pm.toList.map λi=>jK.getD i qR):=TS.Paired.pick _ _ rv _ λi m=>by rw[hl];exact hb i m
 have pt:Paired T (pm.toList.map λi=>vs.getD i V.non) (pm.toList.map λi=>jP.getD i []):=TS.Paired.pick _ _ pT _ λi m=>by rw[hl];exact hb i m
 rw[a2]at pt;refine⟨.ref (s.heap.objs.size+1),_,I.laid (o:=.lst (pm.toList.map λi=>vs.getD i V.non)) (λ_ _=>sortedAll_old) hle ⟨?_,_,e,pv,he⟩,rfl,q _ _ pt (I.hok.fresh hle)⟩;have:=a1.length_eq
 grind
noncomputable def Xv (ns:List Int):D:=.tup (ns.map .int)
noncomputable def WQ:List D->Option (List (List Int))
 | []=>some []
 | .tup ds::r=>match ZE ds,WQ r with | some ns,some jP=>some (ns::jP) | _,_=>none
 | _::_=>none
theorem Zbv:∀jP:List (List Int),WQ (jP.map Xv)=some jP
 | []=>rfl
 | ns::jP=>by
  show(match ZE (ns.map D.int),WQ (jP.map Xv)with | some ns,some jP=>some (ns::jP) | _,_=>none)=_;rw[JZ,Zbv jP]
theorem Zb7:∀{ds:List D} {jP:List (List Int)},WQ ds=some jP->ds=jP.map Xv
 | [],jP,h=>by
  cases h;rfl
 | d::r,jP,h=>by
  cases d with
  | tup ds=>
   have h:(match ZE ds,WQ r with | some ns,some jP=>some (ns::jP) | _,_=>none)=some jP:=h
   cases e1:ZE ds with
   | none=>simp_all
   | some ns=>
    cases e2:WQ r with
    | none=>simp_all
    | some ms=>
     rw[e1,e2]at h;cases h;rw[yc,<-Zb7 e2];unfold Xv;rw[<-Wm e1]
  | _=>cases h
noncomputable def Vy (jP:List (List Int)):Prop:=jP.length<64/\jP.Nodup/\(2<=jP.length->∀ns∈jP,ns≠[])
noncomputable instance (jP:List (List Int)):Decidable (Vy jP):=by unfold Vy;infer_instance
noncomputable def UH:List D->Option D
 | [.lst ds]=>match WQ ds with | some jP=>if Vy jP then some (.lst ((XM jP).map Xv))else none | none=>none
 | _=>none
theorem Zb8:∀{jP:List (List Int)} {vs:List V},Zj G Hf (jP.map Xv) vs->Paired (λv ns=>Zl G Hf (Xv ns) v) vs jP
 | [],vs,h=>by
  rw[Zj.nil_iff.mp h];exact .nil
 | ns::jP,vs,h=>by
  obtain⟨v,r,rfl,h1,h2⟩:=jd.mp h;exact .cons h1 (Zb8 h2)
theorem Zem:∀{jP:List (List Int)} {vs:List V},Paired (λv ns=>Zl G Hf (Xv ns) v) vs jP->Zj G Hf (jP.map Xv) vs
 | _,_,.nil=>Zj.nil_iff.mpr rfl
 | _,_,.cons h t=>.cons h (Zem t)
theorem Zbc:X5 X G (.builtin "sorted") UH:=
 ⟨_,Zf3,λHf H s xs ds c Q e1 st r q k=>by
  match ds,q,r with
  | [.lst es],q,r=>
   have q:(match WQ es with | some jP=>if Vy jP then some (D.lst ((XM jP).map Xv))else none | none=>none)=some c:=q
   cases he:WQ es with
   | none=>rw[he]at q;cases q
   | some jP=>
    rw[he]at q;have q:(if Vy jP then some (D.lst ((XM jP).map Xv))else none)=some c:=q;split at q
    ·rename_i ok
     cases q
     obtain⟨v,rfl,rv⟩:=jh r;obtain⟨p,vs,rfl,np,hp,rp⟩:=jb.mp rv;rw[Zb7 he]at rp;refine⟨p,vs,jP,λv ns=>Zl G Hf (Xv ns) v,rfl,Zw.of (e1 _ _ np hp),λv ns h=>?_,Zb8 rp,ok.1,ok.2.1,ok.2.2,λl vs' pt hl=>?_⟩
     ·obtain⟨a,us,rfl,na,ha,ra⟩:=jc.mp h
      rw[jk ra]at ha;exact⟨a,rfl,ZO.of (e1 _ _ na ha)⟩
     ·have nf:=Gh.nofp st hl
      have g2:=Gr.new (o:=.lst vs') e1 hl nf;have rl:=Zem pt;exact k (.ref l) _ _ g2 (Gh.grow st hl) (jb.mpr ⟨l,_,rfl,nf,ZD,rl.ext g2.ff⟩) (YA.mk e1 hl nf rl)
    ·cases q⟩
end
end TF
namespace TF
open L2
section
variable {X:Cx}{G:Gh}{own:List Nat}{fr:Bool}
end
section
variable {X:Cx}{G:Gh}
noncomputable def vD:V->Option D
 | .int i=>some (.int i)
 | .bl b=>some (.bl b)
 | .str x=>some (.str x)
 | .non=>some .non
 | _=>none
theorem Zpe (h:vD v=some c):Zl G H c v:=by
 cases v with
 | int i=>cases h;rfl
 | bl i=>cases h;rfl
 | str i=>cases h;rfl
 | non=>cases h;rfl
 | _=>cases h
noncomputable def Ut:D->D->Option D
 | .dk kvs,y=>match XD y with | some k=>(Z1 kvs k).bind vD | none=>none
 | .df kvs,y=>match XD y with | some k=>(Z1 kvs k).bind vD | none=>none
 | .dt kvs,.tup ks=>match Xr ks with | some k=>(Z1 kvs k).bind vD | none=>none
 | .du kvs,.tup ks=>match Xr ks with | some k=>(Z1 kvs k).bind vD | none=>none
 | _,_=>none
theorem Ziv (hu:X.A.units+1<cLine)(ha:PD X G r1 a fa)(hb:PD X G r2 b fb)(hs:NoSl b:=by intro _ _;rfl):PD X G false (.Subscript a b pos) (Ze Ut fa fb):=by
 obtain⟨ta,pa,qa⟩:=ha.drop;obtain⟨tb,pb,qb⟩:=hb.drop;refine⟨_,WP hu pa pb hs,fun σ Hf H ρ s d s' Q e1 e2 e3 e4 k=>?_⟩;obtain⟨da,s1,a1,a2⟩:=ZA e4;obtain⟨db,s2,a3,a4⟩:=ZA a2;obtain⟨a5,rfl⟩:=Wx a4;refine qa σ Hf H ρ s da s1 _ e1 e2 e3 a1 λx jU H1 g1 j9 r1=>?_;refine qb σ jU H1 ρ s1 db _ _ g1.fh (e2.ext g1.ff) j9 a3 λy j8 H2 g2 jW r2=>?_;have r1:=r1.ext g2.ff;have fin:∀v c,d=c->vD v=some c->Q v H2:=λv c ec h=>by
  subst ec;exact k v j8 H2 (g1.trans g2) jW (Zpe h) (λz=>by cases z)
 match da,a5,r1 with
 | .dk kvs,a5,r1=>
  obtain⟨p,rfl,np,hp⟩:=jj.mp r1;have a5:(match XD db with | some k=>(Z1 kvs k).bind vD | none=>none)=some d:=a5
  cases ek:XD db with
  | none=>rw[ek]at a5;cases a5
  | some ky=>
   rw[ek]at a5;obtain⟨v,ev,e6⟩:=yP.mp a5;have ey:=Jb ek r2;subst ey;refine⟨p,v,rfl,?_,fin v d rfl e6⟩;rw[<-ev];exact Xt.k (g2.fh _ _ np hp)
 | .df kvs,a5,r1=>
  obtain⟨p,o,rfl,np,hp⟩:=jr.mp r1;have a5:(match XD db with | some k=>(Z1 kvs k).bind vD | none=>none)=some d:=a5
  cases ek:XD db with
  | none=>rw[ek]at a5;cases a5
  | some ky=>
   rw[ek]at a5;obtain⟨v,ev,e6⟩:=yP.mp a5;have ey:=Jb ek r2;subst ey;exact⟨p,v,rfl,.inl ⟨kvs,ky,.inr ⟨o,g2.fh _ _ np hp⟩,rfl,ev.symm⟩,fin v d rfl e6⟩
 | .du kvs,a5,r1=>
  obtain⟨p,rfl,np,hp⟩:=jm.mp r1
  match db,a5,r2 with
  | .tup ks,a5,r2=>
   have a5:(match Xr ks with | some k=>(Z1 kvs k).bind vD | none=>none)=some d:=a5;obtain⟨q,vs,rfl,nq,hq,rq⟩:=jc.mp r2
   cases ek:Xr ks with
   | none=>rw[ek]at a5;cases a5
   | some ky=>
    rw[ek]at a5;obtain⟨v,ev,e6⟩:=yP.mp a5;have ey:=UB ek rq;subst ey;refine⟨p,v,rfl,?_,fin v d rfl e6⟩;rw[<-ev];exact Xt.t (g2.fh _ _ np hp) (g2.fh _ _ nq hq)
 | .dt kvs,a5,r1=>
  obtain⟨p,o,rfl,np,hp⟩:=jl.mp r1
  match db,a5,r2 with
  | .tup ks,a5,r2=>
   have a5:(match Xr ks with | some k=>(Z1 kvs k).bind vD | none=>none)=some d:=a5;obtain⟨q,vs,rfl,nq,hq,rq⟩:=jc.mp r2
   cases ek:Xr ks with
   | none=>simp_all
   | some ky=>
    rw[ek]at a5;obtain⟨v,ev,e6⟩:=yP.mp a5;have ey:=UB ek rq;subst ey;exact⟨p,v,rfl,.inr ⟨kvs,ky,q,.inr ⟨o,g2.fh _ _ np hp⟩,rfl,g2.fh _ _ nq hq,ev.symm⟩,fin v d rfl e6⟩
end
section
variable {X:Cx}{G:Gh}{ob:List Nat}{fr:Bool}
end
section
variable {X:Cx}{G:Gh}{ob own:List Nat}{fr:Bool}
noncomputable def Jq (c:Zc->M Bool)(g:Zc->M Out):Nat->Zc->M Out
 | 0,_=>Zv
 | n+1,ρ=>Zp (c ρ) λb=>if b=true then Zp (g ρ) λo=>match o with | .nx ρ2=>Jq c g n ρ2 | .ct ρ2=>Jq c g n ρ2 | .bk ρ2=>Zy (.nx ρ2) | .rt d=>Zy (.rt d)else Zy (.nx ρ)
noncomputable def Bp (n:Nat)(c:Zc->M Bool)(g:Zc->M Out):Zc->M Out:=Jq c g n
theorem Zen (hp:PassesOwn (xD X.prog X.w) X.A X.env X.xe)(hc:Vb X G c fc)(hb:X7 X G own own own fr body g):YM X G ob own own fr (.While c body [] pos) (Bp n fc g):=by
 obtain⟨tc,pc,qc⟩:=hc;obtain⟨tb,pb,qb⟩:=hb;refine⟨_,Zkm hp pc pb,λkn jS H0 σ H ρ s out s' E ⟨Hf,j⟩ st e po=>?_⟩;refine⟨λm σ2 H2=>∃ρ2 s2,J G own kn jS H0 σ2 H2 ρ2/\G.st s2 H2/\Jq fc g m ρ2 s2=some (out,s'),⟨n,ρ,s,⟨Hf,j⟩,st,e⟩,?_⟩;rintro m σ2 H2 ⟨ρ2,s2,⟨j8,j2⟩,jW,eq2⟩
 cases m with
 | zero=>cases eq2
 | succ m=>
  obtain⟨b,s3,a1,a2⟩:=ZA eq2;refine qc σ2 _ H2 ρ2 s2 b s3 _ UG j2.envB jW a1 λHf' H' g' st'=>?_;obtain⟨F,j',fF,q1,q2⟩:=j2.growB g'
  cases b with
  | false=>
   obtain⟨rfl,rfl⟩:=ZM a2;exact Ur (po σ2 H' ⟨F,j'⟩ st')
  | true=>
   rw[if_pos rfl]at a2;obtain⟨o,s4,b3,b4⟩:=ZA a2;refine VD ⟨fun σ' H'=>∃ρ5 s5,J G own kn jS H0 σ' H' ρ5/\G.st s5 H'/\Jq fc g m ρ5 s5=some (out,s'),fun σ' H' h=>⟨m,z9 m,h⟩,?_⟩;refine qb kn jS H0 σ2 H' ρ2 s3 o s4 _ ⟨F,j'⟩ st' b3 ?_
   cases o with
   | nx ρ5=>exact fun σ5 H5 j5 st5=>⟨ρ5,s4,j5,st5,b4⟩
   | ct ρ5=>exact fun σ5 H5 j5 st5=>⟨ρ5,s4,j5,st5,b4⟩
   | bk ρ5=>
    obtain⟨rfl,rfl⟩:=ZM b4;exact fun σ5 H5 j5 st5=>po σ5 H5 j5 st5
   | rt d=>
    obtain⟨rfl,rfl⟩:=ZM b4;exact po
end
theorem Ok.swhile (I:Nat->Zc->Pn->Prop)(m:Nat)(hm:m<n)(h0:I m ρ s)
  (step:∀m ρ s,I m ρ s->Ok (c ρ) s λb s1=>if b=true then Ok (g ρ) s1 λo s2=>match o with | .nx ρ'=>∃m',m'<m/\I m' ρ' s2 | .ct ρ'=>∃m',m'<m/\I m' ρ' s2 | .bk ρ'=>Q (.nx ρ') s2 | .rt d=>Q (.rt d) s2 else Q (.nx ρ) s1):Ok (Bp n c g ρ) s Q:=by
 show Ok (Jq c g n ρ) s Q
 induction n generalizing m ρ s with
 | zero=>omega
 | succ n ih=>
  refine Ok.bind ((step m ρ s h0).mono λb s1 q=>?_)
  cases b with
  | false=>exact .ret (by simpa using q)
  | true=>
   rw[if_pos rfl];refine Ok.bind (q.mono λo s2 q=>?_)
   cases o with
   | nx ρ'=>obtain⟨m',hm',h'⟩:=q;exact ih m' (by omega) h'
   | ct ρ'=>obtain⟨m',hm',h'⟩:=q;exact ih m' (by omega) h'
   | bk ρ'=>exact .ret q
   | rt d=>exact .ret q
section
variable {X:Cx}{G:Gh}{ob own:List Nat}{fr:Bool}
theorem Zlx:PD X G true (.Dict [] [] pos) (dC (.dk [])):=by
 refine⟨_,ZkC,fun σ Hf H ρ s d s' Q e1 e2 e3 e4 k=>?_⟩;obtain⟨rfl,rfl⟩:=ZM e4;intro p hp;have nf:=Gh.nofp e3 hp;have g2:=Gr.new (o:=.dK []) e1 hp nf;exact k (.ref p) _ _ g2 (Gh.grow e3 hp) (jj.mpr ⟨p,rfl,nf,ZD⟩) λ_ a ea _=>by simp_all
noncomputable def JB (i:Nat)(fx fv:Zc->M D):Zc->M Out:=fun ρ=>Zp (fv ρ) λv=>Zp (fx ρ) λx=>match (ρ[i]?).bind id with
 | some (.dk kvs)=>match XD x,X6 v with | some k,some w=>if kvs.length<xh then Zy (.nx (ρ.set i (some (.dk (Yh kvs k w)))))else Zv | _,_=>Zv
 | _=>Zv
theorem Zly (hu:X.A.units+1<cLine)(hi:i∈own)(hn:PE X (.Name x p1) (Z6 i))(px:PE X ex tx)(yx:WC G own r1 tx fx)(pv':PE X ev tv)(yv:WC G own r2 tv fv)
  (hs:xt ev (some (.Subscript (.Name x p1) ex p2)) pos.line X.env=pure false) :
  YM X G ob own own fr (.Assign [.Subscript (.Name x p1) ex p2] ev pos) (JB i fx fv):=by
 refine⟨_,ZeQ hu hn px pv' hs,λkn jS H0 σ H ρ s out s' E ⟨Hf,j⟩ st e po=>?_⟩;obtain⟨v,s1,a1,a2⟩:=ZA e;obtain⟨xx,s2,a3,a4⟩:=ZA a2;refine yv kn jS H0 σ Hf H ρ s v s1 _ j st a1 λw jU H1 j1 e1 e2 j9 r1 _=>?_
 cases hb:(ρ[i]?).bind id with
 | none=>rw[hb]at a4;cases a4
 | some c=>
  rw[hb]at a4
  cases c with
  | dk kvs=>
   have a4':(match XD xx,X6 v with | some k,some w=>if kvs.length<xh then Zy (Out.nx (ρ.set i (some (.dk (Yh kvs k w)))))else Zv | _,_=>Zv) s2=some (out,s'):=a4
   cases hk:XD xx with
   | none=>rw[hk]at a4';cases a4'
   | some k=>
    cases hw:X6 v with
    | none=>rw[hk,hw]at a4';cases a4'
    | some w'=>
     rw[hk,hw]at a4';obtain⟨hl,a5⟩:=Y6 a4';obtain⟨rfl,rfl⟩:=ZM a5;have ei:=Jj hb;obtain⟨a,h1,h2,h3,h4,h5⟩:=j1.ow i _ hi ei;refine⟨_,h1,?_⟩;refine yx kn jS H0 σ jU H1 ρ s1 _ _ _ j1 j9 a3 λw2 j8 H2 j2 e3 e4 jW r2 _=>?_;obtain⟨a',h1',h2',h3',h4',h5'⟩:=j2.ow i _ hi ei;rw[h1]at h1';cases h1';have ek:=Jb hk r2;subst ek;have ew:=Za5 hw r1;subst ew;refine⟨a,_,rfl,Wr.k (show H2 a=some (.dK kvs)from h5') (by omega),?_⟩;exact po σ _ ⟨j8,j2.put hi ei h1 (show Zi H2 a (.dK (Yh kvs k w)) a=some (.dK (Yh kvs k w))from ZD)⟩ (js jW h2)
  | _=>cases a4
theorem Zjx (hu:X.A.units+1<cLine)(hi:i∈own)(hn:PE X (.Name x p1) (Z6 i))(hx:PD X G r1 ex fx)(hv:PD X G r2 ev fv)
  (hs:xt ev (some (.Subscript (.Name x p1) ex p2)) pos.line X.env=pure false:=by rfl) :
  YM X G ob own own fr (.Assign [.Subscript (.Name x p1) ex p2] ev pos) (JB i (fun ρ=>fx (YB own ρ)) (Y2 r2 fv)):=by
 obtain⟨tv,pv',qv⟩:=hv;obtain⟨tx,px,qx⟩:=hx;have yv:XZ G r2 tv fv:=qv;have yx:XZ G r1 tx fx:=qx;exact Zly hu hi hn px yx.a pv' yv.b hs
noncomputable def Wj (n:Int)(r:List Int):Int:=r.foldl min n
theorem Znl (r:List Int):∀n,Wj n r<=n/\∀a∈r,Wj n r<=a:=by
 induction r with
 | nil=>intro n;exact⟨Int.le_refl _,by simp⟩
 | cons b r ih=>
  intro n;obtain⟨h1,h2⟩:=ih (min n b);refine⟨?_,λa ha=>?_⟩
  ·show Wj (min n b) r<=n;omega
  ·show Wj (min n b) r<=a
   grind
theorem Zlz (r:List Int):∀n,Wj n r∈n::r:=by
 induction r with
 | nil=>simp[Wj]
 | cons b r ih=>
  intro n;show Wj (min n b) r∈n::b::r
  grind
theorem Zf4 {M:Int}(h1:M∈n::r)(h2:∀a∈n::r,M<=a):M=Wj n r:=by
 obtain⟨g1,g2⟩:=Znl r n;have g3:=h2 _ (Zlz r n)
 grind
noncomputable def ZlA:List D->Option D
 | [.lst ds]=>match ZE ds with | some (n::r)=>some (.int (Wj n r)) | _=>none
 | _=>none
theorem Zjy (hc:X.calm=true):XB X (.builtin "min") (λxs H Q=>∃p n r,xs=[.ref p]/\Zw X.K H p ((n::r).map V.int)/\Q (.int (Wj n r)) H):=by
 intro jI s σ H xs us Q I r h;obtain⟨p,n,rr,rfl,hp,q⟩:=h;obtain⟨u,rfl,ru⟩:=XC r
 cases ru
 obtain⟨jK,rv,pl,hz⟩:=I.list hp;have hi:IntsAre jK (n::rr):=W0 rv;obtain⟨xs,e⟩:=hi.allInts.items;have hns:n::rr=xs.toList.map (·.1):=by rw[<-hi.numsOf,<-nums_intItems,<-e]
 have hl:=pl.isList;rw[e]at hl;have hsz:0<xs.size:=by
  have h3:0<(n::rr).length:=by simp
  simp_all
 refine min_intList (I.ok.hd hc) hl hsz λv h' tk hv hk=>?_;obtain⟨t,rfl⟩:=intItems_at hv;obtain⟨h1,h2⟩:=argBest_lt (numAt xs) (xs.size-1);have e2:numAt xs (argBest (λi j=>decide (numAt xs i<numAt xs j)) (xs.size-1))=Wj n rr:=by
  refine Zf4 ?_ λa ha=>?_
  ·rw[hns,numAt_eq];exact getD_mem (by rw[qj,qO];omega)
  ·rw[hns]at ha
   obtain⟨j,hj,rfl⟩:=mem_getD ha;rw[qj,qO]at hj;rw[<-numAt_eq];exact h2 j (by omega)
 rw[e2];exact⟨.int (Wj n rr),H,I.kept hk,⟨_,rfl⟩,q⟩
theorem Zhl (hc:X.calm=true):X5 X G (.builtin "min") ZlA:=
 ⟨_,Zjy hc,λHf H s xs ds c Q e1 st r q k=>by
  match ds,q,r with
  | [.lst es],q,r=>
   have q:(match ZE es with | some (n::r)=>some (D.int (Wj n r)) | _=>none)=some c:=q
   cases he:ZE es with
   | none=>simp_all
   | some ns=>
    cases ns with
    | nil=>simp_all
    | cons n rr=>
     rw[he]at q
     cases q
     obtain⟨v,rfl,rv⟩:=jh r;obtain⟨p,vs,rfl,np,hp,rp⟩:=jb.mp rv;rw[Wm he]at rp;rw[jk rp]at hp;exact⟨p,n,rr,rfl,Zw.of (e1 _ _ np hp),k _ Hf H (.refl e1) st (ja.mpr rfl) (.scal λz=>z)⟩⟩
noncomputable def Zpf (K:qk):V->List V->Hp->VK->Prop:=λx vs H Q=>∃(p:Addr) (ns:List Int) (k:Int),x=.ref p/\vs=[.int k]/\Zw K H p (ns.map V.int)/\k∈ns/\Q (.int (ns.idxOf k:Nat)) H
theorem ZlB : MtR X "list.index" (Zpf X.K) := by
  intro jI s σ H x xs v us Q I rx rv h;obtain⟨p, ns, k, rfl, rfl, hp, hk, q⟩ := h
  cases rx
  obtain⟨u, rfl, t, rfl⟩ := XC rv;obtain⟨jK, r2, pl, hz⟩ := I.list hp;have hi : IntsAre jK ns := W0 r2;obtain⟨⟨c0, d0, dat, sl0⟩, hob, hcl, n0, hdat⟩ := id pl.isList;simp only at hcl hdat;subst hcl hdat;have l1 := hi.length;have l2 : ns.idxOf k < ns.length := by rw[qam]; exact hk
  have l3 : ns.length <= xh := by simpa using hz
  have l4 := Bk;have go := SeqAt.list_indexAt p jK.toArray n0 d0 sl0 (.int k t) (isInt k) (ns.idxOf k) (by simpa[l1] using l2) (by omega)
    (by show isInt k jK[ns.idxOf k] = true
        rw[isInt_at k hi (ns.idxOf k) (by omega) l2]; simp)
    (λj hjs hlt => by
        show isInt k jK[j] = false;rw[isInt_at k hi j (by omega) (by omega)]; exact ne_of_lt_idxOf hlt _)
  refine call_meets qbp ⟨_, hob, rfl⟩ PySem.F.entry_list_index (PySem.F.args_list_index_2 _ _) go ⟨hob, λy hy => (eq_isInt k t hi y (by simp_all)).at _ _, ?_⟩;exact⟨.int (ns.idxOf k : Nat), H, I.tok _, ⟨_, rfl⟩, q⟩
noncomputable def Ze0:D->D->Option D
 | .lst ds,.int k=>(ZE ds).bind λns=>if k∈ns then some (.int (ns.idxOf k:Nat))else none
 | _,_=>none
theorem ZlC {ap cp:Pos}(ho:PD X G r1 o fo)(he:PD X G r2 e fe)
  (hbase:xr o "index" X.env (eval o X.env)=eval o X.env:=by rfl)
  (hfew:((backTo cp (xi [e] X.env)).all (λx=>!x.1)&&(xq cp (xj [] X.env)).all (λx=>x.1.isSome)
   && decide ([e].length+([]:List Keyword).length+(if ([]:List Keyword).isEmpty then 0 else 1)<30))=true:=by rfl)
  (hline:(ap.endLine==cp.line)=true:=by rfl) (hs:xi [e] X.env=(false,eval e X.env)::xi [] X.env:=by rfl) :
  PD X G true (.Call (.Attribute o "index" ap) [e] [] cp) (Ze Ze0 fo fe):=by
 obtain⟨to,po,qo⟩:=ho.drop;obtain⟨te,pe,qe⟩:=he.drop;refine⟨_,Jx yf qbp PySem.F.type_list_index ZlB po (YF pe YX hs) hbase hfew hline hs rfl,fun σ Hf H ρ s d s' Q e1 e2 e3 e4 k=>?_⟩;obtain⟨da,s1,a1,a2⟩:=ZA e4;obtain⟨db,s2,a3,a4⟩:=ZA a2;obtain⟨a5,rfl⟩:=Wx a4;refine qo σ Hf H ρ s da s1 _ e1 e2 e3 a1 λx jU H1 g1 j9 r1=>?_
 match da,db,a5,r1,a3 with
 | .lst ds,.int kk,a5,r1,a3=>
  have a5:((ZE ds).bind λns=>if kk∈ns then some (D.int (ns.idxOf kk:Nat))else none)=some d:=a5
  cases he:ZE ds with
  | none=>rw[he]at a5;cases a5
  | some ns=>
   rw[he]at a5;have a5:(if kk∈ns then some (D.int (ns.idxOf kk:Nat))else none)=some d:=a5;split at a5
   ·rename_i hmem
    cases a5
    obtain⟨p,vs,rfl,np,hp,rp⟩:=jb.mp r1;refine⟨.inl ⟨rfl,vs,Zw.of (g1.fh _ _ np hp)⟩,?_⟩;refine qe σ jU H1 ρ s1 _ _ _ g1.fh (e2.ext g1.ff) j9 a3 λy j8 H2 g2 jW r2=>?_;rw[Wm he]at rp;rw[jk rp]at hp
    cases (ja.mp r2)
    exact⟨p,ns,kk,rfl,rfl,Zw.of (g2.fh _ _ np (g2.ff _ _ np hp)),hmem,k _ j8 H2 (g1.trans g2) jW (ja.mpr rfl) λ_=>.scal λz=>z⟩
   ·cases a5
noncomputable def sAug (i:Nat)(fv:Zc->M D):Zc->M Out:=fun ρ=>Zp (fv ρ) λv=>match (ρ[i]?).bind id,v with
 | some (.int a),.int b=>Zy (.nx (ρ.set i (some (.int (a+b)))))
 | _,_=>Zv
theorem ZlD (hN:X.N.Nodup)(hi:X.N[i]?=some x)(hx:WH X.env.scope x)(hio:i∉own)(pv':PE X ev tv)(yv:WC G own r1 tv fv)
  (hf:X.fn x=true∨X.env.scope.names.lookup x=some .local):YM X G ob own own fr (.AugAssign (.Name x p1) .Add ev pos) (sAug i fv):=by
 refine⟨_,ZoD hN hi hx pv' ZoE hf,λkn jS H0 σ H ρ s out s' E ⟨Hf,j⟩ st e po=>?_⟩;obtain⟨v,s1,a1,a2⟩:=ZA e
 cases hb:(ρ[i]?).bind id with
 | none=>rw[hb]at a2;cases a2
 | some c=>
  rw[hb]at a2
  cases c with
  | int a=>
   cases v with
   | int b=>
    obtain⟨rfl,rfl⟩:=ZM a2;obtain⟨w,h1,h2⟩:=j.fz i _ hio (Jj hb);rw[ja.mp h2]at h1;refine⟨_,h1,yv kn jS H0 σ Hf H ρ s _ _ _ j st a1 λw2 jU H1 j1 e1 e2 j9 r1 _=>?_⟩;rw[ja.mp r1];exact⟨a,b,rfl,rfl,po _ _ ⟨jU,j1.setF hio (ja.mpr rfl)⟩ j9⟩
   | _=>cases a2
  | _=>cases v <;> cases a2
theorem Znm {p1 pos:Pos}(hN:X.N.Nodup)(hi:X.N[i]?=some x)(hx:WH X.env.scope x)(hv:PD X G r1 ev fv)(hio:i∉own:=by decide)
  (hf:X.fn x=true∨X.env.scope.names.lookup x=some .local:=by first | exact .inl rfl | exact .inr rfl | assumption):YM X G ob own own fr (.AugAssign (.Name x p1) .Add ev pos) (sAug i (Y2 r1 fv)):=by
 obtain⟨tv,pv',qv⟩:=hv;have yv:XZ G r1 tv fv:=qv;exact ZlD hN hi hx hio pv' yv.b hf
end
section
variable {X:Cx}{G:Gh}{ob own:List Nat}{fr:Bool}
noncomputable def ZlE (d e:D):Option D:=match e with | .non=>(UR d).map λb=>.bl (!b) | _=>none
theorem ZlF:XQ X G (xl .IsNot) ZlE:=
 ⟨_,ZmG,λHf H s x y d e c Q e1 st rx ry q k=>by
  cases e with
  | non=>
   have q:(UR d).map (λb=>D.bl (!b))=some c:=q
   cases hb:UR d with
   | none=>simp_all
   | some b=>
    rw[hb]at q
    cases q
    refine⟨jg.mp ry,?_⟩;rw[Zek hb rx];exact k _ Hf H (.refl e1) st (je.mpr rfl) (.scal λz=>z)
  | _=>cases q⟩
noncomputable def keyT:D->Option (List ZJ)
 | .tup ks=>Xr ks
 | _=>none
noncomputable def JC (i:Nat)(fx fv:Zc->M D):Zc->M Out:=fun ρ=>Zp (fv ρ) λv=>Zp (fx ρ) λx=>match (ρ[i]?).bind id with
 | some (.du kvs)=>match keyT x,X6 v with | some k,some w=>if kvs.length<xh then Zy (.nx (ρ.set i (some (.du (Yh kvs k w)))))else Zv | _,_=>Zv
 | _=>Zv
theorem Zjz (hu:X.A.units+1<cLine)(hi:i∈own)(hn:PE X (.Name x p1) (Z6 i))(px:PE X ex tx)(yx:WC G own r1 tx fx)(pv':PE X ev tv)(yv:WC G own r2 tv fv)
  (hs:xt ev (some (.Subscript (.Name x p1) ex p2)) pos.line X.env=pure false) :
  YM X G ob own own fr (.Assign [.Subscript (.Name x p1) ex p2] ev pos) (JC i fx fv):=by
 refine⟨_,ZeQ hu hn px pv' hs,λkn jS H0 σ H ρ s out s' E ⟨Hf,j⟩ st e po=>?_⟩;obtain⟨v,s1,a1,a2⟩:=ZA e;obtain⟨xx,s2,a3,a4⟩:=ZA a2;refine yv kn jS H0 σ Hf H ρ s v s1 _ j st a1 λw jU H1 j1 e1 e2 j9 r1 _=>?_
 cases hb:(ρ[i]?).bind id with
 | none=>rw[hb]at a4;cases a4
 | some c=>
  rw[hb]at a4
  cases c with
  | du kvs=>
   have a4':(match keyT xx,X6 v with | some k,some w=>if kvs.length<xh then Zy (Out.nx (ρ.set i (some (.du (Yh kvs k w)))))else Zv | _,_=>Zv) s2=some (out,s'):=a4
   cases hk:keyT xx with
   | none=>rw[hk]at a4';cases a4'
   | some k=>
    cases hw:X6 v with
    | none=>rw[hk,hw]at a4';cases a4'
    | some w'=>
     rw[hk,hw]at a4';obtain⟨hl,a5⟩:=Y6 a4';obtain⟨rfl,rfl⟩:=ZM a5;have ei:=Jj hb;obtain⟨a,h1,h2,h3,h4,h5⟩:=j1.ow i _ hi ei;refine⟨_,h1,?_⟩;refine yx kn jS H0 σ jU H1 ρ s1 _ _ _ j1 j9 a3 λw2 j8 H2 j2 e3 e4 jW r2 _=>?_;obtain⟨a',h1',h2',h3',h4',h5'⟩:=j2.ow i _ hi ei;rw[h1]at h1';cases h1';have ew:=Za5 hw r1;subst ew
     match xx,hk,r2 with
     | .tup ks,hk,r2=>
      obtain⟨q,vs,rfl,nq,hq,rq⟩:=jc.mp r2;have ey:=UB (show Xr ks=some k from hk) rq;subst ey;refine⟨a,_,rfl,Wr.t (show H2 a=some (.dT kvs)from h5') (j2.gr.fh _ _ nq hq) (by omega),?_⟩;exact po σ _ ⟨j8,j2.put hi ei h1 (show Zi H2 a (.dT (Yh kvs k w)) a=some (.dT (Yh kvs k w))from ZD)⟩ (js jW h2)
  | _=>cases a4
theorem Zhm (hu:X.A.units+1<cLine)(hi:i∈own)(hn:PE X (.Name x p1) (Z6 i))(hx:PD X G r1 ex fx)(hv:PD X G r2 ev fv)
  (hs:xt ev (some (.Subscript (.Name x p1) ex p2)) pos.line X.env=pure false:=by rfl) :
  YM X G ob own own fr (.Assign [.Subscript (.Name x p1) ex p2] ev pos) (JC i (fun ρ=>fx (YB own ρ)) (fun ρ=>fv (YB own ρ))):=by
 obtain⟨tv,pv',qv⟩:=hv;obtain⟨tx,px,qx⟩:=hx;have yv:XZ G r2 tv fv:=qv;have yx:XZ G r1 tx fx:=qx;exact Zjz hu hi hn px yx.a pv' yv.a hs
end
end TF
namespace HT
theorem ZlG:isSubtype (.type "tuple") (.type "set")=pure false:=by rfl
theorem Zf5:isSubtype (.type "tuple") (.type "frozenset")=pure false:=by rfl
section
variable {prog:xF}{w:World}{A:xG}{E:xH}{s:Shared}
noncomputable abbrev Xf (led:Bool):Obj:={ cls:=.type "set",dict:=none,data:=.set #[] 0 (.fresh 0 0 led) }
end
end HT
namespace TF
open L2
section
variable {X:Cx}{G:Gh}
theorem Zcv (ns:List Int)(n:Nat)(h:n=ns.length):firstMet (λi=>ns.getD i 0) n=ns.foldl step_dedup []:=by
 unfold firstMet;congr 1;apply yW;intro i;rw[qM];by_cases hi:i<ns.length
 ·simp_all
 ·grind
theorem Znn (ns:List Int):∀jO:List Int,(ns.foldl step_dedup jO).length<=jO.length+ns.length:=by
 induction ns with
 | nil=>simp
 | cons a r ih=>
  intro jO;have:(step_dedup jO a).length<=jO.length+1:=by unfold step_dedup;split <;> simp
  grind
theorem ZaD (ns:List Int):(ns.foldl step_dedup []).Nodup/\∀x,x∈ns.foldl step_dedup []↔x∈ns:=by
 have gen:∀(r jO:List Int),jO.Nodup->(r.foldl step_dedup jO).Nodup/\∀x,x∈r.foldl step_dedup jO↔x∈jO∨x∈r:=by
  intro r
  induction r with
  | nil=>intro jO h;exact⟨h,λx=>by simp⟩
  | cons a r ih=>
   intro jO h;show(r.foldl step_dedup (step_dedup jO a)).Nodup/\∀x,x∈r.foldl step_dedup (step_dedup jO a)↔_;by_cases m:jO.any (· == a)=true
   ·have e:step_dedup jO a=jO:=by unfold step_dedup;rw[if_pos m]
    rw[e];obtain⟨h1,h2⟩:=ih jO h;obtain⟨y,hy,ey⟩:=qbi.mp m;have ey:y=a:=by simpa using ey
    subst ey;refine⟨h1,λx=>?_⟩;rw[h2 x];constructor
    ·rintro(z | z)
     ·exact .inl z
     ·exact .inr (qY _ z)
    ·rintro(z | z)
     ·exact .inl z
     ·rcases qy.mp z with z | z
      ·subst z;exact .inl hy
      ·exact .inr z
   ·have e:step_dedup jO a=jO ++ [a]:=by unfold step_dedup;rw[if_neg m]
    rw[e];have na:a∉jO:=λz=>m (qbi.mpr ⟨a,z,by simp⟩);obtain⟨h1,h2⟩:=ih (jO ++ [a]) (qa9.mpr ⟨h,by simp,λx hx y hy=>by
     grind⟩)
    refine⟨h1,λx=>?_⟩;rw[h2 x];simp
    grind
 simp_all
end
end TF
namespace HT
section
variable {prog:xF}{w:World}{A:xG}{R:Result->Shared->Prop}{I:Addr}{fp wr:List Addr}{n:Nat}{P:Nat->Value->Prop}{St:Nat->Heap->Prop}
theorem ZjA (kw:List (Str×Value))(W:Walks prog w A.in1 I fp wr n P St)(bt:Nat->Nat->Bool)(hcmp:CmpOf prog w A.in1 .Gt P bt)(S:Addr)(hSf:S∉fp):∀(k j:Nat) (s:Shared) (vb:Value) (c:Nat),n-(j+1)=k->j+1<=n->St (j+1) s.heap->P (argBest bt j) vb->s.heap.get? S=some { cls:=.type "list",dict:=none,data:=.seq #[vb,vb] c,slots:=#[] }->
  (∀v h' tk,P (argBest bt (n-1)) v->(∀b o,b∉wr->b≠S->s.heap.get? b=some o->h'.get? b=some o)->R (.ok (.ret v)) { s with heap:=h',toks:=tk })->xp (xD prog w) A (.builtin "max.loop" ⟨[.ref I,.none,.ref S],kw⟩) R s:=by
 have hSw:S∉wr:=λh=>hSf (W.sub _ h);have hname:(toString "max" ++ toString ".loop" : String) = "max.loop":=by decide
 intro k
 induction k with
 | zero=>
  intro j s vb c hk hj hst hPb hS hR;have hin:j+1=n:=by omega
  refine xo qaD ?_;rw[zp zW _];show xg _ A.in1 (seqItems? (.ref S) >>= _) _ _ s;refine xb (xu hS rfl ?_);show xg _ A.in1 (tryCatch (pyNext (.ref I)) _ >>= _) _ _ s;refine xb (xw (W.done s _ _ (hin▸hst) λh' tk hk'=>?_));have hS':=hk' S _ hSw hS;show xg _ A.in1 (updateSeq S (λ_=>#[]) >>= _) _ _ _;refine xb ?_;refine xA hS' rfl (xb (xz (xc ?_)));refine hR vb _ tk (by rw[<-hin];exact hPb) λb o hbw hbS e=>(zj _ _ (zh hbS)).trans (hk' b o hbw e)
 | succ k ih=>
  intro j s vb c hk hj hst hPb hS hR;have hlt:j+1<n:=by omega
  refine xo qaD ?_;rw[zp zW _];show xg _ A.in1 (seqItems? (.ref S) >>= _) _ _ s;refine xb (xu hS rfl ?_);show xg _ A.in1 (tryCatch (pyNext (.ref I)) _ >>= _) _ _ s;refine xb (xw (W.item (j+1) s _ _ hlt hst λv h' tk hP hst' hk'=>?_));have hS':=hk' S _ hSw hS;show xg _ A.in1 (tryCatch (holding [v,v] (richCompare .Gt v vb >>= _)) _ >>= _) _ _ _;refine xb (xw (xy (xb (hcmp (j+1) (argBest bt j) v vb _ _ _ hP hPb ?_))));refine xb (xy (wpAny_truthy_bool ?_));refine xb (xz (xc ?_))
  cases hb:bt (j+1) (argBest bt j)with
  | true=>
   simp only[if_true];refine xb ?_;refine xA hS' rfl (xb (xz ?_));rw[hname];refine xc ⟨plainId_quiet zW _,ih (j+1) _ v _ (by omega) hlt (W.frame _ _ _ hst' λb hbf o e=>?_) (by simp only[argBest,hb,if_true];exact hP) (zD _ hS' rfl) λv' h'' tk'' hP' hk''=>?_⟩
   ·exact(zj _ _ (λh:S=b=>hSf (by rw[h];exact hbf))).trans e
   ·exact hR v' h'' tk'' hP' λb o hbw hbS e=>hk'' b o hbw hbS ((zj _ _ (zh hbS)).trans (hk' b o hbw e))
  | false=>
   simp only[yo,if_false];refine xb (xz ?_);rw[hname];refine xc ⟨plainId_quiet zW _,ih (j+1) _ vb c (by omega) hlt hst' (by simp only[argBest,hb];exact hPb) hS' λv' h'' tk'' hP' hk''=>?_⟩;exact hR v' h'' tk'' hP' λb o hbw hbS e=>hk'' b o hbw hbS (hk' b o hbw e)
theorem Zhn (d:Value)(W:Walks prog w A.in1 I fp wr n P St)(bt:Nat->Nat->Bool)(hcmp:CmpOf prog w A.in1 .Gt P bt)(S:Addr)(hSf:S∉fp)(hst:St 0 s.heap)(hS:s.heap.get? S=some { cls:=.type "list",dict:=none,data:=.seq #[] c,slots:=#[] })
  (hR:0<n->∀v h' tk,P (argBest bt (n-1)) v->(∀b o,b∉wr->b≠S->s.heap.get? b=some o->h'.get? b=some o)->R (.ok (.ret v)) { s with heap:=h',toks:=tk })
  (hD:n=0->∀h' tk,(∀b o,b∉wr->b≠S->s.heap.get? b=some o->h'.get? b=some o)->R (.ok (.ret d)) { s with heap:=h',toks:=tk }):xp (xD prog w) A (.builtin "max.loop" ⟨[.ref I,.none,.ref S],[("default",d)]⟩) R s:=by
 have hSw:S∉wr:=λh=>hSf (W.sub _ h);have hname:(toString "max" ++ toString ".loop" : String) = "max.loop":=by decide
 refine xo qaD ?_;rw[zp zW _];show xg _ A.in1 (seqItems? (.ref S) >>= _) _ _ s;refine xb (xu hS rfl ?_);show xg _ A.in1 (tryCatch (pyNext (.ref I)) _ >>= _) _ _ s;by_cases hn:0<n
 ·refine xb (xw (W.item 0 s _ _ hn hst λv h' tk hP hst' hk'=>?_));have hS':=hk' S _ hSw hS
  show xg _ A.in1 (updateSeq S (λ_=>#[v,v]) >>= _) _ _ _;refine xb ?_;refine xA hS' rfl ?_;rw[hname];refine xc ⟨plainId_quiet zW _,ZjA _ W bt hcmp S hSf _ 0 _ v _ rfl hn (W.frame _ _ _ hst' λb hbf o e=>?_) hP (zD _ hS' rfl) λv' h'' tk'' hP' hk''=>?_⟩
  ·exact(zj _ _ (λh:S=b=>hSf (by rw[h];exact hbf))).trans e
  ·exact hR hn v' h'' tk'' hP' λb o hbw hbS e=>hk'' b o hbw hbS ((zj _ _ (zh hbS)).trans (hk' b o hbw e))
 ·have h0:n=0:=by omega
  refine xb (xw (W.done s _ _ (by rw[h0];exact hst) λh' tk hk'=>?_));show xg _ A.in1 (do rule _;ret d) _ _ _;refine xb (wpAny_rule (xc ?_));exact hD h0 h' tk λb o hbw hbS e=>hk' b o hbw e
end
section
variable {prog:xF}{w:World}{A:xG}{E:xH}{s:Shared}
theorem ZjB (x d:Value):argsOk "max" ⟨[x],[("default",d)]⟩:=by rfl
theorem maxD_walk (h:xg (xD prog w) A.in1 (pyIter x) (λit s₂=>∃I fp wr n P St bt,it=.ref I/\Walks prog w A.in1 I fp wr n P St/\St 0 s₂.heap/\(∀b∈fp,b<s₂.heap.objs.size)/\CmpOf prog w A.in1 .Gt P bt/\
   (0<n->∀v h' tk,P (argBest bt (n-1)) v->(∀b o,b∉wr->s₂.heap.get? b=some o->h'.get? b=some o)->Q v { s₂ with heap:=h',toks:=tk })/\(n=0->∀h' tk,(∀b o,b∉wr->s₂.heap.get? b=some o->h'.get? b=some o)->Q d { s₂ with heap:=h',toks:=tk })) E s) :
  xg (xD prog w) A (call (.builtin "max") [x] [("default",d)]) Q E s:=by
 have hname:(toString "max" ++ toString ".loop" : String) = "max.loop":=by decide
 refine xC (codeAny_call_builtin PySem.F.plain_max PySem.F.entry_max ?_);simp only[checkBuiltinCall,PySem.F.kind_max];suffices hgo:xg (xD prog w) A.in1 (Builtin.«max» ⟨[x],[("default",d)]⟩) (λfin s'=>match fin with | .done f=>(match (Except.ok f:Result)with | .ok (.ret v)=>Q v s' | .ok _=>False | .error e=>E e s') | .again c'=>c'.quiet=true/\xp (xD prog w) A c' (λr s'=>match r with | .ok (.ret v)=>Q v s' | .ok _=>False | .error e=>E e s') s') E s by
  cases hsig:Manifest.signature? "max" with
  | none=>exact xc hgo
  | some sig=>
   have ha:=ZjB x d;simp only[argsOk,hsig]at ha;have h2:Bind.checkArgs "max" sig ⟨[x],[("default",d)]⟩=pure ():=ha;show xg _ A.in1 (Bind.checkArgs "max" sig ⟨[x],[("default",d)]⟩) _ _ s;rw[h2];exact xc hgo
 show xg _ A.in1 (qaZ "max" ["key","default"] 0 ⟨[],[("default",d)]⟩ >>= _) _ _ s;refine xb (wpAny_of_eq (show qaZ "max" ["key","default"] 0 ⟨[],[("default",d)]⟩=pure [none,some d]from rfl) ?_);refine xb (xc ?_);refine xb (xf h (λit s₂ h₂=>?_) λ_ _ e=>e);obtain⟨I,fp,wr,n,P,St,bt,rfl,W,hst,hfp,hcmp,hQ,hQ0⟩:=h₂;refine xb (xm ?_);have hSf:s₂.heap.objs.size∉fp:=λhm=>yk _ (hfp _ hm);rw[hname];refine xc ⟨plainId_quiet zW _,Zhn d W bt hcmp s₂.heap.objs.size hSf (W.frame _ _ _ hst λb _ o e=>qd _ e) (qz _ rfl) (λhn v h' tk hP hk=>?_) λhn h' tk hk=>?_⟩
 ·exact hQ hn v h' tk hP λb o hbw e=>hk b o hbw (qD (qC e)) (qd _ e)
 ·exact hQ0 hn h' tk λb o hbw e=>hk b o hbw (qD (qC e)) (qd _ e)
end
section
variable {prog:xF}{w:World}{A:xG}{R:Result->Shared->Prop}{I:Addr}{fp wr:List Addr}{n:Nat}{P:Nat->Value->Prop}{St:Nat->Heap->Prop}
end
section
variable {prog:xF}{w:World}{A:xG}{E:xH}{s:Shared}
end
end HT
namespace L2
section
variable {X:Cx}
theorem Zbd {id:String}:PySem.W.Looks M h (keeperOf (.builtin id)) qbG:=λA Q E s _ q=>by
 exact xc q
noncomputable def ZlH (X:Cx)(id:String)(nm:Str)(r:List V->List V->Hp->VK->Prop):Prop:=
 ∀(jI:Qb) (s:Shared) (σ:St) (H:Hp) (xs ys:List V) (us vs:List Value) (Q:VK),Inv X jI σ H s->Zu xs us->Zu ys vs->r xs ys H Q->xg (xD X.prog X.w) X.A (call (.builtin id) us ([nm].zip vs)) (EP X jI σ Q) X.xe s
noncomputable def tCK (r:List V->List V->Hp->VK->Prop)(ta tb:TE):TE:=fun σ H Q=>Xa ta Xo σ H λxs H1=>Xa tb Xo σ H1 λys H2=>r xs ys H2 Q
theorem ZjC {id:String}{p pos kpos:Pos}(hc:ZlH X id nm r)(hg:Gl X x)(hm:X.mg x=none)(hv:xk x=some (.builtin id))(ha:PE X e ta)(hb:PE X d tb)
  (hn:x≠"__name__":=by decide) (hdb:(x==("__debug__" : Str))=false:=by decide) (he:xi [e] X.env=(false,eval e X.env)::xi [] X.env:=by rfl)
  (hall:(xq pos (xj [⟨some nm,d,kpos⟩] X.env)).all (·.1.isSome)=true:=by rfl) (hks:(xq pos (xj [⟨some nm,d,kpos⟩] X.env)).filterMap (·.1)=[nm]:=by rfl)
  (hpl:((backTo pos (xi [e] X.env)).any (·.1)||(xq pos (xj [⟨some nm,d,kpos⟩] X.env)).any (·.1.isNone))=false:=by rfl):PE X (.Call (.Name x p) [e] [⟨some nm,d,kpos⟩] pos) (tCK r ta tb):=by
 intro jI s σ H Q I h;refine wpAny_Call_Name_kw (Uh I hg hm hv ?_ hn hdb);refine qb4 (P:=λ_=>True) hpl (λh _=>⟨qbG,.inr (.inl rfl),Zbd⟩) (evalArgs_kw2 hall (ZI ((YF ha YX he) pos jI s σ H _ I h) λus s1 ⟨vs,H1,I1,rv,q1⟩=>?_) he);refine ZI ((Zh0 hb Zku) pos jI s1 σ H1 _ I1 q1) λws s2 ⟨zs,H2,I2,rz,q2⟩=>?_;refine⟨trivial,?_⟩;exact hc jI s2 σ H2 vs zs us ws Q I2 rv rz q2
theorem Zho (hc:X.calm=true):ZlH X "max" "default" (λxs ys H Q=>∃(p:Addr) (ns:List Int) (y:V),xs=[.ref p]/\ys=[y]/\ZO X.K H p (ns.map V.int)/\Q (match ns with | n::r=>.int (TF.maxI n r) | []=>y) H):=by
 intro jI s σ H xs ys us vs Q I r r2 h;obtain⟨p,ns,y,rfl,rfl,hp,q⟩:=h;obtain⟨u,rfl,ru⟩:=XC r
 cases ru
 obtain⟨v,rfl,rv⟩:=XC r2;obtain⟨jK,rv2,pl,hz⟩:=I.tuple hp;have hi:IntsAre jK ns:=W0 rv2;obtain⟨xs,e⟩:=hi.allInts.items;have hns:ns=xs.toList.map (·.1):=by rw[<-hi.numsOf,<-nums_intItems,<-e]
 have hl:s.heap.IsTuple p jK.toArray:=pl;rw[e]at hl;have hpl:p<s.heap.objs.size:=by obtain⟨o,ho,_⟩:=hl;exact qC ho
 have hne:p≠s.heap.objs.size:=qD hpl;refine HT.maxD_walk (wpAny_pyIter_tuple hl ⟨s.heap.objs.size,_,_,_,_,_,_,rfl,Walks.tuple (A:=X.A.in1) (I.ok.hd hc) _ p hne (intItems xs),⟨⟨_,qz _ rfl,rfl,rfl⟩,hl.push _⟩,λb hb=>?_,CmpOf.ints_gt (numAt xs) (λ_ _=>intItems_at),λhn v h' tk hP hk=>?_,λhn h' tk hk=>?_⟩)
 ·rw[zN]
  rcases qy.mp hb with e1 | hb
  ·rw[e1];exact z9 _
  ·rw[qQ.mp hb];exact zB hpl
 ·have hkk:∀b o,s.heap.get? b=some o->h'.get? b=some o:=λb o eb=>hk b o (λhm=>qD (qC eb) (qQ.mp hm)) (qd _ eb)
  have hsz:0<xs.size:=by simpa[intItems]using hn
  have hn1:(intItems xs).size=xs.size:=by simp[intItems]
  rw[hn1]at hP;obtain⟨t,rfl⟩:=intItems_at hP;obtain⟨h1,h2⟩:=argBest_gt (numAt xs) (xs.size-1)
  cases ns with
  | nil=>
   have:xs.toList=[]:=List.map_eq_nil_iff.mp hns.symm;have:xs.size=0:=by rw[<-qO,this];rfl
   omega
  | cons n rr=>
   have e2:numAt xs (argBest (λi j=>decide (numAt xs i > numAt xs j)) (xs.size-1))=TF.maxI n rr:=by
    refine TF.max_uniq ?_ λa ha=>?_
    ·rw[hns,numAt_eq];exact getD_mem (by rw[qj,qO];omega)
    ·rw[hns]at ha
     obtain⟨j,hj,rfl⟩:=mem_getD ha;rw[qj,qO]at hj;rw[<-numAt_eq];exact h2 j (by omega)
   rw[e2];exact⟨.int (TF.maxI n rr),H,I.kept (t':=tk) hkk,⟨_,rfl⟩,q⟩
 ·have hkk:∀b o,s.heap.get? b=some o->h'.get? b=some o:=λb o eb=>hk b o (λhm=>qD (qC eb) (qQ.mp hm)) (qd _ eb)
  have h0:xs.size=0:=by simpa[intItems]using hn
  have:ns=[]:=by
   simp_all
  subst this;exact⟨y,H,I.kept hkk,rv,q⟩
end
end L2
namespace TF
open L2
section
variable {X:Cx}{G:Gh}
noncomputable def Bq (f g:Zc->M D):Zc->M D:=fun ρ=>Zp (f ρ) λd=>Zp (g ρ) λe=>match d with
 | .tup ds=>(match ZE ds with | some (n::r)=>Zy (.int (maxI n r)) | some []=>Zy e | none=>Zv)
 | _=>Zv
theorem ZlI {p pos kpos:Pos}(hc:X.calm=true)(hg:Gl X "max")(hm:X.mg "max" = none)(hv:xk "max" = some (.builtin "max"))(ha:PD X G r1 a f)(hb:PD X G r2 b g)
  (he:xi [a] X.env=(false,eval a X.env)::xi [] X.env:=by rfl)
  (hall:(xq pos (xj [⟨some "default",b,kpos⟩] X.env)).all (·.1.isSome)=true:=by rfl) (hks:(xq pos (xj [⟨some "default",b,kpos⟩] X.env)).filterMap (·.1)=[("default" : Str)]:=by rfl)
  (hpl:((backTo pos (xi [a] X.env)).any (·.1)||(xq pos (xj [⟨some "default",b,kpos⟩] X.env)).any (·.1.isNone))=false:=by rfl):PD X G false (.Call (.Name "max" p) [a] [⟨some "default",b,kpos⟩] pos) (Bq f g):=by
 obtain⟨ta,pa,qa⟩:=ha.drop;obtain⟨tb,pb,qb⟩:=hb.drop;refine⟨_,ZjC (Zho hc) hg hm hv pa pb (by decide) (by decide) he hall hks hpl,fun σ Hf H ρ s d s' Q e1 e2 e3 e4 k=>?_⟩;obtain⟨da,s1,a1,a2⟩:=ZA e4;obtain⟨db,s2,a3,a4⟩:=ZA a2;refine qa σ Hf H ρ s da s1 _ e1 e2 e3 a1 λx jU H1 g1 j9 r1=>?_;refine qb σ jU H1 ρ s1 db s2 _ g1.fh (e2.ext g1.ff) j9 a3 λy j8 H2 g2 jW r2=>?_;have r1:=r1.ext g2.ff
 match da,a4,r1 with
 | .tup ds,a4,r1=>
  have a4:(match ZE ds with | some (n::r)=>Zy (D.int (maxI n r)) | some []=>Zy db | none=>Zv) s2=some (d,s'):=a4
  cases he:ZE ds with
  | none=>rw[he]at a4;cases a4
  | some ns=>
   rw[he]at a4;obtain⟨q,vs,rfl,nq,hq,rq⟩:=jc.mp r1;rw[Wm he]at rq;rw[jk rq]at hq;refine⟨q,ns,y,rfl,rfl,ZO.of (g2.fh _ _ nq hq),?_⟩
   cases ns with
   | nil=>
    obtain⟨rfl,rfl⟩:=ZM a4;exact k y j8 H2 (g1.trans g2) jW r2 (λz=>by cases z)
   | cons n r=>
    obtain⟨rfl,rfl⟩:=ZM a4;exact k _ j8 H2 (g1.trans g2) jW (ja.mpr rfl) (λz=>by cases z)
end
end TF
namespace TS
open L2
section
variable {prog:xF}{w:World}{A:xG}{E:xH}{s:Shared}
end
end TS
namespace TF
open L2 TS
section
variable {X:Cx}{G:Gh}
end
end TF
namespace TP2
open L2 TF TP
noncomputable def g_all_near:Zc->M Out:=(Zg (ZN (ZR [none,some 0] (Z3 (Ze Zk (Za 0) (dC (.int 0)))) (Zt 0) Z7 (Zm VQ (Zb (Za 1) (Zb (Za 0) Zd)))))
 Zq)
noncomputable def F_all_near:List D->M D:=runB 1 1 g_all_near
noncomputable def ZdM:Zc->M Out:=(Zg (ZN (ZF BC (Zb (ZR [none,some 0,some 1] (Vk (Za 2)) (Zt 0) Z7 (Ze Ys (Za 0) (Ze Zk (Za 1) (Za 2)))) Zd)))
 Zq)
noncomputable def V7:List D->M D:=runB 3 3 ZdM
noncomputable def Zf6:Zc->M Out:=(Zg (ZS 1 (Xu (Zb (ZT Zd) Zd)))
 (Zg (YU (Z3 (ZF Yi (Zb (Za 0) Zd))) (Zt 2)
 (Zg (ZS 1 (Ze Y0 (Za 1) (ZR [none,some 2,some 0] (ZV (Za 1)) (Zt 0) (asB (Zm V7 (Zb (Za 2) (Zb (Za 1) (Zb (Za 0) Zd))))) (Ze Y0 (Za 0) (ZT (Zb (Za 1) Zd))))))
 Zq))
 (Zg (ZN (Za 1))
 Zq)))
noncomputable def U7:List D->M D:=runB 3 1 Zf6
end TP2
namespace TP3
open L2 TF TP
open TP2
noncomputable def ZjD:Zc->M Out:=(Zg (ZN (JG (ZF UV (Zb (ZR [none,some 0,some 1] (Z3 (ZF Yi (Zb (Za 0) Zd))) (Zt 0) Z7 (Zm V7 (Zb (Za 1) (Zb (Za 0) (Zb (Za 2) Zd))))) Zd))))
 Zq)
noncomputable def Jc:List D->M D:=runB 2 2 ZjD
noncomputable def g_full_knots:Zc->M Out:=(Zg (ZS 1 (Zm F_all_near (Zb (Za 0) Zd)))
 (Zg (ZN (ZF UH (Zb (ZR [none,some 1] (ZV (Zm U7 (Zb (Za 1) Zd))) (Zt 0) (asB (Zm Jc (Zb (Za 1) (Zb (Za 0) Zd)))) (Za 0)) Zd)))
 Zq))
noncomputable def F_full_knots:List D->M D:=runB 2 1 g_full_knots
noncomputable def Ze1:Zc->M Out:=(Zg (ZN (ZF ZlA (Zb (ZR [none,some 0] (Z3 (Ze Y0 (ZF Yi (Zb (Za 0) Zd)) (dC (.int 1)))) (Zt 0) (asB (Ze XU (Za 0) (Za 1))) (Za 0)) Zd)))
 Zq)
noncomputable def U6:List D->M D:=runB 1 1 Ze1
noncomputable def Zeo (Fs:List D->M D):Zc->M Out:=(Zg (ZS 3 (ZF Yi (Zb (Za 2) Zd)))
 (Zg (YR (asB (Ze XA (Za 3) (ZF Yi (Zb (Za 0) Zd))))
 (Zg (ZN (Za 2))
 Zq)
 Zq)
 (Zg (ZS 4 (ZR [none,some 2,some 3] (ZV (Ze Zk (Za 0) (Za 3))) (Zt 0) (asB (Ze Vt (Za 0) (Za 2))) (Ze Zk (Za 1) (Za 0))))
 (Zg (YU (Z3 (ZF Um (Zb (Za 1) (Zb (Ze Y0 (Bq (Za 2) (dC (.int (-1)))) (dC (.int 2))) Zd)))) (Zt 5)
 (Zg (YR (asB (Ze XU (Za 5) (Za 4)))
 (Zg (ZS 6 (Zm Fs (Zb (Za 0) (Zb (Za 1) (Zb (Ze Y0 (Za 2) (ZT (Zb (Za 5) Zd))) Zd)))))
 (Zg (YR (asB (Ze ZlE (Za 6) (dC .non)))
 (Zg (ZN (Za 6))
 Zq)
 Zq)
 Zq))
 Zq)
 Zq))
 (Zg (ZN (dC .non))
 Zq)))))
noncomputable def VM:Nat->List D->M D
 | 0=>λ_=>Zv
 | n+1=>runB 7 3 (Zeo (VM n))
end TP3
namespace TQ
open L2 TF TQ
open TP
open TP2
open TP3
noncomputable def ZjE:Zc->M Out:=(Zg (ZN (JF (Ze Vt (Ze Zk (Za 0) (dC (.int 0))) (Ze Zk (Za 1) (dC (.int 1)))) (Ze Vt (Ze Zk (Za 1) (dC (.int 0))) (Ze Zk (Za 0) (dC (.int 1))))))
 Zq)
noncomputable def ZjF:List D->M D:=runB 2 2 ZjE
noncomputable def ZbH:Zc->M Out:=(Zg (ZN (JM (Ze XA (Za 1) (Za 2)) (Zm Ww (Zb (Za 0) (Zb (Za 1) (Zb (Za 2) Zd))))))
 Zq)
noncomputable def Zak:List D->M D:=runB 3 3 ZbH
noncomputable def Ze2:List D->M D:=runB 4 4 (Zg (YR (asB (Ze XA (Ze Zk (Za 0) (dC (.int 0))) (Ze Zk (Za 1) (dC (.int 0)))))
 (Zg (ZN (Zm Ww (Zb (Ze Zk (Za 2) (Ze Zk (Za 0) (dC (.int 0)))) (Zb (Ze Zk (Za 0) (dC (.int 1))) (Zb (Ze Zk (Za 1) (dC (.int 1))) Zd)))))
 Zq)
 Zq)
 (Zg (ZN (Zm Ww (Zb (Za 3) (Zb (Ze Zk (Za 0) (dC (.int 0))) (Zb (Ze Zk (Za 1) (dC (.int 0))) Zd)))))
 Zq))
noncomputable def ZbI:List D->M D:=Y1 3 (JG (Zm Ww (Zb (Za 2) (Zb (Za 0) (Zb (Za 1) Zd)))))
noncomputable def Zc9:List D->M D:=runB 4 4 (Zg (ZN (JF (Zm Zak (Zb (Za 2) (Zb (Ze Zk (Za 0) (dC (.int 0))) (Zb (Ze Zk (Za 1) (dC (.int 0))) Zd)))) (Zm Zak (Zb (Za 3) (Zb (Ze Zk (Za 0) (dC (.int 1))) (Zb (Ze Zk (Za 1) (dC (.int 1))) Zd))))))
 Zq)
noncomputable def Zba:List D->M D:=Y1 3 (Zm Ww (Zb (Za 2) (Zb (Za 0) (Zb (Za 1) Zd))))
noncomputable def Zai:List D->M D:=Y1 3 (JM (Ze Ys (ZT (Zb (Za 0) (Zb (Za 1) Zd))) (Za 2)) (Ze Ys (ZT (Zb (Za 1) (Zb (Za 0) Zd))) (Za 2)))
noncomputable def Zda:List D->M D:=Y1 3 (Ze XX (Ze dMod (Za 0) (Za 2)) (Ze dMod (Za 1) (Za 2)))
noncomputable def ZbJ:List D->M D:=Y1 4 (Ze Ys (ZF Um (Zb (Ze dSub (Za 1) (Za 0)) (Zb (Ze Y0 (Ze dSub (Za 2) (Za 1)) (Za 0)) Zd))) (Za 3))
noncomputable def Tl:Nat->List D->M D
 | 0=>ZbI
 | 1=>Zba
 | 2=>ZjF
 | 3=>Ze2
 | 4=>Zc9
 | 5=>Zai
 | 6=>Zda
 | 7=>ZbJ
 | _=>λ_=>Zv
noncomputable def Zf7:Zc->M Out:=(Zg (ZS 2 (Zm J0 (Zb (Vu (ZF Yi (Zb (Za 0) Zd))) Zd)))
 (Zg (ZN (ZT (Zb (ZF Yi (Zb (Za 0) Zd)) (Zb (ZF Bl (Zb (ZR [none,some 1,some 0] (ZV (Za 2)) (Zt 0) (asB (BE Tl 1 (Zb (Ze Zk (Za 2) (Ze Zk (Za 0) (dC (.int 0)))) (Zb (Ze Zk (Za 2) (Ze Zk (Za 0) (dC (.int 1)))) Zd)))) (Za 0)) Zd)) Zd))))
 Zq))
noncomputable def Ua:List D->M D:=runB 3 2 Zf7
noncomputable def ZlJ:Zc->M Out:=(Zg (ZS 1 (Zm Uz (Zb (Za 0) Zd)))
 (Zg (ZN (JI Ua 0 [1] (Vu (Ze Zk (Za 0) (dC (.int 0))))))
 Zq))
noncomputable def WN:List D->M D:=runB 2 1 ZlJ
end TQ
namespace TF
open L2
noncomputable def Zhp (K:qk)(L:List (Addr×Str)):Sp:=λvs H Q _=>∃(a:Addr) (ns:List Int),vs=[.ref a]/\Zw K H a (ns.map V.int)/\ns.length<=63/\(∀P q,(P,q)∈L->H P=some (.tbl #[]))/\∀H',Q (.bl true) H'
theorem Zhq {L:List (Addr×Str)}{tb:List (Str×Addr×Addr)}{H:Hp}(h:∀P q,(P,q)∈L->∃x c,(x,c,P)∈tb)(hT:∀e∈tb,H e.2.2=some (.tbl #[])):∀P q,(P,q)∈L->H P=some (.tbl #[]):=λP q m=>by
 obtain⟨x,c,z⟩:=h P q m;exact hT _ z
theorem ZpV (h:∀P q,(P,q)∈L->H P=some (.tbl #[])):∀P q,(P,q)∈L->Zod G0 L P q H:=λP q m=>⟨#[],h P q m,trivial,λpos cv hc=>by cases hc⟩
theorem ZjG {H0:Hp}(st:BO p wa ([m,0],w) H)(hTb:∀P q,(P,q)∈L->H0 P=some (.tbl #[]))(kp:∀b u,H0 b=some u->H b=some u)(hp:H0 p=none)(hw:H0 wa=none)(hQ:∀H',Q (.bl true) H')
  (hg:g (none::some .pen::qA n none) ([m,0],w)=some (.rt (.bl true),s')) :
  ∃G,Ws XY L G/\Zn8 G [] [] [] false g { nx:=λ_ H'=>Q .non H',rt:=Q } (some x::some (.ref p)::qA n none) H:=by
 refine⟨UQ (Xb p wa) L,⟨Xb p wa,⟨p,wa,rfl⟩,λb ⟨q,mb⟩ hb=>?_,rfl⟩,λ_=>none,λ_=>none,H,none::some .pen::qA n none,([m,0],w),_,s',⟨λ_=>none,⟨by simp,.refl _ _,.refl (λb o _ e=>by cases e),λi d _ e=>?_,λi d m=>by simp at m,λi j b di dj m=>by simp at m⟩⟩,⟨st,ZpV λP q z=>kp _ _ (hTb P q z)⟩,hg,λv Hf' H' g st r _=>?_⟩
 ·have e:=hTb b q mb
  rcases hb with rfl | rfl
  ·grind
  ·simp_all
 ·match i,e with
  | 0,e=>cases e
  | 1,e=>cases e;exact⟨_,rfl,jo.mpr rfl⟩
  | i+2,e=>
   have e':(qA n (none:Option D))[i]?=some (some d):=e;rw[yO]at e';simp_all
 ·rw[je.mp r]
  exact hQ H'
theorem lok_nd:∀{L:List (Addr×Str)},(L.map (·.1)).Nodup->WK L
 | [],_=>λP q q' h=>by simp at h
 | (a,b)::L,nd=>λP q q' h1 h2=>by
  rw[yc,zq]at nd;rcases qy.mp h1 with e1 | m1
  ·grind
  ·rcases qy.mp h2 with e2 | m2
   ·grind
   ·exact lok_nd nd.2 P q q' m1 m2
theorem Zf8 (xs:List Int):YY (xs.map D.int)=true:=by
 induction xs with
 | nil=>rfl
 | cons a r ih=>simp only[yc,YY,ih];rfl
theorem ZjH:∀ds s d s',Vx ds s=some (d,s')->YY ds=true/\YQ d=true:=λds s d s' h=>by
 unfold Vx at h;split at h
 ·obtain⟨_,h⟩:=Y6 h
  obtain⟨xs,s1,_,h2⟩:=ZA h;obtain⟨rfl,rfl⟩:=ZM h2;exact⟨rfl,(Zf8 xs)⟩
 ·cases h
end TF
namespace TT
section
variable {M:Model}{A:xG}{E:xH}{s:Shared}
end
section
variable (rk:Keyed->Int)
variable {rk}{a b out:Array Keyed}{ia ib:Nat}
end
section
variable {M:Model}{A:xG}{E:xH}{s:Shared}
variable {rk:Keyed->Int}{κ:SortKind}{In:Keyed->Prop}
end
section
variable (rk:Keyed->Int)
variable {rk}{a b out:Array Keyed}{na nb:Nat}
end
section
variable {M:Model}{A:xG}{E:xH}{s:Shared}{rk:Keyed->Int}{κ:SortKind}{In:Keyed->Prop}
end
section
variable {M:Model}{A:xG}{E:xH}{s:Shared}{rk:Keyed->Int}{κ:SortKind}{In:Keyed->Prop}
end
section
variable (rk:Keyed->Int)
end
section
variable {rk:Keyed->Int}
end
section
variable {M:Model}{A:xG}{E:xH}{s:Shared}{rk:Keyed->Int}{κ:SortKind}{In:Keyed->Prop}
end
section
variable {M:Model}{A:xG}{E:xH}{s:Shared}{rk:Keyed->Int}{κ:SortKind}{In:Keyed->Prop}
end
section
variable {M:Model}{A:xG}{E:xH}{s:Shared}{rk:Keyed->Int}{κ:SortKind}{In:Keyed->Prop}{a₀:List Keyed}
end
section
variable {M:Model}{A:xG}{E:xH}{s:Shared}{rk:Keyed->Int}{κ:SortKind}{In:Keyed->Prop}{a₀:List Keyed}
end
open Classical L2 TS in
section
variable {prog:xF}{w:World}{A:xG}{E:xH}{s:Shared}
end
end TT
namespace TF
open L2
section
variable {X:Cx}{G:Gh}
end
end TF
namespace L2
section
variable {X:Cx}{tg:Expr}
end
end L2
namespace TF
open L2
section
variable {X:Cx}{G:Gh}{ob own:List Nat}{fr:Bool}
end
open Sem (wp)
section
variable {prog:xF}{w:World}{A:xG}{E:xH}{s:Shared}
noncomputable def Ze3 (n:Nat)(a c:Int)(jO:Array Value):Prop:=
 ItemsOf (λi v=>∃t,v=.int (a+i*c) t) jO n
theorem Zf9 {n : Nat}
    (hh : A.handled = none) (hr : IsRange s.heap r a b c t u v)
    (hsmall : Builtin.Range.small a b c = true) (hn : yN a b c = n)
    (jQ : n <= 2 ^ 24)
    (hQ : ∀ (h' : Heap) (tk : Nat) (jO : Array Value), (∀ b o', s.heap.get? b = some o' -> h'.get? b = some o') ->
      Ze3 n a c jO -> Q jO.toList { s with heap := h', toks := tk }) :
    xg (xD prog w) A (collect (.ref r)) Q E s := by
  unfold collect;apply xb;apply wpAny_runValue;apply xo qbH;rw[zp
    qbI _]
  show xg _ A.in1 (newList [] >>= λz =>
    again (.builtin "list.__iadd__" ⟨[z, .ref r], []⟩)) _ _ s
  apply xb;refine xm ?_;refine xc ⟨plainId_quiet
    qaw _, xo
    F.entry_list_iadd ?_⟩
  rw[zp
    qaw _]
  show xg _ A.in1 (yh
    (.ref s.heap.objs.size) (.ref r)
    (.ref s.heap.objs.size)) _ _ _
  have h0 : (s.heap.push
      { cls := .type "list", data := .seq ([] : List Value).toArray }).get?
      s.heap.objs.size = some { cls := .type "list", data := .seq #[] 0 } :=
    qz _ rfl
  have fin' : ∀ (h' : Heap) (tk : Nat) (jO : Array Value) (k : Nat),
      (∀ b o', s.heap.get? b = some o' -> h'.get? b = some o') ->
      h'.get? s.heap.objs.size = some
        { cls := .type "list", dict := none, data := .seq jO k, slots := #[] } ->
      Ze3 n a c jO -> xg (xD prog w) A (match qS s.heap.objs.size with
        | qS a => do
          match (<- load a).data with
            | Data.seq xs _ => pure xs.toList
            | _ => unsupported "internal:collect"
        | _ => unsupported "internal:collect") Q E { s with heap := h', toks := tk } := by
    intro h' tk jO k kp hS hi;show xg _ A (load s.heap.objs.size >>= _) _ _ _;refine xb (wpAny_load hS ?_);exact xc (hQ h' tk jO kp hi)
  refine xf (wpAny_extend_range (A := A)
    (R := λr s' => r = .ok (.ret (.ref s.heap.objs.size)) /\
      ∃ h' tk jO k, (∀ b o', s.heap.get? b = some o' -> h'.get? b = some o') /\
        h'.get? s.heap.objs.size = some
          { cls := .type "list", dict := none, data := .seq jO k, slots := #[] } /\ Ze3 n a c jO /\
        s' = { s with heap := h', toks := tk })
    (s := { s with heap := (s.heap.push
      { cls := .type "list", data := .seq ([] : List Value).toArray }) }) hh
    (qd _ hr) hsmall hn jQ _ _ 0 h0
    λh' tk acc' c' hk hS' hacc => ⟨rfl, h', tk, acc', c', λb o e => hk b o (qD
      (qC e)) (qd _ e), hS', hacc, rfl⟩)
    (λfin s' h => ?_) (λe s' h => ?_)
  · cases fin with
    | done f =>
      obtain⟨e, h', tk, jO, k, kp, hS, hi, rfl⟩ := h
      cases e
      exact fin' h' tk jO k kp hS hi
    | again c' =>
      refine⟨h.1, codeAny_mono h.2
        λr s'' hr => ?_⟩
      obtain⟨rfl, h', tk, jO, k, kp, hS, hi, rfl⟩ := hr;exact fin' h' tk jO k kp hS hi
  · exact absurd h.1 (by simp)
end
variable {X:Cx}{G:Gh}{f:Zc->M D}
end TF
namespace HT
noncomputable def WX (xs:Array Nat):Prop:=xs.toList.Pairwise (· < ·)
theorem WX.lt (h:WX xs)(hk:k<xs.size)(hi:i<k):xs.getD i 0<xs.getD k 0:=by
 have:=zf.mp h i k (by simp;omega) (by omega) hi;rw[zS,zS,zg (by omega),zg hk];exact this
theorem Zdb (h:WX xs)(j:Nat):∀(f lo hi:Nat),hi-lo<=f->lo<=hi->hi<=xs.size->(∀i<lo,xs.getD i 0<j)->(∀i,hi<=i->i<xs.size->j<=xs.getD i 0)->
  (∀i<yX xs j f lo hi,xs.getD i 0<j)/\(∀i,yX xs j f lo hi<=i->i<xs.size->j<=xs.getD i 0)/\yX xs j f lo hi<=xs.size
 | 0,lo,hi,e1,e2,e3,a,b=>by
  have:lo=hi:=by omega
  subst this;unfold yX;exact⟨a,b,e3⟩
 | f+1,lo,hi,e1,e2,e3,a,b=>by
  unfold yX;by_cases c:lo<hi
  ·rw[if_pos c]
   dsimp only;have hm:(lo+hi) / 2<xs.size:=by omega
   have eg:xs.getD ((lo+hi) / 2) j=xs.getD ((lo+hi) / 2) 0:=by
    rw[zS,zS,zg hm];rfl
   rw[eg];by_cases d:xs.getD ((lo+hi) / 2) 0<j
   ·rw[if_pos d]
    refine Zdb h j f _ hi (by omega) (by omega) e3 (λi hi'=>?_) b;by_cases z:i<(lo+hi) / 2
    ·exact yI (h.lt hm z) d
    ·have:i=(lo+hi) / 2:=by omega
     rw[this];exact d
   ·rw[if_neg d]
    refine Zdb h j f lo _ (by omega) (by omega) (by omega) a λi hi' hs=>?_;by_cases z:i=(lo+hi) / 2
    ·rw[z];omega
    ·have:=h.lt hs (show(lo+hi) / 2<i by omega)
     omega
  ·rw[if_neg c]
   have:lo=hi:=by omega
   subst this;exact⟨a,b,e3⟩
theorem Zbw (h:WX xs)(j:Nat):(∀i<qN xs j,xs.getD i 0<j)/\(∀i,qN xs j<=i->i<xs.size->j<=xs.getD i 0)/\qN xs j<=xs.size:=
 Zdb h j xs.size 0 xs.size (by omega) (zk _) (qq _) (λi hi=>by omega) λi h1 h2=>by omega
theorem Zhr (h:WX xs)(hi:i<xs.size):qN xs (xs.getD i 0+1)=i+1:=by
 obtain⟨a,b,c⟩:=Zbw h (xs.getD i 0+1);have h1:¬qN xs (xs.getD i 0+1)<=i:=λz=>by
  have:=b i z hi;omega
 by_cases h2:i+1<qN xs (xs.getD i 0+1)
 ·have:=a (i+1) h2
  have:=h.lt (show i+1<xs.size by omega) (z9 i);omega
 ·omega
theorem Zhs (h:WX xs):qN xs 0=0:=by
 obtain⟨a,b,c⟩:=Zbw h 0;by_cases z:0<qN xs 0
 ·have:=a 0 z;omega
 ·omega
theorem Zga (h:WX xs)(hj:¬xs[qN xs j]?=some j):WX (SetTable.insertAt xs (qN xs j) j):=by
 obtain⟨a,b,c⟩:=Zbw h j;unfold WX;rw[SetTable.toList_insertAt];have gl:∀{i:Nat} {x:Nat},xs.toList[i]?=some x->i<xs.size/\xs.getD i 0=x:=λ{i x} e=>by
  rw[yp]at e;obtain⟨l,e2⟩:=Array.getElem?_eq_some_iff.mp e;exact⟨l,by rw[zS,e];rfl⟩
 have m1:∀x∈xs.toList.take (qN xs j),x<j:=λx hx=>by
  obtain⟨i,hi⟩:=qbJ.mp hx;have hl:=(qG.mp hi).1;rw[ym]at hl;rw[qah (by omega)]at hi;have:=a i (by omega);rw[(gl hi).2]at this;exact this
 have m2:∀x∈xs.toList.drop (qN xs j),j<x:=λx hx=>by
  obtain⟨i,hi⟩:=qbJ.mp hx;rw[List.getElem?_drop]at hi;obtain⟨g1,g2⟩:=gl hi;have h1:=b _ (Nat.le_add_right _ i) g1;rw[g2]at h1;by_cases e:j=x
  ·exfalso
   subst e;by_cases z:i=0
   ·subst z
    simp_all
   ·have h2:=h.lt g1 (show qN xs j<qN xs j+i by omega)
    have h3:=b _ (qq _) (by omega);omega
  ·omega
 refine yw.mpr ⟨h.sublist (qat _ _),zt.mpr ⟨m2,h.sublist (List.drop_sublist _ _)⟩,λx hx y hy=>?_⟩;rcases qy.mp hy with rfl | hy
 ·exact m1 x hx
 ·exact yI (m1 x hx) (m2 y hy)
theorem ZjI {t:SetTable}(h:t.place[qN t.place j]?=some j):t.slot j=.live (qN t.place j):=by
 unfold SetTable.slot;simp_all
theorem Zdc:∀(f:Nat) (p:SetTable.Probe) (j:Nat) (dm:Option Nat),(∀d,p.dummy=some d->∀i,t.slot d≠.live i)->qba t g h f p=some (.empty j dm)->(∀i,t.slot (dm.getD j)≠.live i)
 | 0,p,j,dm,hp,e=>by unfold qba at e;cases e
 | f+1,p,j,dm,hp,e=>by
  unfold qba at e;have adv:∀q,(t.advance q).dummy=q.dummy:=λq=>by
   unfold SetTable.advance;split <;> rfl
  cases q:t.slot p.j with
  | empty=>
   rw[q]at e
   cases e
   intro i z
   cases hd:p.dummy with
   | none=>grind
   | some d=>rw[hd]at z;exact hp d hd i z
  | dummy=>
   rw[q]at e;refine Zdc f _ j dm (λd hd i z=>?_) e
   grind
  | live i=>
   rw[q]at e;dsimp only at e;split at e
   ·cases e
   ·exact Zdc f _ j dm (λd hd=>hp d (by simp_all)) e
theorem ZdN {t:SetTable}(e:t.freeSlot h=some (j,b)):¬t.place[qN t.place j]?=some j:=λz=>by
 unfold SetTable.freeSlot at e;split at e
 ·rename_i k dm q
  cases e
  exact Zdc _ _ _ _ (λd hd=>by cases hd) q _ (ZjI z)
 ·cases e
theorem range_rise (n:Nat):WX (Array.range n):=by
 unfold WX;rw[Array.toList_range];exact qaE
theorem Zam (g:Nat->Option Nat):∀l:List Nat,(l.filterMap λj=>(g j).map (j,·)).map (·.1)=l.filter λj=>(g j).isSome
 | []=>rfl
 | a::l=>by
  cases e:g a with
  | none=>simp[e,Zam g l]
  | some x=>simp[e,Zam g l]
theorem ZjJ (h:SetTable.laid m f v l p hs=some r):r.1.led=l/\WX r.1.place:=by
 unfold SetTable.laid at h
 cases e:SetTable.layClean m hs with
 | none=>rw[e]at h;cases h
 | some ow=>
  rw[e]at h
  cases h
  refine⟨rfl,?_⟩;rw[Zam];exact qaE.sublist qP
noncomputable def Ye (w:World):Bool:=w.params.followText "set-order"
noncomputable def Good (w:World)(t:SetTable):Prop:=(Ye w=true∨t.led=true)/\WX t.place
theorem Good.stand (h:Good w t)(n:Nat):Good w (t.standIn n):=⟨h.1,range_rise n⟩
theorem Zgb (h:Good w t)(es:Array (Int×Value))(k:Int)(x:Value):Good w (layNew t es k x).2.1:=by
 unfold layNew;split
 ·rename_i j b e
  have hj:=ZdN e;have:Good w (t.put j).1:=⟨h.1,Zga h.2 hj⟩;show Good w ((t.put j).1.orStandIn _);unfold SetTable.orStandIn;split
  ·exact this
  ·exact this.stand _
 ·exact h.stand _
theorem ZdO (h:Good w t)(es:Array (Int×Value))(k:Nat):Good w (relayAll t es k).2.1:=by
 unfold relayAll;split
 ·rename_i t' ord e
  have:=ZjJ e;dsimp only;split
  ·exact⟨by rw[this.1];exact h.1,this.2⟩
  ·exact h.stand _
 ·exact h.stand _
section
variable {prog:xF}{w:World}
variable (prog w) in
noncomputable def SetLed (h:Heap)(a:Addr)(S:Int->Bool)(n:Nat):Prop:=∃o xs ep t,h.get? a=some o/\o.ExactSet/\o.data=.set xs ep t/\ElemsOf (intKind prog w) xs.toList/\(∀k,S k=true↔∃e∈xs.toList,(intKind prog w).is k e.2=true)/\xs.size<scanBound/\t.fits xs.size=true/\xs.size=n/\Good w t
variable {A:xG}{E:xH}{s:Shared}
theorem SetLed.setOf (z:SetLed prog w h a S n):h.SetOf (intKind prog w) a S n:=by
 obtain⟨o,xs,ep,t,z1,z2,z3,z4,z5,z6,z7,z8,_⟩:=z;exact⟨o,xs,ep,t,z1,z2,z3,z4,z5,z6,z7,z8⟩
theorem SetLed.congr (z:SetLed prog w h a S n)(e:∀k,S k=S' k)(en:n=n'):SetLed prog w h a S' n':=by
 have:=funext e;simp_all
theorem Zep {h:Heap}(g1:h.get? a=some o)(g2:o.ExactSet)(g3:o.data=.set xs ep t)
  (y1:ElemsOf (intKind prog w) ys.toList) (y2:∀k,Z k=true↔∃e∈ys.toList,(intKind prog w).is k e.2=true) (y3:ys.size<scanBound) (y4:u.fits ys.size=true) (y5:Good w u) :
  (h.update a (Obj.putSet ys u)).get? a=some { o with data:=.set ys (ep+1) u }/\SetLed prog w (h.update a (Obj.putSet ys u)) a Z ys.size:=by
 have q:=(SetOf_store g1 g2 g3 y1 y2 y3 y4).1;exact⟨q,_,ys,ep+1,u,q,g2,rfl,y1,y2,y3,y4,rfl,y5⟩
theorem Zgc {g:Bool->Sem Unit}(hg:∀(b:Bool) (z:Shared) (F:Unit->Shared->Prop),F () z->xg (xD prog w) A (g b) F E z)
  (g1:s.heap.get? a=some o) (g2:o.ExactSet) (g3:o.data=.set xs ep t)
  (y1:ElemsOf (intKind prog w) ys.toList) (y2:∀k,Z k=true↔∃e∈ys.toList,(intKind prog w).is k e.2=true)
  (y3:ys.size<scanBound) (y4:u.fits ys.size=true) (y5:Good w u)
  (k:∀h',zG a s.heap h'->SetLed prog w h' a Z ys.size->R (some true) { s with heap:=h' }) :
  xg (xD prog w) A (do
   storeSet a ys u
   if (!was&&u.tooFull)=true then do
    g (relayAll u ys (yF ys.size)).2.2
    storeSet a (relayAll u ys (yF ys.size)).1 (relayAll u ys (yF ys.size)).2.1
    pure (some true)
   else pure (some true)) R E s:=by
 refine xb (wpAny_storeSet_of g1 g3 ?_ (fits_of_scanBound y3));obtain⟨q1,q2⟩:=Zep g1 g2 g3 y1 y2 y3 y4 y5;have sb:=yL s.heap a (Obj.putSet ys u);split
 ·have pm:=relayAll_perm u ys (yF ys.size)
  have pf:=relayAll_fits u ys (yF ys.size);have pl:=ZdO y5 ys (yF ys.size);generalize relayAll u ys (yF ys.size)=r at pm pf pl⊢;obtain⟨zs,v,gv⟩:=r;dsimp only at pm pf pl⊢;have sz:zs.size=ys.size:=by rw[<-qO,pm.length_eq,qO]
  have z3:zs.size<scanBound:=by simp_all
  refine xb (hg _ _ _ ?_);refine xb (wpAny_storeSet_of q1 rfl ?_ (fits_of_scanBound z3));have q3:=(Zep q1 g2 rfl (y1.perm pm) (λk=>(y2 k).trans ⟨λ⟨e,m,x⟩=>⟨e,pm.mem_iff.mpr m,x⟩,λ⟨e,m,x⟩=>⟨e,pm.mem_iff.mp m,x⟩⟩) z3 pf pl).2;rw[sz]at q3;exact xc (k _ (sb.trans (yL _ a _)) q3)
 ·exact xc (k _ sb q2)
theorem Zno (hk:(intKind prog w).is k x=true)(hx:x.scannable=true)(hS:SetLed prog w s.heap a S n)(room:n+1<scanBound)
  (c:∀h',zG a s.heap h'->SetLed prog w h' a (λk'=>S k'||decide (k'=k)) (if S k then n else n+1)->Q (!S k) { s with heap:=h' }) :
  xg (xD prog w) A (setAddHashed a x ((intKind prog w).hash k)) Q E s:=by
 obtain⟨o,xs,ep,t,g1,g2,g3,g4,g5,g6,g7,g8,g9⟩:=hS;have r1:xs.size+1<scanBound:=by rw[g8];exact room
 unfold setAddHashed setAddHashedIn;refine xy (xb (wpAny_setState_of g1 g3 g7 ?_));dsimp only;rw[byScan_of hx g6 g4];simp only[↓reduceIte];unfold setAddByScan;refine xb (xb (wpAny_rule (xb (wpAny_setScan_of hk g1 g3 g7 g4 ?_))))
 cases hr:List.findIdx? (λe=>(intKind prog w).is k e.2) xs.toList with
 | some j=>
  dsimp only;obtain⟨lj,pj,_⟩:=List.findIdx?_eq_some_iff_getElem.mp hr;have sk:S k=true:=(g5 k).mpr ⟨xs.toList[j],yn lj,pj⟩;refine xc (xc ?_);have e:s = { s with heap:=s.heap }:=by cases s;rfl
  have fin:=c s.heap (zG.refl a s.heap) ⟨o,xs,ep,t,g1,g2,g3,g4,λk'=>by
   rw[qaQ,decide_eq_true_eq,<-g5 k'];exact⟨λq=>q.elim id (λe=>e▸sk),.inl⟩,g6,g7,by rw[sk];exact g8,g9⟩
  rw[sk]at fin;rw[e];exact fin
 | none=>
  dsimp only;have sk:S k=false:=by
   cases q:S k with
   | false=>rfl
   | true=>
    obtain⟨e,m,p⟩:=(g5 k).mp q;have z:=List.findIdx?_eq_none_iff.mp hr e m;rw[p]at z;exact Bool.noConfusion z
  have pm:=layNew_perm t xs ((intKind prog w).hash k) x;have pf:=layNew_fits t xs ((intKind prog w).hash k) x;have pl:=Zgb g9 xs ((intKind prog w).hash k) x;generalize layNew t xs ((intKind prog w).hash k) x=r at pm pf pl⊢;obtain⟨ys,u,was,gv⟩:=r;dsimp only at pm pf pl⊢;rw[Array.toList_push]at pm;have y1:ElemsOf (intKind prog w) ys.toList:=(g4.push hk hx).perm pm;have y2:∀k',(S k'||decide (k'=k))=true↔∃e∈ys.toList,(intKind prog w).is k' e.2=true:=mem_push_iff hk g5 pm;have sz:ys.size=n+1:=by rw[<-qO,pm.length_eq,zl,qO,g8];rfl
  have y3:ys.size<scanBound:=by rw[sz];exact room
  have y5:Good w u:=pl;have gw:∀(b:Bool) (z:Shared) (F:Unit->Shared->Prop),F () z->xg (xD prog w) A (match b with | true=>rule "set.scan.the-table-gave-way" | false=>pure ()) F E z:=λb z F q=>by
   cases b
   ·exact xc q
   ·exact wpAny_rule q
  refine xb (gw _ _ _ ?_);have fin:∀h',zG a s.heap h'->SetLed prog w h' a (λk'=>S k'||decide (k'=k)) ys.size->Q true { s with heap:=h' }:=λh' sb z=>by
   have:=c h' sb;rw[sk]at this;rw[sz]at z;exact this z
  split
  ·refine xb ?_
   rw[hashByValue_scannable 8 hx];refine xc ?_;refine Zgc gw g1 g2 g3 y1 y2 y3 ?_ ?_ λh' sb z=>xc (fin h' sb z)
   ·split
    ·exact pf
    ·exact SetTable.fits_plain_off pf
   ·split
    ·exact y5
    ·exact y5
  ·exact Zgc gw g1 g2 g3 y1 y2 y3 pf y5 λh' sb z=>xc (fin h' sb z)
theorem ZlK (a:Value)(h:Q₁ (.ref s.heap.objs.size) { s with heap:=s.heap.push (Xf (!Ye w)) }) :
  xp (xD prog w) A (.call (.builtin "set.__new__") ⟨[.type "set",a],[]⟩) (wants Q₁ E) s:=by
 apply codeAny_of_tree;show xg _ A.in1 (do
  checkBuiltinCall "set.__new__" ⟨[.type "set",a],[]⟩
  again (.builtin "set.__new__" ⟨[.type "set",a],[]⟩)) _ _ s
 refine xb (wpAny_of_eq (PySem.F.newCall_set_1 a) (xc ⟨plainId_quiet qbK _,xo PySem.F.entry_set_new ?_⟩));rw[zp qbK _];unfold Builtin.«set.__new__»;unfold Builtin.Frozenset.newClass;have s1:=sub_set_self;obtain⟨hp,g,d,tk,os⟩:=s;dsimp only
 wp_walk
 refine wpAny_askSetting (xc ?_);dsimp only;simp only[newObj];refine xb (wpAny_alloc (xc (xc ?_)));exact h
theorem Zeq (hg:h.get? a=some (Xf (!Ye w))):SetLed prog w h a (λk'=>(firstMet val 0).any (· == k')) (firstMet val 0).length:=
 ⟨_,#[],0,_,hg,⟨rfl,rfl,rfl⟩,rfl,λe he=>by simp at he,λk=>by simp[firstMet_zero],by decide,by rfl,rfl,by
  refine⟨?_,qa7⟩;show Ye w=true∨(!Ye w)=true;simp⟩
theorem Zgd {St:Nat->Shared->Prop}
  (W:WalksS prog w A.in1 I fp wr G n P St) (Z:Addr) (hZ:Z∉fp) (val:Nat->Int) (hv:∀i v,P i v->∃t,v=.int (val i) t) (hb:n+1<scanBound) :
  ∀(k i:Nat) (s:Shared),n-i=k->i<=n->St i s->SetLed prog w s.heap Z (λk'=>(firstMet val i).any (· == k')) (firstMet val i).length->
   (∀s',Moved (Z::wr) G s s'->SetLed prog w s'.heap Z (λk'=>(firstMet val n).any (· == k')) (firstMet val n).length->R (.ok (.ret .none)) s')->
   xp (xD prog w) A (.builtin "set.update.loop" ⟨[.ref Z,.ref I],[]⟩) R s:=by
 have hZw:Z∉wr:=λh=>hZ (W.sub _ h);have sub:∀b∈wr,b∈Z::wr:=λb m=>qY _ m;have keep:∀{i:Nat} {s s':Shared},Moved wr G s s'->SetLed prog w s.heap Z (λk'=>(firstMet val i).any (· == k')) (firstMet val i).length->SetLed prog w s'.heap Z (λk'=>(firstMet val i).any (· == k')) (firstMet val i).length:=λhm z=>by
  obtain⟨o,xs,ep,t,g,rest⟩:=z;exact⟨o,xs,ep,t,hm.heap Z _ hZw g,rest⟩
 intro k
 induction k with
 | zero=>
  intro i s hk hi st hS hR;have e:i=n:=by omega
  subst e;refine xo qan ?_;rw[zp yA _];show xg _ A.in1 (pyNext (.ref I) >>= _) _ _ s;refine xb (W.done s _ _ st λs' hm=>?_);show xg _ A.in1 (ret qR) _ _ s';exact xc (hR s' (hm.mono sub) (keep hm hS))
 | succ k ih=>
  intro i s hk hi st hS hR;have hlt:i<n:=by omega
  refine xo qan ?_;rw[zp yA _];show xg _ A.in1 (pyNext (.ref I) >>= _) _ _ s;refine xb (W.item i s _ _ hlt st λv s' hP st' hm=>?_);obtain⟨t,rfl⟩:=hv i v hP;have hS':=keep hm hS;show xg _ A.in1 (holding [qbr (val i) t] (setAdd Z (.int (val i) t)) >>= _) _ _ s';refine xb (xy ?_);unfold setAdd;refine xy (xb ((intKind prog w).pyHash (k:=val i) (intKind_is _ _ _ _) ?_));have room:(firstMet val i).length+1<scanBound:=by have:=firstMet_length_le val i;omega
  refine Zno (s:={ s' with toks:=s'.toks+1 }) (intKind_is _ _ _ _) rfl hS' room λh' sb z=>?_;have z':SetLed prog w h' Z (λk'=>(firstMet val (i+1)).any (· == k')) (firstMet val (i+1)).length:=
   z.congr (λk'=>by rw[firstMet_succ,step_any]) (by rw[firstMet_succ,step_length])
  refine xc ⟨plainId_quiet yA _,ih (i+1) _ (by omega) hlt (W.frame _ s' _ _ st' (qaA _) λb m o e=>?_) z' λs'' hm'' hS''=>?_⟩
  ·rw[sb.2 b (λh:b=Z=>hZ (by rw[<-h];exact m))];exact e
  ·refine hR s'' (Moved.trans W.gtrans ((hm.mono sub).then_heap (qaA _) λb o m e=>?_) hm'') hS''
   rw[sb.2 b (λh=>m (by rw[h];simp))];exact e
theorem setL_of_tuple {l:Addr}{items:Array Value}{ns:List Int}{Q:xH}(hh:A.handled=none)(hl:s.heap.IsTuple l items)(hi:IntsAre items.toList ns)(hb:items.size+1<scanBound)
  (h:∀(h':Heap) (tk:Nat),SetLed prog w h' s.heap.objs.size (λk'=>(firstMet (λi=>ns.getD i 0) items.size).any (· == k')) (firstMet (λi=>ns.getD i 0) items.size).length->(∀b o,b<s.heap.objs.size->s.heap.get? b=some o->h'.get? b=some o)->Q (.ref s.heap.objs.size) { s with heap:=h',toks:=tk }) :
  xg (xD prog w) A (call (.type "set") [.ref l]) Q E s:=by
 obtain⟨c,tl,hmro⟩:=zd.mro;have hmade:=zd.made;have hsub:=zd.sub;refine xC (codeAny_of_tree ?_);show xg _ _ (callAny (.type "set") _) _ _ _;refine xc ⟨qaY _ (by decide +kernel),xo qbq ?_⟩;rw[xG.under_plain (weight_type_call_type "set" [.ref l] []) rfl];have h1:=zd.notType;have h2:=zd.canCreate;have hct:=qbz (.ref l)
 repeat (any_goals (first | assumption | wp_step))
 refine codeAny_mono (ZlK (.ref l) (E:=E) (Q₁:=λobj s₁=>obj=.ref s.heap.objs.size/\s₁ = { s with heap:=s.heap.push (Xf (!Ye w)) }) ⟨rfl,rfl⟩) λr s₁ hr=>?_
 cases r with
 | error e=>exact hr
 | ok fl=>
  cases fl with
  | ret obj=>
   obtain⟨rfl,rfl⟩:=hr;have hS:(s.heap.push (Xf (!Ye w))).get? s.heap.objs.size=some (Xf (!Ye w)):=qz _ rfl;have hT:qa4 { s with heap:=s.heap.push (Xf (!Ye w)) } (.ref s.heap.objs.size) "set":=⟨_,hS,rfl⟩;have hli:=zd.init.lookup;have hbi:=zd.init.bind (.ref s.heap.objs.size)
   repeat (any_goals (first | assumption | wp_step))
   refine codeAny_mono (codeAny_call_builtin (R:=wants (λr s₂=>r=.none/\∃h' tk,s₂ = { s with heap:=h',toks:=tk }/\SetLed prog w h' s.heap.objs.size (λk'=>(firstMet (λi=>ns.getD i 0) items.size).any (· == k')) (firstMet (λi=>ns.getD i 0) items.size).length/\(∀b o,b<s.heap.objs.size->s.heap.get? b=some o->h'.get? b=some o)) E) zd.init.plain qbA (check_set_init_1 hT ?_)) λr₂ s₂ hr₂=>?_
   ·obtain⟨ol,hol,hcl,nl,hdl⟩:=hl;obtain⟨ocls,odict,odata,oslots⟩:=ol
    simp only at hcl hdl;subst hcl;subst hdl;have hol':(s.heap.push (Xf (!Ye w))).get? l=some { cls:=.type "tuple",dict:=odict,data:=.seq items nl,slots:=oslots }:=qd _ hol;have z1:=ZlG;have z2:=Zf5;have hne:(yj "tuple" == yj "dict")=false:=by decide
    have hl1:(s.heap.push (Xf (!Ye w))).IsTuple l items:=⟨_,hol',rfl,nl,rfl⟩;unfold Builtin.«set.__init__» noKeywords qaV;generalize hPI:pyIter=PI
    wp_walk
    subst hPI;refine wpAny_pyIter_tuple hl1 ?_;refine xb (wpAny_runValue ?_);have hlS:l<s.heap.objs.size:=qC hol;have hh3:A.in1.in1.in1.handled=none:=by simp[hh]
    have hneI:l≠(s.heap.push (Xf (!Ye w))).objs.size:=by rw[zN];exact qD (zB hlS)
    have hSf:s.heap.objs.size∉[(s.heap.push (Xf (!Ye w))).objs.size,l]:=by
     rw[zN];simp only[qy,qQ,zI,or_false,not_or];exact⟨qD (z9 _),qaM hlS⟩
    have hval:∀(i:Nat) (v:Value),items[i]?=some v->∃t,v=.int ((λi=>ns.getD i 0) i) t:=λi v hv=>IntsAre.int_at hi i v (by rw[yp];exact hv);refine Zgd ((Walks.tuple hh3 _ l hneI items).toS) s.heap.objs.size hSf (λi=>ns.getD i 0) hval hb (items.size-0) 0 _ (by omega) (zk _) ⟨⟨_,qz _ rfl,rfl,rfl⟩,(hl1.push _)⟩ ?hS0 ?hR
    case hS0=>
     have hget:((s.heap.push (Xf (!Ye w))).push { cls:=.type "tuple_iterator",data:=.fields #[.ref l,.int 0 0] }).get? s.heap.objs.size=some (Xf (!Ye w)):=qd _ hS;exact Zeq hget
    case hR=>
     intro s' hm hS';obtain⟨h',g',d',tk',os'⟩:=s';have eg:g'=s.gens:=hm.gens;have ed:d'=s.drawn:=hm.drawn;have eo:os'=s.os:=hm.os;subst eg;subst ed;subst eo;show xg _ _ _ _ _ _;refine xc ?_;show xg _ _ (ret qR) _ _ _;refine xc ⟨rfl,h',tk',rfl,hS',λb o hb e=>?_⟩;have hb1:b≠s.heap.objs.size:=qD hb;have hb2:b≠(s.heap.push (Xf (!Ye w))).objs.size:=by rw[zN];exact qD (zB hb)
     exact hm.heap b o (by simp only[qy,qQ,zI,or_false,not_or];exact⟨hb1,hb2⟩) (qd _ (qd _ e))
   ·cases r₂ with
    | error e=>exact hr₂
    | ok fl₂=>
     cases fl₂ with
     | ret r=>
      obtain⟨rfl,h',tk,rfl,hS',hk'⟩:=hr₂;repeat (any_goals (first | assumption | wp_step))
      exact h _ _ hS' hk'
     | next=>exact hr₂.elim
     | brk=>exact hr₂.elim
     | cont=>exact hr₂.elim
  | next=>exact hr.elim
  | brk=>exact hr.elim
  | cont=>exact hr.elim
theorem setL_of_list {l:Addr}{items:Array Value}{ns:List Int}{Q:xH}(hh:A.handled=none)(hl:s.heap.IsList l items)(hi:IntsAre items.toList ns)(hb:items.size+1<scanBound)
  (h:∀(h':Heap) (tk:Nat),SetLed prog w h' s.heap.objs.size (λk'=>(firstMet (λi=>ns.getD i 0) items.size).any (· == k')) (firstMet (λi=>ns.getD i 0) items.size).length->(∀b o,b<s.heap.objs.size->s.heap.get? b=some o->h'.get? b=some o)->Q (.ref s.heap.objs.size) { s with heap:=h',toks:=tk }) :
  xg (xD prog w) A (call (.type "set") [.ref l]) Q E s:=by
 obtain⟨c,tl,hmro⟩:=zd.mro;have hmade:=zd.made;have hsub:=zd.sub;refine xC (codeAny_of_tree ?_);show xg _ _ (callAny (.type "set") _) _ _ _;refine xc ⟨qaY _ (by decide +kernel),xo qbq ?_⟩;rw[xG.under_plain (weight_type_call_type "set" [.ref l] []) rfl];have h1:=zd.notType;have h2:=zd.canCreate;have hct:=qbz (.ref l)
 repeat (any_goals (first | assumption | wp_step))
 refine codeAny_mono (ZlK (.ref l) (E:=E) (Q₁:=λobj s₁=>obj=.ref s.heap.objs.size/\s₁ = { s with heap:=s.heap.push (Xf (!Ye w)) }) ⟨rfl,rfl⟩) λr s₁ hr=>?_
 cases r with
 | error e=>exact hr
 | ok fl=>
  cases fl with
  | ret obj=>
   obtain⟨rfl,rfl⟩:=hr;have hS:(s.heap.push (Xf (!Ye w))).get? s.heap.objs.size=some (Xf (!Ye w)):=qz _ rfl;have hT:qa4 { s with heap:=s.heap.push (Xf (!Ye w)) } (.ref s.heap.objs.size) "set":=⟨_,hS,rfl⟩;have hli:=zd.init.lookup;have hbi:=zd.init.bind (.ref s.heap.objs.size)
   repeat (any_goals (first | assumption | wp_step))
   refine codeAny_mono (codeAny_call_builtin (R:=wants (λr s₂=>r=.none/\∃h' tk,s₂ = { s with heap:=h',toks:=tk }/\SetLed prog w h' s.heap.objs.size (λk'=>(firstMet (λi=>ns.getD i 0) items.size).any (· == k')) (firstMet (λi=>ns.getD i 0) items.size).length/\(∀b o,b<s.heap.objs.size->s.heap.get? b=some o->h'.get? b=some o)) E) zd.init.plain qbA (check_set_init_1 hT ?_)) λr₂ s₂ hr₂=>?_
   ·obtain⟨ol,hol,hcl,nl,hdl⟩:=hl;obtain⟨ocls,odict,odata,oslots⟩:=ol
    simp only at hcl hdl;subst hcl;subst hdl;have hol':(s.heap.push (Xf (!Ye w))).get? l=some { cls:=.type "list",dict:=odict,data:=.seq items nl,slots:=oslots }:=qd _ hol;have z1:=PySem.F.sub_list_set;have z2:=PySem.F.sub_list_frozenset;have hne:(yj "list" == yj "dict")=false:=by decide
    have hl1:(s.heap.push (Xf (!Ye w))).IsList l items:=⟨_,hol',rfl,nl,rfl⟩;unfold Builtin.«set.__init__» noKeywords qaV;generalize hPI:pyIter=PI
    wp_walk
    subst hPI;refine wpAny_pyIter_list hl1 ?_;refine xb (wpAny_runValue ?_);have hlS:l<s.heap.objs.size:=qC hol;have hh3:A.in1.in1.in1.handled=none:=by simp[hh]
    have hneI:l≠(s.heap.push (Xf (!Ye w))).objs.size:=by rw[zN];exact qD (zB hlS)
    have hSf:s.heap.objs.size∉[(s.heap.push (Xf (!Ye w))).objs.size,l]:=by
     rw[zN];simp only[qy,qQ,zI,or_false,not_or];exact⟨qD (z9 _),qaM hlS⟩
    have hval:∀(i:Nat) (v:Value),items[i]?=some v->∃t,v=.int ((λi=>ns.getD i 0) i) t:=λi v hv=>IntsAre.int_at hi i v (by rw[yp];exact hv);refine Zgd ((Walks.list hh3 _ l hneI items).toS) s.heap.objs.size hSf (λi=>ns.getD i 0) hval hb (items.size-0) 0 _ (by omega) (zk _) ⟨⟨_,qz _ rfl,rfl,rfl⟩,(hl1.push _)⟩ ?hS0 ?hR
    case hS0=>
     have hget:((s.heap.push (Xf (!Ye w))).push { cls:=.type "list_iterator",data:=.fields #[.ref l,.int 0 0] }).get? s.heap.objs.size=some (Xf (!Ye w)):=qd _ hS;exact Zeq hget
    case hR=>
     intro s' hm hS';obtain⟨h',g',d',tk',os'⟩:=s';have eg:g'=s.gens:=hm.gens;have ed:d'=s.drawn:=hm.drawn;have eo:os'=s.os:=hm.os;subst eg;subst ed;subst eo;show xg _ _ _ _ _ _;refine xc ?_;show xg _ _ (ret qR) _ _ _;refine xc ⟨rfl,h',tk',rfl,hS',λb o hb e=>?_⟩;have hb1:b≠s.heap.objs.size:=qD hb;have hb2:b≠(s.heap.push (Xf (!Ye w))).objs.size:=by rw[zN];exact qD (zB hb)
     exact hm.heap b o (by simp only[qy,qQ,zI,or_false,not_or];exact⟨hb1,hb2⟩) (qd _ (qd _ e))
   ·cases r₂ with
    | error e=>exact hr₂
    | ok fl₂=>
     cases fl₂ with
     | ret r=>
      obtain⟨rfl,h',tk,rfl,hS',hk'⟩:=hr₂;repeat (any_goals (first | assumption | wp_step))
      exact h _ _ hS' hk'
     | next=>exact hr₂.elim
     | brk=>exact hr₂.elim
     | cont=>exact hr₂.elim
  | next=>exact hr.elim
  | brk=>exact hr.elim
  | cont=>exact hr.elim
end
namespace FS
theorem entry_set_iter:entryFor table "set.__iter__" = some Builtin.«frozenset.__iter__»:=
 entryFor_alias (id':="frozenset.__iter__") (by kernel_rfl) rfl (by decide +kernel) (by kernel_rfl)
theorem slot_next:Slot "set_iterator" "__next__" "set_iterator.__next__":=
 .of (owner:="set_iterator") (n:="__next__") (by rw[typeLookup_type,builtinLookup_eq_fast];kernel_rfl)
  (by decide +kernel) (by decide +kernel) (by decide +kernel)
  (by first | exact .inl (by rfl) | rfl)
  (by rfl)
theorem entry_next:entryFor table "set_iterator.__next__" = some Builtin.«set_iterator.__next__»:=
 entryFor_of_tree (by kernel_rfl)
theorem args_next (a:Value):argsOk "set_iterator.__next__" ⟨[a],[]⟩:=by
 rfl
end FS
theorem erase_perm {α:Type}:∀(l:List α) {i:Nat} (h:i<l.length),([l[i]]++l.eraseIdx i).Perm l
 | a::l,0,_=>.refl _
 | a::l,i+1,h=>by
  have ih:=erase_perm l (i:=i) (by simp_all);exact(yT.swap _ _ _).trans (ih.cons a)
theorem Ziw (f:Nat->Nat):∀(n k:Nat) (l:List α) (out:Array α),l.length=n->(pickOrder.go f n k l out).toList.Perm (out.toList++l)
 | 0,k,l,out,h=>by
  have:=zF.mp h;subst this;unfold pickOrder.go;simp
 | n+1,k,l,out,h=>by
  unfold pickOrder.go;have hl:f k % l.length<l.length:=Nat.mod_lt _ (by omega);rw[qB hl];refine(Ziw f n (k+1) _ _ (by grind)).trans ?_;rw[Array.toList_push,qa8];refine yT.append_left _ ?_;exact erase_perm l hl
theorem Zb9 (f:Nat->Nat)(xs:Array α):(pickOrder f xs).toList.Perm xs.toList:=by
 have:=Ziw f xs.size 0 xs.toList #[] (by simp);simpa[pickOrder]using this
section
variable {prog:xF}{w:World}{A:xG}{E:xH}{s:Shared}
theorem Zer:∀(n:Nat) (l:List α) (s:Shared) (Q:List α->Shared->Prop),l.length=n->(∀(r:List α) d,r.Perm l->Q r { s with drawn:=d })->xg (xD prog w) A (drawOrder n l) Q E s
 | 0,l,s,Q,h,k=>by
  have:=zF.mp h;subst this;exact xc (k [] s.drawn (.refl _))
 | n+1,[],s,Q,h,k=>by cases h
 | n+1,a::l,s,Q,h,k=>by
  refine xb ?_;intro Γ p hΓ;refine⟨by simp,?_⟩;have hl:(xD prog w).w.draws .order (s.drawn.get .order) % (a::l).length<(a::l).length:=Nat.mod_lt _ (by simp);rw[Sem.wp_pure];dsimp only;rw[qB hl];refine xb (Zer n _ _ _ (by rw[List.length_eraseIdx_of_lt hl,h];rfl) λr d hr=>?_);exact xc (k _ d ((hr.cons _).trans (erase_perm (a::l) hl)))
noncomputable abbrev XV (first:Value)(i:Nat)(a:Addr)(n ep:Nat):Obj:={ cls:=.type "set_iterator",data:=.fields #[first,rawInt i,.ref a,rawInt n,rawInt ep] }
theorem Zix {slot:Nat}
  (Z9:s.heap.get? it=some (XV (rawInt slot) i a es.size ep)) (ho:s.heap.get? a=some o) (hd:o.data=.set es ep t) (hf:t.fits es.size=true)
  (hn:∀(A:xG) (E:xH) (F:Option (Value×Nat)->Shared->Prop),F (some (x,nx)) s->xg (xD prog w) A (setNext a slot i ep) F E s)
  (hQ:∀h',h'.get? it=some (XV (rawInt nx) (i+1) a es.size ep)->zG it s.heap h'->Q (some x) { s with heap:=h' }):xg (xD prog w) A (pyNext (.ref it)) Q E s:=by
 have hT:s.TypeIs (.ref it) "set_iterator":=⟨_,Z9,rfl⟩;unfold pyNext;refine xb (wpAny_attempt (wpAny_callSpecial?_slot (name:=qH "__next__") hT FS.slot_next
  (wpAny_call_entry FS.slot_next hT FS.entry_next ?_ (FS.args_next _))))
 unfold Builtin.«set_iterator.__next__»;refine xb (m:=slotArgs _ _ _) (xc ?_);refine xb (wpAny_fieldsOf Z9 rfl ?_);refine xb (wpAny_setEntries_of ho hd hf ?_);rw[if_neg (by simp)];refine xb (hn _ _ _ ?_);refine xb (wpAny_setField Z9 rfl (by simp) ?_);have g1:(s.heap.update it (qaG (·.setIfInBounds 0 (rawInt nx)))).get? it=some (XV (rawInt nx) i a es.size ep):=zD _ Z9 rfl;refine xb (wpAny_setField g1 rfl (by simp) ?_);have g2:((s.heap.update it (qaG (·.setIfInBounds 0 (rawInt nx)))).update it (qaG (·.setIfInBounds 1 (rawInt ((i:Int)+1))))).get? it=some (XV (rawInt nx) (i+1) a es.size ep):=zD _ g1 rfl;exact xc ⟨_,rfl,xc (hQ _ g2 ((yL ..).trans (yL ..)))⟩
theorem Ziy (hh:A.handled=none)(Z9:s.heap.get? it=some (XV f i a n ep))
  (k:∀(A:xG) (G:Fin->Shared->Prop) (F:xH),A.handled=none->(∀v h',qaB it s.heap h'->qa4 { s with heap:=h' } v "StopIteration"->F v { s with heap:=h' })->xg (xD prog w) A (Builtin.«set_iterator.__next__» ⟨[.ref it],[]⟩) G F s)
  (hQ:∀h',qaB it s.heap h'->Q none { s with heap:=h' }):xg (xD prog w) A (pyNext (.ref it)) Q E s:=by
 have hT:s.TypeIs (.ref it) "set_iterator":=⟨_,Z9,rfl⟩;refine xb (wpAny_attempt (wpAny_callSpecial?_slot hT FS.slot_next
  (wpAny_call_entry FS.slot_next hT FS.entry_next (k _ _ _ hh λv h' e tv=>?_) (FS.args_next _))))
 refine xb (wpAny_isInstance tv isSubtype_stop ?_);exact xc (hQ _ e)
end
end HT
namespace HT
section
variable {prog:xF}{w:World}{A:xG}{E:xH}{s:Shared}
variable {a:Addr}{o:Obj}{es:Array (Int×Value)}{ep:Nat}{t:SetTable}
theorem Zes (ho:s.heap.get? a=some o)(hd:o.data=.set es ep t)(hf:t.fits es.size=true)(hT:Ye w=true)
  (k:F (((pickOrder (w.params.setOrder a ep) es)[i]?).map λe=>(e.2,slot)) s):xg (xD prog w) A (setNext a slot i ep) F E s:=by
 refine xb (wpAny_setState_of ho hd hf ?_);show xg _ _ (if Ye w=true then _ else _) _ _ _;rw[if_pos hT,if_neg (by simp)];refine xb (xb (wpAny_setState_of ho hd hf ?_));show xg _ _ (if Ye w=true then _ else _) _ _ _;rw[if_pos hT];refine xb (wpAny_askSetting (xc ?_));exact xc k
theorem Zdd (ho:s.heap.get? a=some o)(hd:o.data=.set es ep t)(hf:t.fits es.size=true)(hT:Ye w=false)(hdr:(!t.plain&&decide (es.size > 1))=false)(hl:t.led=true)
  (k:F (match es[qN t.place slot]?,t.place[qN t.place slot]? with | some (_,x),some j=>some (x,j+1) | _,_=>none) s):xg (xD prog w) A (setNext a slot i ep) F E s:=by
 unfold setNext;refine xb (wpAny_setState_of ho hd hf ?_);dsimp only;show xg _ _ (if Ye w=true then _ else _) _ _ _;rw[if_neg (by rw[hT];decide)];show xg _ _ (if (!t.plain&&decide (es.size > 1))=true then _ else _) _ _ _;rw[if_neg (by rw[hdr];decide)];show xg _ _ ((if (!t.led && !es.isEmpty)=true then unsupported "set:maker-not-led" else pure ()) >>= _) _ _ _;rw[if_neg (by simp[hl])];exact xc k
theorem Zde (hh:A.handled=none)(k:∀v h',(∀b u,s.heap.get? b=some u->h'.get? b=some u)->qa4 { s with heap:=h' } v "StopIteration"->F v { s with heap:=h' }) :
  xg (xD prog w) A (newExc (.type "StopIteration") [] >>= λe=>(raiseNew e:Sem Fin)) G F s:=by
 refine xb ?_;simp only[newExc,newTuple];refine xb (xm ?_ (by size_fits));refine xb (m:=firstArgMember _ _) (wpAny_of_eq (a:=qR) (by first | rfl | (simp only[firstArgMember];rfl)) ?_);refine xm ?_ (by size_fits);simp only[raiseNew];refine xb (wpAny_handled ?_);rw[hh];refine xb (xc (wpAny_throw ?_));exact k _ _ (λb u e=>qd _ (qd _ e)) ⟨_,qz _ rfl,rfl⟩
theorem ZlL {slot:Nat}(hh:A.handled=none)(Z9:s.heap.get? it=some (XV (rawInt slot) i a es.size ep))(ho:s.heap.get? a=some o)(hd:o.data=.set es ep t)(hf:t.fits es.size=true)
  (hn:∀(A:xG) (E:xH) (F:Option (Value×Nat)->Shared->Prop),F none s->xg (xD prog w) A (setNext a slot i ep) F E s)
  (hQ:∀h',qaB it s.heap h'->Q none { s with heap:=h' }):xg (xD prog w) A (pyNext (.ref it)) Q E s:=by
 refine Ziy hh Z9 (λA G F hh k=>?_) hQ;refine xb (xc ?_);refine xb (wpAny_fieldsOf Z9 rfl ?_);refine xb (wpAny_setEntries_of ho hd hf ?_);rw[if_neg (by simp)];refine xb (hn _ _ _ ?_);refine xb (wpAny_setField Z9 rfl (by simp) ?_);refine Zde hh λv h' e tv=>k v h' (λb u nb eb=>e b u ?_) tv;exact(zj _ _ (zh nb)).trans eb
namespace FS
theorem entry_si_iter:entryFor table "set_iterator.__iter__" = some Builtin.«dict_keyiterator.__iter__»:=
 entryFor_alias (id':="dict_keyiterator.__iter__") (by kernel_rfl) rfl (by decide +kernel) (by kernel_rfl)
theorem slot_si_iter:Slot "set_iterator" "__iter__" "set_iterator.__iter__":=
 .of (owner:="set_iterator") (n:="__iter__") (by rw[typeLookup_type,builtinLookup_eq_fast];kernel_rfl)
  (by decide +kernel) (by decide +kernel) (by decide +kernel)
  (by first | exact .inl (by rfl) | rfl)
  (by rfl)
theorem args_si_iter (a:Value):argsOk "set_iterator.__iter__" ⟨[a],[]⟩:=by
 rfl
end FS
theorem Zge (Z9:s.heap.get? it=some (XV f i a n ep))(h:Q (.ref it) s):xg (xD prog w) A (pyIter (.ref it)) Q E s:=by
 have hT:s.TypeIs (.ref it) "set_iterator":=⟨_,Z9,rfl⟩;refine wpAny_pyIter_slot hT FS.slot_si_iter (wpAny_call_entry FS.slot_si_iter hT FS.entry_si_iter ?_ (FS.args_si_iter _));exact xc ⟨_,rfl,"set_iterator",_,hT,FS.slot_next.lookup,h⟩
noncomputable def V1 (w:World)(a:Addr)(ep:Nat)(es:Array (Int×Value)):List Value:=if Ye w=true then (pickOrder (w.params.setOrder a ep) es).toList.map (·.2)else es.toList.map (·.2)
theorem Zgf:(V1 w a ep es).Perm (es.toList.map (·.2)):=by
 unfold V1;split
 ·exact(Zb9 _ es).map _
 ·rfl
theorem Znp:(V1 w a ep es).length=es.size:=by rw[Zgf.length_eq,qj,qO]
theorem ZlM (hh:A.handled=none)(I:Addr)(hne:a≠I)(hd:o.data=.set es ep t)(hf:t.fits es.size=true)(hg:Good w t)(hdr:Ye w=true∨(!t.plain&&decide (es.size > 1))=false) :
  Walks prog w A I [I,a] [I] es.size (λi v=>(V1 w a ep es)[i]?=some v) (λi h=>h.get? a=some o/\∃slot:Nat,h.get? I=some (XV (rawInt slot) i a es.size ep)/\(Ye w=true∨qN t.place slot=i)) where
 sub:=λb hb=>by simp at hb;simp[hb]
 frame:=λi h h' st k=>by
  obtain⟨h1,slot,h2,h3⟩:=st;exact⟨k a (by simp) _ h1,slot,k I (by simp) _ h2,h3⟩
 item:=λi s Q E hi st k=>by
  obtain⟨h1,slot,h2,h3⟩:=st;have hps:t.place.size=es.size:=by
   simp only[SetTable.fits,zU,beq_iff_eq]at hf;exact hf.1
  have fin:∀(x:Value) (nx:Nat),(V1 w a ep es)[i]?=some x->(Ye w=true∨qN t.place nx=i+1)->∀h',h'.get? I=some (XV (rawInt nx) (i+1) a es.size ep)->zG I s.heap h'->Q (some x) { s with heap:=h' }:=λx nx hx hb h' g sb=>
   k x h' s.toks hx ⟨(sb.2 a hne).trans h1,nx,g,hb⟩ λb u nb e=>(sb.2 b (λz=>nb (by simp[z]))).trans e
  cases hT:Ye w with
  | true=>
   have jQ:i<(pickOrder (w.params.setOrder a ep) es).size:=by
    have:=(Zb9 (w.params.setOrder a ep) es).length_eq;simp only[qO]at this;omega
   have hx:(V1 w a ep es)[i]?=some (pickOrder (w.params.setOrder a ep) es)[i].2:=by
    unfold V1;rw[if_pos hT,qM,yp,zg jQ];rfl
   refine Zix (nx:=slot) h2 h1 hd hf (λA E F q=>Zes h1 hd hf hT ?_) (fin _ slot hx (.inl hT));rw[zg jQ];exact q
  | false=>
   have hb:qN t.place slot=i:=h3.resolve_left (by rw[hT];decide);have hdr':=hdr.resolve_left (by rw[hT];decide);have hl:=hg.1.resolve_left (by rw[hT];decide);have hx:(V1 w a ep es)[i]?=some es[i].2:=by
    unfold V1;rw[if_neg (by rw[hT];decide),qM,yp,zg hi];rfl
   have hp:t.place[i]?=some (t.place.getD i 0):=by
    rw[zS,zg (by omega)];rfl
   refine Zix (nx:=t.place.getD i 0+1) h2 h1 hd hf (λA E F q=>Zdd h1 hd hf hT hdr' hl ?_) (fin _ _ hx (.inr (Zhr hg.2 (by omega))));rw[hb,zg hi,hp];exact q
 done:=λs Q E st k=>by
  obtain⟨h1,slot,h2,h3⟩:=st;have fin:∀h',qaB I s.heap h'->Q none { s with heap:=h' }:=λh' e=>k h' s.toks λb u nb g=>e b u (λz=>nb (by simp[z])) g
  cases hT:Ye w with
  | true=>
   refine ZlL hh h2 h1 hd hf (λA E F q=>Zes h1 hd hf hT ?_) fin;rw[qbB]
   ·exact q
   ·have:=(Zb9 (w.params.setOrder a ep) es).length_eq
    simp only[qO]at this;omega
  | false=>
   have hb:qN t.place slot=es.size:=h3.resolve_left (by rw[hT];decide);refine ZlL hh h2 h1 hd hf (λA E F q=>Zdd h1 hd hf hT (hdr.resolve_left (by rw[hT];decide)) (hg.1.resolve_left (by rw[hT];decide)) ?_) fin;simp_all
 self:=λi s Q E st k=>Zge st.2.choose_spec.1 k
noncomputable abbrev Vd (pl:List Nat):Array Value:=(pl.map λ(i:Nat)=>rawInt i).toArray
theorem Znq
  (Z9:s.heap.get? it=some (XV (.ref T) i a es.size ep)) (ho:s.heap.get? a=some o) (hd:o.data=.set es ep t) (hf:t.fits es.size=true)
  (hT:s.heap.get? T=some { cls:=.type "tuple",data:=.seq (Vd pl) c }) (hp:pl[i]?=some p) (hx:es[p]?=some x)
  (hQ:∀h',h'.get? it=some (XV (.ref T) (i+1) a es.size ep)->zG it s.heap h'->Q (some x.2) { s with heap:=h' }):xg (xD prog w) A (pyNext (.ref it)) Q E s:=by
 have hTy:s.TypeIs (.ref it) "set_iterator":=⟨_,Z9,rfl⟩;unfold pyNext;refine xb (wpAny_attempt (wpAny_callSpecial?_slot (name:=qH "__next__") hTy FS.slot_next
  (wpAny_call_entry FS.slot_next hTy FS.entry_next ?_ (FS.args_next _))))
 unfold Builtin.«set_iterator.__next__»;refine xb (m:=slotArgs _ _ _) (xc ?_);refine xb (wpAny_fieldsOf Z9 rfl ?_);show xg _ _ (setEntries a >>= _) _ _ _;refine xb (wpAny_setEntries_of ho hd hf ?_);rw[if_neg (by simp)];show xg _ _ (seqItems? (.ref T) >>= _) _ _ _;refine xb (xu hT rfl ?_);have e:(Vd pl)[((i:Nat):Int).toNat]?=some (rawInt p):=by
  rw[qax];simp[Vd,hp]
 dsimp only;rw[e];show xg _ _ (setNextDrawn a p ep >>= _) _ _ _;refine xb (xb (wpAny_setState_of ho hd hf ?_));dsimp only;rw[if_neg (by simp),hx];refine xc ?_;refine xb (wpAny_setField Z9 rfl (by simp) ?_);have g2:(s.heap.update it (qaG (·.setIfInBounds 1 (rawInt ((i:Int)+1))))).get? it=some (XV (.ref T) (i+1) a es.size ep):=zD _ Z9 rfl;exact xc ⟨_,rfl,xc (hQ _ g2 (yL ..))⟩
theorem Zpg (hh:A.handled=none)
  (Z9:s.heap.get? it=some (XV (.ref T) i a es.size ep)) (ho:s.heap.get? a=some o) (hd:o.data=.set es ep t) (hf:t.fits es.size=true)
  (hT:s.heap.get? T=some { cls:=.type "tuple",data:=.seq (Vd pl) c }) (hp:pl.length<=i)
  (hQ:∀h',qaB it s.heap h'->Q none { s with heap:=h' }):xg (xD prog w) A (pyNext (.ref it)) Q E s:=by
 refine Ziy hh Z9 (λA G F hh k=>?_) hQ;unfold Builtin.«set_iterator.__next__»;refine xb (m:=slotArgs _ _ _) (xc ?_);refine xb (wpAny_fieldsOf Z9 rfl ?_);show xg _ _ (setEntries a >>= _) _ _ _;refine xb (wpAny_setEntries_of ho hd hf ?_);rw[if_neg (by simp)];show xg _ _ (seqItems? (.ref T) >>= _) _ _ _;refine xb (xu hT rfl ?_);have e:(Vd pl)[((i:Nat):Int).toNat]?=none:=by
  simp_all
 dsimp only;rw[e];refine xb (wpAny_setField Z9 rfl (by simp) ?_);have g1:(s.heap.update it (qaG (·.setIfInBounds 0 (rawInt 0)))).get? it=some (XV (rawInt 0) i a es.size ep):=zD _ Z9 rfl;refine xb (wpAny_setField g1 rfl (by simp) ?_);refine Zde hh λv h' e tv=>k v h' (λb u nb eb=>e b u ?_) tv;exact(zj _ _ (zh nb)).trans ((zj _ _ (zh nb)).trans eb)
noncomputable def BF (es:Array (Int×Value))(pl:List Nat):List Value:=pl.map λp=>(es.getD p default).2
theorem ZjK (hp:pl.Perm (qf es.size)):(BF es pl).Perm (es.toList.map (·.2)):=by
 refine(hp.map _).trans ?_;have:((qf es.size).map λp=>(es.getD p default).2)=es.toList.map (·.2):=by
  apply yW;intro i;by_cases hi:i<es.size
  ·simp_all
  ·simp_all
 rw[this]
theorem Zht (hh:A.handled=none)(I T:Addr)(hne:a≠I)(hneT:T≠I)(hd:o.data=.set es ep t)(hf:t.fits es.size=true)(hp:pl.Perm (qf es.size)) :
  Walks prog w A I [I,a,T] [I] es.size (λi v=>(BF es pl)[i]?=some v) (λi h=>h.get? a=some o/\h.get? I=some (XV (.ref T) i a es.size ep)/\h.get? T=some { cls:=.type "tuple",data:=.seq (Vd pl) c }) where
 sub:=λb hb=>by simp at hb;simp[hb]
 frame:=λi h h' st k=>⟨k a (by simp) _ st.1,k I (by simp) _ st.2.1,k T (by simp) _ st.2.2⟩
 item:=λi s Q E hi st k=>by
  obtain⟨h1,h2,h3⟩:=st;have hl:i<pl.length:=by rw[hp.length_eq,qI];exact hi
  have hm:pl[i]<es.size:=qu.mp (hp.mem_iff.mp (yn hl));have hx:(BF es pl)[i]?=some es[pl[i]].2:=by
   unfold BF;simp_all
  exact Znq h2 h1 hd hf h3 (qB hl) (zg hm) λh' g sb=>k _ h' s.toks hx ⟨(sb.2 a hne).trans h1,g,(sb.2 T hneT).trans h3⟩ λb u nb e=>(sb.2 b (λz=>nb (by simp[z]))).trans e
 done:=λs Q E st k=>by
  obtain⟨h1,h2,h3⟩:=st;exact Zpg hh h2 h1 hd hf h3 (by rw[hp.length_eq];simp) λh' e=>k h' s.toks λb u nb g=>e b u (λz=>nb (by simp[z])) g
 self:=λi s Q E st k=>Zge st.2.1 k
theorem ZlN (ho:s.heap.get? a=some o)(hex:o.ExactSet)(hd:o.data=.set es ep t)(hf:t.fits es.size=true)(hz:es.size<=1000)
  (k1:(Ye w=true∨(!t.plain&&decide (es.size > 1))=false)->Q (.ref s.heap.objs.size) { s with heap:=s.heap.push (XV (rawInt (0:Nat)) 0 a es.size ep) })
  (k2:∀(pl:List Nat) d,pl.Perm (qf es.size)->Q (.ref (s.heap.objs.size+1)) { s with heap:=(s.heap.push { cls:=.type "tuple",data:=.seq (Vd pl) }).push (XV (.ref s.heap.objs.size) 0 a es.size ep),drawn:=d }):xg (xD prog w) A (pyIter (.ref a)) Q E s:=by
 have hT:s.TypeIs (.ref a) "set":=⟨o,ho,hex.1⟩;refine wpAny_pyIter_slot hT qbL (wpAny_call_entry qbL hT FS.entry_set_iter ?_ (PySem.F.args_set_iter_1 _));unfold Builtin.«frozenset.__iter__» Builtin.Frozenset.slot0;refine xb (xb (m:=slotArgs _ _ _) (xc ?_));refine xc ?_;unfold Builtin.Frozenset.sizeOf;refine xb (xb (wpAny_setEntries_of ho hd hf (xc ?_)));unfold setDrawn;refine xb (xb (wpAny_setState_of ho hd hf ?_));dsimp only;unfold setsByText;refine xb (xb (wpAny_askSetting (xc (xc ?_))));show xg _ _ (if (!Ye w&&(!t.plain&&decide (es.size > 1)))=true then _ else _) _ _ _;by_cases hc:(!Ye w&&(!t.plain&&decide (es.size > 1)))=true
 ·rw[if_pos hc]
  refine xb (Zer es.size (qf es.size) _ _ qI λpl d hp=>?_);have hpl:pl.length=es.size:=by rw[hp.length_eq,qI]
  unfold newTuple;refine xb (xm ?_ (by show(Vd pl).size<=xh;rw[sizeLine_eq];simp[Vd];omega));refine xb (wpAny_setEpoch_of (s:={ s with heap:=s.heap.push { cls:=.type "tuple",data:=.seq (Vd pl) },drawn:=d }) (qd _ ho) hd hf ?_);unfold newFields;refine xb (xm ?_);refine xc ⟨_,rfl,"set_iterator",_,⟨_,qz _ rfl,rfl⟩,FS.slot_next.lookup,?_⟩;have:=k2 pl d hp;rw[<-zN s.heap { cls:=.type "tuple",data:=.seq (Vd pl) }]at this;exact this
 ·rw[if_neg hc]
  refine xb (xc ?_);refine xb (wpAny_setEpoch_of ho hd hf ?_);unfold newFields;refine xb (xm ?_);refine xc ⟨_,rfl,"set_iterator",_,⟨_,qz _ rfl,rfl⟩,FS.slot_next.lookup,?_⟩;refine k1 ?_
  cases hb:Ye w with
  | true=>exact .inl rfl
  | false=>
   simp_all
end
end HT
namespace HT
section
variable {prog:xF}{w:World}{A:xG}{E:xH}{s:Shared}
variable {a:Addr}{o:Obj}{es:Array (Int×Value)}{ep:Nat}{t:SetTable}
theorem ZlO (hT:s.TypeIs (.ref a) "set")(h:Q false s):xg (xD prog w) A (yY (.ref a)) Q E s:=by
 unfold yY;refine xb (wpAny_specialOf hT PySem.F.slot_set_len.lookup ?_);generalize hid:("set.__len__" : String)=id0
 wp_delta
 rw[show splitId id0=some ("set","__len__")from by subst hid;decide +kernel];subst hid;refine xb (wpAny_isInstance (T:="set") (b:=true) hT (by rw[isSubtype_type];kernel_rfl) ?_);refine wpAny_ite_split (λz=>absurd z (by decide)) (λ_=>?_);refine xb (wpAny_typeOf hT ?_);exact xc h
theorem ZlP (h:ItemsOf (λi v=>l[i]?=some v) jO l.length):jO.toList=l:=by
 apply yW;intro i;rw[yp];by_cases hi:i<l.length
 ·have hs:i<jO.size:=by rw[h.1];exact hi
  rw[zg hs];exact(h.2 i _ (zg hs)).symm
 ·rw[qbB (by rw[h.1];omega),List.getElem?_eq_none (by omega)]
theorem after {l:List Value}{St:Nat->Heap->Prop}{g:Bool->Bool}(W:Walks prog w A.in1 I fp wr n (λi v=>l[i]?=some v) St)(hl:l.length=n)(hn:n<=1000)(st:St 0 s1.heap)(hSf:S∉fp)
  (hS:s1.heap.get? S=some { cls:=.type "list",data:=.seq #[] 0 }) (hT:s1.TypeIs (.ref a) "set") (hg:g false=true)
  (k:∀h' tk c,(∀b u,b∉S::wr->s1.heap.get? b=some u->h'.get? b=some u)->h'.get? S=some { cls:=.type "list",dict:=none,data:=.seq l.toArray c,slots:=#[] }->R (.ok (.ret (.ref S))) { s1 with heap:=h',toks:=tk }) :
  xg (xD prog w) A.in1 (do
   let room<-holding [.ref I] (yY (.ref a))
   if g room=true then do
    rule "list.extend.makes-room"
    Builtin.List.listTouch (.ref S)
    again (.builtin "list.extend.loop" { pos:=[.ref S,.ref I,.ref S] })
   else again (.builtin "list.extend.loop" { pos:=[.ref S,.ref I,.ref S] }))
   (λfin s'=>match fin with | .done f=>R (.ok f) s' | .again c'=>c'.quiet=true/\xp (xD prog w) A c' R s') (λe s'=>R (.error e) s') s1:=by
 refine xb (xy (ZlO hT ?_));rw[if_pos hg];refine xb (wpAny_rule (xb ?_));show xg _ _ (updateSeq S (·.push .none) >>= λ_=>updateSeq S (·.pop)) _ _ _;refine xb (xA hS rfl ?_);have q2:=zD (qU (·.push qR)) hS rfl;refine xA (hz:=by seq_fits) q2 rfl ?_;have q3:=zD (qU (·.pop)) q2 rfl;have oth:∀b u,b≠S->s1.heap.get? b=some u->((s1.heap.update S (qU (·.push qR))).update S (qU (·.pop))).get? b=some u:=λb u nb e=>
  (zj _ _ (zh nb)).trans ((zj _ _ (zh nb)).trans e)
 refine xc ⟨plainId_quiet F.plain_extend_loop _,codeAny_extend_loopS W.toS (by rw[sizeLine_eq];omega) S hSf _ n 0 _ #[] _ rfl (zk _) (W.frame 0 s1.heap _ st λb m u e=>oth b u (λz=>hSf (z▸m)) e) q3 (ItemsOf.nil _) λs' acc' c' hm hS' hacc=>?_⟩;rw[Moved.eq_with hm];rw[<-hl]at hacc;have el:=ZlP hacc;refine k s'.heap s'.toks c' (λb u nb e=>hm.heap b u nb (oth b u (λz=>nb (by simp[z])) e)) ?_;rw[hS',<-el]
noncomputable def RF (prog:xF)(w:World)(A:xG)(E:xH)(Q:List Value->Shared->Prop)(S:Addr):Result->Shared->Prop:=λr s'=>r=.ok (.ret (.ref S))/\xg (xD prog w) A (load S >>= λx=>match x.data with | .seq xs _=>pure xs.toList | _=>unsupported "internal:collect") Q E s'
theorem Zgg (hh:A.handled=none)(ho:s.heap.get? a=some o)(hex:o.ExactSet)(hd:o.data=.set es ep t)(hf:t.fits es.size=true)(hg:Good w t)(hz:es.size<=1000)
  (k:∀(vs:List Value) (h':Heap) (tk:Nat) d,(∀b u,s.heap.get? b=some u->h'.get? b=some u)->s.heap.objs.size<h'.objs.size->vs.Perm (es.toList.map (·.2))->Q vs { s with heap:=h',toks:=tk,drawn:=d }):xg (xD prog w) A (collect (.ref a)) Q E s:=by
 unfold collect;apply xb;apply wpAny_runValue;apply xo qbH;rw[zp
  qbI _]
 show xg _ A.in1 (newList [] >>= λz=>
  again (.builtin "list.__iadd__" ⟨[z,.ref a],[]⟩)) _ _ s
 apply xb;refine xm ?_;refine xc ⟨plainId_quiet
  qaw _,xo
  F.entry_list_iadd ?_⟩
 rw[zp
  qaw _]
 show xg _ A.in1 (yh
  (.ref s.heap.objs.size) (.ref a)
  (.ref s.heap.objs.size)) _ _ _
 have hlt:a<s.heap.objs.size:=qC ho;have hS0:(s.heap.push
   { cls:=.type "list",data:=.seq ([]:List Value).toArray }).get?
   s.heap.objs.size=some { cls:=.type "list",data:=.seq #[] 0 }:=
  qz _ rfl
 have ho0:(s.heap.push
   { cls:=.type "list",data:=.seq ([]:List Value).toArray }).get? a=some o:=qd _ ho
 have kp0:∀b u,s.heap.get? b=some u->(s.heap.push
   { cls:=.type "list",data:=.seq ([]:List Value).toArray }).get? b=some u:=λb u e=>qd _ e
 have sz0:(s.heap.push
   { cls:=.type "list",data:=.seq ([]:List Value).toArray }).objs.size=s.heap.objs.size+1:=zN _ _
 generalize (s.heap.push
   { cls:=.type "list",data:=.seq ([]:List Value).toArray })=h0 at hS0 ho0 kp0 sz0⊢
 unfold yh;refine xb (wpAny_typeOf (T:="set") ⟨_,ho0,hex.1⟩ ?_);have b1:qbj (.ref s.heap.objs.size) (.ref a)=false:=by
  have:s.heap.objs.size≠a:=qaM hlt;simp[qbj,this]
 have b2:(yj "set" == yj "list")=false:=by decide
 have b3:(yj "set" == yj "tuple")=false:=by decide
 simp only[b1,b2,b3,Bool.or_false,yo,if_false];have fin:∀(l:List Value) (I:Addr) (wr:List Addr) (h1:Heap) (d:Drawn),l.Perm (es.toList.map (·.2))->(∀b∈wr,b=I)->s.heap.objs.size<I->(∀b u,h0.get? b=some u->h1.get? b=some u)->∀(h':Heap) (tk c:Nat),(∀b u,b∉s.heap.objs.size::wr->h1.get? b=some u->h'.get? b=some u)->h'.get? s.heap.objs.size=some { cls:=.type "list",dict:=none,data:=.seq l.toArray c,slots:=#[] }->
   xg (xD prog w) A (load s.heap.objs.size >>= λx=>match x.data with | .seq xs _=>pure xs.toList | _=>unsupported "internal:collect") Q E { s with heap:=h',toks:=tk,drawn:=d }:=λl I wr h1 d hp hw hI kp h' tk c kk hL=>by
  refine xb (wpAny_load hL ?_);refine xc ?_;show Q l.toArray.toList _;rw[qb5];refine k l h' tk d (λb u e=>kk b u (λz=>?_) (kp b u (kp0 b u e))) (qC hL) hp;have hb:=qC e;rcases qy.mp z with z | z
  ·exact absurd hb (by rw[z];exact yk _)
  ·rw[hw b z]at hb;exact absurd (yI hb hI) (yk _)
 have z1:s.heap.objs.size<h0.objs.size:=by rw[sz0];exact z9 _
 have z2:s.heap.objs.size<h0.objs.size+1:=zB z1;have n1:a≠h0.objs.size:=qD (yI hlt z1);have n2:a≠h0.objs.size+1:=qD (yI hlt z2);have n3:s.heap.objs.size≠a:=qaM hlt;refine xf (Q:=λfin s'=>match fin with | .done f=>RF prog w A E Q s.heap.objs.size (.ok f) s' | .again c'=>c'.quiet=true/\xp (xD prog w) A c' (RF prog w A E Q s.heap.objs.size) s') (E:=λe s'=>RF prog w A E Q s.heap.objs.size (.error e) s') ?_ (λfin s' h=>?_) (λe s' h=>?_)
 rotate_left
 ·cases fin with
  | done f=>
   obtain⟨e,q⟩:=h
   cases e
   exact q
  | again c'=>
   refine⟨h.1,codeAny_mono h.2 λr s'' hr=>?_⟩;obtain⟨rfl,q⟩:=hr;exact q
 ·exact absurd h.1 (by simp)
 refine xb (ZlN ho0 hex hd hf hz (λhdr=>?_) λpl d hp=>?_)
 ·refine after (ZlM (A:=A.in1) hh h0.objs.size n1 hd hf hg hdr) Znp hz ?_ ?_ ?_ ?_ ?_ ?_
  ·exact⟨qd _ ho0,0,qz _ rfl,.inr (Zhs hg.2)⟩
  ·simp only[qy,zI,or_false,not_or]
   exact⟨qD z1,n3⟩
  ·exact qd _ hS0
  ·exact⟨_,qd _ ho0,hex.1⟩
  ·decide +kernel
  ·intro h' tk c kk hL
   exact⟨rfl,fin _ h0.objs.size [h0.objs.size] _ _ Zgf (λb m=>qQ.mp m) z1 (λb u e=>qd _ e) h' tk c kk hL⟩
 ·refine after (Zht (A:=A.in1) hh (h0.objs.size+1) h0.objs.size n2 (qD (z9 _)) hd hf hp (c:=0)) ?_ hz ?_ ?_ ?_ ?_ ?_ ?_
  ·unfold BF;rw[qj,hp.length_eq,qI]
  ·refine⟨qd _ (qd _ ho0),?_,qd _ (qz _ rfl)⟩
   have:=qz (h0.push { cls:=.type "tuple",data:=.seq (Vd pl) }) (o:=XV (.ref h0.objs.size) 0 a es.size ep) rfl;rw[zN]at this;exact this
  ·simp only[qy,zI,or_false,not_or]
   exact⟨qD z2,n3,qD z1⟩
  ·exact qd _ (qd _ hS0)
  ·exact⟨_,qd _ (qd _ ho0),hex.1⟩
  ·rfl
  ·intro h' tk c kk hL
   exact⟨rfl,fin _ (h0.objs.size+1) [h0.objs.size+1] _ _ (ZjK hp) (λb m=>qQ.mp m) z2 (λb u e=>qd _ (qd _ e)) h' tk c kk hL⟩
end
theorem ZjL (h:us.Perm vs):∀{ns:List Int},IntsAre vs ns->∃ms,ms.Perm ns/\IntsAre us ms:=by
 induction h with
 | nil=>intro ns h;exact⟨ns,.refl _,h⟩
 | cons x p ih=>
  intro ns h
  cases h with
  | cons n t r=>
   obtain⟨ms,p2,i2⟩:=ih r;exact⟨n::ms,p2.cons n,.cons n t i2⟩
 | swap x y l=>
  intro ns h
  cases h with
  | cons n t r=>
   cases r with
   | cons m u r=>exact⟨m::n::_,.swap _ _ _,.cons m u (.cons n t r)⟩
 | trans p q ih1 ih2=>
  intro ns h;obtain⟨ms,p2,i2⟩:=ih2 h;obtain⟨ks,p3,i3⟩:=ih1 i2;exact⟨ks,p3.trans p2,i3⟩
theorem ints_of:∀{l:List (Int×Value)},ElemsOf (intKind prog w) l->∃ms,IntsAre (l.map (·.2)) ms/\∀k,k∈ms↔∃e∈l,(intKind prog w).is k e.2=true
 | [],_=>⟨[],.nil,λk=>by simp⟩
 | e::l,h=>by
  obtain⟨ms,i,m⟩:=ints_of h.tail;obtain⟨⟨k,hk,_⟩,_⟩:=h.head;obtain⟨t,et⟩:=Value.isInt_shape (show qcb k e.2=true from hk);refine⟨k::ms,?_,λj=>?_⟩
  ·rw[yc,et];exact .cons k t i
  ·rw[qy,m j]
   constructor
   ·rintro(rfl | ⟨x,hx,q⟩)
    ·exact⟨e,by simp,hk⟩
    ·exact⟨x,by simp[hx],q⟩
   ·rintro⟨x,hx,q⟩
    rcases qy.mp hx with rfl | hx
    ·exact .inl ((intKind prog w).inj _ j k q hk)
    ·exact .inr ⟨x,hx,q⟩
theorem perm_of_nodup:∀{l m:List Int},l.Nodup->(∀x∈l,x∈m)->m.length=l.length->l.Perm m
 | [],m,_,_,e=>by
  simp_all
 | a::l,m,nd,s,e=>by
  have nd:=zq.mp nd;have ha:=s a (by simp);have p:=List.perm_cons_erase ha;have le:(m.erase a).length=l.length:=by
   simp_all
  refine(qbF a (perm_of_nodup nd.2 (λx hx=>?_) le)).trans p.symm
  grind
section
variable {prog:xF}{w:World}{A:xG}{E:xH}{s:Shared}
variable {a:Addr}{o:Obj}{es:Array (Int×Value)}{ep:Nat}{t:SetTable}
theorem sortedS (hh:A.handled=none)(ho:s.heap.get? a=some o)(hex:o.ExactSet)(hd:o.data=.set es ep t)(hf:t.fits es.size=true)(hg:Good w t)(hz:es.size<64)(hi:IntsAre (es.toList.map (·.2)) ns)
  (k:∀(out:Array Value) (ns':List Int) (L:Addr) (h':Heap) (tk:Nat) d (e:Nat),IntsAre out.toList ns'->ns'.Perm ns->ns'.Pairwise (·<=·)->(∀b u,s.heap.get? b=some u->h'.get? b=some u)->s.heap.objs.size<=L->h'.get? L=some (seqObj "list" out e)->Q (.ref L) { s with heap:=h',toks:=tk,drawn:=d }) :
  xg (xD prog w) A (call (.builtin "sorted") [.ref a]) Q E s:=by
 refine qbc kind_sorted plain_sorted entry_sorted (args_sorted1 _) ?_;unfold Builtin.«sorted»;refine xb (m:=checkCount "sorted" 1 1 _) (xc ?_);refine xb (Zgg hh ho hex hd hf hg (by omega) λvs h1 tk d kp hs pm=>?_);obtain⟨ms,p2,i2⟩:=ZjL pm hi;have hl:vs.length=es.size:=by rw[pm.length_eq,qj,qO]
 refine xb (xB ?_ (by rw[sizeLine_eq];omega));have g1:(h1.push (seqObj "list" vs.toArray 0)).get? h1.objs.size=some (seqObj "list" vs.toArray 0):=qz _ rfl;refine xb (xy (wpAny_call_entry slot_list_sort ⟨_,g1,rfl⟩ entry_list_sort (list_sort_tree g1 i2 (by omega) λout ns' a1 a2 a3=>⟨_,rfl,?_⟩) (args_list_sort _)));obtain⟨e,he⟩:=sortedHeap_at g1;refine xc ⟨_,rfl,k out ns' h1.objs.size _ tk d e a1 (a2.trans p2) a3 (λb u q=>?_) (qbd hs) he⟩;have q1:=kp b u q;have l1:=qC q1;rw[sortedHeap_old (qD l1) (by rw[zN];exact zB l1)];exact qd _ q1
end
end HT
namespace TF
open L2
section
variable {X:Cx}{G:Gh}
noncomputable def YZ (ns:List Int):List Int:=ns.foldl step_dedup []
theorem jE {σ:St}(I:Inv X jI σ H s):Inv X jI σ H { s with drawn:=d }:=⟨I.ok,I.os,I.bare,I.base,I.loc,I.cell,I.free,I.freeC,I.pin,I.hok,I.len⟩
noncomputable def LedO (w:World)(o:Obj):Prop:=∃es ep t,o.data=.set es ep t/\HT.Good w t
theorem Zhu (hc:X.calm=true):XB X (.type "set") (λxs H Q=>∃(p:Addr) (ns:List Int),xs=[.ref p]/\(Zw X.K H p (ns.map V.int)∨ZO X.K H p (ns.map V.int))/\ns.length<=1000/\∀l o,H l=none->LedO X.w o->Q (.ref l) (Zi H l (.frz o (.set (λk'=>(YZ ns).any (· == k')) (YZ ns).length)))):=by
 intro jI s σ H xs us Q I r h;obtain⟨p,ns,rfl,hp,hl,q⟩:=h;obtain⟨u,rfl,ru⟩:=XC r
 cases ru
 have fin:∀(items:Array Value) (_:IntsAre items.toList ns) (h':Heap) (tk:Nat),HT.SetLed X.prog X.w h' s.heap.objs.size (λk'=>(firstMet (λi=>ns.getD i 0) items.size).any (· == k')) (firstMet (λi=>ns.getD i 0) items.size).length->(∀b o,b<s.heap.objs.size->s.heap.get? b=some o->h'.get? b=some o)->EP X jI σ Q (.ref s.heap.objs.size) { s with heap:=h',toks:=tk }:=λitems hi h' tk hS hk=>by
  have e:firstMet (λi=>ns.getD i 0) items.size=YZ ns:=Zcv ns _ (by rw[<-hi.length,qO]);rw[e]at hS;have hS':=hS.setOf;obtain⟨o,xs,ep,t,g1,g2,g3,g4,g5,g6,g7,g8,g9⟩:=hS;exact⟨.ref s.heap.objs.size,_,I.laid (o:=.frz o (.set (λk'=>(YZ ns).any (· == k')) (YZ ns).length)) (λb o e=>hk b o (qC e) e) (qq _) ⟨g1,hS'⟩,rfl,q _ o (I.hok.fresh (qq _)) ⟨xs,ep,t,g3,g9⟩⟩
 rcases hp with hp | hp
 ·obtain⟨jK,rv,pl,hz⟩:=I.list hp
  have hi:=W0 rv;have hll:=hi.length;exact HT.setL_of_list (I.ok.hd hc) pl.isList (by omega) (by simp[scanBound];omega) (fin jK.toArray (by omega))
 ·obtain⟨jK,rv,pl,hz⟩:=I.tuple hp
  have hi:=W0 rv;have hll:=hi.length;exact HT.setL_of_tuple (I.ok.hd hc) (show s.heap.IsTuple p jK.toArray from pl) (by omega) (by simp[scanBound];omega) (fin jK.toArray (by omega))
theorem Ze4 (hc:X.calm=true):XB X (.builtin "sorted") (λxs H Q=>∃(p:Addr) (o:Obj) (ds:List Int),xs=[.ref p]/\H p=some (.frz o (.set (λk'=>ds.any (· == k')) ds.length))/\LedO X.w o/\ds.Nodup/\ds.length<64/\∀l,H l=none->Q (.ref l) (Zi H l (.lst ((Xh ds).map V.int)))):=by
 intro jI s σ H xs us Q I r h;obtain⟨p,o,ds,rfl,hp,hL,nd,h64,q⟩:=h;obtain⟨u,rfl,ru⟩:=XC r
 cases ru
 obtain⟨ho,o2,xs,ep,t,g1,g2,g3,g4,g5,g6,g7,g8⟩:=(show YO X.prog X.w H s.heap p (.frz o (.set (λk'=>ds.any (· == k')) ds.length))from I.hok p _ hp);rw[ho]at g1;cases g1;obtain⟨xs2,ep2,t2,e2,hg⟩:=hL;rw[g3]at e2;cases e2;obtain⟨ms,hi,hm⟩:=HT.ints_of g4;have hml:ms.length=ds.length:=by rw[<-hi.length,qj,qO,g8]
 have pm:=HT.perm_of_nodup nd (λx hx=>(hm x).mpr ((g5 x).mp (by simp[hx]))) hml;refine HT.sortedS (I.ok.hd hc) ho g2 g3 g7 hg (by omega) hi λout ns' L h' tk d e a1 a2 a3 kp hL he=>?_;have en:=B9 (a2.trans pm.symm) a3;subst en;refine⟨.ref L,_,jE (I.laid (o:=.lst ((Xh ds).map V.int)) kp hL ⟨?_,out.toList,e,ZaB a1,he⟩),rfl,q _ (I.hok.fresh hL)⟩;rw[qj,(Zbt ds).length_eq,sizeLine_eq];omega
noncomputable def J9 (f:Zc->M D):Zc->M D:=fun ρ=>Zp (f ρ) λd=>match d with
 | .tup ds=>(match ZE ds with | some ns=>if ns.length<64 then Zy (.lst ((Xh (YZ ns)).map .int))else Zv | none=>Zv)
 | .lst ds=>(match ZE ds with | some ns=>if ns.length<64 then Zy (.lst ((Xh (YZ ns)).map .int))else Zv | none=>Zv)
 | _=>Zv
theorem ZjM (ns:List Int):(YZ ns).length<=ns.length:=by
 have:=Znn ns [];simpa[YZ]using this
theorem Zhv {p1 p2 pos1 pos:Pos}(hc:X.calm=true)(hg:Gl X "sorted")(hm:X.mg "sorted" = none)(hv:xk "sorted" = some (.builtin "sorted"))(hg2:Gl X "set")(hm2:X.mg "set" = none)(hv2:xk "set" = some (.type "set"))(ha:PD X G r1 a f)
  (hs:xi [a] X.env=(false,eval a X.env)::xi [] X.env:=by rfl)
  (hs2:xi [Expr.Call (.Name "set" p2) [a] [] pos1] X.env=(false,eval (Expr.Call (.Name "set" p2) [a] [] pos1) X.env)::xi [] X.env:=by rfl) (hpl:(backTo pos (xi [] X.env)).any (·.1)=false:=by rfl) (hpl1:(backTo pos1 (xi [] X.env)).any (·.1)=false:=by rfl) :
  PD X G true (.Call (.Name "sorted" p1) [.Call (.Name "set" p2) [a] [] pos1] [] pos) (J9 f):=by
 obtain⟨t,pa,qa⟩:=ha.drop;refine⟨_,J6 (Ze4 hc) hg hm hv (YF (Za3 (Zhu hc) hg2 hm2 hv2 (YF pa YX hs) (by decide) (by decide) hs hpl1) YX hs2) (by decide) (by decide) hs2 hpl,fun σ Hf H ρ s d s' Q e1 e2 e3 e4 k=>?_⟩;obtain⟨d0,s1,a1,a2⟩:=ZA e4;refine qa σ Hf H ρ s d0 s1 _ e1 e2 e3 a1 λv jU H1 g1 j9 r1=>?_;have go:∀ns:List Int,(if ns.length<64 then Zy (D.lst ((Xh (YZ ns)).map .int))else Zv) s1=some (d,s')->(∃p,v=.ref p/\(Zw X.K H1 p (ns.map V.int)∨ZO X.K H1 p (ns.map V.int)))->∃(p:Addr) (ns:List Int),[v]=[.ref p]/\(Zw X.K H1 p (ns.map V.int)∨ZO X.K H1 p (ns.map V.int))/\ns.length<=1000/\∀l o,H1 l=none->LedO X.w o->
   ∃(p:Addr) (o':Obj) (ds:List Int),[V.ref l]=[.ref p]/\Zi H1 l (.frz o (.set (λk'=>(YZ ns).any (· == k')) (YZ ns).length)) p=some (.frz o' (.set (λk'=>ds.any (· == k')) ds.length))/\LedO X.w o'/\ds.Nodup/\ds.length<64/\∀l',Zi H1 l (.frz o (.set (λk'=>(YZ ns).any (· == k')) (YZ ns).length)) l'=none->Q (.ref l') (Zi (Zi H1 l (.frz o (.set (λk'=>(YZ ns).any (· == k')) (YZ ns).length))) l' (.lst ((Xh ds).map V.int))):=λns h ⟨p,ev,hp⟩=>by
  obtain⟨hl,h⟩:=Y6 h;obtain⟨rfl,rfl⟩:=ZM h;have hu:=ZjM ns;refine⟨p,ns,by rw[ev],hp,by omega,λl o hn hL=>⟨l,o,YZ ns,rfl,ZD,hL,(ZaD ns).1,by omega,λl' hn'=>?_⟩⟩;have nf:=Gh.nofp j9 hn;have g2:=Gr.new (o:=.frz o (.set (λk'=>(YZ ns).any (· == k')) (YZ ns).length)) g1.fh hn nf;have jW:=Gh.grow (o:=.frz o (.set (λk'=>(YZ ns).any (· == k')) (YZ ns).length)) j9 hn;have nf':=Gh.nofp jW hn';have g3:=Gr.new (o:=.lst ((Xh (YZ ns)).map V.int)) g2.fh hn' nf';exact k (.ref l') _ _ ((g1.trans g2).trans g3) (Gh.grow jW hn') (jb.mpr ⟨l',_,rfl,nf',ZD,Uc _⟩) λ_=>jn (g1.trans g2).hh (λa ea _=>by cases ea;exact nf') (YA.mk g2.fh hn' nf' (Uc _))
 match d0,a2,r1 with
 | .tup ds,a2,r1=>
  have a2:(match ZE ds with | some ns=>if ns.length<64 then Zy (D.lst ((Xh (YZ ns)).map .int))else Zv | none=>Zv) s1=some (d,s'):=a2
  cases he:ZE ds with
  | none=>rw[he]at a2;cases a2
  | some ns=>
   rw[he]at a2;obtain⟨p,vs,rfl,np,hp,rp⟩:=jc.mp r1;rw[Wm he]at rp;rw[jk rp]at hp;exact go ns a2 ⟨p,rfl,.inr (ZO.of (g1.fh _ _ np hp))⟩
 | .lst ds,a2,r1=>
  have a2:(match ZE ds with | some ns=>if ns.length<64 then Zy (D.lst ((Xh (YZ ns)).map .int))else Zv | none=>Zv) s1=some (d,s'):=a2
  cases he:ZE ds with
  | none=>rw[he]at a2;cases a2
  | some ns=>
   rw[he]at a2;obtain⟨p,vs,rfl,np,hp,rp⟩:=jb.mp r1;rw[Wm he]at rp;rw[jk rp]at hp;exact go ns a2 ⟨p,rfl,.inl (Zw.of (g1.fh _ _ np hp))⟩
end
section
variable {X:Cx}{G:Gh}{ob own:List Nat}{fr:Bool}{f:Zc->M D}
end
end TF
namespace TT
open L2 TS
section
variable {prog:xF}{w:World}{A:xG}{E:xH}{s:Shared}
end
end TT
namespace TS
open L2
section
variable {prog:xF}{w:World}{A:xG}{E:xH}{s:Shared}
end
end TS
namespace TF
open L2 TS
section
variable {X:Cx}{G:Gh}
end
end TF
namespace TF
open L2 TT
section
variable {X:Cx}{G:Gh}
end
end TF
namespace TQ
open L2 TF TQ
open TP
open TP2
open TP3
end TQ
namespace TF
open L2
section
variable {X:Cx}{G:Gh}{f g:Zc->M D}
end
end TF
namespace TQ
open L2 TF
end TQ
namespace TF
open L2
section
variable {X:Cx}{G:Gh}
end
theorem boot_sum:xk "sum" = some (.builtin "sum"):=by rfl
section
variable {X:Cx}{G:Gh}
noncomputable def VT (ns:List Int):Bool:=ns.all λn=>decide (-4294967296<=n)&&decide (n<=4294967296)
theorem Zgh (h:VT ns=true):∀j:Nat,-(4294967296*(j:Int))<=(ns.take j).sum/\(ns.take j).sum<=4294967296*(j:Int):=by
 intro j
 induction ns generalizing j with
 | nil=>grind
 | cons n r ih=>
  cases j with
  | zero=>simp
  | succ j=>
   unfold VT at h;simp only[qbY,zU,decide_eq_true_eq]at h;have:=ih h.2 j;rw[List.take_succ_cons,List.sum_cons];omega
noncomputable def dSum:List D->Option D
 | [.lst ds]=>match ZE ds with | some ns=>if VT ns=true then some (.int ns.sum)else none | none=>none
 | _=>none
theorem ZjN (hc:X.calm=true):XB X (.builtin "sum") (λxs H Q=>∃p ns,xs=[.ref p]/\Zw X.K H p (ns.map V.int)/\VT ns=true/\Q (.int ns.sum) H):=by
 intro jI s σ H xs us Q I r h;obtain⟨p,ns,rfl,hp,ok,q⟩:=h;obtain⟨u,rfl,ru⟩:=XC r
 cases ru
 obtain⟨jK,rv,pl,hz⟩:=I.list hp;have hi:IntsAre jK ns:=W0 rv;obtain⟨xs,e⟩:=hi.allInts.items;have hns:ns=xs.toList.map (·.1):=by rw[<-hi.numsOf,<-nums_intItems,<-e]
 have hl:=pl.isList;rw[e]at hl;have jQ:ns.length=xs.size:=by rw[hns,qj,qO]
 have hz2:ns.length<=16777216:=by
  have:=hz;rw[qj]at this;rw[show xh=16777216 by decide]at this;exact this
 refine sum_intList (I.ok.hd hc) hl (λj hj=>?_) λh' tk t' hk=>?_
 ·rw[preSum_eq,<-hns]
  have h1:=Zgh ok (j+1);have h2:-4294967296<=numAt xs j/\numAt xs j<=4294967296:=by
   rw[numAt_eq,<-hns];have hm:ns.getD j 0∈ns:=getD_mem (by omega);have:=yz.mp ok _ hm;simp at this;exact this
  constructor
  ·constructor <;> omega
  ·constructor <;> omega
 ·rw[preSum_eq,<-hns,<-jQ,qaK]
  exact⟨.int ns.sum,H,I.kept hk,⟨_,rfl⟩,q⟩
theorem ZjO (hc:X.calm=true):X5 X G (.builtin "sum") dSum:=
 ⟨_,ZjN hc,λHf H s xs ds c Q e1 st r q k=>by
  match ds,q,r with
  | [.lst es],q,r=>
   have q:(match ZE es with | some ns=>if VT ns=true then some (D.int ns.sum)else none | none=>none)=some c:=q
   cases he:ZE es with
   | none=>simp_all
   | some ns=>
    rw[he]at q;by_cases ok:VT ns=true
    ·have q:(if VT ns=true then some (D.int ns.sum)else none)=some c:=q
     rw[if_pos ok]at q
     cases q
     obtain⟨v,rfl,rv⟩:=jh r;obtain⟨p,vs,rfl,np,hp,rp⟩:=jb.mp rv;rw[Wm he]at rp;rw[jk rp]at hp;exact⟨p,ns,rfl,Zw.of (e1 _ _ np hp),ok,k _ Hf H (.refl e1) st (ja.mpr rfl) (.scal λz=>z)⟩
    ·simp_all⟩
end
open PySem.SeqAt
open AutoSeq1 (wpAny_loadPart')
theorem Zgi (l:Addr)(items:Array Value)(n:Nat)(dd:Option Addr)(sl:Array (Option Value))(u:Tok) :
  Meets (Builtin.«tuple.__mul__» ⟨[.ref l,.int 1 u],[]⟩) (λ_ R s=>s.heap.get? l=some { cls:=.type "tuple",dict:=dd,data:=.seq items n,slots:=sl }/\R (.ok (.ret (qS l))) s):=
 .of_wp λprog w A R s h=>by
  obtain⟨hp,g,d,tk,os⟩:=s;obtain⟨hl,h⟩:=h;have f1:=qbg;have f2:=yG;have f3:=qaC;have f4:=qaq;have f5:=qar;wp_walk using wpAny_loadPart' hl;exact⟨_,rfl,h⟩
theorem Zgj (l:Addr)(items:Array Value)(n:Nat)(dd:Option Addr)(sl:Array (Option Value))(u:Tok)(hc1:items.isEmpty=false) :
  Meets (Builtin.«tuple.__mul__» ⟨[.ref l,.int 0 u],[]⟩) (λ_ R s=>s.heap.get? l=some { cls:=.type "tuple",dict:=dd,data:=.seq items n,slots:=sl }/\R (.ok (.ret (qS s.heap.objs.size))) { s with heap:=s.heap.push { cls:=yj "tuple",data:=Data.seq #[] },toks:=s.toks }):=
 .of_wp λprog w A R s h=>by
  obtain⟨hp,g,d,tk,os⟩:=s;obtain⟨hl,h⟩:=h;have f1:=qbg;have f2:=yG;have f3:=qaC;have f4:=qaq;have f5:=qar;wp_walk using wpAny_loadPart' hl;exact⟨_,rfl,h⟩
section
variable {X:Cx}{G:Gh}
noncomputable def Zph (K:qk):R2:=λx y H Q=>∃l xs,x=.ref l/\y=.int 1/\ZO K H l xs/\Q (.ref l) H
noncomputable def Zpi (K:qk):R2:=λx y H Q=>∃l xs,x=.ref l/\y=.int 0/\ZO K H l xs/\xs≠[]/\∀p,H p=none->Q (.ref p) (Zi H p (.tup []))
theorem ZlQ:Ym X (binaryOp .Mult) (Zph X.K):=by
 intro jI s σ H x y v u Q I rx ry h;obtain⟨l,xs,rfl,rfl,hH,q⟩:=h
 cases rx
 obtain⟨t,rfl⟩:=ry;obtain⟨jK,r,p1,_⟩:=I.tuple hH;obtain⟨⟨cls,dd,data,sl⟩,ho,hc,n,hd⟩:=id p1;subst hc hd;exact wpAny_binaryOp_repeat_ref (by decide) ⟨_,ho,rfl⟩ (λs'=>typeIs_int s' 1 t) Zab qaP yu ZaA qaH.lookup
  (call_meets yu (typeIs_int s 1 t) qaI (qau _ _) (Zah 1 t l jK.toArray n dd sl)
   ⟨ho,rfl,⟨_,ho,rfl⟩,call_meets yV ⟨_,ho,rfl⟩ qas (qal _ _) (Zgi l jK.toArray n dd sl t) ⟨ho,.ref l,H,I,rfl,q⟩⟩)
theorem ZlR:Ym X (binaryOp .Mult) (Zpi X.K):=by
 intro jI s σ H x y v u Q I rx ry h;obtain⟨l,xs,rfl,rfl,hH,hne,q⟩:=h
 cases rx
 obtain⟨t,rfl⟩:=ry;obtain⟨jK,r,p1,_⟩:=I.tuple hH;obtain⟨⟨cls,dd,data,sl⟩,ho,hc,n,hd⟩:=id p1;subst hc hd;have hne':=λz=>hne (r.nil_iff.mp z);have hemp:jK.toArray.isEmpty=false:=by grind
 exact wpAny_binaryOp_repeat_ref (by decide) ⟨_,ho,rfl⟩ (λs'=>typeIs_int s' 0 t) Zab qaP yu ZaA qaH.lookup
  (call_meets yu (typeIs_int s 0 t) qaI (qau _ _) (Zah 0 t l jK.toArray n dd sl)
   ⟨ho,rfl,⟨_,ho,rfl⟩,call_meets yV ⟨_,ho,rfl⟩ qas (qal _ _) (Zgj l jK.toArray n dd sl t hemp) ⟨ho,.ref s.heap.objs.size,_,I.laid (o:=.tup []) (λb ob q=>qd _ q) (qq _) ⟨zk _,[],.nil,qbs _ _⟩,rfl,q _ (I.hok.fresh (qq _))⟩⟩)
noncomputable def Ziz (d e:D):Option D:=match d,e with
 | .tup ds,.int k=>if k=1 then some (.tup ds)else if k=0/\ds≠[]then some (.tup [])else Jz (.tup ds) (.int k)
 | _,_=>Jz d e
theorem ZlS:XQ X G (binaryOp .Mult) Ziz:=by
 obtain⟨r0,po,qo⟩:=Zk8 (X:=X) (G:=G);refine⟨_,po.or (ZlQ.or ZlR),λHf H s x y d e c Q e1 st rx ry q k=>?_⟩;by_cases hd:∃ds j,d=.tup ds/\e=.int j
 ·obtain⟨ds,j,rfl,rfl⟩:=hd
  have q:(if j=1 then some (D.tup ds)else if j=0/\ds≠[]then some (.tup [])else Jz (.tup ds) (.int j))=some c:=q;by_cases h1:j=1
  ·rw[if_pos h1]at q
   cases q
   obtain⟨p,vs,rfl,np,hp,rp⟩:=jc.mp rx;refine .inr (.inl ⟨p,vs,rfl,by rw[ja.mp ry,h1],ZO.of (e1 _ _ np hp),?_⟩);exact k (.ref p) _ _ (.refl e1) st (jc.mpr ⟨p,vs,rfl,np,hp,rp⟩) (.scal λz=>z)
  ·rw[if_neg h1]at q
   by_cases h2:j=0/\ds≠[]
   ·rw[if_pos h2]at q
    cases q
    obtain⟨p,vs,rfl,np,hp,rp⟩:=jc.mp rx;refine .inr (.inr ⟨p,vs,rfl,by rw[ja.mp ry,h2.1],ZO.of (e1 _ _ np hp),λz=>h2.2 (zF.mp (by rw[rp.length,z];rfl)),λl hl=>?_⟩);have nf:=Gh.nofp st hl;have g2:=Gr.new (o:=.tup []) e1 hl nf;exact k (.ref l) _ _ g2 (Gh.grow st hl) (jc.mpr ⟨l,_,rfl,nf,ZD,Zj.nil_iff.mpr rfl⟩) (.scal λz=>z)
   ·rw[if_neg h2]at q
    exact .inl (qo Hf H s x y _ _ c Q e1 st rx ry q k)
 ·have q':Jz d e=some c:=by
   unfold Ziz at q;simp_all
  exact .inl (qo Hf H s x y _ _ c Q e1 st rx ry q' k)
end
end TF
namespace TQ
open L2 TF TQ
open TP
open TP2 hiding g_all_near F_all_near
open TP3 hiding g_full_knots F_full_knots
noncomputable def g_all_near:Zc->M Out:=(Zg (ZS 1 (ZT (Zb (Ze Zk (Za 0) (dC (.int 0))) (Zb (Zm Uz (Zb (Za 0) Zd)) Zd))))
 (Zg (ZN (ZR [none,some 1] (Z3 (Ze Zk (Za 0) (dC (.int 0)))) (Zt 0) Z7 (Zm VQ (Zb (Za 1) (Zb (Za 0) Zd)))))
 Zq))
noncomputable def F_all_near:List D->M D:=runB 2 1 g_all_near
noncomputable def g_full_knots:Zc->M Out:=(Zg (ZS 1 (Zm F_all_near (Zb (Za 0) Zd)))
 (Zg (ZN (ZF UH (Zb (ZR [none,some 1] (ZV (Zm U7 (Zb (Za 1) Zd))) (Zt 0) (asB (Zm Jc (Zb (Za 1) (Zb (Za 0) Zd)))) (Za 0)) Zd)))
 Zq))
noncomputable def F_full_knots:List D->M D:=runB 2 1 g_full_knots
noncomputable def Zcw (Fs:List D->M D):Zc->M Out:=(Zg (ZS 4 (ZR [none,some 2,some 0] (ZV (Za 3)) (Zt 0) (XW (asB (Ze XX (Za 0) (Za 1))) (asB (Ze XU (Za 0) (Ze Zk (Za 2) (Za 1))))) (Za 0)))
 (Zg (ZN (Ze Y0 (Xu (Zb (Za 2) Zd)) (Zm Fs (Zb (Za 0) (Zb (Za 1) (Zb (Za 4) Zd))))))
 Zq))
noncomputable def BT (Fs:List D->M D):List D->M D:=runB 5 4 (Zcw Fs)
noncomputable def ZdP:Zc->M Out:=(Zg (ZN (ZR [none,some 0,some 1] (ZV (Za 2)) (Zt 0) (asB (Ze Ys (Za 0) (Ze Zk (Za 1) (Za 2)))) (Za 0)))
 Zq)
noncomputable def Zan:List D->M D:=runB 3 3 ZdP
noncomputable def ZjP:Zc->M Out:=(Zg (ZN (ZF dSum (Zb (ZR [none,some 0] (ZV (Za 1)) (Zt 0) Z7 (Ze Zk (Za 1) (Za 0))) Zd)))
 Zq)
noncomputable def J4:List D->M D:=runB 2 2 ZjP
noncomputable def Zav (Fs:List D->M D):Zc->M Out:=(Zg (YR (asB (Ze XA (Za 2) (Xu Zd)))
 (Zg (ZN (Xu Zd))
 Zq)
 Zq)
 (Zg (ZS 3 (ZR [none,some 0,some 2] (ZV (Za 2)) (Zt 0) Z7 (Zm Zan (Zb (Za 1) (Zb (Za 0) (Zb (Za 2) Zd))))))
 (Zg (YU (Z3 (ZF Yi (Zb (Za 2) Zd))) (Zt 4)
 (Zg (YR (asB (Ze dLe (Zm J4 (Zb (Za 1) (Zb (Ze Zk (Za 3) (Za 4)) Zd))) (Ze Zk (Za 1) (Ze Zk (Za 2) (Za 4)))))
 (Zg (ZN (Zm (BT Fs) (Zb (Za 0) (Zb (Za 1) (Zb (Ze Zk (Za 2) (Za 4)) (Zb (Za 2) Zd))))))
 Zq)
 Zq)
 Zq))
 (Zg (ZS 5 (ZR [none] (ZV (Za 3)) (Zt 0) Z7 (ZF Yi (Zb (Za 0) Zd))))
 (Zg (ZS 6 (Ze Zk (Za 2) (Ze Ze0 (Za 5) (ZF Zir (Zb (Za 5) Zd)))))
 (Zg (ZS 7 (Zm (BT Fs) (Zb (Za 0) (Zb (Za 1) (Zb (Za 6) (Zb (Za 2) Zd))))))
 (Zg (ZS 8 (Zm Fs (Zb (Za 0) (Zb (Za 1) (Zb (ZR [none,some 6] (ZV (Za 2)) (Zt 0) (asB (Ze XX (Za 0) (Za 1))) (Za 0)) Zd)))))
 (Zg (ZN (BL (asB (Ze U2 (Zm J4 (Zb (Za 1) (Zb (Za 7) Zd))) (Zm J4 (Zb (Za 1) (Zb (Za 8) Zd))))) (Za 7) (Za 8)))
 Zq))))))))
noncomputable def JR:Nat->List D->M D
 | 0=>λ_=>Zv
 | n+1=>runB 9 3 (Zav (JR n))
noncomputable def Zcx:Zc->M Out:=(Zg (ZS 2 (ZR [none] (ZV (Zm F_all_near (Zb (Zm WN (Zb (Za 0) Zd)) Zd))) (Zt 0) Z7 (ZF ZeU (Zb (ZR [none] (ZV (Za 0)) (Zt 0) Z7 (ZT (Zb (Za 0) (Zb (dC (.bl true)) Zd)))) Zd))))
 (Zg (ZN (ZF Bl (Zb (ZF ZcI (Zb (Zm (JR 26) (Zb (Za 2) (Zb (Za 1) (Zb (Vu (Ze Zk (Za 0) (dC (.int 0)))) Zd)))) Zd)) Zd)))
 Zq))
noncomputable def Zac:List D->M D:=runB 3 2 Zcx
noncomputable def Zpj:Zc->M Out:=(Zg (ZS 1 (Zm Zac (Zb (Za 0) (Zb (Ze Ziz (ZT (Zb (dC (.int 1)) Zd)) (Ze Zk (Za 0) (dC (.int 0)))) Zd))))
 (Zg (ZN (ZT (Zb (ZF Yi (Zb (Za 1) Zd)) (Zb (Za 1) Zd))))
 Zq))
noncomputable def W6:List D->M D:=runB 2 1 Zpj
noncomputable def Ze5:Zc->M Out:=(Zg (ZS 2 (Zm F_all_near (Zb (Za 0) Zd)))
 (Zg (WD 3 (dC (.dk [])))
 (Zg (YU (fun ρ=>(ZV (Za 1)) (YB [3] ρ)) (Zt 4)
 (Zg (JB 3 (fun ρ=>(Za 4) (YB [3] ρ)) (Y2 true (Zm U6 (Zb (ZR [none,some 3] (ZV (Ze Zk (Za 2) (Za 4))) (Zt 0) (asB (Ze Ys (Za 0) (Za 1))) (Ze Ut (Za 1) (Za 0))) Zd))))
 Zq))
 (Zg (ZN (ZF Bl (Zb (ZR [none,some 3] (Z3 (Ze Zk (Za 0) (dC (.int 0)))) (Zt 0) Z7 (Ze Ut (Za 1) (Za 0))) Zd)))
 Zq))))
noncomputable def JU:List D->M D:=runB 5 2 Ze5
noncomputable def ZdQ:Zc->M Out:=(Zg (ZS 1 (Zm F_all_near (Zb (Za 0) Zd)))
 (Zg (ZS 2 (Ze Zk (Zm W6 (Zb (Za 0) Zd)) (dC (.int 0))))
 (Zg (ZS 3 (Zm (VM 10) (Zb (Za 1) (Zb (Za 2) (Zb (ZT Zd) Zd)))))
 (Zg (Bp 1000000 (asB (Ze dIsN (Za 3) (dC .non)))
 (Zg (sAug 2 (Y2 true (dC (.int 1))))
 (Zg (ZS 3 (Zm (VM 10) (Zb (Za 1) (Zb (Za 2) (Zb (ZT Zd) Zd)))))
 Zq)))
 (Zg (ZN (ZT (Zb (Za 2) (Zb (Za 3) Zd))))
 Zq)))))
noncomputable def UA:List D->M D:=runB 4 1 ZdQ
end TQ
namespace TF
open L2
section
variable {X:Cx}{G:Gh}
end
section
variable {X:Cx}{G:Gh}
end
end TF
namespace TS
open PySem.W
noncomputable def Vz {α:Type}(lt:Nat->Nat->Bool):KasT α->α
 | .ret a=>a
 | .ask i j k=>Vz lt (k (lt i j))
theorem ZP.run {Q:α->Prop}:∀{t:KasT α},ZP lt n t Q->ZP lt n t (λa=>a=Vz lt t)/\Q (Vz lt t)
 | .ret a,h=>⟨rfl,h⟩
 | .ask i j k,h=>⟨⟨h.1,h.2.1,(ZP.run h.2.2).1⟩,(ZP.run h.2.2).2⟩
structure OrdW (lt:Nat->Nat->Bool):Prop where
 tr:∀a b c,lt a b=false->lt b c=false->lt a c=false
 as:∀a b,lt a b=true->lt b a=false
section
variable {lt:Nat->Nat->Bool}{n:Nat}{p q:Array Nat}
noncomputable def VI (lt:Nat->Nat->Bool)(p:Array Nat)(m:Nat):Prop:=∀i j,i<j->j<m->lt (g p j) (g p i)=false
noncomputable def JO (lt:Nat->Nat->Bool)(p:Array Nat)(m:Nat):Prop:=∀i j,i<j->j<m->lt (g p i) (g p j)=false
noncomputable def EqW (lt:Nat->Nat->Bool)(p:Array Nat)(l m:Nat):Prop:=∀i j,l<=i->i<m->l<=j->j<m->lt (g p i) (g p j)=false
theorem OrdW.irr (o:OrdW lt)(a:Nat):lt a a=false:=by
 cases e:lt a a with
 | false=>rfl
 | true=>have:=o.as a a e;grind
theorem ascW (o:OrdW lt)(h:Pm n p):∀(f k:Nat),1<=k->k+f=n->VI lt p k->ZP lt n (kas_asc p f k) (λm=>k<=m/\m<=n/\VI lt p m/\(m<n->lt (g p m) (g p (m-1))=true))
 | 0,k,h1,h2,hs=>⟨qq _,by omega,hs,λz=>by omega⟩
 | f+1,k,h1,h2,hs=>by
  show g p k<n/\g p (k-1)<n/\ZP lt n (if lt (g p k) (g p (k-1))=true then .ret k else kas_asc p f (k+1)) _;refine⟨h.bd _,h.bd _,?_⟩
  cases e:lt (g p k) (g p (k-1))with
  | true=>rw[if_pos rfl];exact⟨qq _,by omega,hs,λ_=>e⟩
  | false=>
   refine ZP.mono (λm ⟨a,b⟩=>⟨by omega,b⟩) (ascW o h f (k+1) (by omega) (by omega) λi j hij hj=>?_);by_cases hjk:j<k
   ·exact hs i j hij hjk
   ·have:j=k:=by omega
    subst this;by_cases hi:i=j-1
    ·simp_all
    ·exact o.tr _ _ _ e (hs i (j-1) (by omega) (by omega))
theorem Jr (hj:q.size=n)(hl:l<=m)(hm:m<=n)(k:Nat):g (kas_rev q l m) k=if l<=k/\k<m then g q (l+(m-1-k))else g q k:=by
 have e:=getElem?_mirror_all (xs:=q) (i:=l) (j:=m) (by omega) k;unfold kas_rev;by_cases hk:l<=k/\k<m
 ·rw[if_pos hk]at e
  rw[if_pos hk];exact VF (by rw[e];grind)
 ·rw[if_neg hk]at e
  rw[if_neg hk];exact VF e
theorem Zoh (hs:p.size=n)(hl:l<=m)(hm:m<=n)(hd:JO lt p m)(he:EqW lt p l m):JO lt (kas_rev p l m) m:=λi j hij hj=>by
 rw[Jr hs hl hm,Jr hs hl hm];by_cases hi:l<=i
 ·rw[if_pos ⟨hi,by omega⟩,if_pos ⟨by omega,hj⟩]
  exact he _ _ (by omega) (by omega) (by omega) (by omega)
 ·rw[if_neg (λz=>hi z.1)]
  by_cases hjl:l<=j
  ·rw[if_pos ⟨hjl,hj⟩]
   exact hd _ _ (by omega) (by omega)
  ·rw[if_neg (λz=>hjl z.1)]
   exact hd _ _ hij hj
theorem ZiA (o:OrdW lt):∀(f k q:Nat) (p:Array Nat),Pm n p->q+1<=k->k+f=n->JO lt p k->EqW lt p (k-(q+1)) k->
  ZP lt n (kas_desc f p k q) (λr=>Pm n r.1/\r.2.2+1<=r.2.1/\r.2.1<=n/\JO lt r.1 r.2.1/\EqW lt r.1 (r.2.1-(r.2.2+1)) r.2.1)
 | 0,k,q,p,h,h1,h2,hd,he=>⟨h,h1,by show k<=n;omega,hd,he⟩
 | f+1,k,q,p,h,h1,h2,hd,he=>by
  show g p k<n/\g p (k-1)<n/\ZP lt n (if lt (g p k) (g p (k-1))=true then (if q > 0 then kas_desc f (kas_rev p (k-(q+1)) k) (k+1) 0 else kas_desc f p (k+1) 0)else .ask (g p (k-1)) (g p k) λd=>if d=true then .ret (p,k,q)else kas_desc f p (k+1) (q+1)) _;refine⟨h.bd _,h.bd _,?_⟩;have one:∀p:Array Nat,EqW lt p (k+1-(0+1)) (k+1):=λp i j a b c d=>by
   have:i=j:=by omega
   subst this;exact o.irr _
  cases e:lt (g p k) (g p (k-1))with
  | true=>
   rw[if_pos rfl];have e2:=o.as _ _ e;by_cases hq:q > 0
   ·rw[if_pos hq]
    have h':Pm n (kas_rev p (k-(q+1)) k):=h.of (mirror_perm _ _ _ _);refine ZiA o f (k+1) 0 _ h' (by omega) (by omega) (λi j hij hj=>?_) (one _);have hr:=Zoh h.size (by omega:k-(q+1)<=k) (by omega) hd he;by_cases hjk:j<k
    ·exact hr i j hij hjk
    ·have:j=k:=by omega
     subst this;rw[Jr h.size (by omega) (by omega),Jr h.size (by omega) (by omega),if_neg (by omega:¬(j-(q+1)<=j/\j<j))];have hlast:∀x,x<j->lt (g p x) (g p j)=false:=λx hx=>by
      by_cases hx1:x=j-1
      ·subst hx1;exact e2
      ·exact o.tr _ _ _ (hd x (j-1) (by omega) (by omega)) e2
     by_cases hi:j-(q+1)<=i/\i<j
     ·rw[if_pos hi];exact hlast _ (by omega)
     ·rw[if_neg hi];exact hlast _ hij
   ·rw[if_neg hq]
    refine ZiA o f (k+1) 0 p h (by omega) (by omega) (λi j hij hj=>?_) (one _);by_cases hjk:j<k
    ·exact hd i j hij hjk
    ·have:j=k:=by omega
     subst this;by_cases hi:i=j-1
     ·subst hi;exact e2
     ·exact o.tr _ _ _ (hd i (j-1) (by omega) (by omega)) e2
  | false=>
   rw[if_neg (by simp)];refine⟨h.bd _,h.bd _,?_⟩;show ZP lt n (if lt (g p (k-1)) (g p k)=true then .ret (p,k,q)else kas_desc f p (k+1) (q+1)) _
   cases e2:lt (g p (k-1)) (g p k)with
   | true=>rw[if_pos rfl];exact⟨h,h1,by show k<=n;omega,hd,he⟩
   | false=>
    rw[if_neg (by simp)];refine ZiA o f (k+1) (q+1) p h (by omega) (by omega) (λi j hij hj=>?_) λi j a b c d=>?_
    ·by_cases hjk:j<k
     ·exact hd i j hij hjk
     ·have:j=k:=by omega
      subst this;by_cases hi:i=j-1
      ·subst hi;exact e2
      ·exact o.tr _ _ _ (hd i (j-1) (by omega) (by omega)) e2
    ·have low:∀x,k-(q+1)<=x->x<k->lt (g p x) (g p k)=false/\lt (g p k) (g p x)=false:=λx hx hx2=>
      ⟨o.tr _ _ _ (he x (k-1) hx hx2 (by omega) (by omega)) e2,o.tr _ _ _ e (he (k-1) x (by omega) (by omega) hx hx2)⟩
     by_cases hi:i<k
     ·by_cases hj:j<k
      ·exact he i j (by omega) hi (by omega) hj
      ·have:j=k:=by omega
       subst this;exact(low i (by omega) hi).1
     ·have:i=k:=by omega
      subst this;by_cases hj:j<i
      ·exact(low j (by omega) hj).2
      ·have:j=i:=by omega
       subst this;exact o.irr _
theorem Zoi (o:OrdW lt)(h:Pm n p)(h1:1<=k)(h2:k<=n)(hs:JO lt p k):ZP lt n (kas_tail3 k n p) (λr=>1<=r.1/\r.1<=n/\Pm n r.2/\VI lt r.2 r.1):=by
 have h':Pm n (kas_rev p 0 k):=h.of (mirror_perm _ _ _ _);have hs':VI lt (kas_rev p 0 k) k:=λi j hij hj=>by
  rw[Ziu h.size h2,Ziu h.size h2,if_pos (by omega),if_pos (by omega)];exact hs _ _ (by omega) (by omega)
 refine ZP.bind (ZP.mono (λm ⟨a,b,c,_⟩=>?_) (ascW o h' (n-k) k h1 (by omega) hs'));exact⟨by omega,b,h',c⟩
theorem Zoj (o:OrdW lt)(h:Pm n p)(h1:1<=m)(h2:m<n)(hd:JO lt p (m+1)):ZP lt n (kas_descPart m n p) (λr=>1<=r.1/\r.1<=n/\Pm n r.2/\VI lt r.2 r.1):=by
 refine ZP.bind (ZP.mono (λr ⟨r1,r2,r3,r4,r5⟩=>?_) (ZiA o (n-(m+1)) (m+1) 0 p h (by omega) (by omega) hd λi j a b c d=>by
  have:i=j:=by omega
  subst this;exact o.irr _))
 by_cases hq:r.2.2 > 0
 ·rw[if_pos hq]
  exact Zoi o (r1.of (mirror_perm _ _ _ _)) (by omega) r3 (Zoh r1.size (by omega) r3 r4 r5)
 ·rw[if_neg hq]
  exact Zoi o r1 (by omega) r3 r4
theorem Zpk (o:OrdW lt)(h:Pm n p):ZP lt n (kas_count n p) (λr=>1<=r.1/\r.1<=n/\Pm n r.2/\VI lt r.2 r.1):=by
 have hn:=h.pos;refine ZP.bind (ZP.mono (λm ⟨a,b,c,d⟩=>?_) (ascW o h (n-1) 1 (by omega) (by omega) λi j hij hj=>by omega));by_cases hm:m=n
 ·rw[if_pos (by simpa using hm)]
  exact⟨a,b,h,c⟩
 ·rw[if_neg (by simpa using hm)]
  have dm:=o.as _ _ (d (by omega));by_cases h1:m > 1
  ·rw[if_pos h1]
   refine⟨h.bd 0,h.bd (m-1),?_⟩;show ZP lt n (if lt (g p 0) (g p (m-1))=true then .ret (m,p)else kas_descPart m n (kas_rev p 0 m)) _
   cases e:lt (g p 0) (g p (m-1))with
   | true=>rw[if_pos rfl];exact⟨a,b,h,c⟩
   | false=>
    rw[if_neg (by simp)];have up:∀i j,i<m->j<m->lt (g p i) (g p j)=false:=λi j hi hj=>by
     -- g i<=g (m-1)<=g 0<=g j
     have x1:lt (g p 0) (g p j)=false:=by
      by_cases z:j=m-1
      ·subst z;exact e
      ·exact o.tr _ _ _ e (c j (m-1) (by omega) (by omega))
     by_cases z:i=0
     ·subst z;exact x1
     ·exact o.tr _ _ _ (c 0 i (by omega) hi) x1
    have h':Pm n (kas_rev p 0 m):=h.of (mirror_perm _ _ _ _);refine Zoj o h' (by omega) (by omega) λi j hij hj=>?_;rw[Jr h.size (by omega) (by omega),Jr h.size (by omega) (by omega),if_pos (by omega:0<=i/\i<m)];by_cases hjm:j<m
    ·rw[if_pos (by omega:0<=j/\j<m)]
     exact up _ _ (by omega) (by omega)
    ·have:j=m:=by omega
     subst this;rw[if_neg (by omega:¬(0<=j/\j<j))];exact o.tr _ _ _ (up _ (j-1) (by omega) (by omega)) dm
  ·have:m=1:=by omega
   subst this;refine Zoj o h (by omega) (by omega) λi j hij hj=>?_
   grind
theorem Zhw (o:OrdW lt)(h:Pm n p)(hk:k<n)(hs:VI lt p k):∀(f l r:Nat),l<=r->r<=k->r-l<=f->(∀i,i<l->lt (g p k) (g p i)=false)->(∀i,r<=i->i<k->lt (g p i) (g p k)=false)->
  ZP lt n (kas_place p k f l r) (λm=>m<=k/\(∀i,i<m->lt (g p k) (g p i)=false)/\∀i,m<=i->i<k->lt (g p i) (g p k)=false)
 | 0,l,r,h1,h2,h3,ha,hb=>⟨by omega,ha,λi hi=>hb i (by omega)⟩
 | f+1,l,r,h1,h2,h3,ha,hb=>by
  show ZP lt n (if l≥r then .ret l else .ask (g p k) (g p ((l+r) / 2)) λc=>if c=true then kas_place p k f l ((l+r) / 2)else kas_place p k f ((l+r) / 2+1) r) _;by_cases hlr:l≥r
  ·rw[if_pos hlr]
   exact⟨by omega,ha,λi hi=>hb i (by omega)⟩
  ·rw[if_neg hlr]
   refine⟨h.bd _,h.bd _,?_⟩;show ZP lt n (if lt (g p k) (g p ((l+r) / 2))=true then kas_place p k f l ((l+r) / 2)else kas_place p k f ((l+r) / 2+1) r) _
   cases e:lt (g p k) (g p ((l+r) / 2))with
   | true=>
    rw[if_pos rfl];refine Zhw o h hk hs f l _ (by omega) (by omega) (by omega) ha λi hi hik=>?_;have e2:=o.as _ _ e;by_cases hq:i=(l+r) / 2
    ·subst hq;exact e2
    ·exact o.tr _ _ _ (hs _ i (by omega) hik) e2
   | false=>
    rw[if_neg (by simp)];refine Zhw o h hk hs f _ r (by omega) h2 (by omega) (λi hi=>?_) hb;by_cases hq:i=(l+r) / 2
    ·simp_all
    ·exact o.tr _ _ _ e (hs i _ (by omega) (by omega))
theorem binW (o:OrdW lt):∀(f k:Nat) (p:Array Nat),Pm n p->1<=k->k+f=n->VI lt p k->ZP lt n (kas_bin f p k) (λq=>Pm n q/\VI lt q n)
 | 0,k,p,h,h1,h2,hs=>⟨h,by have:k=n:=(by omega);subst this;exact hs⟩
 | f+1,k,p,h,h1,h2,hs=>by
  refine ZP.bind (ZP.mono (λm ⟨a,b,c⟩=>?_) (Zhw o h (k:=k) (by omega) hs k 0 k (by omega) (by omega) (by omega) (λi hi=>by omega) λi hi hik=>by omega));have hg:∀i,g (bubble p k (k-m)) i=if i=m then g p k else if m<i/\i<=k then g p (i-1)else g p i:=λi=>by
   have e:=getElem?_bubble (xs:=p) (src:=k) (by rw[h.size];omega) (k-m) (by omega) i;rw[show k-(k-m)=m by omega]at e;by_cases q1:i=m
   ·rw[if_pos q1]at e⊢;exact VF e
   ·rw[if_neg q1]at e⊢
    by_cases q2:m<i/\i<=k
    ·rw[if_pos q2]at e⊢;exact VF e
    ·rw[if_neg q2]at e⊢;exact VF e
  refine binW o f (k+1) _ (h.of (bubble_perm _ _ _)) (by omega) (by omega) λi j hij hj=>?_;rw[hg,hg];by_cases i1:i=m
  ·rw[if_pos i1,if_neg (by omega:¬j=m),if_pos (by omega:m<j/\j<=k)]
   exact c _ (by omega) (by omega)
  ·rw[if_neg i1]
   by_cases i2:m<i/\i<=k
   ·rw[if_pos i2,if_neg (by omega:¬j=m),if_pos (by omega:m<j/\j<=k)]
    exact hs _ _ (by omega) (by omega)
   ·rw[if_neg i2]
    by_cases j1:j=m
    ·rw[if_pos j1];exact b i (by omega)
    ·rw[if_neg j1]
     by_cases j2:m<j/\j<=k
     ·rw[if_pos j2]
      exact hs _ _ (by omega) (by omega)
     ·rw[if_neg j2]
      exact hs _ _ hij (by omega)
theorem ZlT (o:OrdW lt)(hn:0<n):ZP lt n (kas_sort n) (λq=>Pm n q/\VI lt q n):=by
 have h:Pm n (qK (qf n)):=⟨hn,by simp⟩;refine ZP.bind (ZP.mono (λr ⟨a,b,c,d⟩=>?_) (Zpk o h));by_cases hr:r.1<n
 ·rw[if_pos hr]
  have e:max r.1 1=r.1:=by omega
  rw[e];exact binW o _ _ _ c a (by omega) d
 ·rw[if_neg hr]
  exact⟨c,by grind⟩
noncomputable def YH (lt:Nat->Nat->Bool)(n:Nat):List Nat:=if n<2 then qf n else (Vz lt (kas_sort n)).toList
theorem JV (o:OrdW lt):(YH lt n).Perm (qf n):=by
 unfold YH;by_cases h:n<2
 ·rw[if_pos h]
 ·rw[if_neg h]
  exact(ZlT o (by omega)).run.2.1.pm
theorem Zgk (o:OrdW lt):(YH lt n).Pairwise λa b=>lt b a=false:=by
 unfold YH;by_cases h:n<2
 ·match n,h with
  | 0,_=>simp
  | 1,_=>exact List.pairwise_singleton _ _
 ·rw[if_neg h]
  obtain⟨h1,h2⟩:=(ZlT (n:=n) o (by omega)).run.2;rw[zf];intro i j hi hj hij;have hs:=h1.size;have e:∀k,(hk:k<(Vz lt (kas_sort n)).toList.length)->(Vz lt (kas_sort n)).toList[k]=g (Vz lt (kas_sort n)) k:=λk hk=>by
   have hk':k<(Vz lt (kas_sort n)).size:=by omega
   unfold g;simp[hk']
  rw[e i hi,e j hj];exact h2 i j hij (by simp_all)
end
end TS
namespace TF
open L2 TS PySem.W
section
variable {X:Cx}{jI:Qb}{σ:St}{H:Hp}{s:Shared}
noncomputable def Uo (X:Cx)(σ:St)(sp:Heap->Sp):List V->Hp->(List V->Hp->Prop)->Prop
 | [],H,R=>R [] H
 | v::r,H,R=>∀base',Cells X σ base'->sp base' [v] H (λk H1=>Uo X σ sp r H1 λks H2=>R (k::ks) H2) E0
structure KeyFn (X:Cx)(σ:St)(k:Nat)(f:Addr)(sp:Heap->Sp):Prop where
 fn:∀x,X.fn x=true
 ok:∃fd ps,Wh X.K fd ps []/\∀base',Cells X σ base'->FnOk X.prog X.w X.K X.mg base' ZQ k f fd ps (sp base')
theorem ZlU (F:KeyFn X σ k f sp)(I:Inv X jI σ H s)(hA:∀{base H s},Env0 X.prog X.w X.K X.mg base X.A X.stack s H->Env0 X.prog X.w X.K X.mg base A X.stack s H)(hr:Room k A)(rv:ZG v u)(q:∀base',Cells X σ base'->sp base' [v] H Q E0) :
  xg (xD X.prog X.w) A (call (.ref f) [u]) (EP X jI σ Q) E s:=by
 obtain⟨fd,ps,hb,F0⟩:=F.ok;obtain⟨e0,cs⟩:=Zef I F.fn;have q':=q _ cs;have r:Zu [v] [u]:=.cons rv .nil;have hl:=((F0 _ cs).len _ _ _ _ q');refine xC (codeAny_mono ((F0 _ cs).run A X.stack s H ⟨[u],[]⟩ [u] [v] Q E0 hr (hA e0) (by have:=hb s [u] I.kIn hl;simp_all) r q') λr s' hq=>?_)
 cases r with
 | error e=>exact hq.elim
 | ok fl=>
  cases fl with
  | ret u=>exact I.after hq
  | next=>exact zZ hq
  | brk=>exact zZ hq
  | cont=>exact zZ hq
noncomputable def JP (X:Cx)(jI:Qb)(b:Addr):Prop:=b≠X.env.locals/\b∉X.fs/\(b∈X.ex∨X.s₀.heap.objs.size<=b)/\(∀x c,X.env.cells.lookup x=some c->c≠b)/\∀p∈X.pn++jI,p.1≠b
theorem ZlV (I:Inv X jI σ H s){b:Addr}(hb:s.heap.objs.size<=b):JP X jI b:=(I.fpOk hb (I.hok.fresh hb)).2
theorem ZiB {rest:Qb}(I:Inv X (jI++(b,o)::rest) σ H s)(k:∀c u,c≠b->s.heap.get? c=some u->h'.get? c=some u)(hb':h'.get? b=some o')(hd:∀v,o'.data≠.cell v)(fp:JP X jI b)
  (hr:∀p∈rest,p.1≠b):Inv X (jI++(b,o')::rest) σ H { s with heap:=h',toks:=t' }:=by
 obtain⟨pb1,pb2,pb3,pb4,pb5⟩:=I.pin (b,o) (qp _ (qp _ (.head _)));have I1:=I.pins_of λp hp=>I.pin p (qp _ ((qZ.mp hp).elim (λz=>qW _ z) λz=>qp _ (.tail _ z)));obtain⟨f1,f2,f3,f4,f5⟩:=fp;have I2:=I1.turned (t':=t') k pb2 f1 f3 f4 (λp hp=>by
  grind)
 refine I2.pins_of λp hp=>?_;rcases qZ.mp hp with z | z
 ·exact I2.pin p (qp _ (qW _ z))
 ·rcases qy.mp z with rfl | z
  ·exact⟨hb',pb2,f1,f2,hd⟩
  ·exact I2.pin p (qp _ (qp _ z))
theorem ZpW {rest:Qb}(I:Inv X (jI++(b,o)::rest) σ H s)(fp:JP X jI b)(hx:X.s₀.heap.objs.size<=b)(new:YO X.prog X.w (Zi H b u) s.heap b u):Inv X jI σ (Zi H b u) s:=by
 obtain⟨pb1,pb2,pb3,pb4,pb5⟩:=I.pin (b,o) (qp _ (qp _ (.head _)));obtain⟨f1,f2,f3,f4,f5⟩:=fp;refine⟨I.ok,I.os,I.bare,?_,I.loc,I.cell,?_,?_,?_,?_,I.len⟩
 ·exact⟨I.base.keep,I.base.slot,λc q e n x=>by
   rw[Zn (qD (qT (qC e) hx))];exact I.base.free c q e n x,I.base.there,λc xs e=>by have:=I.base.tups c xs e;rw[Zn (ZY this pb2)];exact this,λc q xs e=>by have:=I.base.frzs c q xs e;rw[Zn (ZY this pb2)];exact this,λc ps e=>by
   obtain⟨m,this⟩:=I.base.tbls c ps e;exact⟨m,by rw[Zn (ZY this pb2)];exact this⟩⟩
 ·rw[Zn (zh f1)];exact I.free
 ·intro x c e
  rw[Zn (f4 x c e)];exact I.freeC x c e
 ·intro p hp
  have hp':p∈X.pn++(jI++(b,o)::rest):=(qZ.mp hp).elim (λz=>qW _ z) λz=>qp _ (qW _ z);obtain⟨q1,q2,q3,q4,q5⟩:=I.pin p hp';exact⟨q1,by rw[Zn (f5 p hp)];exact q2,q3,q4,q5⟩
 ·intro c v e
  by_cases hc:c=b
  ·subst hc;rw[ZD]at e;grind
  ·rw[Zn hc]at e
   exact(I.hok c v e).stay (λd w _ q=>q) (λd q=>by rw[Zn (ZY q pb2)];exact q) λd xs q=>by rw[Zn (ZY q pb2)];exact q
theorem Zet:∀{xs:List V} {us:List Value} {v:V} {u:Value},Zu xs us->ZG v u->Zu (xs ++ [v]) (us ++ [u])
 | [],_,v,u,h,r=>by cases h;exact .cons r .nil
 | x::xs,_,v,u,h,r=>by
  cases h with
  | cons h1 h2=>exact .cons h1 (Zet h2 r)
theorem Ja:∀v,(seqObj c xs n).data≠.cell v:=λv h=>by cases h
theorem Zeu {R:List V->Hp->Prop}(F:KeyFn X σ k f sp)(hA:∀{base H s},Env0 X.prog X.w X.K X.mg base X.A X.stack s H->Env0 X.prog X.w X.K X.mg base A X.stack s H)(hr:Room k A)
  (fp:JP X jI kS) (hka:a≠kS)
  (hbody:∀x ks e (s:Shared) (D:xH),qaW ks<64->xg (xD X.prog X.w) A (call (.ref f) [x]) (λu s'=>s'.heap.get? kS=some (seqObj "list" (qK ks) e)/\D u { s' with heap:=s'.heap.update kS (qU (·.push u)) }) (λ_ _=>False) s->
   xg (xD X.prog X.w) A (body x ⟨⟩) (λr s'=>r=.yield ⟨⟩/\∃u,D u s') E s) :
  ∀(r:List V) (us:List Value) (kvs:List V) (ks:List Value) (e:Nat) (H:Hp) (s:Shared),Zu r us->Zu kvs ks->ks.length+us.length<64->Inv X (jI ++ [(kS,seqObj "list" (qK ks) e),(a,seqObj "list" #[] e1)]) σ H s->Uo X σ sp r H (λk2 H2=>R (kvs++k2) H2)->
   xg (xD X.prog X.w) A (forIn us PUnit.unit body) (λ_ s'=>∃kvs' ks' e' H',Inv X (jI ++ [(kS,seqObj "list" (qK ks') e'),(a,seqObj "list" #[] e1)]) σ H' s'/\Zu kvs' ks'/\ks'.length=ks.length+us.length/\R kvs' H') E s
 | [],_,kvs,ks,e,H,s,h,hv,hz,I,q=>by
  cases h
  rw[List.forIn_nil];refine xc ⟨kvs,ks,e,H,I,hv,rfl,?_⟩;have q:R (kvs ++ []) H:=q;rw[z0]at q;exact q
 | v::r,_,kvs,ks,e,H,s,h,hv,hz,I,q=>by
  cases h with
  | @cons _ u _ us r1 r2=>
   rw[zo]at hz;rw[qbu];refine xb (xf (hbody u ks e s (λu' s'=>∃v' H',Inv X (jI ++ [(kS,seqObj "list" (qK (ks ++ [u'])) (e+1)),(a,seqObj "list" #[] e1)]) σ H' s'/\ZG v' u'/\Uo X σ sp r H' λks H2=>R (kvs++v'::ks) H2) (by omega) ?_) (λq' s' hq=>?_) λ_ _ x=>x)
   ·refine xf (ZlU F I hA hr r1 q) (λu' s' ⟨v',H',I',rv,q'⟩=>?_) λ_ _ x=>x
    have pk:=(I'.pin (kS,seqObj "list" (qK ks) e) (qp _ (qp _ (.head _)))).1;refine⟨pk,v',H',?_,rv,q'⟩;refine ZiB (o:=seqObj "list" (qK ks) e) (t':=s'.toks) I' (λc w hc e=>by rw[zX _ _ _ _ hc];exact e) ?_ Ja fp (λp hp=>by rw[qQ.mp hp];exact hka);have ea:(qK ks).push u'=qK (ks ++ [u']):=by simp
    rw[get?_update_seq pk (·.push u'),ea];have:((qK (ks ++ [u'])).size==(qK ks).size)=false:=by simp
    rw[this];rfl
   ·obtain⟨rfl,u',v',H',I',rv,q'⟩:=hq
    show xg (xD X.prog X.w) A (forIn us PUnit.unit body) _ E s';refine xf (Zeu F hA hr fp hka hbody r us (kvs ++ [v']) (ks ++ [u']) (e+1) H' s' r2 (Zet hv rv) (by rw[zl,yq];omega) I' ?_) (λ_ s'' ⟨a1,a2,a3,a4,a5,a6,a7,a8⟩=>⟨a1,a2,a3,a4,a5,a6,by grind,a8⟩) λ_ _ x=>x;simp_all
end
section
variable {prog:xF}{w:World}{A:xG}{E:xH}{s:Shared}
noncomputable def JW (h:Heap)(kS a:Addr)(out:List Value):Heap:=(h.update kS (qU λ_=>(#[]:Array Value))).update a (qU λ_=>qK out)
theorem Zev {st:SortSt}(hk:s.heap.get? kS=some (seqObj "list" (qK ks) e))(ha:s.heap.get? a=some (seqObj "list" #[] e1))(hka:a≠kS)(hout:(arrOf st).map (·.2)=qK out)(hz:out.length<64)(hkz:ks.length<64)(hf:failedOf st=none)
  (h:P (.done (.ret .none)) { s with heap:=JW s.heap kS a out }):xg (xD prog w) A (ksk_tail a false e1 (.ref kS) st) P E s:=by
 have ha2:(s.heap.update kS (qU λ_=>(#[]:Array Value))).get? a=some (seqObj "list" #[] e1):=by rw[zX _ _ _ _ hka];exact ha
 unfold ksk_tail;rw[hout];refine xb (listUpdate_at hk rfl ?_ (by rw[qX,sizeLine_eq];omega) (zk _));refine xb (xz ?_);refine xb (seqEpoch_at ha2 rfl ?_);refine xb (listUpdate_at ha2 rfl ?_ (zk _) (by show(qK out).size<=_;rw[qX,sizeLine_eq];omega));rw[hf];simp;exact xc h
theorem ZlW {us:List Value}(o:OrdW lt)(hk:s.heap.get? kS=some (seqObj "list" (qK ks) e))(ha:s.heap.get? a=some (seqObj "list" #[] e1))(hka:a≠kS)(hl:ks.length=us.length)(h64:us.length<64)
  (hkind:2<=ks.length->∃κ,(∀Q:SortKind->Shared->Prop,Q κ s->xg (xD prog w) A (keyKind' (qK ks)) Q E s)/\∀i j,i<ks.length->j<ks.length->∀C:Bool->Shared->Prop,C (lt i j) s->kas_ask prog w A κ ks i j C s)
  (h:P (.done (.ret .none)) { s with heap:=JW s.heap kS a ((YH lt us.length).map λi=>us.getD i qR) }):xg (xD prog w) A (ksk_end a false us.toArray e1 (.ref kS) (qK ks)) P E s:=by
 have hol:((YH lt us.length).map λi=>us.getD i qR).length=us.length:=by rw[qj,(JV o).length_eq,qI]
 unfold ksk_end
 try dsimp only
 simp only[yo,if_false];by_cases h2:us.toArray.size<2
 ·rw[if_pos h2,if_pos h2]
  refine xb (xc ?_);rw[StateT.run_pure];refine xb (xc ?_)
  try dsimp only
  have hlt:us.length<2:=by simpa using h2
  refine Zev (out:=(YH lt us.length).map λi=>us.getD i qR) hk ha hka ?_ (by omega) (by omega) rfl h;have e:(YH lt us.length).map (λi=>us.getD i qR)=us:=by
   unfold YH;rw[if_pos hlt];exact TS.range_getD us _
  rw[e];apply Array.toList_inj.mp;show(((qK ks).zip us.toArray).map (·.2)).toList=_;rw[Array.toList_map,ksk_zip];show(ks.zip us).map Prod.snd=_;rw[List.map_snd_zip (by omega)]
 ·rw[if_neg h2,if_neg h2]
  have h2':2<=us.length:=by simpa using h2
  obtain⟨κ,hκ,hask⟩:=hkind (by omega);refine xb (hκ _ ?_);have tr:=(ZlT (n:=us.length) o (by omega)).run;have wp:=jB (s:=s) (cmp:=kas_ask prog w A κ ks) (R:=λq s'=>q=Vz lt (kas_sort us.length)/\s'=s) (λi j hi hj C hC=>hask i j (by omega) (by omega) C hC) (λq hq=>⟨hq,rfl⟩) tr.1;refine xb (xf (kat_run (ks:=ks) (vs:=us) (Q:=λst' s'=>arrOf st'=(Vz lt (kas_sort us.length)).map (kas_item (ks.toArray.zip us.toArray))/\failedOf st'=none/\s'=s) hl h2' h64 (λp' st' s' a1 a2 a3 a4=>⟨by rw[<-a4.1];exact a2,a3,a4.2⟩) wp) ?_ λ_ _ e=>e);rintro⟨⟨⟩,st'⟩ s' ⟨har,hf,rfl⟩;have hout:=kat_snds hl har;refine Zev hk ha hka ?_ (by omega) (by omega) hf h;rw[hout];unfold YH;rw[if_neg (by omega)]
end
section
variable {X:Cx}{jI:Qb}{σ:St}{H:Hp}{s:Shared}
noncomputable def Vj (X:Cx)(kvs:List V)(H:Hp)(lt:Nat->Nat->Bool):Prop:=
 (∃ns:List Int,kvs=ns.map V.int/\lt=λi j=>decide (ns.getD i 0<ns.getD j 0))∨
 ∃(jP:List (List Int)) (T:V->List Int->Prop),(∀v ns,T v ns->∃a,v=.ref a/\ZO X.K H a (ns.map V.int))/\Paired T kvs jP/\(∀ns∈jP,ns≠[])/\lt=λi j=>Xj (jP.getD i []) (jP.getD j [])
theorem Vj.ord (h:Vj X kvs H lt):OrdW lt:=by
 rcases h with⟨ns,_,rfl⟩ | ⟨jP,T,_,_,_,rfl⟩
 ·refine⟨λa b c h1 h2=>?_,λa b h=>?_⟩
  ·grind
  ·grind
 ·refine⟨λa b c h1 h2=>?_,λa b h=>ZbF h⟩
  have t:=Zlt (jP.getD c []) (jP.getD b []) (jP.getD a []) (by unfold XG;rw[h2];rfl) (by unfold XG;rw[h1];rfl);unfold XG at t
  grind
theorem Ze6:∀{ks:List Value} {ns:List Int} {i:Nat},IntsAre ks ns->i<ks.length->∃t,ks.getD i qR=.int (ns.getD i 0) t
 | _,_,_,.nil,h=>absurd h (by simp)
 | _,_,0,.cons n t _,_=>⟨t,rfl⟩
 | _,_,i+1,.cons n t r,h=>by
  obtain⟨t',e⟩:=Ze6 r (i:=i) (by simp_all);exact⟨t',by simpa using e⟩
theorem ZjQ (h:Vj X kvs H lt)(I:Inv X jI σ H s)(rv:Zu kvs ks):2<=ks.length->∃κ,(∀Q:SortKind->Shared->Prop,Q κ s->xg (xD X.prog X.w) A (keyKind' (qK ks)) Q E s)/\∀i j,i<ks.length->j<ks.length->∀C:Bool->Shared->Prop,C (lt i j) s->kas_ask X.prog X.w A κ ks i j C s:=λh2=>by
 rcases h with⟨ns,rfl,rfl⟩ | ⟨jP,T,hT,pT,hne,rfl⟩
 ·have hi:IntsAre ks ns:=W0 rv
  refine⟨oneType',λQ q=>?_,λi j hi' hj' C hC=>?_⟩
  ·rw[ksk_kind (keys:=qK ks) (kz:=ns) hi (by simpa using h2)]
   exact xc q
  ·obtain⟨t,et⟩:=Ze6 hi hi'
   obtain⟨t',et'⟩:=Ze6 hi hj';show xg (xD X.prog X.w) A (keyLt' oneType' (ks.getD i qR) (ks.getD j qR)) C _ s;rw[et,et'];exact kat_lt_int hC
 ·have ht:=Zb6 I hT rv pT
  exact⟨tuples' true,λQ q=>Zlv ht hne (by omega) q,λi j hi hj C hC=>Zog (jq _ [] ht hi) (jq _ [] ht hj) hC⟩
theorem Zgl:∀{xs:List V} {us:List Value} {i:Nat},Zu xs us->i<xs.length->ZG (xs.getD i .non) (us.getD i qR)
 | _,_,_,.nil,h=>absurd h (by simp)
 | _,_,0,.cons h _,_=>h
 | _,_,i+1,.cons _ r,h=>by
  have:=Zgl r (i:=i) (by simp_all);simpa using this
theorem Zew (h:Zu xs us):∀{ix:List Nat},(∀i∈ix,i<xs.length)->Zu (ix.map λi=>xs.getD i .non) (ix.map λi=>us.getD i qR)
 | [],_=>.nil
 | i::r,hb=>.cons (Zgl h (hb i (by simp))) (Zew h λj m=>hb j (by simp[m]))
theorem Zhx (F:KeyFn X σ k f sp)(hr:Room (k+2) X.A)(I:Inv X jI σ H s)(h64:xs.length<64)
  (hcol:∀Q1:List Value->Shared->Prop,(∀(h':Heap) (tk:Nat) (jK:List Value),(∀b o,s.heap.get? b=some o->h'.get? b=some o)->Zu xs jK->Q1 jK { s with heap:=h',toks:=tk })->xg (xD X.prog X.w) X.A.in1 (collect u) Q1 E s)
  (q:Uo X σ sp xs H λkvs H1=>∃lt,Vj X kvs H1 lt/\∀l,H1 l=none->Q (.ref l) (Zi H1 l (.lst ((YH lt xs.length).map λi=>xs.getD i .non)))) :
  xg (xD X.prog X.w) X.A (call (.builtin "sorted") [u] [(qH "key",.ref f)]) (EP X jI σ Q) E s:=by
 refine call_function_entry_kw kind_sorted plain_sorted entry_sorted (ksk_s1 _ _) ?_;unfold Builtin.«sorted»;refine xb (m:=checkCount "sorted" 1 1 _) (xc ?_);refine xb (hcol _ λh1 tk jK k1 rv=>?_);have hil:jK.length=xs.length:=rv.length.symm;have I1:Inv X jI σ H { s with heap:=h1,toks:=tk }:=I.kept k1;refine xb (xB ?_ (by rw[sizeLine_eq];omega));generalize hs2:({ s with heap:=h1.push (seqObj "list" jK.toArray 0),toks:=tk }:Shared)=s2;have hh2:s2.heap=h1.push (seqObj "list" jK.toArray 0):=by rw[<-hs2]
 have I2:Inv X jI σ H s2:=by rw[<-hs2];exact I1.kept (λb o e=>qd _ e)
 generalize ha:h1.objs.size=a;have fpa:JP X jI a:=by rw[<-ha];exact ZlV I1 (qq _)
 have hxa:X.s₀.heap.objs.size<=a:=by rw[<-ha];exact I1.sz
 have hna:H a=none:=by rw[<-ha];exact I1.hok.fresh (qq _)
 have ho:s2.heap.get? a=some (seqObj "list" jK.toArray 0):=by rw[hh2,<-ha];exact qz _ rfl
 refine xb (xy (wpAny_call_entry_kw slot_list_sort ⟨_,ho,rfl⟩ entry_list_sort ?body (ksk_l1 _ _)))
 case body=>
  show xg (xD X.prog X.w) X.A.in1.in1 (Builtin.«list.sort» ⟨[.ref a],[(qH "key",.ref f)]⟩) _ E s2;rw[ksk_t1];obtain⟨e1,ho1⟩:∃e1,(s2.heap.update a (qU λ_=>(#[]:Array Value))).get? a=some (seqObj "list" #[] e1):=⟨_,get?_update_seq ho λ_=>#[]⟩;unfold ksk_tree;refine xb (listItems_at ho rfl ?_);refine xb (listUpdate_at ho rfl ?_ (by rw[qX,sizeLine_eq];omega) (zk _));refine xb (seqEpoch_at ho1 rfl ?_);refine xb (wpAny_newTuple ?_ (by show jK.length<=_;rw[sizeLine_eq];omega));refine xb (xB ?_ (zk _));refine xy ?_;generalize hs3:({ s2 with heap:=(s2.heap.update a (qU λ_=>(#[]:Array Value))).push (seqObj "tuple" jK.toArray 0) }:Shared)=s3;have hh3:s3.heap=(s2.heap.update a (qU λ_=>(#[]:Array Value))).push (seqObj "tuple" jK.toArray 0):=by rw[<-hs3]
  generalize hkS:s3.heap.objs.size=kS;have I3:Inv X (jI ++ [(a,seqObj "list" #[] e1)]) σ H { s2 with heap:=s2.heap.update a (qU λ_=>(#[]:Array Value)),toks:=s2.toks }:=by
   have Ia:Inv X (jI++(a,seqObj "list" jK.toArray 0) :: []) σ H s2:=I2.pins_of λp hp=>by
    rcases qZ.mp hp with z | z
    ·exact I2.pin p (qp _ z)
    ·rw[qQ.mp z]
     exact⟨ho,hna,fpa.1,fpa.2.1,Ja⟩
   exact ZiB Ia (λc w hc e=>by rw[zX _ _ _ _ hc];exact e) ho1 Ja fpa (λp hp=>by simp at hp)
  have I4:Inv X (jI ++ [(a,seqObj "list" #[] e1)]) σ H s3:=by rw[<-hs3];exact I3.kept (t':=s2.toks) (λb o e=>qd _ e)
  have hak:a<kS:=by
   rw[<-hkS,hh3,size_push',Heap.size_update];exact zB (qC ho)
  have fpk:JP X jI kS:=by
   have:=ZlV I4 (b:=kS) (by rw[hkS];exact qq _);exact⟨this.1,this.2.1,this.2.2.1,this.2.2.2.1,λp hp=>this.2.2.2.2 p ((qZ.mp hp).elim (λz=>qW _ z) λz=>qp _ (qW _ z))⟩
  have I5:Inv X (jI ++ [(kS,seqObj "list" (qK []) 0),(a,seqObj "list" #[] e1)]) σ H { s3 with heap:=s3.heap.push (seqObj "list" #[] 0),toks:=s3.toks }:=by
   have I':=I4.kept (t':=s3.toks) (h':=s3.heap.push (seqObj "list" #[] 0)) (λb o e=>qd _ e);refine I'.pins_of λp hp=>?_;rcases qZ.mp hp with z | z
   ·exact I'.pin p (qp _ (qW _ z))
   ·rcases qy.mp z with rfl | z
    ·exact⟨by rw[<-hkS];exact qz _ rfl,by rw[<-hkS];exact I4.hok.fresh (qq _),fpk.1,fpk.2.1,Ja⟩
    ·exact I'.pin p (qp _ (qp _ z))
  show xg (xD X.prog X.w) X.A.in1.in1 _ _ E { s3 with heap:=s3.heap.push (seqObj "list" #[] 0),toks:=s3.toks };generalize ({ s3 with heap:=s3.heap.push (seqObj "list" #[] 0),toks:=s3.toks }:Shared)=s5 at I5⊢;unfold ksk_rest;refine xb (wpAny_rule ?_)
  first
   | rw[List.forIn_toArray]
   | (rw[<-Array.forIn_toList];simp only[qb5])
   | rw[<-Array.forIn_toList]
  have hr2:Room k X.A.in1.in1:=(hr.in1).in1;refine xb (xf (Zeu (E:=E) (R:=λkvs H1=>∃lt,Vj X kvs H1 lt/\∀l,H1 l=none->Q (.ref l) (Zi H1 l (.lst ((YH lt xs.length).map λi=>xs.getD i .non)))) F (λe=>e.in1.in1) hr2 fpk (qD hak) (λx ks e s' D hz hx=>?_) xs jK [] [] 0 H s5 rv .nil (by simp only[yt];omega) I5 q) (λ_ s' hd=>?_) λ_ _ x=>x)
  ·refine xb (wpAny_attempt (xf hx (λu' s'' hk=>?_) λ_ _ hF=>hF.elim))
   obtain⟨hk1,hk2⟩:=hk
   try dsimp only
   refine xb (listUpdate_at hk1 rfl ?_ (by rw[qX,sizeLine_eq];omega) (qV (qb7 (Array.size_push ..)) (by rw[qX,sizeLine_eq];omega)));exact xc ⟨rfl,u',hk2⟩
  ·obtain⟨kvs,ks,e',H',I',hv,hl,lt,hok,hq⟩:=hd
   have hl:ks.length=jK.length:=by simpa using hl
   have pk:=I'.pin (kS,seqObj "list" (qK ks) e') (qp _ (qp _ (.head _)));have pa:=I'.pin (a,seqObj "list" #[] e1) (qp _ (qp _ (.tail _ (.head _))))
   try dsimp only
   refine xb (listItems_at pk.1 rfl ?_);refine ZlW hok.ord pk.1 pa.1 (qD hak) hl (by omega) (ZjQ hok I' hv) ⟨_,rfl,?_⟩;refine xc ⟨_,rfl,?_⟩;have hol:((YH lt jK.length).map λi=>jK.getD i qR).length=jK.length:=by rw[qj,(JV hok.ord).length_eq,qI]
   -- the store of keys is emptied
   obtain⟨c1,hc1⟩:∃c1,(s'.heap.update kS (qU λ_=>(#[]:Array Value))).get? kS=some (seqObj "list" #[] c1):=⟨_,get?_update_seq pk.1 λ_=>#[]⟩;have I6:=ZiB (o':=seqObj "list" #[] c1) (h':=s'.heap.update kS (qU λ_=>(#[]:Array Value))) (t':=s'.toks) I' (λc w hc e=>by rw[zX _ _ _ _ hc];exact e) hc1 Ja fpk (λp hp=>by rw[qQ.mp hp];exact qD hak);have I7:Inv X (jI++(a,seqObj "list" #[] e1) :: []) σ H' { s' with heap:=s'.heap.update kS (qU λ_=>(#[]:Array Value)),toks:=s'.toks }:=I6.pins_of λp hp=>I6.pin p (qp _ ((qZ.mp hp).elim (λz=>qW _ z) λz=>qp _ (.tail _ z)));have pa2:=I7.pin (a,seqObj "list" #[] e1) (qp _ (qp _ (.head _)));obtain⟨c2,hc2⟩:∃c2,(JW s'.heap kS a ((YH lt jK.length).map λi=>jK.getD i qR)).get? a=some (seqObj "list" (qK ((YH lt jK.length).map λi=>jK.getD i qR)) c2):=⟨_,get?_update_seq pa2.1 _⟩;have I8:=ZiB (o':=seqObj "list" (qK ((YH lt jK.length).map λi=>jK.getD i qR)) c2) (h':=JW s'.heap kS a ((YH lt jK.length).map λi=>jK.getD i qR)) (t':=s'.toks) I7 (λc w hc e=>by unfold JW;rw[zX _ _ _ _ hc];exact e) hc2 Ja fpa (λp hp=>by simp at hp);have hout:Zu ((YH lt xs.length).map λi=>xs.getD i .non) ((YH lt jK.length).map λi=>jK.getD i qR):=by
    rw[hil];exact Zew rv λi hi=>qu.mp ((JV hok.ord).mem_iff.mp hi)
   refine⟨.ref a,_,ZpW (u:=.lst ((YH lt xs.length).map λi=>xs.getD i .non)) I8 fpa hxa ⟨?_,_,c2,hout,hc2⟩,rfl,hq a pa2.2.1⟩;rw[hout.length,sizeLine_eq];omega
end
end TF
namespace TF
open L2 TS
section
variable {X:Cx}
noncomputable def ZlX (X:Cx)(id:String)(nm:Str)(r:St->List V->List V->Hp->VK->Prop):Prop:=
 ∀(jI:Qb) (s:Shared) (σ:St) (H:Hp) (xs ys:List V) (us vs:List Value) (Q:VK),Inv X jI σ H s->Zu xs us->Zu ys vs->r σ xs ys H Q->xg (xD X.prog X.w) X.A (call (.builtin id) us ([nm].zip vs)) (EP X jI σ Q) X.xe s
theorem Zex {id:String}{p pos kpos:Pos}(hc:ZlX X id nm r)(hg:Gl X x)(hm:X.mg x=none)(hv:xk x=some (.builtin id))(ha:PE X e ta)(hb:PE X d tb)
  (hn:x≠"__name__":=by decide) (hdb:(x==("__debug__" : Str))=false:=by decide) (he:xi [e] X.env=(false,eval e X.env)::xi [] X.env:=by rfl)
  (hall:(xq pos (xj [⟨some nm,d,kpos⟩] X.env)).all (·.1.isSome)=true:=by rfl) (hks:(xq pos (xj [⟨some nm,d,kpos⟩] X.env)).filterMap (·.1)=[nm]:=by rfl)
  (hpl:((backTo pos (xi [e] X.env)).any (·.1)||(xq pos (xj [⟨some nm,d,kpos⟩] X.env)).any (·.1.isNone))=false:=by rfl) :
  PE X (.Call (.Name x p) [e] [⟨some nm,d,kpos⟩] pos) (fun σ H Q=>Xa ta Xo σ H λxs H1=>Xa tb Xo σ H1 λys H2=>r σ xs ys H2 Q):=by
 intro jI s σ H Q I h;refine wpAny_Call_Name_kw (Uh I hg hm hv ?_ hn hdb);refine qb4 (P:=λ_=>True) hpl (λh _=>⟨qbG,.inr (.inl rfl),Zbd⟩) (evalArgs_kw2 hall (ZI ((YF ha YX he) pos jI s σ H _ I h) λus s1 ⟨vs,H1,I1,rv,q1⟩=>?_) he);refine ZI ((Zh0 hb Zku) pos jI s1 σ H1 _ I1 q1) λws s2 ⟨zs,H2,I2,rz,q2⟩=>?_;refine⟨trivial,?_⟩;exact hc jI s2 σ H2 vs zs us ws Q I2 rv rz q2
noncomputable def Js (X:Cx)(H:Hp)(p:Addr)(ns:List Int):Prop:=
 Zw X.K H p (ns.map V.int)∨ZO X.K H p (ns.map V.int)∨∃j:Int,H p=some (.rng 0 j)/\-(2 ^ 62)<=j/\j<=2 ^ 24/\ns=(qf j.toNat).map λ(i:Nat)=>(i:Int)
theorem Zhy {σ:St}(hc:X.calm=true)(I:Inv X jI σ H s)(h:Js X H p ns)(Q1:List Value->Shared->Prop)
  (k:∀(h':Heap) (tk:Nat) (jK:List Value),(∀b o,s.heap.get? b=some o->h'.get? b=some o)->Zu (ns.map V.int) jK->Q1 jK { s with heap:=h',toks:=tk }):xg (xD X.prog X.w) X.A.in1 (collect (.ref p)) Q1 E s:=by
 have keep:∀jK:List Value,∀b o,s.heap.get? b=some o->((s.heap.push (seqObj "list" #[] 0)).update s.heap.objs.size (qU (· ++ jK.toArray))).get? b=some o:=λjK b o e=>by
  rw[zX _ _ _ _ (qD (qC e))];exact qd _ e
 rcases h with h | h | ⟨j,hr,h1,h2,rfl⟩
 ·obtain⟨jK,rv,pl,hz⟩:=I.list h
  have hl:=rv.length;exact collect_list pl.isList (k _ s.toks jK (keep jK) rv) (by rw[<-hl];exact hz)
 ·obtain⟨jK,rv,pl,hz⟩:=I.tuple h
  have hl:=rv.length;exact Zlp (show s.heap.IsTuple p jK.toArray from pl) (k _ s.toks jK (keep jK) rv) (by rw[<-hl];exact hz)
 ·obtain⟨t,u',v',hro⟩:=(show YO X.prog X.w H s.heap p (.rng 0 j)from I.hok p _ hr)
  have hn:yN 0 j 1=((j.toNat:Nat):Int):=by rw[rangeSize_one];split <;> omega
  refine Zf9 (A:=X.A.in1) (I.ok.hd hc) (show IsRange s.heap p 0 j 1 t u' v' from hro) (small_one (by omega) (by omega) h1 (by omega)) hn (by omega) λh' tk jO kp hi=>?_;obtain⟨sz,Z9⟩:=hi;have rv:=Zbq jO.toList 0 λi v hv=>by
   simp_all
  have el:jO.toList.length=j.toNat:=by omega
  rw[el]at rv;refine k h' tk jO.toList kp ?_;rw[qw];have e:(qf j.toNat).map (V.int∘λ(i:Nat)=>(i:Int))=(qf j.toNat).map λ(i:Nat)=>V.int (0+i):=zm λi _=>by simp
  rw[e];exact rv
theorem ZbK (hc:X.calm=true):ZlX X "sorted" "key" (fun σ xs ys H Q=>∃(p f:Addr) (ns:List Int) (sp:Heap->Sp) (k:Nat),xs=[.ref p]/\ys=[.ref f]/\Js X H p ns/\KeyFn X σ k f sp/\Room (k+2) X.A/\ns.length<64/\
  Uo X σ sp (ns.map V.int) H λkvs H1=>∃lt,Vj X kvs H1 lt/\∀l,H1 l=none->Q (.ref l) (Zi H1 l (.lst ((YH lt ns.length).map λi=>V.int (ns.getD i 0))))):=by
 intro jI s σ H xs ys us vs Q I r r2 h;obtain⟨p,f,ns,sp,k,rfl,rfl,hp,F,hr,h64,q⟩:=h;obtain⟨u,rfl,ru⟩:=XC r
 cases ru
 obtain⟨v,rfl,rv⟩:=XC r2
 cases rv
 refine Zhx F hr I (by simp_all) (λQ1 k=>Zhy hc I hp Q1 k) ?_;have ek:(λkvs H1=>∃lt,Vj X kvs H1 lt/\∀l,H1 l=none->Q (.ref l) (Zi H1 l (.lst ((YH lt ns.length).map λi=>V.int (ns.getD i 0)))))=λkvs H1=>∃lt,Vj X kvs H1 lt/\∀l,H1 l=none->Q (.ref l) (Zi H1 l (.lst ((YH lt (ns.map V.int).length).map λi=>(ns.map V.int).getD i .non))):=by
  funext kvs H1;refine propext (exists_congr λlt=>and_congr_right λok=>?_);have e:(YH lt (ns.map V.int).length).map (λi=>(ns.map V.int).getD i .non)=(YH lt ns.length).map λi=>V.int (ns.getD i 0):=by
   rw[qj];refine zm λi hi=>?_;have hi:=qu.mp ((JV ok.ord).mem_iff.mp hi);simp_all
  rw[e]
 rw[ek]at q;exact q
end
noncomputable def Bx (F:List D->M D)(cds:List D):List Int->M (List D)
 | []=>Zy []
 | n::r=>Zp (F (.int n::cds)) λk=>Zp (Bx F cds r) λks=>Zy (k::ks)
noncomputable def BP (ks:List D):Option (Nat->Nat->Bool):=match ZE ks with
 | some ns=>some λi j=>decide (ns.getD i 0<ns.getD j 0)
 | none=>match WQ ks with
  | some jP=>if jP.all (λns=>!ns.isEmpty)=true then some λi j=>Xj (jP.getD i []) (jP.getD j [])else none
  | none=>none
noncomputable def Vf (F:List D->M D)(cds:List D)(ns:List Int):M D:=if (decide (ns.length<64)&&YY cds)=true then Zp (Bx F cds ns) λks=>match BP ks with
 | some lt=>Zy (.lst ((YH lt ns.length).map λi=>.int (ns.getD i 0)))
 | none=>Zv else Zv
section
variable {X:Cx}{G:Gh}{σ:St}
theorem Zgm:∀(ns:List Int) (Hf H:Hp) (s s':Pn) (ks:List D) (R:List V->Hp->Prop),Zz G Hf H->Zj G Hf cds cvs->G.st s H->Bx F cds ns s=some (ks,s')->
  (∀kvs jU H1,Gr G Hf H jU H1->G.st s' H1->Zj G jU ks kvs->R kvs H1)->Uo X σ (λ_=>BN 1 G cvs F) (ns.map V.int) H R
 | [],Hf,H,s,s',ks,R,e,rc,st,h,k=>by
  obtain⟨rfl,rfl⟩:=ZM h;exact k [] Hf H (.refl e) st (Zj.nil_iff.mpr rfl)
 | n::r,Hf,H,s,s',ks,R,e,rc,st,h,k=>by
  obtain⟨d,s1,a1,a2⟩:=ZA h;obtain⟨ks',s2,a3,a4⟩:=ZA a2;obtain⟨rfl,rfl⟩:=ZM a4;intro base' cs;refine⟨Hf,[.int n],cds,s,d,s1,rfl,e,.one (ja.mpr rfl),rc,st,a1,λv jU H1 g1 j9 rv=>?_⟩;exact Zgm r jU H1 s1 _ ks' _ g1.fh (rc.ext g1.ff) j9 a3 λkvs j8 H2 g2 jW rk=>k (v::kvs) j8 H2 (g1.trans g2) jW (.cons (rv.ext g2.ff) rk)
theorem ZjR (e:Zz G Hf H)(r:Zj G Hf ks kvs)(h:BP ks=some lt):Vj X kvs H lt:=by
 unfold BP at h
 cases hi:ZE ks with
 | some ns=>
  rw[hi]at h
  cases h
  rw[Wm hi]at r;exact .inl ⟨ns,jk r,rfl⟩
 | none=>
  rw[hi]at h
  cases ht:WQ ks with
  | none=>simp_all
  | some jP=>
   rw[ht]at h;have h:(if jP.all (λns=>!ns.isEmpty)=true then some λi j=>Xj (jP.getD i []) (jP.getD j [])else none)=some lt:=h;by_cases hn:jP.all (λns=>!ns.isEmpty)=true
   ·rw[if_pos hn]at h
    cases h
    rw[Zb7 ht]at r;refine .inr ⟨jP,λv ns=>Zl G Hf (Xv ns) v,λv ns rv=>?_,Zb8 r,λns hm z=>?_,rfl⟩
    ·obtain⟨a,vs,rfl,na,ha,rl⟩:=jc.mp rv
     rw[jk rl]at ha;exact⟨a,rfl,ZO.of (e _ _ na ha)⟩
    ·grind
   ·simp_all
end
section
variable {X:Cx}{G:Gh}{P c:Addr}{q:Str}{kl:Nat}{frb:Bool}{e1:Expr}{f1:Zc->M D}{r1:Bool}{params:Arguments}{scope:Scope}{lpos ppos pos kpos:Pos}{XN N ps:List Str}{NS:List (Str×NameKind)}{cix:List Nat}{body:Expr}{fe:Zc->M D}
theorem Zbe {Q:VK}(hfn:∀x,X.fn x=true)(hr:Room (kl+3) X.A)(M:Mk0 X c P)(TG:TabG P q G)(S:CloScope N ps scope)(B:CapS X XN NS N ps cix scope)(hps:ps.length=1)
  (hbind:∀(cl:List (Str×Addr)) (pm cd ct:Value) (us:List Value),us.length=ps.length->bindArgs (zi "<lambda>" q params body scope cl pm cd ct) ⟨us,[]⟩=pure (ps.zip us))
  (hb:∀(base:Heap) (f c':Addr) (cl:List (Str×Addr)) (G:Gh) (A:xG) (outer:List Env) (s:Shared) (H:Hp) (E:XK),Room kl (A.deeper (yb q scope s.heap.objs.size f (.ref c') cl))->PD (V5 ZQ X.prog X.w X.K X.mg base N q scope f (.ref c') cl A outer s H E).nox G frb body fe)
  (x1:Zz G jU H1) (x2:YL G jU σ ρ) (j9:G.st s H1) (hcap:Vm ρ cix=some cds) (hk:Vf (Y1 N.length fe) cds ns s=some (d,s'))
  (Z9:∀H2,Zz G H1 H2->(∀b u,H1 b=some u->(∀t,u≠.tbl t)->H2 b=some u)->Js X H2 p0 ns)
  (k:∀v Hf3 H3,Gr G jU H1 Hf3 H3->G.st s' H3->Zl G Hf3 d v->(∀a,v=.ref a->¬G.fp a/\H1 a=none)->Q v H3) :
  Xa (fun σ H Q=>ZkU P q lpos (λfd c'=>∃cl pm ctv,CloOf X scope cl/\fd=zi "<lambda>" q params body scope cl pm (.ref c') ctv) H λp _ _ H'=>Q (.ref p) H') Xo σ H1 λys H2=>
   ∃(p f:Addr) (ns:List Int) (sp:Heap->Sp) (k:Nat),[V.ref p0]=[.ref p]/\ys=[.ref f]/\Js X H2 p ns/\KeyFn X σ k f sp/\Room (k+2) X.A/\ns.length<64/\
    Uo X σ sp (ns.map V.int) H2 λkvs H1=>∃lt,Vj X kvs H1 lt/\∀l,H1 l=none->Q (.ref l) (Zi H1 l (.lst ((YH lt ns.length).map λi=>V.int (ns.getD i 0)))):=by
 unfold Vf at hk;obtain⟨hn,a5⟩:=Y6 hk;obtain⟨hn0,hn1⟩:=yE.mp hn;have h64:=of_decide_eq_true hn0;obtain⟨ks,s1,a6,a7⟩:=ZA a5;obtain⟨tp,hP,htr,hhit⟩:=TG.get _ H1 j9;refine⟨tp,hP,htr,λcv h=>let ⟨c',z1,z2,_⟩:=hhit lpos cv h;⟨c',z1,z2⟩,λp c' fd Hm ⟨cl,pm,ctv,co,efd⟩ sl hp=>?_⟩;subst efd;obtain⟨stm,hc',ex⟩:=Zii TG j9 hP sl;have gr:=Zij (o:=.ext (fnφ p (zi "<lambda>" q params body scope cl pm (.ref c') ctv))) x1 ex hp;have hcp:c'≠p:=λz=>by rw[z,hp]at hc';cases hc'
 obtain⟨cvs,l1,l2,l3⟩:=Zc2 x2 hcap;have jW:(Wi G 0 p c' (zi "<lambda>" q params body scope cl pm (.ref c') ctv) q cvs).st s (Zi Hm p (.ext (fnφ p (zi "<lambda>" q params body scope cl pm (.ref c') ctv)))):=⟨Gh.grow stm hp,ZD,by rw[Zn hcp];exact hc'⟩;refine⟨p0,p,ns,λ_=>BN 1 (Wi G 0 p c' (zi "<lambda>" q params body scope cl pm (.ref c') ctv) q cvs) cvs (Y1 N.length fe),kl+1,rfl,rfl,?_,⟨hfn,_,ps,.all (hbind cl pm (.ref c') ctv),λbase' cs=>?_⟩,hr,h64,?_⟩
 ·refine Z9 _ gr.hh λb u e nt=>?_
  have e2:Hm b=some u:=by
   rcases sl with⟨rfl,h1,h2⟩ | ⟨h1,h2,h3,rfl⟩
   ·exact e
   ·have hbP:b≠P:=λz=>by
     rw[z,hP]at e;cases e;exact nt _ rfl
    rw[Zn (ZY e h2),Zn hbP];exact e
  rw[Zn (ZY e2 hp)];exact e2
 ·have:=fnKE S (B.cloAt cs co l1 l3) (λs H st=>st.2) (G:=Wi G 0 p c' (zi "<lambda>" q params body scope cl pm (.ref c') ctv) q cvs) λA outer s H E hr=>hb base' p c' cl _ A outer s H E hr
  rw[hps]at this;exact this
 ·refine Zgm ns jU _ s s1 ks _ (Zz.re (G:=G) rfl gr.fh) (toCL hn1 l2) jW a6 λkvs j8 H2 g2 st3 rk=>?_
  cases hlt:BP ks with
  | none=>rw[hlt]at a7;cases a7
  | some lt=>
   rw[hlt]at a7;obtain⟨rfl,rfl⟩:=ZM a7;refine⟨lt,ZjR g2.fh rk hlt,λl hl=>?_⟩;have g2':Gr G jU _ j8 H2:=grC g2;have nf:=Gh.nofp st3.1 hl;have gB:=Gr.new (o:=.lst ((YH lt ns.length).map λi=>V.int (ns.getD i 0))) g2'.fh hl nf;have gg:=(gr.trans g2').trans gB;have hrl:=by
    have:=Uc (G:=G) (Hf:=Zi j8 l (.lst ((YH lt ns.length).map λi=>V.int (ns.getD i 0)))) ((YH lt ns.length).map λi=>ns.getD i 0);rw[qw,qw]at this;exact this
   refine k (.ref l) _ _ gg (Gh.grow st3.1 hl) (jb.mpr ⟨l,_,rfl,nf,ZD,hrl⟩) λa ea=>?_
   cases ea
   refine⟨nf,?_⟩
   cases q:H1 l with
   | none=>rfl
   | some u=>rw[(gr.trans g2').hh l u nf q]at hl;cases hl
noncomputable def Jg (F:List D->M D)(cix:List Nat)(f:Zc->M D):Zc->M D:=fun ρ=>Zp (f ρ) λd=>Zp (YI (Vm ρ cix)) λcds=>match d with
 | .lst ds=>(match ZE ds with | some ns=>Vf F cds ns | none=>Zv)
 | .tup ds=>(match ZE ds with | some ns=>Vf F cds ns | none=>Zv)
 | _=>Zv
noncomputable def PDa (X:Cx)(G:Gh)(e:Expr)(f:Zc->M D):Prop:=
 ∃t,PE X e t/\∀(σ:St) (Hf H:Hp) (ρ:Zc) (s:Pn) (d:D) (s':Pn) (Q:VK),Zz G Hf H->YL G Hf σ ρ->G.st s H->f ρ s=some (d,s')->
  (∀v Hf' H',Gr G Hf H Hf' H'->G.st s' H'->Zl G Hf' d v->(∀a,v=.ref a->H a=none)->Q v H')->t σ H Q
theorem Zgn (hc:X.calm=true)(hg:Gl X "sorted")(hm:X.mg "sorted" = none)(hv:xk "sorted" = some (.builtin "sorted"))(M:Mk0 X c P)(TG:TabG P q G)(hfn:∀x,X.fn x=true)(hr:Room (kl+3) X.A)(h1:PD X G r1 e1 f1)
  (hq:X.env.qual ++ "<lambda>" = q) (S:CloScope N ps scope) (B:CapS X XN NS N ps cix scope) (hps:ps.length=1)
  (hbind:∀(cl:List (Str×Addr)) (pm cd ct:Value) (us:List Value),us.length=ps.length->bindArgs (zi "<lambda>" q params body scope cl pm cd ct) ⟨us,[]⟩=pure (ps.zip us))
  (hb:∀(base:Heap) (f c':Addr) (cl:List (Str×Addr)) (G:Gh) (A:xG) (outer:List Env) (s:Shared) (H:Hp) (E:XK),Room kl (A.deeper (yb q scope s.heap.objs.size f (.ref c') cl))->PD (V5 ZQ X.prog X.w X.K X.mg base N q scope f (.ref c') cl A outer s H E).nox G frb body fe)
  (hdef:defaultsOf params X.env=([],[]):=by rfl)
  (he:xi [e1] X.env=(false,eval e1 X.env)::xi [] X.env:=by rfl)
  (hall:(xq pos (xj [⟨some "key",.Lambda params body scope lpos,kpos⟩] X.env)).all (·.1.isSome)=true:=by rfl) (hks:(xq pos (xj [⟨some "key",.Lambda params body scope lpos,kpos⟩] X.env)).filterMap (·.1)=[("key" : Str)]:=by rfl)
  (hpl:((backTo pos (xi [e1] X.env)).any (·.1)||(xq pos (xj [⟨some "key",.Lambda params body scope lpos,kpos⟩] X.env)).any (·.1.isNone))=false:=by rfl) :
  PDa X G (.Call (.Name "sorted" ppos) [e1] [⟨some "key",.Lambda params body scope lpos,kpos⟩] pos) (Jg (Y1 N.length fe) cix f1):=by
 obtain⟨t1,p1,q1⟩:=h1.drop;refine⟨_,Zex (ZbK hc) hg hm hv p1 (Zha M hq B.hfree hdef) (by decide) (by decide) he hall hks hpl,fun σ Hf H ρ s d s' Q x1 x2 x3 x4 k=>?_⟩;obtain⟨d1,s1,a1,a2⟩:=ZA x4;obtain⟨cds,s2,b3,a4⟩:=ZA a2;obtain⟨a3,rfl⟩:=Wx b3;refine q1 σ Hf H ρ s d1 _ _ x1 x2 x3 a1 λv1 jU H1 g1 j9 rv1=>?_;have go:∀(ns:List Int) (p0:Addr),v1=.ref p0->Vf (Y1 N.length fe) cds ns s2=some (d,s')->(∀H2,Zz G H1 H2->(∀b u,H1 b=some u->(∀t,u≠.tbl t)->H2 b=some u)->Js X H2 p0 ns)->Xa (fun σ H Q=>ZkU P q lpos (λfd c'=>∃cl pm ctv,CloOf X scope cl/\fd=zi "<lambda>" q params body scope cl pm (.ref c') ctv) H λp _ _ H'=>Q (.ref p) H') Xo σ H1 λys H2=>
   ∃(p f:Addr) (ns:List Int) (sp:Heap->Sp) (k:Nat),[v1]=[.ref p]/\ys=[.ref f]/\Js X H2 p ns/\KeyFn X σ k f sp/\Room (k+2) X.A/\ns.length<64/\
    Uo X σ sp (ns.map V.int) H2 λkvs H1=>∃lt,Vj X kvs H1 lt/\∀l,H1 l=none->Q (.ref l) (Zi H1 l (.lst ((YH lt ns.length).map λi=>V.int (ns.getD i 0)))):=by
  rintro ns p0 rfl hkk Z9;refine Zbe hfn hr M TG S B hps hbind hb g1.fh (x2.ext g1.ff) j9 a3 hkk Z9 λv Hf3 H3 g3 st3 r3 fz=>k v Hf3 H3 (g1.trans g3) st3 r3 λa ea=>by
   obtain⟨n,z⟩:=fz a ea
   cases e:H a with
   | none=>rfl
   | some u=>rw[g1.hh a u n e]at z;cases z
 match d1,a4,rv1 with
 | .lst ds,a4,rv1=>
  have a4:(match ZE ds with | some ns=>Vf (Y1 N.length fe) cds ns | none=>Zv) s2=some (d,s'):=a4
  cases hi:ZE ds with
  | none=>rw[hi]at a4;cases a4
  | some ns=>
   rw[hi]at a4;obtain⟨p0,vs,rfl,n0,h0,rl⟩:=jb.mp rv1;rw[Wm hi]at rl;rw[jk rl]at h0;exact go ns p0 rfl a4 λH2 e _=>.inl (Zw.of (e _ _ n0 (g1.fh _ _ n0 h0)))
 | .tup ds,a4,rv1=>
  have a4:(match ZE ds with | some ns=>Vf (Y1 N.length fe) cds ns | none=>Zv) s2=some (d,s'):=a4
  cases hi:ZE ds with
  | none=>rw[hi]at a4;cases a4
  | some ns=>
   rw[hi]at a4;obtain⟨p0,vs,rfl,n0,h0,rl⟩:=jc.mp rv1;rw[Wm hi]at rl;rw[jk rl]at h0;exact go ns p0 rfl a4 λH2 e _=>.inr (.inl (ZO.of (e _ _ n0 (g1.fh _ _ n0 h0))))
theorem Zhz (hc:X.calm=true)(hg:Gl X "sorted")(hm:X.mg "sorted" = none)(hv:xk "sorted" = some (.builtin "sorted"))(M:Mk0 X c P)(TG:TabG P q G)(hfn:∀x,X.fn x=true)(hr:Room (kl+3) X.A)(h1:PD X G r1 e1 f1)
  (hq:X.env.qual ++ "<lambda>" = q) (S:CloScope N ps scope) (B:CapS X XN NS N ps cix scope) (hps:ps.length=1)
  (hbind:∀(cl:List (Str×Addr)) (pm cd ct:Value) (us:List Value),us.length=ps.length->bindArgs (zi "<lambda>" q params body scope cl pm cd ct) ⟨us,[]⟩=pure (ps.zip us))
  (hb:∀(base:Heap) (f c':Addr) (cl:List (Str×Addr)) (G:Gh) (A:xG) (outer:List Env) (s:Shared) (H:Hp) (E:XK),Room kl (A.deeper (yb q scope s.heap.objs.size f (.ref c') cl))->PD (V5 ZQ X.prog X.w X.K X.mg base N q scope f (.ref c') cl A outer s H E).nox G frb body fe)
  (hdef:defaultsOf params X.env=([],[]):=by rfl)
  (he:xi [e1] X.env=(false,eval e1 X.env)::xi [] X.env:=by rfl)
  (hall:(xq pos (xj [⟨some "key",.Lambda params body scope lpos,kpos⟩] X.env)).all (·.1.isSome)=true:=by rfl) (hks:(xq pos (xj [⟨some "key",.Lambda params body scope lpos,kpos⟩] X.env)).filterMap (·.1)=[("key" : Str)]:=by rfl)
  (hpl:((backTo pos (xi [e1] X.env)).any (·.1)||(xq pos (xj [⟨some "key",.Lambda params body scope lpos,kpos⟩] X.env)).any (·.1.isNone))=false:=by rfl) :
  PD X G false (.Call (.Name "sorted" ppos) [e1] [⟨some "key",.Lambda params body scope lpos,kpos⟩] pos) (Jg (Y1 N.length fe) cix f1):=
 let ⟨t,p,q⟩:=Zgn hc hg hm hv M TG hfn hr h1 hq S B hps hbind hb hdef he hall hks hpl;⟨t,p,fun σ Hf H ρ s d s' Q a b c e k=>q σ Hf H ρ s d s' Q a b c e λv Hf' H' g st r _=>k v Hf' H' g st r λz=>Bool.noConfusion z⟩
noncomputable def J5 (F:List D->M D)(cix:List Nat)(f:Zc->M D):Zc->M D:=fun ρ=>Zp (f ρ) λd=>Zp (YI (Vm ρ cix)) λcds=>match d with
 | .int j=>if -(2 ^ 62)<=j/\j<=2 ^ 24 then Vf F cds ((qf j.toNat).map λ(i:Nat)=>(i:Int))else Zv
 | _=>Zv
theorem Zgo {p2 pos2:Pos}(hc:X.calm=true)(hg:Gl X "sorted")(hm:X.mg "sorted" = none)(hv:xk "sorted" = some (.builtin "sorted"))(hgr:Gl X "range")(hmr:X.mg "range" = none)(M:Mk0 X c P)(TG:TabG P q G)(hfn:∀x,X.fn x=true)(hr:Room (kl+3) X.A)(h1:PD X G r1 e1 f1)
  (hq:X.env.qual ++ "<lambda>" = q) (S:CloScope N ps scope) (B:CapS X XN NS N ps cix scope) (hps:ps.length=1)
  (hbind:∀(cl:List (Str×Addr)) (pm cd ct:Value) (us:List Value),us.length=ps.length->bindArgs (zi "<lambda>" q params body scope cl pm cd ct) ⟨us,[]⟩=pure (ps.zip us))
  (hb:∀(base:Heap) (f c':Addr) (cl:List (Str×Addr)) (G:Gh) (A:xG) (outer:List Env) (s:Shared) (H:Hp) (E:XK),Room kl (A.deeper (yb q scope s.heap.objs.size f (.ref c') cl))->PD (V5 ZQ X.prog X.w X.K X.mg base N q scope f (.ref c') cl A outer s H E).nox G frb body fe)
  (hdef:defaultsOf params X.env=([],[]):=by rfl)
  (hs1:xi [e1] X.env=[(false,eval e1 X.env)]:=by rfl)
  (he:xi [.Call (.Name "range" p2) [e1] [] pos2] X.env=(false,eval (.Call (.Name "range" p2) [e1] [] pos2) X.env)::xi [] X.env:=by rfl)
  (hall:(xq pos (xj [⟨some "key",.Lambda params body scope lpos,kpos⟩] X.env)).all (·.1.isSome)=true:=by rfl) (hks:(xq pos (xj [⟨some "key",.Lambda params body scope lpos,kpos⟩] X.env)).filterMap (·.1)=[("key" : Str)]:=by rfl)
  (hpl:((backTo pos (xi [.Call (.Name "range" p2) [e1] [] pos2] X.env)).any (·.1)||(xq pos (xj [⟨some "key",.Lambda params body scope lpos,kpos⟩] X.env)).any (·.1.isNone))=false:=by rfl) :
  PD X G false (.Call (.Name "sorted" ppos) [.Call (.Name "range" p2) [e1] [] pos2] [⟨some "key",.Lambda params body scope lpos,kpos⟩] pos) (J5 (Y1 N.length fe) cix f1):=by
 obtain⟨t1,p1,q1⟩:=h1.drop;refine⟨_,Zex (ZbK hc) hg hm hv (Zb4 hgr hmr (YF p1 YX (by rw[hs1];rfl)) hs1) (Zha M hq B.hfree hdef) (by decide) (by decide) he hall hks hpl,fun σ Hf H ρ s d s' Q x1 x2 x3 x4 k=>?_⟩;obtain⟨d1,s1,a1,a2⟩:=ZA x4;obtain⟨cds,s2,b3,a4⟩:=ZA a2;obtain⟨a3,rfl⟩:=Wx b3
 cases d1 with
 | int j=>
  obtain⟨cj,a5⟩:=Y6 a4;refine q1 σ Hf H ρ s _ _ _ x1 x2 x3 a1 λv1 jU H1 g1 j9 rv1=>?_;rw[ja.mp rv1];refine⟨j,rfl,λp hp=>?_⟩;have jW:G.st s2 (Zi H1 p (.rng 0 j)):=Gh.grow j9 hp;have fp:jU p=none:=by
   cases q:jU p with
   | none=>rfl
   | some o=>rw[g1.fh p o (Gh.nofp j9 hp) q]at hp;cases hp
  have gA:Gr G jU H1 jU (Zi H1 p (.rng 0 j)):=⟨λb o n q=>by rw[Zn (ZY q hp)];exact q,.refl _ _,λb o n q=>by rw[Zn (ZY q fp)];exact g1.fh b o n q,λb n h1 h2=>h1⟩;refine Zbe hfn hr M TG S B hps hbind hb gA.fh (x2.ext g1.ff) jW a3 a5 (λH2 _ keep=>.inr (.inr ⟨j,keep _ _ ZD (λt z=>by cases z),cj.1,cj.2,rfl⟩)) λv Hf3 H3 g3 st3 r3 _=>k v Hf3 H3 ((g1.trans gA).trans g3) st3 r3 (λz=>by cases z)
 | _=>cases a4
end
open PySem.W
section
variable {X:Cx}{jI:Qb}{σ:St}{H:Hp}{s:Shared}
end
section
variable {X:Cx}{G:Gh}{σ:St}
end
section
variable {X:Cx}{G:Gh}{P c:Addr}{q:Str}{kl:Nat}{frb:Bool}{e1:Expr}{f1:Zc->M D}{r1:Bool}{params:Arguments}{scope:Scope}{lpos ppos pos kpos:Pos}{XN N ps:List Str}{NS:List (Str×NameKind)}{cix:List Nat}{body:Expr}{fe:Zc->M D}
end
end TF
namespace TF
open L2
section
variable {X:Cx}{G:Gh}
noncomputable def Ze7:List D->Option D
 | [.lst ds]=>if ds.length<=xh then (WU [] ds).map .du else none
 | _=>none
theorem ZhA (hc:X.calm=true)(hu:X.A.units+64<cLine):X5 X G (.type "dict") Ze7:=
 ⟨_,Zbp hc hu true,λHf H s xs ds c Q e1 st r q k=>by
  match ds,q,r with
  | [.lst es],q,r=>
   have q:(if es.length<=xh then (WU [] es).map D.du else none)=some c:=q;split at q
   ·cases e:WU [] es with
    | none=>simp_all
    | some res=>
     rw[e]at q
     cases q
     obtain⟨v,rfl,rv⟩:=jh r;obtain⟨l,vs,rfl,nl,hl,rl⟩:=jb.mp rv;refine⟨l,vs,rfl,e1 _ _ nl hl,λp hp=>⟨_,Zg5 e1 hp rl e (by simp_all),?_⟩⟩;have nf:=Gh.nofp st hp;have g2:=Gr.new (o:=.dT res) e1 hp nf;exact k (.ref p) _ _ g2 (Gh.grow st hp) (jm.mpr ⟨p,rfl,nf,ZD⟩) λa ea _=>by simp_all
   ·cases q⟩
end
end TF
namespace TS
open PySem.W
section
variable {prog:xF}{w:World}{A:xG}{E:xH}{s:Shared}
end
end TS
namespace TF
open L2 TS
section
variable {X:Cx}{G:Gh}
end
end TF
namespace L2
section
variable {X:Cx}
noncomputable def ZiC:V->List V->Hp->VK->Prop:=λx vs H Q=>∃l xs r y,x=.ref l/\vs=[.int r,y]/\H l=some (.lst xs)/\xs.length<xh/\0<=r/\r<=1000000/\Q .non (Zi H l (.lst (xs.take r.toNat++y::xs.drop r.toNat)))
theorem Zgp {α:Type}(l:List α)(k:Nat):l.take (min k l.length)=l.take k/\l.drop (min k l.length)=l.drop k:=by
 simp
theorem Zgq:∀{xs:List V} {us:List Value} (k:Nat) {v:V} {u:Value},Zu xs us->ZG v u->Zu (xs.take k++v::xs.drop k) (us.take k++u::us.drop k)
 | [],_,k,v,u,h,r=>by cases h;simp;exact .cons r .nil
 | x::xs,_,0,v,u,h,r=>(.cons r h)
 | x::xs,_,k+1,v,u,h,r=>by
  cases h with
  | cons h1 h2=>exact .cons h1 (Zgq k h2 r)
theorem ZjS:MtM X "list.insert" ZiC:=by
 intro jI s σ H x vs v us Q I rx rv h;obtain⟨l,xs,r,y,rfl,rfl,hH,hz,r0,r1,q⟩:=h
 cases rx
 obtain⟨u1,u2,rfl,ru1,ru2⟩:=Zks rv;obtain⟨t,rfl⟩:=ru1;obtain⟨z,jK,n,rr,hl,e⟩:=I.lstM hH;have jQ:jK.length=xs.length:=rr.length.symm;refine call_meets qbk ⟨_,e,rfl⟩ PySem.F.entry_list_insert (PySem.F.args_list_insert_3 _ _ _) (PySem.AutoSeq1.list_insert_list_int_val_1 l jK.toArray n r t u2 (by
  unfold Builtin.List.listFitsIndex;rw[decide_eq_true (show -(2 ^ 63:Int)<=r by omega),decide_eq_true (show r<2 ^ 63 by omega)];decide) (by rw[qX];omega)) ⟨e,?_⟩
 refine⟨.non,_,I.lset (its':=jK.take r.toNat++u2::jK.drop r.toNat) (ys:=xs.take r.toNat++y::xs.drop r.toNat) hH e ?_ (Zgq _ rr ru2) ?_,rfl,q⟩
 ·show(jK.toArray.extract 0 (if r<0 then (r+(jK.toArray.size:Int)).toNat else min r.toNat jK.toArray.size)).push u2++jK.toArray.extract (if r<0 then (r+(jK.toArray.size:Int)).toNat else min r.toNat jK.toArray.size)=_
  rw[if_neg (by omega)];have:=PySem.W.kl_ins_eq jK (min r.toNat jK.length) u2;rw[(Zgp jK r.toNat).1,(Zgp jK r.toNat).2]at this;exact this
 ·grind
end
end L2
namespace TF
open L2
section
variable {X:Cx}{G:Gh}{ob own:List Nat}{fr:Bool}{f g:Zc->M D}
theorem Zj.ins:∀{ds:List D} {vs:List V} (k:Nat) {d:D} {v:V},Zj G H ds vs->Zl G H d v->Zj G H (ds.take k++d::ds.drop k) (vs.take k++v::vs.drop k)
 | [],vs,k,d,v,h,r=>by
  rw[Zj.nil_iff.mp h];simp;exact .one r
 | x::ds,vs,0,d,v,h,r=>(.cons r h)
 | x::ds,vs,k+1,d,v,h,r=>by
  obtain⟨w,rr,rfl,h1,h2⟩:=jd.mp h;exact .cons h1 (Zj.ins k h2 r)
noncomputable def U1 (i:Nat)(f g:Zc->M D):Zc->M Out:=fun ρ=>Zp (f ρ) λd=>Zp (g ρ) λe=>match d,(ρ[i]?).bind id with
 | .int r,some (.lst ds)=>if ds.length<xh/\0<=r/\r<=1000000 then Zy (.nx (ρ.set i (some (.lst (ds.take r.toNat++e::ds.drop r.toNat)))))else Zv
 | _,_=>Zv
theorem Znr (hi:i∈own)(hy:WC G own r1 te f)(hy2:WC G own r2 tg g) :
  JN G ob own own fr (VR (VH X.K "list" ZiC (Z6 i) (Xa te (Xa tg Xo)))) (U1 i f g):=λkn jS H0 σ H ρ s out s' E ⟨Hf,j⟩ st e po=>by
 obtain⟨d,s1,a1,a2⟩:=ZA e;obtain⟨d2,s2,a3,a4⟩:=ZA a2
 cases d with
 | int r=>
  cases hb:(ρ[i]?).bind id with
  | none=>rw[hb]at a4;cases a4
  | some c=>
   rw[hb]at a4
   cases c with
   | lst ds=>
    obtain⟨hc,a5⟩:=Y6 (show(if ds.length<xh/\0<=r/\r<=1000000 then Zy (.nx (ρ.set i (some (.lst (ds.take r.toNat++d2::ds.drop r.toNat)))))else Zv) s2=some (out,s')from a4);obtain⟨rfl,rfl⟩:=ZM a5;have ei:=Jj hb;obtain⟨a,vs,h1,h2,h3,h4⟩:=Ji j hi ei;refine⟨_,h1,.inl ⟨rfl,vs,Zw.of h3⟩,?_⟩;refine hy kn jS H0 σ Hf H ρ s (.int r) s1 _ j st a1 λv Hf' H' j' e1 e2 st' rp fz=>?_;rw[ja.mp rp];refine hy2 kn jS H0 σ Hf' H' ρ s1 d2 s' _ j' st' a3 λv2 j8 H2 j2 e3 e4 jW rp2 fz2=>?_;obtain⟨a',vs',h1',h2',h3',h4'⟩:=Ji j2 hi ei;rw[h1]at h1';cases h1';refine⟨a,vs',r,v2,rfl,rfl,h3',by rw[<-h4'.length];exact hc.1,hc.2.1,hc.2.2,?_⟩;exact po σ _ ⟨j8,j2.put hi ei h1 ⟨_,ZD,Zj.ins _ h4' rp2⟩⟩ (js jW h2)
   | _=>cases a4
 | _=>cases hb:(ρ[i]?).bind id with
  | none=>cases a4
  | some c=>cases c <;> cases a4
theorem Zgr {pos p2 p3:Pos}(hi:i∈own)(hv:PE X (.Name x p1) (Z6 i))(he:PD X G r1 e1 f)(he2:PD X G r2 e2 g)
  (hbase:xr (.Name x p1) "insert" X.env (eval (.Name x p1) X.env)=eval (.Name x p1) X.env:=by rfl)
  (hfew:((backTo p3 (xi [e1,e2] X.env)).all (λx=>!x.1)&&(xq p3 (xj [] X.env)).all (λx=>x.1.isSome)
   && decide ([e1,e2].length+([]:List Keyword).length+(if ([]:List Keyword).isEmpty then 0 else 1)<30))=true:=by rfl)
  (hline:(p2.endLine==p3.line)=true:=by rfl) (hs:xi [e1,e2] X.env=(false,eval e1 X.env)::xi [e2] X.env:=by rfl) (hs2:xi [e2] X.env=(false,eval e2 X.env)::xi [] X.env:=by rfl)
  (hsw:xt (.Call (.Attribute (.Name x p1) "insert" p2) [e1,e2] [] p3) none pos.line X.env=pure false:=by rfl) :
  YM X G ob own own fr (.Expr (.Call (.Attribute (.Name x p1) "insert" p2) [e1,e2] [] p3) pos) (U1 i (Y2 r1 f) (Y2 r2 g)):=by
 obtain⟨t,p,q⟩:=he;obtain⟨t2,p',q'⟩:=he2;exact⟨_,ZcA (Jx yf qbk PySem.F.type_list_insert ZjS hv (YF p (YF p' YX hs2) hs) hbase hfew hline hs (by rw[hs2];rfl)) hsw,Znr hi (XZ.b q) (XZ.b q')⟩
theorem ZjT {pos p2 p3:Pos}(hi:i∈own)(hv:PE X (.Name x p1) (Z6 i))(he:PD X G r1 e f)
  (hbase:xr (.Name x p1) "extend" X.env (eval (.Name x p1) X.env)=eval (.Name x p1) X.env:=by rfl)
  (hfew:((backTo p3 (xi [e] X.env)).all (λx=>!x.1)&&(xq p3 (xj [] X.env)).all (λx=>x.1.isSome)
   && decide ([e].length+([]:List Keyword).length+(if ([]:List Keyword).isEmpty then 0 else 1)<30))=true:=by rfl)
  (hline:(p2.endLine==p3.line)=true:=by rfl) (hs:xi [e] X.env=(false,eval e X.env)::xi [] X.env:=by rfl)
  (hsw:xt (.Call (.Attribute (.Name x p1) "extend" p2) [e] [] p3) none pos.line X.env=pure false:=by rfl) :
  YM X G ob own own fr (.Expr (.Call (.Attribute (.Name x p1) "extend" p2) [e] [] p3) pos) (BD i (Y2 r1 f)):=by
 obtain⟨t,p,q⟩:=he;exact⟨_,Zjg hv p hbase hfew hline hs hsw,ZmW hi (XZ.b q)⟩
end
section
variable {X:Cx}{G:Gh}
theorem va (i:Nat){pos:Pos}(hN:X.N[i]?=some x:=by rfl)(hv:JL X.env.scope x:=by first | exact qJ rfl | exact yi (qJ rfl) | exact yi (yi rfl))(hd:(x==("__debug__" : Str))=false:=by decide)(hcd:(x==("__classdict__" : Str))=false:=by decide):PD X G false (.Name x pos) (Za i):=ZoV i (pv i hN hv hd hcd)
theorem bk (XN:List Str)(NS:List (Str×NameKind))(N':List Str)(src:List (Option Nat)){scope:Scope}(a:X.N=XN:=by rfl)(b:X.env.scope.names=NS:=by rfl)(c:∀y∈scope.names,y.2≠.cell:=by decide +kernel)(d:scope.kind=.function:=by rfl)(e:∀y∈scope.names,y.2=.local->scope.names.lookup y.1=some .local:=by decide +kernel)(f:src.length=N'.length:=by rfl)(g:∀y∈scope.names,y.2=.free->NS.lookup y.1=some .cell∨NS.lookup y.1=some .free:=by decide +kernel)
  (h:(src.zip N').all (λp=>match p.1 with | some j=>decide (XN[j]?=some p.2)&&(decide (NS.lookup p.2=some .cell)||decide (NS.lookup p.2=some .free))&&decide (scope.names.lookup p.2=some .free) | none=>true)=true:=by decide +kernel):BlkS X XN NS N' src scope:=⟨a,b,c,d,e,f,g,h⟩
theorem YS {N P:List Str}{sc:Scope}(a:sc.kind=.function:=by rfl)(b:sc.isCoroutine=false:=by rfl)(c:sc.isGenerator=false:=by rfl)(d:N.Nodup:=by decide +kernel)(e:N.take P.length=P:=by rfl)(f:∀x∈P,sc.names.lookup x=some .local∨sc.names.lookup x=some .cell:=by decide +kernel)(g:∀y∈sc.names,y.2≠.free:=by decide +kernel):FnScope N P sc:=⟨a,b,c,d,e,f,g⟩
end
section
variable {X:Cx}{G:Gh}{elt tg iter:Expr}{ifs:List Expr}{scope:Scope}{pos pos' spos:Pos}{XN:List Str}{NS:List (Str×NameKind)}{N':List Str}{src:List (Option Nat)}{fi:Zc->M (List D)}{τ:D->Zc->Option Zc}{ft:Zc->M Bool}{fe:Zc->M D}{r1:Bool}{i:Nat}{x:Str}
theorem Xd {cl:_}{jI:_}{C:_}{s:_}{H:_}{fp:_}{ok:Nat->Prop}(nd:N'.Nodup:=by decide +kernel)(hi:N'[i]?=some x:=by rfl)(hx:WH (blk X jI N' scope cl C s H fp).env.scope x:=by exact qJ rfl)(oi:ok i:=by rfl)(hf:(blk X jI N' scope cl C s H fp).fn x=true∨(blk X jI N' scope cl C s H fp).env.scope.names.lookup x=some .local:=by first | exact .inl rfl | exact .inr rfl | assumption):V4 (blk X jI N' scope cl C s H fp) G (.Name x pos) ok (Zt i):=Wd nd hi hx oi hf
theorem Xs (B:BlkS X XN NS N' src scope)(hi:WI X G tg iter fi)
  (hg:∀{cl jI C s H fp},V4 (blk X jI N' scope cl C s H fp) G tg (λi=>src[i]?=some none) τ) (ht:∀{cl jI C s H fp},Vp (blk X jI N' scope cl C s H fp) ifs (UU G ft)) (he:∀{cl jI C s H fp},PD (blk X jI N' scope cl C s H fp) G r1 elt fe)
  (hc:X.calm=true:=by rfl) (hs:∀x,foldedSetIterable iter X.env x=pure x:=by intro _;rfl):PD X G true (.ListComp elt [⟨tg,iter,ifs,0⟩] scope pos) (ZR src fi τ ft fe):=ZkT hc B hi (λ_ _ _ _ _ _=>hg) (λ_ _ _ _ _ _=>ht) (λ_ _ _ _ _ _=>he) hs
end
theorem ZW {p pos:Pos}(c:ZL X.prog X.w X.K X.mg X.base k x n fr GG F)(hG:GG G)(hr:Room k X.A)
  (ha:Vc X G (e::es) fs) (hg:Gl X x:=by rfl) (hal:∀ρ s ds s',fs ρ s=some (ds,s')->ds.length=(e::es).length:=by first | exact Xl UF | exact Xl (Xl UF) | exact Xl (Xl (Xl UF)) | exact Xl (Xl (Xl (Xl UF))) | exact Xl (Xl (Xl (Xl (Xl UF)))) | exact Xl (Xl (Xl (Xl (Xl (Xl UF)))))) (jQ:(e::es).length=n:=by rfl)
  (hdb:(x==("__debug__" : Str))=false:=by decide) (he:xi (e::es) X.env=(false,eval e X.env)::xi es X.env:=by rfl) (hpl:(backTo pos (xi es X.env)).any (·.1)=false:=by rfl) :
  PD X G fr (.Call (.Name x p) (e::es) [] pos) (Zm F fs):=Zo4 c hG hr hg ha hal jQ hdb he hpl
section
variable {X:Cx}{G:Gh}{ob own own':List Nat}{fr:Bool}
theorem ZB {st:Stmt}(h:YM X G ob own [] fr st g1)(h2:X7 X G ob [] own' fr sts g2):X7 X G ob own own' fr (st::sts) (Zg g1 g2):=Yu h h2
theorem Yk (hs:∀k,k∈own'->k∈([]:List Nat):=by decide):X7 X G ob [] own' fr [] Zq:=YJ hs
theorem V6 (hc:Vb X G c fc)(ha:X7 X G ob own [] fr a g1)(hb:X7 X G ob own [] fr b g2):YM X G ob own [] fr (.If c a b pos) (YR fc g1 g2):=ZeS hc ha hb
theorem X1 {p pos:Pos}(hm:X.mg "len" = none)(ha:Vc X G [e] f)(hg:Gl X "len":=by rfl)(h1:xi [e] X.env=(false,eval e X.env)::xi [] X.env:=by rfl)(h2:(backTo pos (xi [] X.env)).any (·.1)=false:=by rfl):PD X G true (.Call (.Name "len" p) [e] [] pos) (ZF Yi f):=WM Zg0 hg hm boot_len ha (he:=h1)
end
end TF
namespace K57
open L2 TF TQ
open TP
open TP2 hiding g_all_near F_all_near
open TP3 hiding g_full_knots F_full_knots
noncomputable def Z2 (i:Nat):Stmt:=PySem.Challenge.pw_tiefold_k57_whole_chains_and_apart_sets.main.body.getD i (.Pass ⟨0,0,0,0⟩)
noncomputable abbrev Zdf:Stmt:=Z2 4
noncomputable abbrev ZhB:Stmt:=Z2 6
noncomputable abbrev Zbx:Stmt:=Z2 7
noncomputable abbrev Zdg:Stmt:=Z2 8
noncomputable abbrev Zao:Stmt:=Z2 9
noncomputable abbrev ZbL:Stmt:=Z2 10
noncomputable abbrev ZaN:Stmt:=Z2 11
noncomputable abbrev ZlY:Stmt:=Z2 13
noncomputable abbrev Zad:Stmt:=Z2 14
noncomputable abbrev JS:Stmt:=Z2 15
noncomputable abbrev Zap:Stmt:=Z2 16
noncomputable abbrev Zae:Stmt:=Z2 17
noncomputable abbrev Zca:Stmt:=Z2 18
noncomputable abbrev B4:Stmt:=Z2 20
noncomputable abbrev ZaE:Stmt:=Z2 21
noncomputable abbrev Zbf:Stmt:=Z2 22
noncomputable abbrev Zcb:Stmt:=Z2 23
noncomputable abbrev ZaO:Stmt:=Z2 25
noncomputable abbrev U5:Stmt:=Z2 26
noncomputable abbrev Zaq:Stmt:=Z2 27
noncomputable abbrev BU:Stmt:=Z2 28
noncomputable abbrev B7:Stmt:=Z2 29
noncomputable abbrev ZaF:Stmt:=Z2 31
noncomputable abbrev ZaP:Stmt:=Z2 32
noncomputable abbrev Zar:Stmt:=Z2 33
noncomputable abbrev Zcc:Stmt:=Z2 34
noncomputable abbrev ZaQ:Stmt:=Z2 36
noncomputable abbrev ZbM:Stmt:=Z2 37
noncomputable abbrev Zas:Stmt:=Z2 38
noncomputable abbrev Zbg:Stmt:=Z2 39
noncomputable abbrev BW:Stmt:=Z2 40
noncomputable abbrev s_law:Stmt:=Z2 41
structure Txt (mg:Str->Option Value):Prop where
 b_all:mg "all" = none
 b_any:mg "any" = none
 b_dict:mg "dict" = none
 b_int:mg "int" = none
 b_len:mg "len" = none
 b_list:mg "list" = none
 b_max:mg "max" = none
 b_min:mg "min" = none
 b_range:mg "range" = none
 b_set:mg "set" = none
 b_sorted:mg "sorted" = none
 b_sum:mg "sum" = none
 b_tuple:mg "tuple" = none
 b_zip:mg "zip" = none
set_option maxHeartbeats 4000000
variable {P:xF}{w:World}{K:qk}{mg:Str->Option Value}{base:Heap}{ka:Addr}{jN:xE}
noncomputable def ZdR:Zc->M Out:=(Zg (ZS 3 (Zm Vx (Zb (Za 0) (Zb (Za 1) Zd))))
 (Zg (ZS 4 (Ze Y0 (dC (.int 1)) (Zm Yq (Zb (Za 0) (Zb (dC (.int 5)) Zd)))))
 (Zg (WD 5 (Xu Zd))
 (Zg (YU (Z3 (Za 1)) (Zt 6)
 (Zg (YU (Z3 (Za 6)) (Zt 7)
 (Zg (YR (asB (Ze Vt (Zm Yq (Zb (Za 0) (Zb (dC (.int 8)) Zd))) (Za 4)))
 (Zg (U1 5 (Y2 true (Zm Yq (Zb (Za 0) (Zb (Ze Y0 (ZF Yi (Zb (Za 5) Zd)) (dC (.int 1))) Zd)))) (Y2 true (ZT (Zb (Ze Zk (Za 3) (Za 7)) (Zb (Ze Zk (Za 3) (Za 6)) Zd)))))
 Zq)
 Zq)
 Zq))
 Zq))
 (Zg (YR (XW (asB (Ze XX (Za 5) (Xu Zd))) (asB (Ze XA (Zm Yq (Zb (Za 0) (Zb (dC (.int 3)) Zd))) (dC (.int 0)))))
 (Zg (VE 5 (Y2 false (Ze Zk (Za 5) (Zm Yq (Zb (Za 0) (Zb (ZF Yi (Zb (Za 5) Zd)) Zd))))))
 Zq)
 Zq)
 (Zg (YU (Z3 (Ze dMul (Ze Zk (Xu (Zb (dC (.int 0)) (Zb (dC (.int 0)) (Zb (dC (.int 0)) (Zb (dC (.int 1)) (Zb (dC (.int 1)) (Zb (dC (.int 2)) (Zb (dC (.int 3)) Zd)))))))) (Zm Yq (Zb (Za 0) (Zb (dC (.int 7)) Zd)))) (ZF ZkK (Zb (JF (Za 2) (Ze dGt (Za 1) (dC (.int 0)))) Zd)))) (Zt 8)
 (Zg (U1 5 (Y2 true (Zm Yq (Zb (Za 0) (Zb (Ze Y0 (ZF Yi (Zb (Za 5) Zd)) (dC (.int 1))) Zd)))) (Y2 true (ZT (Zb (Zm Yq (Zb (Za 0) (Zb (Za 1) Zd))) (Zb (Zm Yq (Zb (Za 0) (Zb (Za 1) Zd))) Zd)))))
 Zq))
 (Zg (ZN (Za 5))
 Zq)))))))
noncomputable def BX:List D->M D:=runB 9 3 ZdR
theorem ZaR:FnScope ["pen","n","rings","order","often","pairs","j","i","k"] ["pen","n","rings"] (Zx Zbg):=YS
theorem Zdh (F:Fun K "_law_tpairs" "_law_tpairs" Zbg ka jN)(T:Txt mg){L:List (Addr×Str)}(lo:WK L)(jL:ZL P w K mg base 1 "_law_tdraw" 2 true (Ws XY L) Yq)(kx:ZL P w K mg base 2 "_law_torder" 2 true (Ws XY L) Vx) :
  FnOk P w K mg base ZQ 3 ka jN ["pen","n","rings"] (Yj 3 true (Ws XY L) BX):=
 have jM:=ZaR.nd
 Xc (own:=[]) F ZaR λcdv A outer s H E hr G hG=>
 have hT:YD L G:=jA lo hG
 (ZB (Yx (Yn jM rfl (qJ rfl) (ZW (kx.mono) hG hr (Zf (va 0) (Zf (va 1) Zo)))))
 (ZB (Yx (Yn jM rfl (qJ rfl) (WS Vg Ya (ZW (jL.mono) hG hr (Zf (va 0) (Zf Ya Zo))))))
 (Yu (own2:=[5]) (J8 (Yn jM rfl (qJ rfl) (VN Zo)))
 (Yu (own2:=[5]) (We (own:=[5]) ze rfl (WZ rfl T.b_range (va 1)) (Wd jM rfl (qJ rfl) (by decide))
 (Yu (own2:=[5]) (We (own:=[5]) ze rfl (WZ rfl T.b_range (va 6)) (Wd jM rfl (qJ rfl) (by decide))
 (Yu (own2:=[5]) (ZeS (own':=[5]) (YW (ZgZ hr.units0) (ZW (jL.mono) hG hr (Zf (va 0) (Zf Ya Zo))) (va 4))
 (Yu (own2:=[5]) (Zgr (own:=[5]) (i:=5) (by decide) (pv 5) (ZW (jL.mono) hG hr (Zf (va 0) (Zf (WS Vg (X1 T.b_len (Zf (va 5) Zo)) Ya) Zo))) (Y4 (Zf (Yc Yd (va 3) (va 7)) (Zf (Yc Yd (va 3) (va 6)) Zo))))
 (YJ (own:=[5])))
 YJ)
 (YJ (own:=[5]))))
 (YJ (own:=[5]))))
 (Yu (own2:=[5]) (ZeS (own':=[5]) (V3.pt (ZcD (YW (Bn hr.units) (va 5) (VN Zo)) (Zbz (YW (Bm hr.units) (ZW (jL.mono) hG hr (Zf (va 0) (Zf Ya Zo))) Ya))))
 (Yu (own2:=[5]) (ZkI (own:=[5]) (i:=5) (by decide) (Yc Yd (va 5) (ZW (jL.mono) hG hr (Zf (va 0) (Zf (X1 T.b_len (Zf (va 5) Zo)) Zo)))) (λ_ h=>Zb2 (pv 5) h))
 (YJ (own:=[5])))
 YJ)
 (Yu (own2:=[5]) (We (own:=[5]) ze rfl (WZ rfl T.b_range (WS Zic (Yc Yd (VN (Zf Ya (Zf Ya (Zf Ya (Zf Ya (Zf Ya (Zf Ya (Zf Ya Zo)))))))) (ZW (jL.mono) hG hr (Zf (va 0) (Zf Ya Zo)))) (UC (Zg2) rfl T.b_int TF.boot_int (Zf (ZoW (va 2) (ZkD (Jo (ZoY) (va 1) Ya))) Zo)))) (Wd jM rfl (qJ rfl) (by decide))
 (Yu (own2:=[5]) (Zgr (own:=[5]) (i:=5) (by decide) (pv 5) (ZW (jL.mono) hG hr (Zf (va 0) (Zf (WS Vg (X1 T.b_len (Zf (va 5) Zo)) Ya) Zo))) (Y4 (Zf (ZW (jL.mono) hG hr (Zf (va 0) (Zf (va 1) Zo))) (Zf (ZW (jL.mono) hG hr (Zf (va 0) (Zf (va 1) Zo))) Zo))))
 (YJ (own:=[5]))))
 (Yu (own2:=[5]) (Zbl (i:=5) (by decide) (pv 5))
 (YJ (own:=[5])))))))))
noncomputable def ZdS:Zc->M Out:=(Zg (WD 2 (Xu Zd))
 (Zg (YU (Z3 (Za 0)) (Zt 3)
 (Zg (WD 4 (fun ρ=>(ZR [none,none,some 3] (ZV (Za 1)) (W8 0 1) (asB (Ze XA (Za 1) (Za 2))) (Za 0)) (YB [2] ρ)))
 (Zg (ZS 5 (fun ρ=>(dC (.int 0)) (YB [4,2] ρ)))
 (Zg (Bp 1000000 (asB (Ze Vt (Za 5) (ZF Yi (Zb (Za 4) Zd))))
 (Zg (BD 4 (Y2 true (ZR [none,none,some 4,some 5] (ZV (Za 1)) (W8 0 1) (XW (asB (Ze XA (Za 1) (Ze Zk (Za 2) (Za 3)))) (asB (Ze XU (Za 0) (Za 2)))) (Za 0))))
 (Zg (ZS 5 (fun ρ=>(Ze Y0 (Za 5) (dC (.int 1))) (YB [4,2] ρ)))
 Zq)))
 (Zg (VE 2 (fun ρ=>(J9 (Za 4)) (YB [2] ρ)))
 Zq)))))
 (Zg (ZN (Za 2))
 Zq)))
noncomputable def BY:List D->M D:=runB 6 2 ZdS
theorem ZaS:FnScope ["n","pairs","found","place","lower","at"] ["n","pairs"] (Zx BW):=YS
theorem Zdi (F:Fun K "_law_tlower" "_law_tlower" BW ka jN)(T:Txt mg) :
  FnOk P w K mg base ZQ 1 ka jN ["n","pairs"] (Yj 2 true Z0 BY):=
 have jM:=ZaS.nd
 Xc (own:=[]) F ZaS λcdv A outer s H E hr G hG=>
 (Yu (own2:=[2]) (J8 (Yn jM rfl (qJ rfl) (VN Zo)))
 (Yu (own2:=[2]) (We (own:=[2]) ze rfl (WZ rfl T.b_range (va 0)) (Wd jM rfl (yi rfl) (by decide))
 (Yu (own2:=[4,2]) (ZkH (own:=[2]) (own':=[4,2]) (Yn jM rfl (yi rfl) (Xs (bk ["n","pairs","found","place","lower","at"] (Zx BW).names ["a","b","place"] [none,none,some 3]) (XH (va 1)) (ZbA rfl (show(["a","b","place"]:List Str).Nodup by decide +kernel) rfl rfl (qJ rfl) (qJ rfl) rfl rfl (hp:=Ue (WO (show(["a","b","place"]:List Str).Nodup by decide +kernel) rfl (qJ rfl)) (Ue (WO (show(["a","b","place"]:List Str).Nodup by decide +kernel) rfl (qJ rfl)) ZcB))) (WT (YW (Bm hr.units) (va 1) (va 2))) (va 0))))
 (Yu (own2:=[4,2]) (ZfH (own:=[4,2]) (Yn jM rfl (yi rfl) Ya))
 (Yu (own2:=[4,2]) (Zen (own:=[4,2]) ze (YW (ZgZ hr.units0) (va 5) (X1 T.b_len (Zf (va 4) Zo)))
 (Yu (own2:=[4,2]) (ZjT (own:=[4,2]) (i:=4) (by decide) (pv 4) (Xs (bk ["n","pairs","found","place","lower","at"] (Zx BW).names ["a","b","lower","at"] [none,none,some 4,some 5]) (XH (va 1)) (ZbA rfl (show(["a","b","lower","at"]:List Str).Nodup by decide +kernel) rfl rfl (qJ rfl) (qJ rfl) rfl rfl (hp:=Ue (WO (show(["a","b","lower","at"]:List Str).Nodup by decide +kernel) rfl (qJ rfl)) (Ue (WO (show(["a","b","lower","at"]:List Str).Nodup by decide +kernel) rfl (qJ rfl)) ZcB))) (WT (V3.pt (ZcD (YW (Bm hr.units) (va 1) (Yc Yd (va 2) (va 3))) (Zbz (YW (J3 hr.units) (va 0) (va 2)))))) (va 0)))
 (Yu (own2:=[4,2]) (ZfH (own:=[4,2]) (Yn jM rfl (yi rfl) (WS Vg (va 5) Ya)))
 (YJ (own:=[4,2])))))
 (Yu (own2:=[2]) (YM.frz (own:=[4,2]) (own2:=[2]) (Zln (own:=[2]) (i:=2) (by decide) (pv 2) (Zhv rfl rfl T.b_sorted TF.boot_sorted rfl T.b_set TF.boot_set (va 4))))
 (YJ (own:=[2])))))))
 (Yu (own2:=[2]) (Zbl (i:=2) (by decide) (pv 2))
 (YJ (own:=[2])))))
theorem Zcl:FnScope ["row","pairs","i","j"] ["row"] (Zx Zdf):=YS
theorem Zgs (F:Fun K "pairs_of" "pairs_of" Zdf ka jN)(T:Txt mg) :
  FnOk P w K mg base ZQ 1 ka jN ["row"] (Yj 1 true Z0 J0):=
 have jM:=Zcl.nd
 Xc (own:=[]) F Zcl λcdv A outer s H E hr G hG=>
 (Yu (own2:=[1]) (J8 (Yn jM rfl (qJ rfl) (VN Zo)))
 (Yu (own2:=[1]) (We (own:=[1]) ze rfl (WZ rfl T.b_range (X1 T.b_len (Zf (va 0) Zo))) (Wd jM rfl (qJ rfl) (by decide))
 (Yu (own2:=[1]) (We (own:=[1]) ze rfl (ZfJ rfl T.b_range (WS Vg (va 2) Ya) (X1 T.b_len (Zf (va 0) Zo))) (Wd jM rfl (qJ rfl) (by decide))
 (Yu (own2:=[1]) (ZfL (own:=[1]) (i:=1) (by decide) (Y4 (Zf (Yc Yd (va 0) (va 2)) (Zf (Yc Yd (va 0) (va 3)) Zo))) (λ_ h=>Zb2 (pv 1) h))
 (YJ (own:=[1]))))
 (YJ (own:=[1]))))
 (Yu (own2:=[1]) (Zbl (i:=1) (by decide) (pv 1))
 (YJ (own:=[1])))))
theorem ZbN:FnScope ["row","tied","pairs"] ["row","tied"] (Zx ZaN):=YS
theorem Ze8 (F:Fun K "web_where" "web_where" ZaN ka jN)(T:Txt mg)(kK:ZL P w K mg base 1 "pairs_of" 1 true Z0 J0) :
  FnOk P w K mg base ZQ 5 ka jN ["row","tied"] (Yj 2 false (UX P w K mg 4 2 Tl base) Ua):=
 have jM:=ZbN.nd
 Xc (own:=[]) F ZbN λcdv A outer s H E hr G hG=>
 (ZB (Yx (Yn jM rfl (qJ rfl) (ZW (kK.mono) trivial hr (Zf (B2 rfl rfl T.b_range rfl T.b_list TF.boot_list (X1 T.b_len (Zf (va 0) Zo))) Zo))))
 (ZB (YC (PD.weak (Y4 (Zf (X1 T.b_len (Zf (va 0) Zo)) (Zf (UC (Zay) rfl T.b_tuple TF.boot_tuple (Zf (Xs (bk ["row","tied","pairs"] (Zx ZaN).names ["pair","tied","row"] [none,some 1,some 0]) (XH (va 2)) Xd (WT (Bf (ZkX hG (hr.mono (by decide)) (pv 1) (Zf (Yc Yd (va 2) (Yc Yd (va 0) Ya)) (Zf (Yc Yd (va 2) (Yc Yd (va 0) Ya)) Zo)) (Xl (Xl UF))))) (va 0)) Zo)) Zo)))))
 Yk))
noncomputable def Zdj:Zc->M Out:=(Zg (ZN (JI Ua 5 [1] (Vu (Za 0))))
 Zq)
noncomputable def JT:List D->M D:=runB 2 2 Zdj
theorem ZaK:FnScope ["n","below"] ["n","below"] (Zx BU):=YS
theorem Zcy (F:Fun K "web_of_below" "web_of_below" BU ka jN)(T:Txt mg){L:List (Addr×Str)}(lo:WK L)(kg:UY P w K mg 5 "web_where" 2 false (UX P w K mg 4 2 Tl) Ua){tc tP:Addr}(hcode:jN.code=.ref tc)(hCd:zO base tc tP)(hBm:Ux mg base)(hL:(tP,(qH "web_of_below.<locals>.<lambda>"))∈L) :
  FnOk P w K mg base ZQ 6 ka jN ["n","below"] (Yj 2 false (YD L) JT):=
 have jM:=ZaK.nd
 fnDC (own:=[]) F ZaK λA outer s H E hr G hG=>
 have hT:YD L G:=hG;have TG9:=hT _ _ hL;have M9:Mk0 (Va ZQ P w K mg base ["n","below"] "web_of_below" (Zx BU) ka jN.code A outer s H E).nox tc tP:=⟨hcode,hCd,hBm⟩
 (ZB (YC (Zc3 (kl:=3) (frb:=false) (N:=["a","b","below"]) (ps:=["a","b"]) (cix:=[1]) (T:=Tl) (t:=5) (q:="web_of_below.<locals>.<lambda>") M9 TG9 (kg.mono) (λ_=>rfl) hr rfl (B2 rfl rfl T.b_range rfl T.b_list TF.boot_list (va 0)) rfl (⟨rfl,rfl,rfl,by decide +kernel,rfl,by decide +kernel,by decide +kernel⟩:CloScope ["a","b","below"] ["a","b"] _) (⟨rfl,rfl,rfl,by decide +kernel,by decide +kernel⟩:CapS _ ["n","below"] (Zx BU).names ["a","b","below"] ["a","b"] [1] _) rfl (λ_ _ _ _ us hl=>match us,hl with | [_,_],_=>rfl) (λbase f c cl G A outer s H E hr=>(ZpL (Jo (Vw hr.units) (Y4 (Zf (va 0) (Zf (va 1) Zo))) (va 2)) (ZkD (Jo (Vw hr.units) (Y4 (Zf (va 1) (Zf (va 0) Zo))) (va 2)))))))
 Yk)
noncomputable def Zgt:Zc->M Out:=(Zg (WD 2 (ZF Ze7 (Zb (ZR [none] (ZV (Za 1)) (Zt 0) Z7 (ZT (Zb (Za 0) (Zb (dC (.bl true)) Zd)))) Zd)))
 (Zg (YU (Z3 (Za 0)) (Zt 3)
 (Zg (YU (Z3 (Za 0)) (Zt 4)
 (Zg (YU (Z3 (Za 0)) (Zt 5)
 (Zg (YR (XW (asB (Ze Ys (ZT (Zb (Za 4) (Zb (Za 3) Zd))) (Za 2))) (asB (Ze Ys (ZT (Zb (Za 3) (Zb (Za 5) Zd))) (Za 2))))
 (Zg (JC 2 (fun ρ=>(ZT (Zb (Za 4) (Zb (Za 5) Zd))) (YB [2] ρ)) (fun ρ=>(dC (.bl true)) (YB [2] ρ)))
 Zq)
 Zq)
 Zq))
 Zq))
 Zq))
 (Zg (YR (asB (ZF UV (Zb (ZR [none,some 2] (Z3 (Za 0)) (Zt 0) Z7 (Ze Ys (ZT (Zb (Za 0) (Zb (Za 0) Zd))) (Za 1))) Zd)))
 (λ_=>Zv)
 Zq)
 (Zg (ZN (Za 2))
 Zq))))
noncomputable def JX:List D->M D:=runB 6 2 Zgt
theorem ZbO:FnScope ["n","pairs","below","between","a","b"] ["n","pairs"] (Zx B7):=YS
theorem Ze9 (F:Fun K "all_below" "all_below" B7 ka jN)(T:Txt mg) :
  FnOk P w K mg base ZQ 1 ka jN ["n","pairs"] (Yj 2 false Z0 JX):=
 have jM:=ZbO.nd
 Xc (own:=[]) F ZbO λcdv A outer s H E hr G hG=>
 (Yu (own2:=[2]) (J8 (Yn jM rfl (yi rfl) (UC (ZhA rfl hr.units) rfl T.b_dict TF.boot_dict (Zf (Xs (bk ["n","pairs","below","between","a","b"] (Zx B7).names ["pair"] [none]) (XH (va 1)) Xd Wp (Y4 (Zf (va 0) (Zf VS Zo)))) Zo))))
 (Yu (own2:=[2]) (We (own:=[2]) ze rfl (WZ rfl T.b_range (va 0)) (Wd jM rfl (qJ rfl) (by decide))
 (Yu (own2:=[2]) (We (own:=[2]) ze rfl (WZ rfl T.b_range (va 0)) (Wd jM rfl (qJ rfl) (by decide))
 (Yu (own2:=[2]) (We (own:=[2]) ze rfl (WZ rfl T.b_range (va 0)) (Wd jM rfl (qJ rfl) (by decide))
 (Yu (own2:=[2]) (ZeS (own':=[2]) (V3.pt (ZcD (YW (Vw hr.units) (Y4 (Zf (va 4) (Zf (va 3) Zo))) (va 2)) (Zbz (YW (Vw hr.units) (Y4 (Zf (va 3) (Zf (va 5) Zo))) (va 2)))))
 (Yu (own2:=[2]) (Zhm (own:=[2]) (i:=2) (L2.hu_of hr) (by decide) (pv 2) (Y4 (Zf (va 4) (Zf (va 5) Zo))) VS)
 (YJ (own:=[2])))
 YJ)
 (YJ (own:=[2]))))
 (YJ (own:=[2]))))
 (YJ (own:=[2]))))
 (ZB (YM.frz (own:=[2]) (own2:=[]) (V6 (Bf (WM (Zec rfl) rfl T.b_any TF.boot_any (Zf (Xs (bk ["n","pairs","below","between","a","b"] (Zx B7).names ["place","below"] [none,some 2]) (Ub rfl T.b_range (va 0)) Xd Wp (Jo (Vw hr.units) (Y4 (Zf (va 0) (Zf (va 0) Zo))) (va 1))) Zo)))
 Zjw
 YJ))
 (ZB (YC (va 2))
 Yk))))
noncomputable def Zdk:Zc->M Out:=(Zg (ZN (Zm JT (Zb (Za 0) (Zb (Zm JX (Zb (Za 0) (Zb (Za 1) Zd))) Zd))))
 Zq)
noncomputable def BV:List D->M D:=runB 2 2 Zdk
theorem ZaL:FnScope ["n","pairs"] ["n","pairs"] (Zx ZaO):=YS
theorem Zcz (F:Fun K "web_of_order" "web_of_order" ZaO ka jN)(T:Txt mg){L:List (Addr×Str)}(lo:WK L)(kh:ZL P w K mg base 1 "all_below" 2 false Z0 JX)(jX:ZL P w K mg base 6 "web_of_below" 2 false (YD L) JT) :
  FnOk P w K mg base ZQ 7 ka jN ["n","pairs"] (Yj 2 false (YD L) BV):=
 have jM:=ZaL.nd
 Xc (own:=[]) F ZaL λcdv A outer s H E hr G hG=>
 have hT:YD L G:=hG
 (ZB (YC (ZW (jX.mono) hT hr (Zf (va 0) (Zf (ZW (kh.mono) trivial hr (Zf (va 0) (Zf (va 1) Zo))) Zo))))
 Yk)
noncomputable def ZdT:Zc->M Out:=(Zg (ZN (ZF Yi (Zb (ZR [none,some 2,some 1] (Z3 (Za 0)) (Zt 0) (asB (Ze Ys (ZT (Zb (Za 0) (Zb (Za 1) Zd))) (Za 2))) (Za 0)) Zd)))
 Zq)
noncomputable def Zat:List D->M D:=runB 3 3 ZdT
theorem ZaT:FnScope ["n","below","place"] ["n","below","place"] (Zx Zaq):=YS
theorem Zdl (F:Fun K "count_below" "count_below" Zaq ka jN)(T:Txt mg) :
  FnOk P w K mg base ZQ 1 ka jN ["n","below","place"] (Yj 3 true Z0 Zat):=
 have jM:=ZaT.nd
 Xc (own:=[]) F ZaT λcdv A outer s H E hr G hG=>
 (ZB (YC (X1 T.b_len (Zf (Xs (bk ["n","below","place"] (Zx Zaq).names ["other","place","below"] [none,some 2,some 1]) (Ub rfl T.b_range (va 0)) Xd (WT (YW (Vw hr.units) (Y4 (Zf (va 0) (Zf (va 1) Zo))) (va 2))) (va 0)) Zo)))
 Yk)
theorem ZaU:FnScope ["web"] ["web"] (Zx Zao):=YS
theorem Zdm (F:Fun K "marked_ties" "marked_ties" Zao ka jN)(T:Txt mg) :
  FnOk P w K mg base ZQ 1 ka jN ["web"] (Yj 1 true Z0 Uz):=
 have jM:=ZaU.nd
 Xc (own:=[]) F ZaU λcdv A outer s H E hr G hG=>
 (ZB (YC (UC (Zg7 rfl hr.units) rfl T.b_dict TF.boot_dict (Zf (Xs (bk ["web"] (Zx Zao).names ["tie"] [none]) (ZeT (Yc Yd (va 0) Ya)) Xd Wp (Y4 (Zf (va 0) (Zf VS Zo)))) Zo)))
 Yk)
theorem Zcm:FnScope ["ties","a","b"] ["ties","a","b"] (Zx Zdg):=YS
theorem Zgu (F:Fun K "are_tied" "are_tied" Zdg ka jN)(T:Txt mg) :
  FnOk P w K mg base ZQ 1 ka jN ["ties","a","b"] (Yj 3 false Z0 Ww):=
 have jM:=Zcm.nd
 Xc (own:=[]) F Zcm λcdv A outer s H E hr G hG=>
 (ZB (YC (PD.weak (Jo (Vw hr.units) (Y4 (Zf (WM (ZcW rfl) rfl T.b_min TF.boot_min (Zf (va 1) (Zf (va 2) Zo))) (Zf (WM (Zg1 rfl) rfl T.b_max TF.boot_max (Zf (va 1) (Zf (va 2) Zo))) Zo))) (va 0))))
 Yk)
theorem ZiD:FnScope ["web","place"] ["web","place"] (Zx ZhB):=YS
theorem Zns (F:Fun K "near" "near" ZhB ka jN)(T:Txt mg)(kH:ZL P w K mg base 1 "are_tied" 3 false Z0 Ww) :
  FnOk P w K mg base ZQ 2 ka jN ["web","place"] (Yj 2 true Z0 VQ):=
 have jM:=ZiD.nd
 Xc (own:=[]) F ZiD λcdv A outer s H E hr G hG=>
 (ZB (YC (Xs (bk ["web","place"] (Zx ZhB).names ["other","web","place"] [none,some 0,some 1]) (Ub rfl T.b_range (Yc Yd (va 0) Ya)) Xd (WT (Bf (ZW (kH.mono) trivial hr (Zf (Yc Yd (va 1) Ya) (Zf (va 2) (Zf (va 0) Zo)))))) (va 0)))
 Yk)
theorem Zcn:FnScope ["web","marked"] ["web"] (Zx Zbx):=YS
theorem Zgv (F:Fun K "all_near" "all_near" Zbx ka jN)(T:Txt mg)(jZ:ZL P w K mg base 1 "marked_ties" 1 true Z0 Uz)(kN:ZL P w K mg base 2 "near" 2 true Z0 VQ) :
  FnOk P w K mg base ZQ 3 ka jN ["web"] (Yj 1 true Z0 F_all_near):=
 have jM:=Zcn.nd
 Xc (own:=[]) F Zcn λcdv A outer s H E hr G hG=>
 (ZB (Yx (Yn jM rfl (yi rfl) (Y4 (Zf (Yc Yd (va 0) Ya) (Zf (ZW (jZ.mono) trivial hr (Zf (va 0) Zo)) Zo)))))
 (ZB (YC (Xs (bk ["web","marked"] (Zx Zbx).names ["place","marked"] [none,some 1]) (Ub rfl T.b_range (Yc Yd (va 0) Ya)) Xd Wp (ZW (kN.mono) trivial hr (Zf (va 1) (Zf (va 0) Zo)))))
 Yk))
theorem Zbh:FnScope ["taken"] ["taken"] (Zx ZaE):=YS
theorem ZdU (F:Fun K "least_free" "least_free" ZaE ka jN)(T:Txt mg) :
  FnOk P w K mg base ZQ 1 ka jN ["taken"] (Yj 1 true Z0 U6):=
 have jM:=Zbh.nd
 Xc (own:=[]) F Zbh λcdv A outer s H E hr G hG=>
 (ZB (YC (WM (Zhl rfl) rfl T.b_min TF.boot_min (Zf (Xs (bk ["taken"] (Zx ZaE).names ["hue","taken"] [none,some 0]) (Ub rfl T.b_range (WS Vg (X1 T.b_len (Zf (va 0) Zo)) Ya)) Xd (WT (YW (J3 hr.units) (va 0) (va 1))) (va 0)) Zo)))
 Yk)
theorem Zbi:FnScope ["web","order","nears","hues","place"] ["web","order"] (Zx B4):=YS
theorem ZdV (F:Fun K "hued_along" "hued_along" B4 ka jN)(T:Txt mg)(jT:ZL P w K mg base 3 "all_near" 1 true Z0 F_all_near)(kD:ZL P w K mg base 1 "least_free" 1 true Z0 U6) :
  FnOk P w K mg base ZQ 4 ka jN ["web","order"] (Yj 2 true Z0 JU):=
 have jM:=Zbi.nd
 Xc (own:=[]) F Zbi λcdv A outer s H E hr G hG=>
 (ZB (Yx (Yn jM rfl (qJ rfl) (ZW (jT.mono) trivial hr (Zf (va 0) Zo))))
 (Yu (own2:=[3]) (J8 (Yn jM rfl (yi rfl) Zlx))
 (Yu (own2:=[3]) (We (own:=[3]) ze rfl (WI.a (own:=[3]) (XH (va 1))) (Wd jM rfl (qJ rfl) (by decide))
 (Yu (own2:=[3]) (Zjx (own:=[3]) (i:=3) (L2.hu_of hr) (by decide) (pv 3) (va 4) (ZW (kD.mono) trivial hr (Zf (Xs (bk ["web","order","nears","hues","place"] (Zx B4).names ["other","hues"] [none,some 3]) (XH (Yc Yd (va 2) (va 4))) Xd (WT (YW (Vw hr.units) (va 0) (va 1))) (Ziv (L2.hu_of hr) (va 1) (va 0))) Zo)))
 (YJ (own:=[3]))))
 (Yu (own2:=[3]) (YC (UC (Zay) rfl T.b_tuple TF.boot_tuple (Zf (Xs (bk ["web","order","nears","hues","place"] (Zx B4).names ["place","hues"] [none,some 3]) (Ub rfl T.b_range (Yc Yd (va 0) Ya)) Xd Wp (Ziv (L2.hu_of hr) (va 1) (va 0))) Zo)))
 (YJ (own:=[3]))))))
theorem Zey:FnScope ["web","ties"] ["web"] (Zx ZbL):=YS
theorem ZjU (F:Fun K "turned" "turned" ZbL ka jN)(T:Txt mg){L:List (Addr×Str)}(lo:WK L)(jZ:ZL P w K mg base 1 "marked_ties" 1 true Z0 Uz)(kg:UY P w K mg 5 "web_where" 2 false (UX P w K mg 4 2 Tl) Ua)(kt:∀base,ZL P w K mg base 1 "are_tied" 3 false Z0 Ww){tc tP:Addr}(hcode:jN.code=.ref tc)(hCd:zO base tc tP)(hBm:Ux mg base)(hL:(tP,(qH "turned.<locals>.<lambda>"))∈L) :
  FnOk P w K mg base ZQ 6 ka jN ["web"] (Yj 1 false (YD L) WN):=
 have jM:=Zey.nd
 fnDC (own:=[]) F Zey λA outer s H E hr G hG=>
 have hT:YD L G:=hG;have TG9:=hT _ _ hL;have M9:Mk0 (Va ZQ P w K mg base ["web","ties"] "turned" (Zx ZbL) ka jN.code A outer s H E).nox tc tP:=⟨hcode,hCd,hBm⟩
 (ZB (Yx (Yn jM rfl (yi rfl) (ZW (jZ.mono) trivial hr (Zf (va 0) Zo))))
 (ZB (YC (Zc3 (kl:=3) (frb:=true) (N:=["a","b","ties"]) (ps:=["a","b"]) (cix:=[1]) (T:=Tl) (t:=0) (q:="turned.<locals>.<lambda>") M9 TG9 (kg.mono) (λ_=>rfl) hr rfl (B2 rfl rfl T.b_range rfl T.b_list TF.boot_list (Yc Yd (va 0) Ya)) rfl (⟨rfl,rfl,rfl,by decide +kernel,rfl,by decide +kernel,by decide +kernel⟩:CloScope ["a","b","ties"] ["a","b"] _) (⟨rfl,rfl,rfl,by decide +kernel,by decide +kernel⟩:CapS _ ["web","ties"] (Zx ZbL).names ["a","b","ties"] ["a","b"] [1] _) rfl (λ_ _ _ _ us hl=>match us,hl with | [_,_],_=>rfl) (λbase f c cl G A outer s H E hr=>(ZkE (ZW ((kt base).mono) trivial hr (Zf (va 2) (Zf (va 0) (Zf (va 1) Zo))))))))
 Yk))
theorem Zaw:FnScope ["aparts","weights","place","places","others"] ["aparts","weights","place","places"] (Zx Zae):=YS
theorem Zcd (F:Fun K "heaviest_with" "heaviest_with" Zae ka jN)(T:Txt mg){Fs:List D->M D}{lv:Nat}(hlv:0<=lv)(jR:ZL P w K mg base lv "heaviest_among" 3 false Z0 Fs) :
  FnOk P w K mg base ZQ (lv+1) ka jN ["aparts","weights","place","places"] (Yj 4 false Z0 (BT Fs)):=
 have jM:=Zaw.nd
 Xc (own:=[]) F Zaw λcdv A outer s H E hr G hG=>
 (ZB (Yx (U9 jM rfl (qJ rfl) rfl (bk ["aparts","weights","place","places","others"] (Zx Zae).names ["other","place","aparts"] [none,some 2,some 0]) (XH (va 3)) (λ_ _ _ _ _ _=>Xd) (λ_ _ _ _ _ _=>(WT (V3.pt (ZcD (YW (Bn hr.units) (va 0) (va 1)) (Zbz (YW (J3 hr.units) (va 0) (Yc Yd (va 2) (va 1)))))))) (λ_ _ _ _ _ _=>(va 0))))
 (ZB (YC (PD.weak (WS Vg (VN (Zf (va 2) Zo)) (ZW (jR) trivial hr (Zf (va 0) (Zf (va 1) (Zf (va 4) Zo)))))))
 Yk))
theorem ZaV:FnScope ["aparts","place","places"] ["aparts","place","places"] (Zx Zap):=YS
theorem Zdn (F:Fun K "apart_among" "apart_among" Zap ka jN)(T:Txt mg) :
  FnOk P w K mg base ZQ 1 ka jN ["aparts","place","places"] (Yj 3 true Z0 Zan):=
 have jM:=ZaV.nd
 Xc (own:=[]) F ZaV λcdv A outer s H E hr G hG=>
 (ZB (YC (Xs (bk ["aparts","place","places"] (Zx Zap).names ["other","aparts","place"] [none,some 0,some 1]) (XH (va 2)) Xd (WT (YW (Vw hr.units) (va 0) (Yc Yd (va 1) (va 2)))) (va 0)))
 Yk)
theorem Zdo:FnScope ["weights","places"] ["weights","places"] (Zx Zca):=YS
theorem ZhC (F:Fun K "weighed" "weighed" Zca ka jN)(T:Txt mg) :
  FnOk P w K mg base ZQ 1 ka jN ["weights","places"] (Yj 2 false Z0 J4):=
 have jM:=Zdo.nd
 Xc (own:=[]) F Zdo λcdv A outer s H E hr G hG=>
 (ZB (YC (PD.weak (WM (ZjO rfl) rfl T.b_sum TF.boot_sum (Zf (Xs (bk ["weights","places"] (Zx Zca).names ["place","weights"] [none,some 0]) (XH (va 1)) Xd Wp (Yc Yd (va 1) (va 0))) Zo))))
 Yk)
theorem Zal:FnScope ["aparts","weights","places","rows","i","counts","branching","with_it","without_it"] ["aparts","weights","places"] (Zx JS):=YS
theorem ZbP (F:Fun K "heaviest_among" "heaviest_among" JS ka jN)(T:Txt mg){Fs:List D->M D}{lv:Nat}(hlv:1<=lv)(kA:ZL P w K mg base 1 "apart_among" 3 true Z0 Zan)(jR:ZL P w K mg base lv "heaviest_among" 3 false Z0 Fs)(kf:ZL P w K mg base (lv+1) "heaviest_with" 4 false Z0 (BT Fs))(kC:ZL P w K mg base 1 "weighed" 2 false Z0 J4) :
  FnOk P w K mg base ZQ (lv+2) ka jN ["aparts","weights","places"] (Yj 3 false Z0 (runB 9 3 (Zav Fs))):=
 have jM:=Zal.nd
 Xc (own:=[]) F Zal λcdv A outer s H E hr G hG=>
 (ZB (V6 (YW (Bm hr.units) (va 2) (VN Zo))
 (ZB (YC (PD.weak (VN Zo)))
 Yk)
 YJ)
 (ZB (Yx (U9 jM rfl (qJ rfl) rfl (bk ["aparts","weights","places","rows","i","counts","branching","with_it","without_it"] (Zx JS).names ["place","aparts","places"] [none,some 0,some 2]) (XH (va 2)) (λ_ _ _ _ _ _=>Xd) (λ_ _ _ _ _ _=>Wp) (λ_ _ _ _ _ _=>(ZW (kA.mono (h:=qV (by decide) (qay hlv))) trivial hr (Zf (va 1) (Zf (va 0) (Zf (va 2) Zo)))))))
 (ZB (We (own:=[]) ze rfl (WZ rfl T.b_range (X1 T.b_len (Zf (va 2) Zo))) (Wd jM rfl (qJ rfl) (by decide))
 (ZB (V6 (YW (ZoX) (ZW (kC.mono (h:=qV (by decide) (qay hlv))) trivial hr (Zf (va 1) (Zf (Yc Yd (va 3) (va 4)) Zo))) (Yc Yd (va 1) (Yc Yd (va 2) (va 4))))
 (ZB (YC (ZW (kf) trivial hr (Zf (va 0) (Zf (va 1) (Zf (Yc Yd (va 2) (va 4)) (Zf (va 2) Zo))))))
 Yk)
 YJ)
 Yk))
 (ZB (Yx (U9 jM rfl (qJ rfl) rfl (bk ["aparts","weights","places","rows","i","counts","branching","with_it","without_it"] (Zx JS).names ["row"] [none]) (XH (va 3)) (λ_ _ _ _ _ _=>Xd) (λ_ _ _ _ _ _=>Wp) (λ_ _ _ _ _ _=>(X1 T.b_len (Zf (va 0) Zo)))))
 (ZB (Yx (Yn jM rfl (yi rfl) (Yc Yd (va 2) (ZlC (va 5) (WM (Zhg rfl) rfl T.b_max TF.boot_max (Zf (va 5) Zo))))))
 (ZB (Yx (Yn jM rfl (qJ rfl) (ZW (kf) trivial hr (Zf (va 0) (Zf (va 1) (Zf (va 6) (Zf (va 2) Zo)))))))
 (ZB (Yx (Yn jM rfl (qJ rfl) (ZW (jR.mono (h:=qaA _)) trivial hr (Zf (va 0) (Zf (va 1) (Zf (Xs (bk ["aparts","weights","places","rows","i","counts","branching","with_it","without_it"] (Zx JS).names ["other","branching"] [none,some 6]) (XH (va 2)) Xd (WT (YW (Bn hr.units) (va 0) (va 1))) (va 0)) Zo))))))
 (ZB (YC (ZpM (YW (ZoZ) (ZW (kC.mono (h:=qV (by decide) (qay hlv))) trivial hr (Zf (va 1) (Zf (va 7) Zo))) (ZW (kC.mono (h:=qV (by decide) (qay hlv))) trivial hr (Zf (va 1) (Zf (va 8) Zo)))) (va 7) (va 8)))
 Yk))))))))
theorem Zax:FnScope ["web","weights","aparts"] ["web","weights"] (Zx Zad):=YS
theorem Zce (F:Fun K "heaviest_knot" "heaviest_knot" Zad ka jN)(T:Txt mg){L:List (Addr×Str)}(lo:WK L)(jT:ZL P w K mg base 3 "all_near" 1 true Z0 F_all_near)(jR:ZL P w K mg base 53 "heaviest_among" 3 false Z0 (JR 26))(ki:ZL P w K mg base 6 "turned" 1 false (YD L) WN) :
  FnOk P w K mg base ZQ 54 ka jN ["web","weights"] (Yj 2 true (YD L) Zac):=
 have jM:=Zax.nd
 Xc (own:=[]) F Zax λcdv A outer s H E hr G hG=>
 have hT:YD L G:=hG
 (ZB (Yx (U9 jM rfl (qJ rfl) rfl (bk ["web","weights","aparts"] (Zx Zad).names ["row"] [none]) (XH (ZW (jT.mono) trivial hr (Zf (ZW (ki.mono) hT hr (Zf (va 0) Zo)) Zo))) (λ_ _ _ _ _ _=>Xd) (λ_ _ _ _ _ _=>Wp) (λ_ _ _ _ _ _=>(UC (Zg8 rfl hr.units) rfl T.b_dict TF.boot_dict (Zf (Xs (bk ["row"] [((qa0 ".0"),PySem.NameKind.local),((qa0 "row"),PySem.NameKind.local),((qa0 "dict"),PySem.NameKind.globalImplicit)] ["other"] [none]) (XH (va 0)) Xd Wp (Y4 (Zf (va 0) (Zf VS Zo)))) Zo)))))
 (ZB (YC (UC (Zay) rfl T.b_tuple TF.boot_tuple (Zf (WM (ZeZ) rfl T.b_sorted TF.boot_sorted (Zf (ZW (jR.mono) trivial hr (Zf (va 2) (Zf (va 1) (Zf (B2 rfl rfl T.b_range rfl T.b_list TF.boot_list (Yc Yd (va 0) Ya)) Zo)))) Zo)) Zo)))
 Yk))
theorem ZiE:FnScope ["web","knot"] ["web"] (Zx ZlY):=YS
theorem Znt (F:Fun K "most" "most" ZlY ka jN)(T:Txt mg){L:List (Addr×Str)}(lo:WK L)(km:ZL P w K mg base 54 "heaviest_knot" 2 true (YD L) Zac) :
  FnOk P w K mg base ZQ 55 ka jN ["web"] (Yj 1 true (YD L) W6):=
 have jM:=ZiE.nd
 Xc (own:=[]) F ZiE λcdv A outer s H E hr G hG=>
 have hT:YD L G:=hG
 (ZB (Yx (Yn jM rfl (qJ rfl) (ZW (km.mono) hT hr (Zf (va 0) (Zf (WS ZlS (Y4 (Zf Ya Zo)) (Yc Yd (va 0) Ya)) Zo)))))
 (ZB (YC (Y4 (Zf (X1 T.b_len (Zf (va 1) Zo)) (Zf (va 1) Zo))))
 Yk))
noncomputable def ZdW:Zc->M Out:=(Zg (ZS 2 (Zm JX (Zb (Za 0) (Zb (Za 1) Zd))))
 (Zg (ZS 3 (Zm JT (Zb (Za 0) (Zb (Za 2) Zd))))
 (Zg (ZS 4 (ZR [none,some 0,some 2] (Z3 (Za 0)) (Zt 0) Z7 (Zm Zat (Zb (Za 1) (Zb (Za 2) (Zb (Za 0) Zd))))))
 (Zg (ZS 5 (Zm JU (Zb (Za 3) (Zb (J5 (Y1 2 (Ze Zk (Za 1) (Za 0))) [4] (Za 0)) Zd))))
 (Zg (ZS 6 (Zm W6 (Zb (Za 3) Zd)))
 (Zg (ZN (ZT (Zb (Ze Zk (Za 6) (dC (.int 0))) (Zb (Jg (Y1 2 (Ze Zk (Za 1) (Za 0))) [4] (Ze Zk (Za 6) (dC (.int 1)))) (Zb (Za 5) Zd)))))
 Zq))))))
noncomputable def BZ:List D->M D:=runB 7 2 ZdW
theorem ZaW:FnScope ["n","pairs","below","web","ranks","hueing","told"] ["n","pairs"] (Zx U5):=YS
theorem Zdp (F:Fun K "chains_told" "chains_told" U5 ka jN)(T:Txt mg){L:List (Addr×Str)}(lo:WK L)(kh:ZL P w K mg base 1 "all_below" 2 false Z0 JX)(kB:ZL P w K mg base 1 "count_below" 3 true Z0 Zat)(kE:ZL P w K mg base 4 "hued_along" 2 true Z0 JU)(kr:ZL P w K mg base 55 "most" 1 true (YD L) W6)(jX:ZL P w K mg base 6 "web_of_below" 2 false (YD L) JT){tc tP:Addr}(hcode:jN.code=.ref tc)(hCd:zO base tc tP)(hBm:Ux mg base)(hL:(tP,(qH "chains_told.<locals>.<lambda>"))∈L) :
  FnOk P w K mg base ZQ 56 ka jN ["n","pairs"] (Yj 2 false (YD L) BZ):=
 have jM:=ZaW.nd
 fnDC (own:=[]) F ZaW λA outer s H E hr G hG=>
 have hT:YD L G:=hG;have TG9:=hT _ _ hL;have M9:Mk0 (Va ZQ P w K mg base ["n","pairs","below","web","ranks","hueing","told"] "chains_told" (Zx U5) ka jN.code A outer s H E).nox tc tP:=⟨hcode,hCd,hBm⟩
 (ZB (Yx (Yn jM rfl (yi rfl) (ZW (kh.mono) trivial hr (Zf (va 0) (Zf (va 1) Zo)))))
 (ZB (Yx (Yn jM rfl (qJ rfl) (ZW (jX.mono) hT hr (Zf (va 0) (Zf (va 2) Zo)))))
 (ZB (Yx (Yn jM rfl (yi rfl) (Xs (bk ["n","pairs","below","web","ranks","hueing","told"] (Zx U5).names ["place","n","below"] [none,some 0,some 2]) (Ub rfl T.b_range (va 0)) Xd Wp (ZW (kB.mono) trivial hr (Zf (va 1) (Zf (va 2) (Zf (va 0) Zo)))))))
 (ZB (Yx (Yn jM rfl (qJ rfl) (ZW (kE.mono) trivial hr (Zf (va 3) (Zf (Zgo (kl:=3) (frb:=false) (N:=["place","ranks"]) (ps:=["place"]) (cix:=[4]) (q:="chains_told.<locals>.<lambda>") rfl rfl T.b_sorted TF.boot_sorted rfl T.b_range M9 TG9 (λ_=>rfl) (hr.mono (by decide)) (va 0) rfl (⟨rfl,rfl,rfl,by decide +kernel,rfl,by decide +kernel,by decide +kernel⟩:CloScope ["place","ranks"] ["place"] _) (⟨rfl,rfl,rfl,by decide +kernel,by decide +kernel⟩:CapS _ ["n","pairs","below","web","ranks","hueing","told"] (Zx U5).names ["place","ranks"] ["place"] [4] _) rfl (λ_ _ _ _ us hl=>match us,hl with | [_],_=>rfl) (λbase f c cl G A outer s H E hr=>(Yc Yd (va 1) (va 0)))) Zo)))))
 (ZB (Yx (Yn jM rfl (qJ rfl) (ZW (kr.mono) hT hr (Zf (va 3) Zo))))
 (ZB (YC (PD.weak (Y4 (Zf (Yc Yd (va 6) Ya) (Zf (Zhz (kl:=3) (frb:=false) (N:=["place","ranks"]) (ps:=["place"]) (cix:=[4]) (q:="chains_told.<locals>.<lambda>") rfl rfl T.b_sorted TF.boot_sorted M9 TG9 (λ_=>rfl) (hr.mono (by decide)) (Yc Yd (va 6) Ya) rfl (⟨rfl,rfl,rfl,by decide +kernel,rfl,by decide +kernel,by decide +kernel⟩:CloScope ["place","ranks"] ["place"] _) (⟨rfl,rfl,rfl,by decide +kernel,by decide +kernel⟩:CapS _ ["n","pairs","below","web","ranks","hueing","told"] (Zx U5).names ["place","ranks"] ["place"] [4] _) rfl (λ_ _ _ _ us hl=>match us,hl with | [_],_=>rfl) (λbase f c cl G A outer s H E hr=>(Yc Yd (va 1) (va 0)))) (Zf (va 5) Zo))))))
 Yk))))))
theorem ZaX:FnScope ["nears","place","knot"] ["nears","place","knot"] (Zx Zar):=YS
theorem Zdq (F:Fun K "is_near_all" "is_near_all" Zar ka jN)(T:Txt mg) :
  FnOk P w K mg base ZQ 1 ka jN ["nears","place","knot"] (Yj 3 false Z0 V7):=
 have jM:=ZaX.nd
 Xc (own:=[]) F ZaX λcdv A outer s H E hr G hG=>
 (ZB (YC (PD.weak (WM (Zja rfl) rfl T.b_all TF.boot_all (Zf (Xs (bk ["nears","place","knot"] (Zx Zar).names ["other","nears","place"] [none,some 0,some 1]) (ZeT (va 2)) Xd Wp (Jo (Vw hr.units) (va 0) (Yc Yd (va 1) (va 2)))) Zo))))
 Yk)
theorem ZbQ:FnScope ["nears","knots","place"] ["nears"] (Zx ZaP):=YS
theorem Zfa (F:Fun K "all_knots" "all_knots" ZaP ka jN)(T:Txt mg)(j6:ZL P w K mg base 1 "is_near_all" 3 false Z0 V7) :
  FnOk P w K mg base ZQ 2 ka jN ["nears"] (Yj 1 false Z0 U7):=
 have jM:=ZbQ.nd
 Xc (own:=[]) F ZbQ λcdv A outer s H E hr G hG=>
 (ZB (Yx (Yn jM rfl (qJ rfl) (VN (Zf (Y4 Zo) Zo))))
 (ZB (We (own:=[]) ze rfl (WZ rfl T.b_range (X1 T.b_len (Zf (va 0) Zo))) (Wd jM rfl (yi rfl) (by decide))
 (ZB (Yx (Yn jM rfl (qJ rfl) (WS Vg (va 1) (Xs (bk ["nears","knots","place"] (Zx ZaP).names ["knot","place","nears"] [none,some 2,some 0]) (XH (va 1)) Xd (WT (Bf (ZW (j6.mono) trivial hr (Zf (va 2) (Zf (va 1) (Zf (va 0) Zo)))))) (WS Vg (va 0) (Y4 (Zf (va 1) Zo)))))))
 Yk))
 (ZB (YC (va 1))
 Yk)))
theorem Zdr:FnScope ["nears","knot"] ["nears","knot"] (Zx Zcc):=YS
theorem ZhD (F:Fun K "is_full" "is_full" Zcc ka jN)(T:Txt mg)(j6:ZL P w K mg base 1 "is_near_all" 3 false Z0 V7) :
  FnOk P w K mg base ZQ 2 ka jN ["nears","knot"] (Yj 2 false Z0 Jc):=
 have jM:=Zdr.nd
 Xc (own:=[]) F Zdr λcdv A outer s H E hr G hG=>
 (ZB (YC (PD.weak (ZkE (WM (Zec rfl) rfl T.b_any TF.boot_any (Zf (Xs (bk ["nears","knot"] (Zx Zcc).names ["place","nears","knot"] [none,some 0,some 1]) (Ub rfl T.b_range (X1 T.b_len (Zf (va 0) Zo))) Xd Wp (ZW (j6.mono) trivial hr (Zf (va 1) (Zf (va 0) (Zf (va 2) Zo))))) Zo)))))
 Yk)
theorem Zbj:FnScope ["web","nears"] ["web"] (Zx ZaF):=YS
theorem ZdX (F:Fun K "full_knots" "full_knots" ZaF ka jN)(T:Txt mg)(kF:ZL P w K mg base 2 "all_knots" 1 false Z0 U7)(jT:ZL P w K mg base 3 "all_near" 1 true Z0 F_all_near)(kI:ZL P w K mg base 2 "is_full" 2 false Z0 Jc) :
  FnOk P w K mg base ZQ 4 ka jN ["web"] (Yj 1 true Z0 F_full_knots):=
 have jM:=Zbj.nd
 Xc (own:=[]) F Zbj λcdv A outer s H E hr G hG=>
 (ZB (Yx (Yn jM rfl (yi rfl) (ZW (jT.mono) trivial hr (Zf (va 0) Zo))))
 (ZB (YC (WM Zbc rfl T.b_sorted TF.boot_sorted (Zf (Xs (bk ["web","nears"] (Zx ZaF).names ["knot","nears"] [none,some 1]) (XH (ZW (kF.mono) trivial hr (Zf (va 1) Zo))) Xd (WT (Bf (ZW (kI.mono) trivial hr (Zf (va 1) (Zf (va 0) Zo))))) (va 0)) Zo)))
 Yk))
theorem Zds:FnScope ["nears","many","hues","place","taken","hue","hueing"] ["nears","many","hues"] (Zx Zcb):=YS
theorem ZhE (F:Fun K "hued_on" "hued_on" Zcb ka jN)(T:Txt mg){Fs:List D->M D}{lv:Nat}(hlv:0<=lv)(ko:ZL P w K mg base lv "hued_on" 3 false Z0 Fs) :
  FnOk P w K mg base ZQ (lv+1) ka jN ["nears","many","hues"] (Yj 3 false Z0 (runB 7 3 (Zeo Fs))):=
 have jM:=Zds.nd
 Xc (own:=[]) F Zds λcdv A outer s H E hr G hG=>
 (ZB (Yx (Yn jM rfl (yi rfl) (X1 T.b_len (Zf (va 2) Zo))))
 (ZB (V6 (YW (Bm hr.units) (va 3) (X1 T.b_len (Zf (va 0) Zo)))
 (ZB (YC (va 2))
 Yk)
 YJ)
 (ZB (Yx (U9 jM rfl (qJ rfl) rfl (bk ["nears","many","hues","place","taken","hue","hueing"] (Zx Zcb).names ["other","hues","place"] [none,some 2,some 3]) (XH (Yc Yd (va 0) (va 3))) (λ_ _ _ _ _ _=>Xd) (λ_ _ _ _ _ _=>(WT (YW (ZgZ hr.units0) (va 0) (va 2)))) (λ_ _ _ _ _ _=>(Yc Yd (va 1) (va 0)))))
 (ZB (We (own:=[]) ze rfl (WZ rfl T.b_range (WM (ZcW rfl) rfl T.b_min TF.boot_min (Zf (va 1) (Zf (WS Vg (ZlI rfl rfl T.b_max TF.boot_max (va 2) Zo8) Ya) Zo)))) (Wd jM rfl (qJ rfl) (by decide))
 (ZB (V6 (YW (J3 hr.units) (va 5) (va 4))
 (ZB (Yx (Yn jM rfl (qJ rfl) (ZW (ko) trivial hr (Zf (va 0) (Zf (va 1) (Zf (WS Vg (va 2) (Y4 (Zf (va 5) Zo))) Zo))))))
 (ZB (V6 (YW (ZlF) (va 6) ZgV)
 (ZB (YC (va 6))
 Yk)
 YJ)
 Yk))
 YJ)
 Yk))
 (ZB (YC (PD.weak ZgV))
 Yk)))))
theorem ZaY:FnScope ["web","nears","many","hueing"] ["web"] (Zx Zbf):=YS
theorem Zdt (F:Fun K "fewest_hues" "fewest_hues" Zbf ka jN)(T:Txt mg){L:List (Addr×Str)}(lo:WK L)(jT:ZL P w K mg base 3 "all_near" 1 true Z0 F_all_near)(ko:ZL P w K mg base 11 "hued_on" 3 false Z0 (VM 10))(kr:ZL P w K mg base 55 "most" 1 true (YD L) W6) :
  FnOk P w K mg base ZQ 56 ka jN ["web"] (Yj 1 true (YD L) UA):=
 have jM:=ZaY.nd
 Xc (own:=[]) F ZaY λcdv A outer s H E hr G hG=>
 have hT:YD L G:=hG
 (ZB (Yx (Yn jM rfl (qJ rfl) (ZW (jT.mono) trivial hr (Zf (va 0) Zo))))
 (ZB (Yx (Yn jM rfl (qJ rfl) (Yc Yd (ZW (kr.mono) hT hr (Zf (va 0) Zo)) Ya)))
 (ZB (Yx (Yn jM rfl (qJ rfl) (ZW (ko.mono) trivial hr (Zf (va 1) (Zf (va 2) (Zf (Y4 Zo) Zo))))))
 (ZB (Zen (own:=[]) ze (YW (Zne) (va 3) ZgV)
 (ZB (Znm (own:=[]) jM rfl (qJ rfl) Ya)
 (ZB (Yx (Yn jM rfl (qJ rfl) (ZW (ko.mono) trivial hr (Zf (va 1) (Zf (va 2) (Zf (Y4 Zo) Zo))))))
 Yk)))
 (ZB (YC (Y4 (Zf (va 2) (Zf (va 3) Zo))))
 Yk)))))
noncomputable def ZlZ:Zc->M Out:=(Zg (YU (Z3 (dC (.int 4))) (Zt 2)
 (Zg (ZS 3 (Zm Yq (Zb (Za 1) (Zb (dC (.int 9)) Zd))))
 (Zg (ZS 4 (Zm BX (Zb (Za 1) (Zb (Za 3) (Zb (dC (.bl false)) Zd)))))
 (Zg (ZS 5 (Zm BV (Zb (Za 3) (Zb (Za 4) Zd))))
 (Zg (ZS 6 (Zm BY (Zb (Za 3) (Zb (Za 4) Zd))))
 (Zg (YU (ZV (Zm F_full_knots (Zb (Za 5) Zd))) (Zt 7)
 (Zg (ZS 8 (ZR [none,none] (ZV (ZF UH (Zb (ZR [none,some 6] (Vk (Za 7)) (Zt 0) Z7 (ZT (Zb (ZF Yi (Zb (Ze Zk (Za 1) (Za 0)) Zd)) (Zb (Za 0) Zd)))) Zd))) (W8 0 1) Z7 (Za 1)))
 (Zg (YU (Bw (Za 8) (Bo (Za 8) (Zk4 (dC (.int 1))) Zk3)) (W8 9 10)
 (Zg (YR (asB (Ze XU (Za 9) (Ze Zk (Za 6) (Za 10))))
 (Zg (ZN (dC (.bl false)))
 Zq)
 Zq)
 Zq))
 Zq)))
 (Zg (YR (asB (Ze XX (Ze Zk (Zm UA (Zb (Zm WN (Zb (Za 5) Zd)) Zd)) (dC (.int 0))) (Ze Zk (Zm W6 (Zb (Zm WN (Zb (Za 5) Zd)) Zd)) (dC (.int 0)))))
 (Zg (ZN (dC (.bl false)))
 Zq)
 Zq)
 (Zg (YR (asB (Ze XX (Ze Zk (Zm BZ (Zb (Za 3) (Zb (Za 4) Zd))) (dC (.int 0))) (Ze Zk (Zm UA (Zb (Za 5) Zd)) (dC (.int 0)))))
 (Zg (ZN (dC (.bl false)))
 Zq)
 Zq)
 Zq))))))))
 (Zg (ZN (dC (.bl true)))
 Zq))
theorem ZhF:FnScope ["script","pen","turn","n","pairs","web","lower","knot","row","a","b"] ["script"] (Zx s_law):=YS
theorem Znu {cdv:Value}{A:xG}{outer:List Env}{s:Shared}{H:Hp}{E:XK}{L:List (Addr×Str)}(lo:WK L)(T:Txt mg)(hr:Room 56 (A.deeper (envOfC "law" (Zx s_law) s.heap.objs.size ka cdv)))(jL:ZL P w K mg base 1 "_law_tdraw" 2 true (Ws XY L) Yq)(kc:ZL P w K mg base 1 "_law_tlower" 2 true Z0 BY)(kd:ZL P w K mg base 3 "_law_tpairs" 3 true (Ws XY L) BX)(ke:ZL P w K mg base 56 "chains_told" 2 false (YD L) BZ)(j7:ZL P w K mg base 56 "fewest_hues" 1 true (YD L) UA)(kj:ZL P w K mg base 4 "full_knots" 1 true Z0 F_full_knots)(kr:ZL P w K mg base 55 "most" 1 true (YD L) W6)(ki:ZL P w K mg base 6 "turned" 1 false (YD L) WN)(kb:ZL P w K mg base 7 "web_of_order" 2 false (YD L) BV)(G:Gh)(hG:(Ws XY L) G) :
  X7 (Va ZQ P w K mg base ["script","pen","turn","n","pairs","web","lower","knot","row","a","b"] "law" (Zx s_law) ka cdv A outer s H E).nox G [] [] [] false ((Wy s_law).drop 1) ZlZ:=
 have jM:=ZhF.nd;have hT:YD L G:=jA lo hG
 (ZB (We (own:=[]) ze rfl (WZ rfl T.b_range Ya) (Wd jM rfl (qJ rfl) (by decide))
 (ZB (Yx (Yn jM rfl (qJ rfl) (ZW (jL.mono) hG hr (Zf (va 1) (Zf Ya Zo)))))
 (ZB (Yx (Yn jM rfl (qJ rfl) (ZW (kd.mono) hG hr (Zf (va 1) (Zf (va 3) (Zf VS Zo))))))
 (ZB (Yx (Yn jM rfl (qJ rfl) (ZW (kb.mono) hT hr (Zf (va 3) (Zf (va 4) Zo)))))
 (ZB (Yx (Yn jM rfl (yi rfl) (ZW (kc.mono) trivial hr (Zf (va 3) (Zf (va 4) Zo)))))
 (ZB (We (own:=[]) ze rfl (WI.n (XH (ZW (kj.mono) trivial hr (Zf (va 5) Zo)))) (Wd jM rfl (qJ rfl) (by decide))
 (ZB (Yx (U9 jM rfl (qJ rfl) rfl (bk ["script","pen","turn","n","pairs","web","lower","knot","row","a","b"] (Zx s_law).names ["many","place"] [none,none]) (XH (WM Zbc rfl T.b_sorted TF.boot_sorted (Zf (Xs (bk ["script","pen","turn","n","pairs","web","lower","knot","row","a","b"] (Zx s_law).names ["place","lower"] [none,some 6]) (ZeT (va 7)) Xd Wp (Y4 (Zf (X1 T.b_len (Zf (Yc Yd (va 1) (va 0)) Zo)) (Zf (va 0) Zo)))) Zo))) (λ_ _ _ _ _ _=>(ZbA rfl (show(["many","place"]:List Str).Nodup by decide +kernel) rfl rfl (qJ rfl) (qJ rfl) rfl rfl (hp:=Ue (WO (show(["many","place"]:List Str).Nodup by decide +kernel) rfl (qJ rfl)) (Ue (WO (show(["many","place"]:List Str).Nodup by decide +kernel) rfl (qJ rfl)) ZcB)))) (λ_ _ _ _ _ _=>Wp) (λ_ _ _ _ _ _=>(va 1))))
 (ZB (We (own:=[]) ze rfl (WI.n (Znd rfl T.b_zip (va 8) (Zk7 (va 8) (Zk6 Ya) Zk5))) (ZbA rfl jM rfl rfl (qJ rfl) (qJ rfl) (by decide) (by decide) (hp:=Ue (WO jM rfl (qJ rfl)) (Ue (WO jM rfl (qJ rfl)) ZcB)))
 (ZB (V6 (YW (J3 hr.units) (va 9) (Yc Yd (va 6) (va 10)))
 (ZB (YC (PD.weak VS))
 Yk)
 YJ)
 Yk))
 Yk)))
 (ZB (V6 (YW (Bn hr.units) (Yc Yd (ZW (j7.mono) hT hr (Zf (ZW (ki.mono) hT hr (Zf (va 5) Zo)) Zo)) Ya) (Yc Yd (ZW (kr.mono) hT hr (Zf (ZW (ki.mono) hT hr (Zf (va 5) Zo)) Zo)) Ya))
 (ZB (YC (PD.weak VS))
 Yk)
 YJ)
 (ZB (V6 (YW (Bn hr.units) (Yc Yd (ZW (ke.mono) hT hr (Zf (va 3) (Zf (va 4) Zo))) Ya) (Yc Yd (ZW (j7.mono) hT hr (Zf (va 5) Zo)) Ya))
 (ZB (YC (PD.weak VS))
 Yk)
 YJ)
 Yk))))))))
 (ZB (YC (PD.weak VS))
 Yk))
theorem Zbk:FnScope ["pen","many","found","one","two"] ["pen","many"] (Zx ZbM):=⟨rfl,rfl,rfl,by decide +kernel,rfl,by decide +kernel,by decide +kernel⟩
theorem ZdY {P:xF}{w:World}{K:qk}{mg:Str->Option Value}{base:Heap}{ka:Addr}{jN:xE}(F:Fun K "_law_tdraw" "_law_tdraw" ZbM ka jN)(T:Txt mg) :
  FnOk P w K mg base ZQ 1 ka jN ["pen","many"] (Yj 2 true XY Yq):=by
 have nd:=Zbk.nd;refine F.ok Zbk (λvs H Q E h=>?_) λcdv A outer s0 H vs Q E hr h=>?_
 ·obtain⟨G,Hf,ds,pn,d,pn',_,e,_⟩:=h
  exact e
 ·obtain⟨p,m,rfl,hs⟩:=Zjr (K:=K) (N:=λ_ H'=>Q .non H') h
  have hu:=L2.hu_of hr;refine⟨_,W3 (Zkk (PW.pt (Zkh (Bc Zkr (J6 B1 rfl T.b_len TF.boot_len (YF (WP hu (pv 0) Wf (λ_ _=>rfl)) YX)) Y9 (Jm _)) (ZhY (Bc ZnZ (Zh5 ZcC (WP hu (pv 0) Wf (λ_ _=>rfl)) Y9 (λ_ _=>rfl)) (pv 1) (Jm _)))))
    (Jh (ZcA (Jx yf qbM qbN Zfw (WP hu (pv 0) Wf (λ_ _=>rfl)) (YF Y9 YX)))) ZeJ)
   (W3 (Zkk (Bc Zkr (J6 B1 rfl T.b_len TF.boot_len (YF (WP hu (pv 0) Wf (λ_ _=>rfl)) YX)) Y9 (Jm _))
    (W3 (Ui (i:=2) nd rfl (qJ rfl) (Xg UJ (Zh5 ZcC (WP hu (pv 0) Wf (λ_ _=>rfl)) Y9 (λ_ _=>rfl)) (pv 1)))
    (W3 (ZoC (Xg ZhZ (Zh5 ZcC (WP hu (pv 0) Wf (λ_ _=>rfl)) Y9 (λ_ _=>rfl)) (pv 1)) (ZoB (WP hu (pv 0) Wf (λ_ _=>rfl)) Y9 Zkz))
    (Jh (Jl (pv 2))))) ZeJ)
   (W3 (ZeQ hu (pv 0) Wf (Xg Uj (WP hu (pv 0) Wf (λ_ _=>rfl)) Y9) rfl)
   (W3 (Ui (i:=3) nd rfl (qJ rfl) (Xg UJ (Xg Uj (WP hu (pv 0) Wf (λ_ _=>rfl)) (Xg UI (Xg UI Y9 (WP hu (pv 0) Wf (λ_ _=>rfl))) (WP hu (pv 0) Wf (λ_ _=>rfl)))) Y9))
   (W3 (Ui (i:=4) nd rfl (qJ rfl) (Xg UJ (Xg Uj (Xg Uj (Xg UI (pv 3) (pv 3)) (Xg UI Y9 (WP hu (pv 0) Wf (λ_ _=>rfl)))) Y9) Y9))
   (Jh (Jl (Xg UJ (Xg ZhZ (Xg UJ (Xg Uj (Xg UI (pv 4) (pv 4)) (pv 3)) Y9) Y9) (pv 1)))))))),hs⟩
theorem ZbR:FnScope ["script","mixed","cell"] ["script"] (Zx ZaQ):=⟨rfl,rfl,rfl,by decide +kernel,rfl,by decide +kernel,by decide +kernel⟩
theorem Zfb {P:xF}{w:World}{K:qk}{mg:Str->Option Value}{base:Heap}{ka:Addr}{jN:xE}(F:Fun K "_law_tpen" "_law_tpen" ZaQ ka jN)(T:Txt mg) :
  FnOk P w K mg base ZQ 1 ka jN ["script"] (Zoa K):=by
 have nd:=ZbR.nd;refine F.ok ZbR (λvs H Q E h=>?_) λcdv A outer s0 H vs Q E hr h=>?_
 ·obtain⟨a,ns,rfl,_⟩:=h
  rfl
 ·obtain⟨a,ns,rfl,hsq⟩:=id h
  refine⟨_,W3 (Ui (i:=1) nd rfl (qJ rfl) Y9)
   (W3 (Zkp ze rfl (ZeK (pv 0)) (WO (i:=2) nd rfl (qJ rfl)) (Jh (Ui (i:=1) nd rfl (qJ rfl) (Xg UJ (Xg Uj (Xg Uj (Xg UI (pv 1) Y9) (Xg UJ (pv 2) Y9)) Y9) Y9))))
   (Jh (Jl (ZmQ (ZcU Wf (pv 1) (ZcU Wf Y9 (ZcU Wf
    (ZfY (N':=["cell"]) (src:=[none]) rfl (⟨rfl,rfl,by decide +kernel,rfl,by decide +kernel,rfl,by decide +kernel,by decide +kernel⟩:BlkS _ ["script","mixed","cell"] (Zx ZaQ).names ["cell"] [none] _) (ZeK (pv 0)) (λ_ _ _ _ _ _=>WO (i:=0) (show(["cell"]:List Str).Nodup by decide +kernel) rfl (qJ rfl)) (λ_ _ _ _ _ _=>ZfD (Bc Zn0 (pv 0) (Xg ZoH Y9 Y9) (Jm _))) (λ_ _ _ _ _ _=>pv 0)) ZmP))) rfl rfl (by simp) (by decide))))),Zm9 hsq.1 hsq.2.1 hsq.2.2⟩
theorem ZaZ:FnScope ["pen","many","left"] ["pen","many"] (Zx Zas):=⟨rfl,rfl,rfl,by decide +kernel,rfl,by decide +kernel,by decide +kernel⟩
theorem Zdu {P:xF}{w:World}{K:qk}{mg:Str->Option Value}{base:Heap}{ka:Addr}{jN:xE}(F:Fun K "_law_torder" "_law_torder" Zas ka jN)(T:Txt mg)(jL:ZL P w K mg base 1 "_law_tdraw" 2 true XY Yq) :
  FnOk P w K mg base ZQ 2 ka jN ["pen","many"] (Yj 2 true XY Vx):=by
 have nd:=ZaZ.nd;refine F.ok ZaZ (λvs H Q E h=>?_) λcdv A outer s0 H vs Q E hr h=>?_
 ·obtain⟨G,Hf,ds,pn,d,pn',_,e,_⟩:=h
  exact e
 ·obtain⟨fT,fdT,psT,FT,hmT,hkT,hbT⟩:=jL
  obtain⟨p,m,rfl,hs⟩:=Zhj (K:=K) (E':=E0) (N:=λ_ H'=>Q .non H') h;refine⟨_,W3 (Ui (i:=2) nd rfl (yi rfl) (Za3 (ZbB rfl) rfl T.b_list TF.boot_list (YF (Zb4 rfl T.b_range (YF (pv 1) YX)) YX)))
   (Jh (Jl (ZfY (te:=tPop K E0) (tt:=Zh8) (N':=["k","left","pen"]) (src:=[none,some 2,some 0]) rfl (⟨rfl,rfl,by decide +kernel,rfl,by decide +kernel,rfl,by decide +kernel,by decide +kernel⟩:BlkS _ ["pen","many","left"] (Zx Zas).names ["k","left","pen"] [none,some 2,some 0] _) (Zb0 rfl T.b_range (YF (pv 1) YX)) (λ_ _ _ _ _ _=>WO (i:=0) (show(["k","left","pen"]:List Str).Nodup by decide +kernel) rfl (qJ rfl)) (λ_ _ _ _ _ _=>ZfC)
    (λ_ _ _ _ _ _=>by unfold tPop;exact Jx yf qbM qbN Zfw (pv 1) (YF (ZeM FT hr rfl hmT hkT hbT .nil Zh7 (YF (pv 2) (YF (J6 B1 rfl T.b_len TF.boot_len (YF (pv 1) YX)) YX))) YX))))),hs⟩
end K57
namespace TF
open L2
theorem ux1 {α:Type}(us:List α)(e:us.length=1):∃a,us=[a]:=by
 cases us with | nil=>cases e | cons a r=>simp_all
theorem ux2 {α:Type}(us:List α)(e:us.length=2):∃a b,us=[a,b]:=by
 cases us with | nil=>cases e | cons a r=>obtain⟨b,rfl⟩:=ux1 r (qca e);exact⟨a,b,rfl⟩
theorem ux3 {α:Type}(us:List α)(e:us.length=3):∃a b c,us=[a,b,c]:=by
 cases us with | nil=>cases e | cons a r=>obtain⟨b,c,rfl⟩:=ux2 r (qca e);exact⟨a,b,c,rfl⟩
theorem ux4 {α:Type}(us:List α)(e:us.length=4):∃a b c d,us=[a,b,c,d]:=by
 cases us with | nil=>cases e | cons a r=>obtain⟨b,c,d,rfl⟩:=ux3 r (qca e);exact⟨a,b,c,d,rfl⟩
noncomputable def IsC (K:qk)(x:Str)(st:Stmt)(c:Addr):Prop:=∃(f:Addr) (fd:xE),qbl K mainGlobals x=some (some (.ref f))/\Fun K x x st f fd/\fd.code=.ref c
noncomputable def fnO (x:Str)(st:Stmt)(pm:Value)(c:Addr):Obj:=⟨.type "function",none,.func (yr x x (W5 st) (Wy st) (Zx st) .none .none .none pm none (.ref c) .none),#[]⟩
noncomputable def cdO (x:Str)(t:Nat)(ln ac:Int)(a:Addr)(tx k:Nat)(v:Bool):Obj:=
 ⟨.type "code",none,.fields #[.str x t,.str x (t+1),.str "/claim/cut.py" (t+2),.int ln 0,.int ac 0,.int 0 0,.int 0 0,.int 3 0,.ref a,.bool true,.int tx 0,.ref (a+1),.none,
  (match v with | true=>.ref (a+2) | false=>.none),(match v with | true=>.ref (a+3) | false=>.none),.ref (match v with | true=>a+4 | false=>a+2),.int k 0,.int ln 0,.str "/claim/cut.py" (k+1)],#[]⟩
structure DRow where
 x:Str
 i:Nat
 t:Nat
 ln:Int
 ac:Int
 a:Addr
 k:Nat
 v:Bool
 pm:Str
 pt:Nat
noncomputable def DRow.c (r:DRow):Addr:=match r.v with | true=>r.a+5 | false=>r.a+3
noncomputable def dE (P:Params)(x:Str)(t:Nat)(v:Value):DictEntry:=⟨PyData.keyHash P x,.str x t,v⟩
noncomputable abbrev nE (x:Str)(t:Nat)(a:Addr):Str×Nat×Addr:=(x,t,a)
noncomputable abbrev dR (x:Str)(i t:Nat)(ln ac:Int)(a:Addr)(k:Nat)(v:Bool)(pm:Str)(pt:Nat):DRow:=⟨x,i,t,ln,ac,a,k,v,pm,pt⟩
noncomputable def dRs (P:Params)(l:List (Str×Nat×Addr)):List DictEntry:=l.map λe=>dE P e.1 e.2.1 (.ref e.2.2)
noncomputable def ZpX (Z2:Nat->Stmt)(tx:Nat)(m:List DictEntry)(n:Nat)(rs:List DRow):qk:=
 (mainNs,⟨.type "dict",none,.dict m.toArray n,#[]⟩)::rs.flatMap λr=>[(r.c,cdO r.x r.t r.ln r.ac r.a tx r.k r.v),(r.c+1,fnO r.x (Z2 r.i) (.str r.pm r.pt) r.c)]
theorem ZpY {K:qk}{x:Str}{st:Stmt}{pm:Value}{c f:Addr}(a:qbl K mainGlobals x=some (some (.ref f)))(l:K.lookup f=some (fnO x st pm c))(cd:qao K (.ref c) x=true):IsC K x st c:=
 ⟨f,_,a,ZoU l cd (by unfold yd;dsimp only;rw[l];rfl),rfl⟩
noncomputable def Zpl:Stmt->Pos
 | .FunctionDef _ _ _ _ _ _ _ _ _ p=>p
 | _=>⟨0,0,0,0⟩
noncomputable abbrev ZhG (st:Stmt):DefRec:=⟨"law",W5 st,Wy st,Zx st,Zpl st⟩
theorem head_of {l:PySem.W.OpenLaw}{q:xF}{K:Params->qk}{as:List Addr}{e:∀P,as=(K P).map (·.1)}{N:Nat}{st:Stmt}(said:l.wellSaid=true)
  (left:PySem.W.LeftO l.prog q [] (λs=>PySem.W.xlAt q [] s&&PySem.W.recOk l.row.records s) (yQ K as e).obs (yQ K as e).val N)
  (hdef:PySem.W.defOf q l.row.name=some (ZhG st,[])) (hp:l.row.prog.theDef l.row.name=some (W5 st,Wy st,Zx st))
  (hk:PySem.W.kwWritten? (W5 st).kwonlyargs (W5 st).kw_defaults=some [])
  (ok:(PySem.W.chainsOk q&&PySem.W.opensWell l.row.prog&&(PySem.W.frees l.row.toRowW&&l.row.within.isEmpty))=true) (hb:l.row.prog.bare) (hw:l.row.toRowW.promised) (hwr:(!l.row.writes||l.row.records.isEmpty)=true)
  (call:qbZ q [] (PySem.W.XL q []) (yQ K as e).says l.row.toRowW (ZhG st) [] λf vs=>qbT f vs):l.Holds:=
 PySem.W.holds_law said λsd=>PySem.W.holds_open left (yQ K as e).of (yQ K as e).keeps (λs z=>PySem.W.xl_of s (yE.mp z).1) PySem.W.XL.keeps hdef hp hk (λs z=>PySem.W.recFacts_of (yE.mp z).2) hwr sd ok hb hw call
noncomputable def AtR (K:qk)(mg:Str->Option Value)(Z2:Nat->Stmt)(r:DRow):Prop:=∃(f:Addr) (fd:xE),Fun K r.x r.x (Z2 r.i) f fd/\mg r.x=some (.ref f)/\fd.code=.ref r.c
noncomputable def Zok (K:qk)(Z2:Nat->Stmt)(r:DRow):Prop:=qbl K mainGlobals r.x=some (some (.ref (r.c+1)))/\K.lookup (r.c+1)=some (fnO r.x (Z2 r.i) (.str r.pm r.pt) r.c)/\qao K (.ref r.c) r.x=true
noncomputable def Zfc (K:qk)(Z2:Nat->Stmt):List DRow->Prop
 | []=>True
 | r::l=>Zok K Z2 r/\Zfc K Z2 l
theorem Zgw {K:qk}{Z2:Nat->Stmt}:∀{l:List DRow} {j:Nat} {r:DRow},Zfc K Z2 l->l[j]?=some r->Zok K Z2 r
 | _::_,0,_,h,e=>by cases e;exact h.1
 | _::l,j+1,_,h,e=>Zgw h.2 e
theorem Zpm {K:qk}{h:Heap}{mg:Str->Option Value}{Z2:Nat->Stmt}{l:List DRow}(ok:Zfc K Z2 l)(X:K.In h)(G:h.Ns mainGlobals mg)(j:Nat){r:DRow}(e:l[j]?=some r:=by rfl):AtR K mg Z2 r:=by
 obtain⟨a,b,c⟩:=Zgw ok e;obtain⟨f,fd,a,F,d⟩:=ZpY a b c;exact⟨f,fd,F,PySem.W.mg_of X G a,d⟩
theorem bdc {K:qk}{x:Str}{st:Stmt}{f:Addr}{fd:xE}(ps:List Str)(F:Fun K x x st f fd)
  (h:∀(kV doc pm:Value) (an:Option Addr) (cdv ct:Value) (us:List Value),us.length=ps.length->bindArgs (yr x x (W5 st) (Wy st) (Zx st) .none kV doc pm an cdv ct) ⟨us,[]⟩=pure (ps.zip us):=by
   intro _ _ _ _ _ _ us hl
   first
    | (obtain⟨_,rfl⟩:=TF.ux1 us hl;rfl)
    | (obtain⟨_,_,rfl⟩:=TF.ux2 us hl;rfl)
    | (obtain⟨_,_,_,rfl⟩:=TF.ux3 us hl;rfl)
    | (obtain⟨_,_,_,_,rfl⟩:=TF.ux4 us hl;rfl)
    | (obtain⟨_,_,_,_,_,rfl⟩:=TF.ux5 us hl;rfl)
    | (obtain⟨_,_,_,_,_,_,rfl⟩:=TF.ux6 us hl;rfl)
    | (obtain⟨_,_,_,_,_,_,_,rfl⟩:=TF.ux7 us hl;rfl)
    | (obtain rfl:=TF.ux0 us hl;rfl)):Wh K fd ps []:=F.binds h
theorem mkc {P:xF}{w:World}{K:qk}{mg:Str->Option Value}(base:Heap){x:Str}{st:Stmt}{f:Addr}{fd:xE}{k n:Nat}{ps:List Str}{fr:Bool}{GG:Gh->Prop}{F9:List D->M D}(F:Fun K x x st f fd)(m:mg x=some (.ref f))(ok:FnOk P w K mg base ZQ k f fd ps (Yj n fr GG F9))
  (h:∀(kV doc pm:Value) (an:Option Addr) (cdv ct:Value) (us:List Value),us.length=ps.length->bindArgs (yr x x (W5 st) (Wy st) (Zx st) .none kV doc pm an cdv ct) ⟨us,[]⟩=pure (ps.zip us):=by
   intro _ _ _ _ _ _ us hl
   first
    | (obtain⟨_,rfl⟩:=TF.ux1 us hl;rfl)
    | (obtain⟨_,_,rfl⟩:=TF.ux2 us hl;rfl)
    | (obtain⟨_,_,_,rfl⟩:=TF.ux3 us hl;rfl)
    | (obtain⟨_,_,_,_,rfl⟩:=TF.ux4 us hl;rfl)
    | (obtain⟨_,_,_,_,_,rfl⟩:=TF.ux5 us hl;rfl)
    | (obtain⟨_,_,_,_,_,_,rfl⟩:=TF.ux6 us hl;rfl)
    | (obtain⟨_,_,_,_,_,_,_,rfl⟩:=TF.ux7 us hl;rfl)
    | (obtain rfl:=TF.ux0 us hl;rfl)):ZL P w K mg base k x n fr GG F9:=⟨f,fd,ps,ok,m,F.kp,F.binds h⟩
end TF
namespace TP2
open L2 TF TP
noncomputable abbrev nD (i:Nat):D:=.int (i:Int)
noncomputable def ZH (k:List Nat):D:=.tup (k.map nD)
noncomputable def WY (jJ:Qa)(i:Nat)(k:List Nat):Bool:=k.all λo=>decide ((o,i)∈jJ)
noncomputable def kn (jJ:Qa):Nat->List (List Nat)
 | 0=>[[]]
 | i+1=>kn jJ i++((kn jJ i).filter (WY jJ i)).map (· ++ [i])
theorem Ju:∀{i:Nat} {k:List Nat},k∈kn jJ i->(∀o∈k,o<i)/\k.length<=i
 | 0,k,h=>by
  have:=by simpa[kn]using h
  subst this;simp
 | i+1,k,h=>by
  rcases qZ.mp h with h | h
  ·have:=Ju h
   exact⟨λo ho=>zB (this.1 o ho),by omega⟩
  ·obtain⟨q,hq,rfl⟩:=qt.mp h
   have:=Ju (qm.mp hq).1;refine⟨λo ho=>?_,by simp;omega⟩;rcases qZ.mp ho with ho | ho
   ·exact zB (this.1 o ho)
   ·grind
theorem ZhH (jJ:Qa):∀i,(kn jJ i).length<=2 ^ i
 | 0=>by simp[kn]
 | i+1=>by
  have h:=ZhH jJ i;have h2:=za (WY jJ i) (kn jJ i);rw[kn,zl,qj];omega
theorem Zl0 (p:Nat×Nat)(jJ:Qa):Ys (Zr p) (.dt (Z8 [] jJ))=some (.bl (decide (p∈jJ))):=by
 have e:Us (Zr p) (.dt (Z8 [] jJ))=some (decide (p∈jJ)):=by
  show some ((Z1 (Z8 [] jJ) (WW p)).isSome)=_;rw[ZfU];simp[Z1]
 unfold Ys;rw[e];rfl
theorem ZjV {α:Type}(l:List α)(p:α->Bool):BC [.lst (l.map λx=>D.bl (p x))]=some (.bl (l.all p)):=by
 show(Y7 _).map _=_;rw[show l.map (λx=>D.bl (p x))=(l.map p).map D.bl by rw[qw];rfl,Zcj];simp
theorem ZiF (k:List Nat)(i:Nat)(h:k.length<=1000):Y0 (ZH k) (.tup [nD i])=some (ZH (k ++ [i])):=by
 unfold ZH;show(if (k.map nD).length + [nD i].length<=xh then some (D.tup (k.map nD ++ [nD i]))else none)=_;rw[if_pos (by rw[Yf];simp;omega),zQ];rfl
noncomputable def Z5 (n:Nat)(jJ:Qa)(p:Nat):List Nat:=(qf n).filter λo=>tied jJ p o
noncomputable def Yl (n:Nat)(jJ:Qa):D:=.lst ((qf n).map λp=>.lst ((Z5 n jJ p).map nD))
theorem Zco (n:Nat)(jJ:Qa)(hn:n<=100000)(s:Pn):F_all_near [ZU n jJ] s=some (Yl n jJ,s):=by
 refine Xe rfl (YG (Y8 ?_));have hc:=YK (src:=[none,some 0]) (fi:=Z3 (Ze Zk (Za 0) (dC (.int 0)))) (τ:=Zt 0) (ft:=Z7) (fe:=Zm VQ (Zb (Za 1) (Zb (Za 0) Zd))) (ρ:=[some (ZU n jJ)]) (λd=>[some d,some (ZU n jJ)]) (λ_=>true) (λd=>.lst ((Z5 n jJ (ZZ d)).map nD)) (Xy (ZC rfl rfl JK) hn) (Bg hn) λd hd=>by
  obtain⟨i,hi,rfl⟩:=Ve hd;exact⟨rfl,rfl,λ_=>Z4 (Zh rfl (Zh rfl rfl)) (Zm2 n jJ i s hn)⟩
 rw[W1,Vh,qw]at hc;exact hc
theorem ZhI (a b:Nat):ZK (nD a) (nD b)=decide (a=b):=by
 show((a:Int)==(b:Int))=_
 grind
theorem Zl1 (o:Nat)(l:List Nat):WJ (nD o) (l.map nD)=decide (o∈l):=by
 unfold WJ
 induction l with
 | nil=>simp
 | cons t ts ih=>
  rw[yc,qaF,ih,ZhI]
  grind
theorem Zdv (l:List Nat):YN (l.map nD)=true:=by
 induction l with
 | nil=>rfl
 | cons a l ih=>simp[YN,Zs,ih]
theorem ZiG (l:List Nat):XE (l.map nD)=0:=by
 induction l with
 | nil=>simp[XE]
 | cons a l ih=>simp[XE,Yr,ih]
theorem Zgx (o:Nat)(l:List Nat):Ys (nD o) (.lst (l.map nD))=some (.bl (decide (o∈l))):=by
 have h:WF (nD o) (l.map nD)=true:=by simp[WF,Zs,Zdv,Yr,ZiG]
 simp only[Ys,Us,h,if_true,Option.map,Zl1]
noncomputable def Uy (n:Nat)(jJ:Qa)(i:Nat)(k:List Nat):Bool:=k.all λo=>decide (o∈Z5 n jJ i)
theorem Zcp (n:Nat)(jJ:Qa)(i:Nat)(hi:i<n)(k:List Nat)(hk:k.length<=1000)(s:Pn):V7 [Yl n jJ,nD i,ZH k] s=some (.bl (Uy n jJ i k),s):=by
 refine Xe rfl (YG (Y8 ?_));have hx:Zk (Yl n jJ) (nD i)=some (.lst ((Z5 n jJ i).map nD)):=by
  refine X2 ?_;simp_all
 have hc:=YK (src:=[none,some 0,some 1]) (fi:=Vk (Za 2)) (τ:=Zt 0) (ft:=Z7) (fe:=Ze Ys (Za 0) (Ze Zk (Za 1) (Za 2))) (ρ:=[some (Yl n jJ),some (nD i),some (ZH k)]) (s:=s) (λd=>[some d,some (Yl n jJ),some (nD i)]) (λ_=>true) (λd=>.bl (decide (ZZ d∈Z5 n jJ i))) (Zim rfl) (by rw[qj,Yf];omega) (λd hd=>by
  obtain⟨o,ho,rfl⟩:=qt.mp hd;exact⟨rfl,rfl,λ_=>ZC rfl (ZC rfl rfl hx) (Zgx o _)⟩)
 rw[W1,qw]at hc;exact Yy (Zh hc rfl) (ZjV k λo=>decide (o∈Z5 n jJ i))
theorem Znv (hi:i<n)(hk:∀o∈k,o<i):Uy n jJ i k=WY jJ i k:=by
 unfold Uy WY;rw[qae];have e:∀o∈k,(decide (o∈Z5 n jJ i)=true↔decide ((o,i)∈jJ)=true):=λo ho=>by
  have h1:=hk o ho;unfold Z5;rw[decide_eq_true_eq,qm,VL,Uf h1]
  grind
 simp_all
theorem Zfd (n:Nat)(jJ:Qa)(hn:n<=20)(s:Pn):U7 [Yl n jJ] s=some (.lst ((kn jJ n).map ZH),s):=by
 have p20:∀i,i<=20->2 ^ i<=1048576:=λi hi=>qbW (by omega) hi;have jQ:∀(r:List (Option D)),ZF Yi (Zb (Za 0) Zd) (some (Yl n jJ)::r) s=some (nD n,s):=λr=>Yy (Zh rfl rfl) (by show some (D.int (((qf n).map _).length:Nat))=_;rw[qj,qI]);apply jv;refine Ok.runB rfl ?_;refine Ok.seq (.sset (.eq (a:=.lst [.tup []]) (Zm7 (Wg rfl (by decide))) ?_));refine Ok.seq (.sfor (λi ρ s'=>s=s'/\∃o2,ρ=[some (Yl n jJ),some (.lst ((kn jJ i).map ZH)),o2]) (.eq (Xy (jQ _) (by omega)) ⟨⟨rfl,none,rfl⟩,λi d ρ s' hd hI=>?_,fun ρ' s' hI=>?_⟩))
 ·obtain⟨rfl,o2,rfl⟩:=hI
  obtain⟨hi,rfl⟩:=V9 hd;refine⟨_,rfl,?_⟩;have hkl:=ZhH jJ i;have hpi:=p20 i (by omega);have U3:∀k:List Nat,(match ZH k with | .tup ds=>ds.map ZZ | _=>[])=k:=λk=>by
   unfold ZH;show(k.map nD).map ZZ=k;rw[qw];exact qaX k
  have hc:=YK (src:=[none,some 2,some 0]) (fi:=ZV (Za 1)) (τ:=Zt 0) (ft:=asB (Zm V7 (Zb (Za 2) (Zb (Za 1) (Zb (Za 0) Zd))))) (fe:=Ze Y0 (Za 0) (ZT (Zb (Za 1) Zd))) (ρ:=[some (Yl n jJ),some (.lst ((kn jJ i).map ZH)),some (nD i)]) (s:=s) (ds:=(kn jJ i).map ZH) (λd=>[some d,some (nD i),some (Yl n jJ)]) (λd=>WY jJ i (match d with | .tup ds=>ds.map ZZ | _=>[])) (λd=>ZH ((match d with | .tup ds=>ds.map ZZ | _=>[]) ++ [i])) (XI rfl) (by rw[qj,Yf];omega) (λd hd=>by
   obtain⟨k,hk,rfl⟩:=qt.mp hd;have hkm:=Ju hk;have e:=Zcp n jJ i hi k (by omega) s;rw[Znv hi hkm.1]at e;refine⟨rfl,?_,λ_=>?_⟩
   ·rw[U3];exact Yp (Z4 (Zh rfl (Zh rfl (Zh rfl rfl))) e)
   ·rw[U3];exact ZC (d:=ZH k) (e:=.tup [nD i]) rfl (Zin rfl) (ZiF k i (by omega)))
  have e2:(((kn jJ i).map ZH).filter λd=>WY jJ i (match d with | .tup ds=>ds.map ZZ | _=>[])).map (λd=>ZH ((match d with | .tup ds=>ds.map ZZ | _=>[]) ++ [i]))=(((kn jJ i).filter (WY jJ i)).map (· ++ [i])).map ZH:=by
   rw[zR,qw,qw];have:((λd=>WY jJ i (match d with | .tup ds=>ds.map ZZ | _=>[]))∘ZH)=WY jJ i:=by
    funext k;show WY jJ i (match ZH k with | .tup ds=>ds.map ZZ | _=>[])=_;rw[U3]
   rw[this];refine zm λk _=>?_;show ZH ((match ZH k with | .tup ds=>ds.map ZZ | _=>[]) ++ [i])=_;rw[U3];rfl
  rw[e2]at hc;have hf:((kn jJ i).filter (WY jJ i)).length<=(kn jJ i).length:=za _ _;refine Ok.seq (.sset (.eq (ZC (d:=.lst ((kn jJ i).map ZH)) (c:=.lst ((kn jJ (i+1)).map ZH)) rfl hc ?_) ?_))
  ·show(if _<=xh then some (D.lst _)else none)=_
   rw[if_pos (by simp only[qj,Yf];omega),<-zQ];rfl
  ·exact .next ⟨_,rfl,rfl,some (nD i),rfl⟩
 ·obtain⟨rfl,o2,rfl⟩:=hI
  rw[Xk];exact Ok.seq (.sret (.eq rfl ⟨rfl,rfl⟩))
noncomputable def Wu (l:List Nat):Nat:=l.foldl max 0
theorem Zfe (l:List Nat):∀a,a<=l.foldl max a/\∀x∈l,x<=l.foldl max a:=by
 induction l with
 | nil=>simp
 | cons b l ih=>
  intro a
  grind
theorem Zff (l:List Nat)(b:Nat)(h:∀x∈l,x<=b):∀a,a<=b->l.foldl max a<=b:=by
 induction l with
 | nil=>simp
 | cons c l ih=>
  grind
theorem Zgy (l:List Nat):∀a:Nat,maxI (a:Int) (l.map λ(i:Nat)=>(i:Int))=((l.foldl max a:Nat):Int):=by
 induction l with
 | nil=>intro a;rfl
 | cons b l ih=>
  intro a;show maxI (max (a:Int) (b:Int)) (l.map λ(i:Nat)=>(i:Int))=_;rw[show max (a:Int) (b:Int)=((max a b:Nat):Int) by omega,ih];rfl
theorem B8 (l:List Nat):ZE (l.map nD)=some (l.map λ(i:Nat)=>(i:Int)):=by
 have:=JZ (l.map λ(i:Nat)=>(i:Int));rw[qw]at this;exact this
theorem Zgz:∀{a b:List Nat},a.Pairwise (· < ·)->b.Pairwise (· < ·)->(∀x,x∈a↔x∈b)->a=b
 | [],[],_,_,_=>rfl
 | [],y::b,_,_,h=>absurd ((h y).mpr (by simp)) (by simp)
 | x::a,[],_,_,h=>absurd ((h x).mp (by simp)) (by simp)
 | x::a,y::b,ha,hb,h=>by
  have ha':=zt.mp ha;have hb':=zt.mp hb;have e:x=y:=by
   have h1:=(h x).mp (by simp);have h2:=(h y).mpr (by simp)
   grind
  subst e;rw[Zgz ha'.2 hb'.2 λz=>?_]
  grind
theorem Za6 {α:Type}(q:α->Bool):∀l:List α,l.length=(l.filter q).length+(l.filter λx=>!q x).length
 | []=>rfl
 | a::l=>by
  have:=Za6 q l
  grind
theorem Zez {α:Type}{p:Nat->α->Bool}:∀(B:List Nat) (L:List α),(∀K∈L,∃u∈B,p u K=true)->(∀u∈B,(L.filter (p u)).length<=m)->L.length<=B.length*m
 | [],L,h,_=>by
  cases L with
  | nil=>simp
  | cons K L=>obtain⟨u,hu,_⟩:=h K (by simp);simp at hu
 | u::B,L,h,hm=>by
  have e:=Za6 (p u) L;have h1:=hm u (by simp);have h2:=Zez B (L.filter λK=>!p u K) (λK hK=>by
   obtain⟨hL,hn⟩:=qm.mp hK;obtain⟨w,hw,pw⟩:=h K hL;rcases qy.mp hw with rfl | hw
   ·rw[pw]at hn;simp at hn
   ·exact⟨w,hw,pw⟩) (λw hw=>by
   refine qV (List.Sublist.length_le ?_) (hm w (qY _ hw));exact List.Sublist.filter (p w) (qP))
  rw[zo,Nat.succ_mul];omega
theorem Zfg (f:Nat->Nat):∀(V:List Nat),V≠[]->∃v∈V,∀u∈V,f u<=f v
 | [],h=>absurd rfl h
 | [x],_=>⟨x,by simp,λu hu=>by simp_all⟩
 | x::y::V,_=>by
  obtain⟨v,hv,h⟩:=Zfg f (y::V) (by simp)
  grind
structure Full (adj:Nat->Nat->Bool)(V K:List Nat):Prop where
 rise:K.Pairwise (· < ·)
 sub:∀o∈K,o∈V
 tie:∀a∈K,∀b∈K,a≠b->adj a b=true
 full:∀v∈V,¬∀o∈K,adj v o=true
noncomputable def mm:List Nat:=[1,1,2,3,4,6,9,12,18,27,36]
theorem Znw:∀n≤10,∀d<n,(n-d)*mm.getD d 0<=mm.getD n 0:=by decide
theorem ZiH:∀b≤10,∀a≤b,mm.getD a 0<=mm.getD b 0:=by decide
theorem ZhJ (sy:∀a b,adj a b=adj b a)(ir:∀a,adj a a=false):∀(n:Nat),n<=10->∀(V:List Nat) (L:List (List Nat)),V.length=n->L.Nodup->(∀K∈L,Full adj V K)->L.length<=mm.getD n 0:=by
 intro n
 induction n using Nat.strongRecOn with
 | _ n ih=>
  intro hn V L hV nd hL;by_cases h0:V=[]
  ·subst h0
   have hn0:n=0:=by simpa using hV.symm
   subst hn0
   match L,nd,hL with
   | [],_,_=>simp
   | [_],_,_=>simp[mm]
   | a::b::L,nd,hL=>
    exfalso;have e:∀K,Full adj [] K->K=[]:=λK h=>by
     cases K with
     | nil=>rfl
     | cons x K=>exact absurd (h.sub x (by simp)) (by simp)
    have h1:=e a (hL a (by simp));have h2:=e b (hL b (by simp));rw[h1,h2]at nd;simp at nd
  ·obtain⟨v,hv,hmax⟩:=Zfg (λu=>(V.filter (adj u)).length) V h0
   have hd:(V.filter (adj v)).length<n:=by
    rw[<-hV];refine Nat.lt_of_le_of_ne (za _ _) λe=>?_;have:=(List.length_filter_eq_length_iff.mp e) v hv;rw[ir]at this;cases this
   have hB:(V.filter λu=>!adj v u).length=n-(V.filter (adj v)).length:=by
    have:=Za6 (adj v) V;omega
   have hc:=Zez (p:=λu K=>decide (u∈K)) (m:=mm.getD (V.filter (adj v)).length 0) (V.filter λu=>!adj v u) L (λK hK=>?_) λu hu=>?_
   ·rw[hB]at hc
    exact qV hc (Znw n hn _ hd)
   ·have F:=hL K hK
    by_cases h:∃o∈K,adj v o=false
    ·obtain⟨o,ho,e⟩:=h
     exact⟨o,qm.mpr ⟨F.sub o ho,by rw[e];rfl⟩,by simpa using ho⟩
    ·exfalso
     refine F.full v hv λo ho=>?_
     cases e:adj v o with
     | true=>rfl
     | false=>exact absurd ⟨o,ho,e⟩ h
   ·have hu':=(qm.mp hu).1
    have hdu:(V.filter (adj u)).length<=(V.filter (adj v)).length:=hmax u hu';have hnd:((L.filter λK=>decide (u∈K)).map λK=>K.filter λo=>decide (o≠u)).Nodup:=by
     refine zr.mpr ((List.Nodup.sublist (qP (p:=λK=>decide (u∈K)) (l:=L)) nd).imp_of_mem λ{a b} ha hb hab e=>hab ?_);obtain⟨ha1,ha2⟩:=qm.mp ha;obtain⟨hb1,hb2⟩:=qm.mp hb;simp at ha2 hb2;refine Zgz (hL a ha1).rise (hL b hb1).rise λx=>?_;by_cases hx:x=u
     ·subst hx;exact⟨λ_=>hb2,λ_=>ha2⟩
     ·have q:x∈a.filter (λo=>decide (o≠u))↔x∈b.filter λo=>decide (o≠u):=by rw[e]
      simpa[hx]using q
    have:=ih (V.filter (adj u)).length (by omega) (by omega) (V.filter (adj u)) _ rfl hnd λK hK=>?_
    ·rw[qj]at this
     exact qV this (ZiH _ (by omega) _ hdu)
    ·obtain⟨K0,hK0,rfl⟩:=qt.mp hK
     obtain⟨hK1,hK2⟩:=qm.mp hK0;simp at hK2;have F:=hL K0 hK1;refine⟨F.rise.sublist qP,λo ho=>?_,λa ha b hb=>F.tie a (qm.mp ha).1 b (qm.mp hb).1,λx hx z=>?_⟩
     ·obtain⟨h1,h2⟩:=qm.mp ho
      simp at h2;exact qm.mpr ⟨F.sub o h1,F.tie u hK2 o h1 (zh h2)⟩
     ·obtain⟨h1,h2⟩:=qm.mp hx
      refine F.full x h1 λo ho=>?_;by_cases ho2:o=u
      ·simp_all
      ·simp_all
noncomputable def RT (jJ:Qa)(a b:Nat):Prop:=a<b/\(a,b)∈jJ
theorem UL:∀{n:Nat} {k:List Nat},k∈kn jJ n↔k.Pairwise (RT jJ)/\∀o∈k,o<n
 | 0,k=>by
  constructor
  ·intro h
   have:k=[]:=by simpa[kn]using h
   subst this;exact⟨.nil,by simp⟩
  ·rintro⟨_,h⟩
   cases k with
   | nil=>simp[kn]
   | cons a k=>exact absurd (h a (by simp)) (by omega)
 | n+1,k=>by
  rw[kn,qZ];constructor
  ·rintro(h | h)
   ·have:=UL.mp h
    exact⟨this.1,λo ho=>zB (this.2 o ho)⟩
   ·obtain⟨q,hq,rfl⟩:=qt.mp h
    obtain⟨hq1,hq2⟩:=qm.mp hq;have:=UL.mp hq1;unfold WY at hq2;rw[yz]at hq2;refine⟨yw.mpr ⟨this.1,by simp,λa ha b hb=>?_⟩,λo ho=>?_⟩
    ·rw[qQ.mp hb]
     exact⟨this.2 a ha,by simpa using hq2 a ha⟩
    ·rcases qZ.mp ho with ho | ho
     ·exact zB (this.2 o ho)
     ·rw[qQ.mp ho];omega
  ·rintro⟨h1,h2⟩
   by_cases hn:n∈k
   ·right
    obtain⟨a,b,rfl⟩:=List.append_of_mem hn;have hp:=yw.mp h1;have hb:b=[]:=by
     cases b with
     | nil=>rfl
     | cons y b=>
      have r1:=(zt.mp hp.2.1).1 y (by simp);have:=h2 y (by simp);have:=r1.1;omega
    subst hb;have ha:=λo ho=>hp.2.2 o ho n (by simp);refine qt.mpr ⟨a,qm.mpr ⟨UL.mpr ⟨hp.1,λo ho=>(ha o ho).1⟩,?_⟩,rfl⟩;unfold WY;rw[yz];exact λo ho=>by simpa using(ha o ho).2
   ·left
    refine UL.mpr ⟨h1,λo ho=>?_⟩
    grind
theorem ZbS (jJ:Qa):∀n,(kn jJ n).Nodup
 | 0=>by simp[kn]
 | n+1=>by
  refine yw.mpr ⟨ZbS jJ n,?_,λa ha b hb e=>?_⟩
  ·refine zr.mpr (((ZbS jJ n).sublist qP).imp λh e=>h ?_)
   simp_all
  ·obtain⟨q,_,rfl⟩:=qt.mp hb
   have:=(Ju ha).1 n (by rw[e];simp);omega
theorem ZcK (h:k∈kn jJ n):k.Pairwise (· < ·):=(UL.mp h).1.imp λh=>h.1
theorem Zfh {k:List Nat}(hr:k.Pairwise (· < ·))(h:k.Pairwise R)(ha:a∈k)(hb:b∈k)(hab:a<b):R a b:=by
 obtain⟨i,hi,rfl⟩:=yM ha;obtain⟨j,hj,rfl⟩:=yM hb;have p1:=zf.mp hr;have p2:=zf.mp h;rcases yC i j with z | z | z
 ·simp_all
 ·simp_all
 ·have:=p1 j i hj hi z;omega
theorem IsWeb.irr (h:IsWeb n jJ)(a:Nat):tied jJ a a=false:=by
 unfold tied;rw[decide_eq_false_iff_not];intro z;have h1:=(TP.IsWeb.mem h z).1;omega
noncomputable def Bi (n:Nat)(jJ:Qa)(k:List Nat):Bool:=!(qf n).any λp=>Uy n jJ p k
noncomputable def Xz (n:Nat)(jJ:Qa):List (List Nat):=(kn jJ n).filter (Bi n jJ)
theorem Znx (h:k∈Xz n jJ):Full (tied jJ) (qf n) k:=by
 obtain⟨h1,h2⟩:=qm.mp h;have hk:=UL.mp h1;refine⟨ZcK h1,λo ho=>qu.mpr (hk.2 o ho),λa ha b hb hab=>?_,λv hv z=>?_⟩
 ·by_cases hlt:a<b
  ·rw[Uf hlt];simpa using(Zfh (ZcK h1) hk.1 ha hb hlt).2
  ·have hlt:b<a:=by omega
   rw[VL,Uf hlt];simpa using(Zfh (ZcK h1) hk.1 hb ha hlt).2
 ·unfold Bi at h2
  rw[Bool.not_eq_true',List.any_eq_false]at h2;refine h2 v hv ?_;unfold Uy Z5;simp_all
theorem Zl2 (hw:IsWeb n jJ)(hn:n<=10):(Xz n jJ).length<=36:=by
 have:=ZhJ (VL jJ) (IsWeb.irr hw) n hn (qf n) (Xz n jJ) (by simp) ((ZbS jJ n).sublist qP) λK hK=>Znx hK;exact qV this (ZiH 10 (qq _) n hn)
theorem Zny (h:2<=(Xz n jJ).length):∀k∈Xz n jJ,k≠[]:=by
 intro k hk e;subst e;have h2:=(qm.mp hk).2;unfold Bi at h2;rw[Bool.not_eq_true',List.any_eq_false]at h2
 cases n with
 | zero=>
  have:(Xz 0 jJ).length<=(kn jJ 0).length:=za _ _;simp[kn]at this;omega
 | succ n=>exact h2 0 (by simp) (by simp[Uy])
end TP2
namespace TP3
open L2 TF TP TS
open TP2
theorem ZeA {α:Type}(l:List α)(p:α->Bool):UV [.lst (l.map λx=>D.bl (p x))]=some (.bl (l.any p)):=by
 show(Y7 _).map _=_;rw[show l.map (λx=>D.bl (p x))=(l.map p).map D.bl by rw[qw];rfl,Zcj];simp
theorem ZhK (n:Nat)(jJ:Qa)(hn:n<=100000)(k:List Nat)(hk:k.length<=1000)(s:Pn):Jc [Yl n jJ,ZH k] s=some (.bl (Bi n jJ k),s):=by
 refine Xe rfl (YG (Y8 ?_));have jQ:ZF Yi (Zb (Za 0) Zd) [some (Yl n jJ),some (ZH k)] s=some (nD n,s):=Yy (Zh rfl rfl) (by show some (D.int (((qf n).map _).length:Nat))=_;simp);have hc:=YK (src:=[none,some 0,some 1]) (τ:=Zt 0) (ft:=Z7) (fe:=Zm V7 (Zb (Za 1) (Zb (Za 0) (Zb (Za 2) Zd)))) (λd=>[some d,some (Yl n jJ),some (ZH k)]) (λ_=>true) (λd=>.bl (Uy n jJ (ZZ d) k)) (Xy jQ hn) (Bg hn) (λd hd=>by
  obtain⟨i,hi,rfl⟩:=Ve hd;exact⟨rfl,rfl,λ_=>Z4 (Zh rfl (Zh rfl (Zh rfl rfl))) (Zcp n jJ i hi k hk s)⟩)
 rw[W1,Vh,qw]at hc;exact Zil (Yy (Zh hc rfl) (ZeA (qf n) λp=>Uy n jJ p k))
noncomputable def Yg (k:List Nat):List Int:=k.map λ(x:Nat)=>(x:Int)
theorem Zl3 (k:List Nat):ZH k=Xv (Yg k):=by
 unfold ZH Xv Yg;rw[qw];rfl
theorem ZjW (h:Yg a=Yg b):a=b:=by
 exact(List.map_inj_right (λx y e=>by omega)).mp h
noncomputable def By (n:Nat)(jJ:Qa):List D:=(XM ((Xz n jJ).map Yg)).map Xv
theorem ZjX (hw:IsWeb n jJ)(hn:n<=10):UH [.lst ((Xz n jJ).map ZH)]=some (.lst (By n jJ)):=by
 have e:(Xz n jJ).map ZH=((Xz n jJ).map Yg).map Xv:=by
  rw[qw];exact zm λk _=>Zl3 k
 show(match WQ ((Xz n jJ).map ZH)with | some jP=>if Vy jP then some (D.lst ((XM jP).map Xv))else none | none=>none)=_;rw[e,Zbv];show(if Vy ((Xz n jJ).map Yg)then some (D.lst ((XM ((Xz n jJ).map Yg)).map Xv))else none)=_;have hl:=Zl2 hw hn;have ok:Vy ((Xz n jJ).map Yg):=by
  refine⟨by grind,?_,λh2 ns hns=>?_⟩
  ·refine zr.mpr (zL.imp (λ{a b} h e=>h (ZjW e)) ((ZbS jJ n).sublist (qP)))
  ·obtain⟨k,hk,rfl⟩:=qt.mp hns
   rw[qj]at h2;have:=Zny h2 k hk
   cases k with
   | nil=>simp_all
   | cons a k=>exact λz=>by cases z
 rw[if_pos ok];rfl
theorem U3 (k:List Nat):(match ZH k with | .tup ds=>ds.map ZZ | _=>[])=k:=by
 show(k.map nD).map ZZ=k;rw[qw];exact qaX k
theorem ZgA (l:List (List Nat))(f:List Nat->Bool):(((l.map ZH).filter λd=>f (match d with | .tup ds=>ds.map ZZ | _=>[])).map λd=>d)=(l.filter f).map ZH:=by
 rw[zR,qw];have:((λd=>f (match d with | .tup ds=>ds.map ZZ | _=>[]))∘ZH)=f:=by
  funext k;show f (match ZH k with | .tup ds=>ds.map ZZ | _=>[])=_;rw[U3]
 rw[this];rfl
theorem Zl4 (hn:n<=10):(kn jJ n).length<=1024:=by
 have:=ZhH jJ n;have:2 ^ n<=2 ^ 10:=qbW (by omega) hn;omega
theorem ZdZ (n:Nat)(jJ:Qa)(hw:IsWeb n jJ)(hn:n<=10)(s:Pn):F_full_knots [ZU n jJ] s=some (.lst (By n jJ),s):=by
 refine Xe rfl (Y3 (XT (Z4 (Zh rfl rfl) (Zco n jJ (by omega) s))) (YG (Y8 ?_)));have hkn:=Zl4 (jJ:=jJ) hn;have hc:=YK (src:=[none,some 1]) (fi:=ZV (Zm U7 (Zb (Za 1) Zd))) (τ:=Zt 0) (ft:=asB (Zm Jc (Zb (Za 1) (Zb (Za 0) Zd)))) (fe:=Za 0) (ρ:=[some (ZU n jJ),some (Yl n jJ)]) (λd=>[some d,some (Yl n jJ)]) (λd=>Bi n jJ (match d with | .tup ds=>ds.map ZZ | _=>[])) (λd=>d) (XI (Z4 (Zh rfl rfl) (Zfd n jJ (by omega) s))) (by rw[qj,Yf];omega) (λd hd=>by
  obtain⟨k,hk,rfl⟩:=qt.mp hd;have hkm:=Ju hk;refine⟨rfl,?_,λ_=>rfl⟩;rw[U3];exact Yp (Z4 (Zh rfl (Zh rfl rfl)) (ZhK n jJ (by omega) k (by omega) s)))
 rw[ZgA]at hc;exact Yy (Zh hc rfl) (ZjX hw hn)
theorem Ug:k∈kn jJ n↔k.Pairwise (· < ·)/\(∀o∈k,o<n)/\∀a∈k,∀b∈k,a≠b->tied jJ a b=true:=by
 rw[UL];constructor
 ·rintro⟨h1,h2⟩
  have hr:=h1.imp λh=>h.1;refine⟨hr,h2,λa ha b hb hab=>?_⟩;by_cases hlt:a<b
  ·rw[Uf hlt];simpa using(Zfh hr h1 ha hb hlt).2
  ·have hlt:b<a:=by omega
   rw[VL,Uf hlt];simpa using(Zfh hr h1 hb ha hlt).2
 ·rintro⟨hr,h2,h3⟩
  refine⟨?_,h2⟩;refine zP (λ{a b} ha hb hab=>?_) hr;refine⟨hab,?_⟩;have:=h3 a ha b hb (by omega);rw[Uf hab]at this;simp_all
theorem range_rise (n:Nat):(qf n).Pairwise (· < ·):=qaE
theorem ZaG {k:List Nat}(h:k.Pairwise (· < ·)):k.Nodup:=h.imp λh=>by omega
section
variable {m n:Nat}{f:Nat->Nat}{tm tn:Qa}
theorem W2 {α:Type}[BEq α][LawfulBEq α]:∀{a b:List α},a.Nodup->(∀x∈a,x∈b)->a.length<=b.length
 | [],_,_,_=>by simp
 | x::a,b,nd,h=>by
  have nd':=zq.mp nd;have ih:=W2 nd'.2 λy hy=>(List.mem_erase_of_ne (λ(z:y=x)=>nd'.1 (by simp_all))).mpr (h y (by simp[hy]))
  grind
theorem Znz (h:∃r,l=0::r):Wu l∈l:=by
 have key:∀(l:List Nat) (a:Nat),l.foldl max a=a∨l.foldl max a∈l:=by
  intro l
  induction l with
  | nil=>intro a;simp
  | cons b l ih=>
   grind
 obtain⟨r,rfl⟩:=h;rcases key (0::r) 0 with e | e
 ·unfold Wu;rw[e];simp
 ·exact e
theorem Zl5 (h:x∈l):x<=Wu l:=(Zfe l 0).2 x h
end
theorem ZbT (jJ:Qa)(a b:Nat)(s:Pn):Ww [.dt (Z8 [] jJ),.int a,.int b] s=some (.bl (tied jJ a b),s):=by
 simp[Ww,Zbr,runB,Zg,ZN,Ze,ZF,Zb,Zd,ZT,Za,Zp,Zy,YI,Um,Zie,two_le,Zc5,Zl0,tied]
theorem Zfi {as:List Nat}(hj:j<as.length):Wl (as.map nD) (j:Int)=some (nD (as.getD j 0)):=by
 refine X2 ?_;simp_all
theorem ZjY (ps:List Nat):Yi [.lst (ps.map nD)]=some (nD ps.length):=by
 show some (D.int ((ps.map nD).length:Nat))=_;simp
noncomputable def US (l:List Nat):List Nat:=(qf (l.length+1)).filter λh=>!decide (h∈l)
theorem ZiI (l:List Nat):US l≠[]:=λh=>by
 have:=W2 zw λx hx=>by
  by_cases m:x∈l
  ·exact m
  ·have:x∈US l:=qm.mpr ⟨hx,by simpa using m⟩
   simp_all
 grind
noncomputable def XR (l:List Nat):Nat:=(US l).headD 0
theorem Ba (l:List Nat):XR l∉l/\∀x<XR l,x∈l:=by
 have hne:=ZiI l
 cases e:US l with
 | nil=>exact absurd e hne
 | cons m r=>
  have hm:XR l=m:=by unfold XR;rw[e];rfl
  have h1:m∈US l:=by rw[e];simp
  have h2:=qm.mp h1;rw[hm];refine⟨by simpa using h2.2,λx hx=>?_⟩;by_cases mx:x∈l
  ·exact mx
  ·have hr:=qu.mp h2.1
   have h3:x∈US l:=qm.mpr ⟨qu.mpr (by omega),by simpa using mx⟩;have h4:(US l).Pairwise (· < ·):=(range_rise _).sublist qP;rw[e]at h3 h4;rcases qy.mp h3 with z | z
   ·omega
   ·have:=(zt.mp h4).1 x z
    omega
theorem Zl6 (h1:m∉l)(h2:∀x<m,x∈l):m=XR l:=by
 obtain⟨g1,g2⟩:=Ba l;rcases yC m (XR l)with h | h | h
 ·simp_all
 ·exact h
 ·simp_all
theorem ZeB (h:∀x,x∈l↔x∈l'):XR l=XR l':=by
 obtain⟨g1,g2⟩:=Ba l;exact Zl6 (λz=>g1 ((h _).mpr z)) λx hx=>(h x).mp (g2 x hx)
theorem Zpn (l:List Nat):XR l<=l.length:=by
 have h:=W2 zw λx hx=>(Ba l).2 x (qu.mp hx);simp_all
theorem ZjZ (h:∀a∈r,n<=a):Wj n r=n:=(Zf4 (by simp) λa ha=>by
 rcases qy.mp ha with rfl | ha
 ·simp
 simp_all).symm
theorem Zl7 (hr:l.Pairwise (· < ·))(hn:l≠[]):ZlA [.lst (l.map nD)]=some (nD (l.headD 0)):=by
 cases l with
 | nil=>simp_all
 | cons m r=>
  have e:=B8 (m::r);show(match ZE ((m::r).map nD)with | some (n::r)=>some (D.int (Wj n r)) | _=>none)=_;rw[e];show some (D.int (Wj (m:Int) (r.map λ(i:Nat)=>(i:Int))))=_;rw[ZjZ λa ha=>?_]
  ·rfl
  ·obtain⟨x,hx,rfl⟩:=qt.mp ha
   have:=(zt.mp hr).1 x hx;omega
theorem ZnA (l:List D):Yi [.lst l]=some (nD l.length):=rfl
theorem JY (o:Nat)(l:List Nat):XU (nD o) (.lst (l.map nD))=some (.bl (!decide (o∈l))):=by
 have h:=Zgx o l;unfold Ys at h;unfold XU;simp_all
theorem Zd0 (l:List Nat)(hl:l.length<=1000)(s:Pn):U6 [.lst (l.map nD)] s=some (nD (XR l),s):=by
 have hc:=YK (src:=[none,some 0]) (fi:=Z3 (Ze Y0 (ZF Yi (Zb (Za 0) Zd)) (dC (.int 1)))) (τ:=Zt 0) (ft:=asB (Ze XU (Za 0) (Za 1))) (fe:=Za 0) (ρ:=[some (.lst (l.map nD))]) (s:=s) (ds:=Yo 0 (l.length+1)) (λd=>[some d,some (.lst (l.map nD))]) (λd=>!decide (ZZ d∈l)) (λd=>d)
  (Xy (ZC (Yy (Zh rfl rfl) (by rw[ZnA,qj])) rfl rfl) (by omega)) (by rw[Xk,Yf];omega) (λd hd=>by
  obtain⟨i,hi,rfl⟩:=Ve hd;exact⟨rfl,Yp (ZC rfl rfl (JY i l)),λ_=>rfl⟩)
 rw[B6 (l.length+1) λh=>!decide (h∈l)]at hc;refine Xe rfl (YG (Y8 (Yy (Zh hc rfl) ?_)));exact Zl7 ((range_rise _).sublist qP) (ZiI l)
noncomputable def hr (jJ:Qa):List Nat->Nat->Nat
 | [],_=>0
 | p::qs,x=>if x=p then XR ((qs.filter λo=>tied jJ p o).map (hr jJ qs))else hr jJ qs x
noncomputable def Y5 (qs:List Nat)(f:Nat->Nat):List (ZJ×V):=qs.map λ(q:Nat)=>(zJ (q:Int),V.int (f q))
theorem ZcL {x:Nat}:∀qs:List Nat,Z1 (Y5 qs f) (zJ (x:Int))=if x∈qs then some (.int (f x))else none
 | []=>rfl
 | q::qs=>by
  by_cases e:q=x
  ·subst e
   show Z1 ((zJ (q:Int),V.int (f q))::Y5 qs f) _=_;rw[Wa rfl];simp
  ·have hn:¬((zJ (q:Int):ZJ)=zJ (x:Int)):=λz=>by
    grind
   show Z1 ((zJ (q:Int),V.int (f q))::Y5 qs f) _=_;rw[Wc hn,ZcL qs];have:x≠q:=λz=>e z.symm;simp[this]
theorem Zj0 {g:Nat->Nat}(h:∀q∈qs,f q=g q):Y5 qs f=Y5 qs g:=zm λq hq=>by rw[h q hq]
theorem Zpo (qs:List Nat)(f:Nat->Nat)(x:Nat):Ys (nD x) (.dk (Y5 qs f))=some (.bl (decide (x∈qs))):=by
 show((some (zJ (x:Int):ZJ)).map λk=>(Z1 (Y5 qs f) k).isSome).map D.bl=_;simp;rw[ZcL];by_cases h:x∈qs <;> simp[h]
theorem Zl8 (h:x∈qs):Ut (.dk (Y5 qs f)) (nD x)=some (nD (f x)):=by
 show(Z1 (Y5 qs f) (zJ (x:Int))).bind vD=_;rw[ZcL,if_pos h];rfl
theorem ZnB {qs:List Nat}{h:Nat}(hp:p∉qs):Yh (Y5 qs f) (zJ (p:Int)) (.int (h:Int))=Y5 (qs ++ [p]) λx=>if x=p then h else f x:=by
 rw[Zfz _ (by rw[ZcL,if_neg hp])];have e:Y5 qs (λx=>if x=p then h else f x)=Y5 qs f:=Zj0 λq hq=>if_neg λ(z:q=p)=>hp (z▸hq);show Y5 qs f++_=(qs ++ [p]).map _;rw[zQ,<-e];show _++_=Y5 qs _ ++ [(zJ (p:Int),V.int ((if p=p then h else f p:Nat):Int))];simp
theorem Zcf {ps:List Nat}(h:ps[k]?=some p):ps.take (k+1)=ps.take k ++ [p]:=by
 obtain⟨hl,e⟩:=qG.mp h;rw[yJ hl,e]
theorem ZhL {ps:List Nat}(nd:ps.Nodup)(h:ps[k]?=some p):p∉ps.take k:=λm=>by
 have h2:(ps.take (k+1)).Nodup:=nd.sublist (qat _ _);rw[Zcf h]at h2;have:=(qa9.mp h2).2.2 p m p (by simp);exact this rfl
theorem ZnC (h1:fv ρ s=some (v,s))(h2:fx ρ s=some (x,s))(h3:(ρ[i]?).bind id=some (.dk kvs))(h4:XD x=some key)(h5:X6 v=some w)(hl:kvs.length<xh) :
  JB i fx fv ρ s=some (.nx (ρ.set i (some (.dk (Yh kvs key w)))),s):=by
 unfold JB Zp;rw[h1];simp;rw[h2];simp;rw[h3];rw[h4,h5];simp;rw[if_pos hl];rfl
theorem ZnD (jJ:Qa){ps:List Nat}(h:ps[k]?=some p):hr jJ (ps.take (k+1)).reverse=λx=>if x=p then XR (((ps.take k).filter λo=>tied jJ p o).map (hr jJ (ps.take k).reverse))else hr jJ (ps.take k).reverse x:=by
 rw[Zcf h,List.reverse_append];funext x;show(if x=p then XR (((ps.take k).reverse.filter λo=>tied jJ p o).map (hr jJ (ps.take k).reverse))else _)=_;by_cases e:x=p
 ·rw[if_pos e,if_pos e]
  refine ZeB λy=>?_;simp
 ·simp_all
noncomputable def WA (n:Nat)(jJ:Qa)(ps:List Nat):List Nat:=(qf n).map (hr jJ ps.reverse)
theorem ZhM (h:xs.Perm (WV n)):∃ps:List Nat,xs=Yg ps/\ps.Perm (qf n):=by
 refine⟨xs.map qbv,?_,?_⟩
 ·unfold Yg
  rw[qw];have:∀x∈xs,((λ(x:Nat)=>(x:Int))∘qbv) x=x:=λx hx=>by
   obtain⟨a,_,rfl⟩:=qt.mp (h.mem_iff.mp hx);rfl
  rw[zm this];simp
 ·have:=h.map qbv
  unfold WV at this;have e:(qf n).map (qbv∘λ(i:Nat)=>(i:Int))=qf n:=qb9 _;simp_all
section
variable (ap:Nat->Nat->Bool)
noncomputable def Xp (ps:List Nat)(p:Nat):Nat:=(ps.filter λo=>ap p o).length
noncomputable def Xn (ps:List Nat)(p:Nat):List Nat:=ps.filter λo=>!decide (o=p) && !ap p o
noncomputable def Yz (ps:List Nat):Nat:=ps.getD ((ps.map (Xp ap ps)).idxOf (Wu (ps.map (Xp ap ps)))) 0
structure KnA (ps K:List Nat):Prop where
 nd:K.Nodup
 sub:∀x∈K,x∈ps
 two:∀x∈K,∀y∈K,x≠y->ap x y=false
end
section
variable {ap:Nat->Nat->Bool}
theorem ZhN (h:l≠[]):Wu l∈l:=by
 have:=Znz ⟨l,rfl⟩;have e:Wu (0::l)=Wu l:=rfl;rw[e]at this;rcases qy.mp this with z | z
 ·cases l with
  | nil=>simp_all
  | cons a r=>
   have h1:=Zl5 (l:=a::r) (x:=a) (by simp);simp_all
 ·exact z
theorem ZnE {ps:List Nat}(f:Nat->Nat)(h:v∈ps.map f):ps.getD ((ps.map f).idxOf v) 0∈ps/\f (ps.getD ((ps.map f).idxOf v) 0)=v:=by
 have hl:=qam.mpr h;have e:=List.getElem_idxOf hl;rw[qbh]at e;have hl':=by simpa using hl
 simp_all
theorem B5 (h:ps≠[]):Yz ap ps∈ps:=(ZnE (Xp ap ps) (ZhN (by simp_all))).1
theorem UE:∀x∈Xn ap ps p,x∈ps/\x≠p/\ap p x=false:=λx hx=>by
 obtain⟨h1,h2⟩:=qm.mp hx
 grind
theorem ZeC {ps:List Nat}(h:p∈ps)(f:Nat->Bool)(hf:f p=false):(ps.filter f).length<ps.length:=by
 induction ps with
 | nil=>simp at h
 | cons a r ih=>
  grind
theorem ZgB (h:p∈ps):(Xn ap ps p).length<ps.length:=ZeC h _ (by simp)
theorem Zdw {ps:List Nat}(h:p∈ps):(ps.filter λo=>!decide (o=p)).length<ps.length:=ZeC h _ (by simp)
theorem jF {K:List Nat}(sy:∀a b,ap a b=ap b a)(hp:p∈ps)(h:KnA ap (Xn ap ps p) K):KnA ap ps (p::K) where
 nd:=zq.mpr ⟨λz=>(UE p (h.sub p z)).2.1 rfl,h.nd⟩
 sub:=λx hx=>by
  rcases qy.mp hx with e | hx
  ·simp_all
  ·exact(UE x (h.sub x hx)).1
 two:=λx hx y hy ne=>by
  rcases qy.mp hx with e | hx
  ·rcases qy.mp hy with e' | hy
   ·grind
   ·rw[e];exact(UE y (h.sub y hy)).2.2
  ·rcases qy.mp hy with e' | hy
   ·rw[e',sy];exact(UE x (h.sub x hx)).2.2
   ·exact h.two x hx y hy ne
theorem KnA.mono {K:List Nat}(h:KnA ap ps K)(s:∀x∈ps,x∈qs):KnA ap qs K:=⟨h.nd,λx hx=>s x (h.sub x hx),h.two⟩
theorem KnA.rest {K:List Nat}(h:KnA ap ps K):KnA ap (Xn ap ps p) (K.filter λo=>!decide (o=p) && !ap p o) where
 nd:=h.nd.sublist qP
 sub:=λx hx=>by
  obtain⟨h1,h2⟩:=qm.mp hx;exact qm.mpr ⟨h.sub x h1,h2⟩
 two:=λx hx y hy=>h.two x (qm.mp hx).1 y (qm.mp hy).1
theorem Zj1 {K:List Nat}(ir:∀a,ap a a=false)(h:KnA ap ps K)(hm:p∈K∨Xp ap ps p<=1):K.length<=(K.filter λo=>!decide (o=p) && !ap p o).length+1:=by
 have e:=Za6 (λo=>!decide (o=p) && !ap p o) K;have hd:(K.filter λo=>!(!decide (o=p) && !ap p o)).length<=1:=by
  have nd:(K.filter λo=>!(!decide (o=p) && !ap p o)).Nodup:=h.nd.sublist qP;by_cases hp:p∈K
  ·have:=W2 (b:=[p]) nd λx hx=>by
    obtain⟨h1,h2⟩:=qm.mp hx;by_cases z:x=p
    ·simp[z]
    ·have:=h.two p hp x h1 (zh z)
     simp[z,this]at h2
   omega
  ·have hc:=hm.resolve_left hp
   have:=W2 (b:=ps.filter λo=>ap p o) nd λx hx=>by
    obtain⟨h1,h2⟩:=qm.mp hx;have z:x≠p:=λz=>hp (z▸h1);simp[z]at h2;exact qm.mpr ⟨h.sub x h1,h2⟩
   unfold Xp at hc;omega
 omega
end
noncomputable def XS (l:List Nat):List (ZJ×V):=l.map λ(o:Nat)=>(zJ (o:Int),V.bl true)
theorem Zfj {x:Nat}:∀l:List Nat,Z1 (XS l) (zJ (x:Int))=if x∈l then some (.bl true)else none
 | []=>rfl
 | q::qs=>by
  by_cases e:q=x
  ·subst e
   show Z1 ((zJ (q:Int),V.bl true)::XS qs) _=_;rw[Wa rfl];simp
  ·have hn:¬((zJ (q:Int):ZJ)=zJ (x:Int)):=λz=>by
    grind
   show Z1 ((zJ (q:Int),V.bl true)::XS qs) _=_;rw[Wc hn,Zfj qs];have:x≠q:=λz=>e z.symm;simp[this]
theorem Zl9:∀(l:List Nat) (jO:List (ZJ×V)),l.Nodup->(∀x∈l,Z1 jO (zJ (x:Int))=none)->Vl jO (l.map λo=>D.tup [nD o,.bl true])=some (jO++XS l)
 | [],jO,_,_=>by simp[Vl,XS]
 | p::ps,jO,nd,h=>by
  have nd':=zq.mp nd;show Vl (Yh jO (zJ (p:Int)) (.bl true)) (ps.map λo=>D.tup [nD o,.bl true])=_;rw[Zl9 ps _ nd'.2 λx hx=>?_,Zfz _ (h p (by simp))]
  ·show some ((jO ++ [_])++XS ps)=some (jO++(_::XS ps))
   simp
  ·rw[Zfy,if_neg (λz=>nd'.1 (by
    grind))]
   exact h x (by simp[hx])
theorem Zpp (l:List Nat)(x:Nat):Ys (nD x) (.dk (XS l))=some (.bl (decide (x∈l))):=by
 show((some (zJ (x:Int):ZJ)).map λk=>(Z1 (XS l) k).isSome).map D.bl=_;simp;rw[Zfj];by_cases h:x∈l <;> simp[h]
theorem Zj2 (l:List Nat)(x:Nat):XU (nD x) (.dk (XS l))=some (.bl (!decide (x∈l))):=by
 show((some (zJ (x:Int):ZJ)).map λk=>(Z1 (XS l) k).isSome).map (λb=>D.bl (!b))=_;simp;rw[Zfj];by_cases h:x∈l <;> simp[h]
noncomputable def Xw (n:Nat)(A:Nat->List Nat):D:=.lst ((qf n).map λp=>.dk (XS (A p)))
theorem Zma (h:p<n):Zk (Xw n A) (nD p)=some (.dk (XS (A p))):=by
 refine X2 ?_;simp_all
section
variable {n:Nat}{A:Nat->List Nat}{ap:Nat->Nat->Bool}
theorem ZhO (a b:Nat):XX (nD a) (nD b)=some (.bl (!decide (a=b))):=by
 rw[nei];congr 3
 grind
theorem ZnF (h:ds.length+es.length<=100000):Y0 (.lst ds) (.lst es)=some (.lst (ds++es)):=by
 show(if ds.length+es.length<=xh then some (D.lst (ds++es))else none)=_;rw[if_pos (by rw[Yf];omega)]
theorem Zpq (ds:List D)(hp:YN ds=true)(hd:XE ds<=10):XA (.lst ds) (.lst [])=some (.bl (decide (ds=[]))):=by
 have hok:VY (.lst ds) (.lst [])=true:=by
  unfold VY;simp[Zs,Yr,YN,XE,hp];omega
 unfold XA;rw[if_pos hok]
 cases ds with
 | nil=>rfl
 | cons a r=>rfl
theorem Zmb (h:l≠[]):Zir [.lst (l.map nD)]=some (nD (Wu l)):=by
 cases l with
 | nil=>simp_all
 | cons m r=>
  have e:=B8 (m::r);show(match ZE ((m::r).map nD)with | some (n::r)=>some (D.int (maxI n r)) | _=>none)=_;rw[e];show some (D.int (maxI (m:Int) (r.map λ(i:Nat)=>(i:Int))))=_;rw[Zgy r m];rfl
theorem ZhP {l:List Nat}(h:v∈l):Ze0 (.lst (l.map nD)) (nD v)=some (nD (l.idxOf v)):=by
 show((ZE (l.map nD)).bind λns=>if (v:Int)∈ns then some (D.int (ns.idxOf (v:Int):Nat))else none)=_;rw[B8];show(if (v:Int)∈l.map (λ(i:Nat)=>(i:Int))then some (D.int ((l.map λ(i:Nat)=>(i:Int)).idxOf (v:Int):Nat))else none)=_;rw[if_pos (qt.mpr ⟨v,h,rfl⟩)];have:(l.map λ(i:Nat)=>(i:Int)).idxOf (v:Int)=l.idxOf v:=by
  clear h
  induction l with
  | nil=>rfl
  | cons a r ih=>
   rw[yc,List.idxOf_cons,List.idxOf_cons,ih]
   grind
 rw[this]
end
noncomputable def Yb (n:Nat)(jJ:Qa):Qa:=(X8 n).filter λp=>!decide (p∈jJ)
theorem Za7 (n:Nat)(jJ:Qa):IsWeb n (Yb n jJ):=IsWeb.filter _
theorem Zmc:tied jJ a b=true↔(min a b,max a b)∈jJ:=by unfold tied;simp
theorem Jd:tied (Yb n jJ) a b=true↔a<n/\b<n/\a≠b/\tied jJ a b=false:=by
 rw[Zmc];unfold Yb;rw[qm,Je];have e:tied jJ a b=decide ((min a b,max a b)∈jJ):=rfl;rw[e]
 grind
theorem Zd1 (p o:Nat):tied (Yb n jJ) p o=decide (o∈Z5 n (Yb n jJ) p):=by
 unfold Z5;rw[qae,decide_eq_true_iff,qm,qu];exact⟨λh=>⟨(Jd.mp h).2.1,h⟩,λh=>h.2⟩
theorem Zmd (a:Nat):tied (Yb n jJ) a a=false:=by
 cases h:tied (Yb n jJ) a a with
 | false=>rfl
 | true=>exact absurd rfl (Jd.mp h).2.2.1
noncomputable def Jv (n:Nat)(b:List Nat):List Nat:=(qf n).filter λx=>decide (x∈b)
theorem Za0 (nd:b.Nodup)(h:∀x∈b,x<n):(Jv n b).Perm b:=by
 refine(qa5 (zw.sublist qP) nd).mpr λa=>?_;simp_all
theorem Zcq (n:Nat)(b:List Nat):(Jv n b).Pairwise (· < ·):=(range_rise n).sublist qP
noncomputable def W7 (a k:List Nat):List Nat:=if a.length<k.length then k else a
noncomputable def Bz (n:Nat)(jJ:Qa):List Nat:=(kn jJ n).foldl W7 []
theorem Zcr:∀(l:List (List Nat)) (a:List Nat),(l.foldl W7 a=a∨l.foldl W7 a∈l)/\a.length<=(l.foldl W7 a).length/\∀k∈l,k.length<=(l.foldl W7 a).length
 | [],a=>⟨.inl rfl,qq _,λk h=>by cases h⟩
 | x::r,a=>by
  obtain⟨h1,h2,h3⟩:=Zcr r (W7 a x);have h4:a.length<=(W7 a x).length/\x.length<=(W7 a x).length/\(W7 a x=a∨W7 a x=x):=by
   unfold W7
   grind
  rw[List.foldl_cons]
  grind
theorem Zj3 (nd:b.Nodup)(h:∀x∈b,x<n)(hl:b.length<64):ZcI [.lst (b.map nD)]=some (.lst ((Jv n b).map nD)):=by
 have e:ZE (b.map nD)=some (Yg b):=by
  have:b.map nD=(Yg b).map D.int:=by unfold Yg;rw[qw];rfl
  rw[this,JZ]
 show(match ZE (b.map nD)with | some ns=>if ns.length<64 then some (D.lst ((Xh ns).map .int))else none | none=>none)=_;rw[e];show(if (Yg b).length<64 then some (D.lst ((Xh (Yg b)).map .int))else none)=_;rw[if_pos (by unfold Yg;simp;omega)];have q:Yg (Jv n b)=Xh (Yg b):=B9 ((Za0 nd h).map _) (zr.mpr ((Zcq n b).imp λh=>by omega));rw[<-q];unfold Yg;rw[qw];rfl
theorem Zby (hw:IsWeb n jJ)(hn:n<=24):Bz n jJ∈kn jJ n/\∀K∈kn jJ n,K.length<=(Bz n jJ).length:=by
 obtain⟨h1,_,h3⟩:=Zcr (kn jJ n) [];refine⟨?_,h3⟩;rcases h1 with h | h
 ·show(kn jJ n).foldl W7 []∈_
  rw[h];exact Ug.mpr ⟨qa7,(λo h=>by cases h),λa h=>by cases h⟩
 ·exact h
noncomputable def U4 (ns:List Int):List Nat:=ns.map qbv
theorem ZgC (k:List Nat):U4 (Yg k)=k:=by
 unfold U4 Yg;rw[qw];exact qb9 k
noncomputable def JD (n:Nat)(jJ:Qa):List (List Nat):=(XM ((Xz n jJ).map Yg)).map U4
theorem ZhQ (n:Nat)(jJ:Qa):(JD n jJ).Perm (Xz n jJ):=by
 have h:=(ZaC ((Xz n jJ).map Yg)).map U4;rw[qw]at h;have e:(Xz n jJ).map (U4∘Yg)=Xz n jJ:=by
  have:U4∘Yg=id:=funext ZgC;simp_all
 rw[e]at h;exact h
theorem ZnG (n:Nat)(jJ:Qa):By n jJ=(JD n jJ).map ZH:=by
 unfold By JD;rw[qw];refine zm λns hns=>?_;obtain⟨K,hK,rfl⟩:=qt.mp ((ZaC _).mem_iff.mp hns);show _=ZH (U4 (Yg K));rw[ZgC,Zl3]
theorem Zj4:k∈JD n jJ↔k∈Xz n jJ:=(ZhQ n jJ).mem_iff
theorem ZnH (h:k∈Xz n jJ):k∈kn jJ n:=(qm.mp h).1
theorem Zpr (h:∀x∈l,x<=b):Wu l<=b:=Zff l b h 0 (zk _)
theorem Zps (p:Nat×Nat)(jJ:Qa):Ys (Zr p) (.du (Z8 [] jJ))=some (.bl (decide (p∈jJ))):=Zl0 p jJ
theorem ZnI (jJ:Qa):∀jO:List (List ZJ×V),(Z8 jO jJ).length<=jO.length+jJ.length:=by
 induction jJ with
 | nil=>intro jO;exact qq _
 | cons t r ih=>
  intro jO;have h2:=V8 jO (WW t) (.bl true);show(Z8 (Yh jO (WW t) (.bl true)) r).length<=_
  grind
theorem Zme (jJ:Qa)(t:Nat×Nat):Z8 [] (jJ ++ [t])=Yh (Z8 [] jJ) (WW t) (.bl true):=by
 unfold Z8;simp
theorem ZeD (k:List Nat):ZE (k.map nD)=some (Yg k):=by
 have:k.map nD=(Yg k).map D.int:=by unfold Yg;rw[qw];rfl
 rw[this,JZ]
section
variable (jJ:Qa)
noncomputable def uq (w:List Nat):Nat:=Wu (w.map (· + 1))
noncomputable def X4 (w:List Nat):List Nat:=((qf w.length).filter λo=>tied jJ w.length o).map λo=>w.getD o 0
noncomputable def VU (many:Nat)(w:List Nat):List Nat:=(qf (min many (uq w+1))).filter λh=>!decide (h∈X4 jJ w)
noncomputable def YT (many:Nat):Nat->List Nat->Option (List Nat)
 | 0,w=>some w
 | r+1,w=>(VU jJ many w).findSome? λh=>YT many r (w ++ [h])
noncomputable def Yv (many:Nat)(w:List Nat):Prop:=∀i<w.length,w.getD i 0∈VU jJ many (w.take i)
end
section
variable {jJ:Qa}{many:Nat}
theorem Zj5 {w:List Nat}(h:j<i):(w.take i).getD j 0=w.getD j 0:=by
 simp_all
theorem ZaH (hj:j<w.length):(w ++ [h]).getD j 0=w.getD j 0:=by
 grind
theorem ZeE:(w ++ [h]).getD w.length 0=h:=by
 simp
theorem Zfk {w:List Nat}(hi:i<=w.length):(w ++ [h]).take i=w.take i:=List.take_append_of_le_length hi
theorem Yv.snoc:Yv jJ many (w ++ [h])↔Yv jJ many w/\h∈VU jJ many w:=by
 constructor
 ·intro R
  refine⟨λi hi=>?_,?_⟩
  ·have:=R i (by simp;omega)
   grind
  ·have:=R w.length (by simp)
   simp_all
 ·rintro⟨R,hh⟩ i hi
  by_cases e:i<w.length
  ·rw[ZaH e,Zfk (by omega)];exact R i e
  ·have:i=w.length:=by grind
   simp_all
theorem Yv.nil:Yv jJ many []:=λi hi=>by simp at hi
theorem ZnJ {w:List Nat}(h:w.length=i+1):∃v x,w=v ++ [x]/\v.length=i:=by
 refine⟨w.take i,w.getD i 0,?_,by grind⟩;have hi:i<w.length:=by omega
 have e:=yJ hi;rw[<-h,qaK]at e;rw[qE,qB hi];exact e
theorem ZgD:∀{r:Nat} {w f:List Nat},Yv jJ many w->YT jJ many r w=some f->Yv jJ many f/\f.length=w.length+r/\f.take w.length=w
 | 0,w,f,R,h=>by
  unfold YT at h
  grind
 | r+1,w,f,R,h=>by
  obtain⟨x,hx,he⟩:=List.exists_of_findSome?_eq_some h;obtain⟨h1,h2,h3⟩:=ZgD (Yv.snoc.mpr ⟨R,hx⟩) he;have:=congrArg (List.take w.length) h3
  grind
theorem ZgE:∀{r:Nat} {w f:List Nat},YT jJ many r w=none->f.length=w.length+r->f.take w.length=w->¬Yv jJ many f
 | 0,w,f,h,_,_=>by cases h
 | r+1,w,f,h,hl,ht=>by
  intro R;unfold YT at h;rw[List.findSome?_eq_none_iff]at h;have hx:=R w.length (by omega);rw[ht]at hx;have e:f.take (w ++ [f.getD w.length 0]).length=w ++ [f.getD w.length 0]:=by
   have hlt:w.length<f.length:=by omega
   rw[zl,yq,yJ hlt,ht,qE,qB hlt];rfl
  exact ZgE (h _ hx) (by simp;omega) e R
theorem ZiJ (h:x∈w):x<uq w:=by
 have:=Zl5 (l:=w.map (· + 1)) (qt.mpr ⟨x,h,rfl⟩);unfold uq;omega
theorem Zol (h:∀x∈w,x<b):uq w<=b:=Zpr λx hx=>by
 grind
theorem Zfl (w:List Nat)(h:Nat):uq (w ++ [h])=max (uq w) (h+1):=by
 unfold uq Wu;simp
theorem Ud:h∈VU jJ many w↔h<many/\h<=uq w/\h∉X4 jJ w:=by
 unfold VU
 grind
theorem Yv.all:∀{n:Nat} {w:List Nat},w.length=n->Yv jJ many w->∀x,x∈w↔x<uq w
 | 0,w,h,_,x=>by
  have:=zF.mp h;subst this;simp[uq,Wu]
 | n+1,w,h,R,x=>by
  obtain⟨v,y,rfl,hv⟩:=ZnJ h;obtain⟨h1,h2⟩:=Yv.snoc.mp R;have ih:=Yv.all hv h1 x;obtain⟨g1,g2,g3⟩:=Ud.mp h2;rw[Zfl,qZ,ih,qQ];omega
theorem Yv.lt (R:Yv jJ many w):∀x∈w,x<many:=λx hx=>by
 obtain⟨i,hi,e⟩:=yM hx;have:=R i hi;rw[qE,qB hi]at this;have h2:=this;rw[e]at h2;exact(Ud.mp h2).1
theorem Yv.hues (R:Yv jJ many w)(h:uq w<=m):Yv jJ m w:=λi hi=>by
 obtain⟨g1,g2,g3⟩:=Ud.mp (R i hi);refine Ud.mpr ⟨?_,g2,g3⟩;have hm:w.getD i 0∈w:=by simp_all
 have:=ZiJ hm;omega
theorem Yv.right (R:Yv jJ many w)(hab:a<b)(hb:b<w.length)(ht:tied jJ a b=true):w.getD a 0≠w.getD b 0:=λe=>by
 obtain⟨_,_,g3⟩:=Ud.mp (R b hb);refine g3 (qt.mpr ⟨a,qm.mpr ⟨qu.mpr (by grind),?_⟩,?_⟩)
 ·rw[ym,Nat.min_eq_left (by omega),VL];exact ht
 ·rw[Zj5 hab];exact e
theorem Yv.knot {K:List Nat}(R:Yv jJ many w)(hl:w.length=n)(hK:K∈kn jJ n):K.length<=uq w:=by
 obtain⟨h1,h2,h3⟩:=Ug.mp hK;have nd:=zr.mpr (zP (λ{a b} ha hb hab=>R.right hab (by simp_all) (h3 a ha b hb (by omega))) h1);have:=W2 (b:=qf (uq w)) nd λx hx=>by
  obtain⟨p,hp,rfl⟩:=qt.mp hx;refine qu.mpr (ZiJ ?_);simp_all
 simp_all
theorem Zmf (n:Nat):uq (qf n)=n:=by
 refine qbw (Zol λx hx=>qu.mp hx) ?_
 cases n with
 | zero=>simp
 | succ n=>exact ZiJ (qu.mpr (z9 n))
theorem Yv.own (n:Nat):∀m≤n,Yv jJ n (qf m):=λm=>by
 induction m with
 | zero=>intro _;exact Yv.nil
 | succ m ih=>
  intro h;rw[qaR];refine Yv.snoc.mpr ⟨ih (by omega),Ud.mpr ⟨by omega,by rw[Zmf];omega,λz=>?_⟩⟩;obtain⟨o,ho,e⟩:=qt.mp z;simp_all
end
noncomputable def Xx (n:Nat)(jJ:Qa):Nat:=((qf (n+1)).filter λm=>(YT jJ m n []).isSome).headD 0
noncomputable def Up (n:Nat)(jJ:Qa):List Nat:=(YT jJ (Xx n jJ) n []).getD []
theorem ZaI (hl:f.length=n)(R:Yv jJ m f):(YT jJ m n []).isSome=true:=by
 cases e:YT jJ m n []with
 | some _=>rfl
 | none=>exact absurd R (ZgE e (by simp_all) rfl)
theorem Zdx (n:Nat)(jJ:Qa):Xx n jJ<=n/\(YT jJ (Xx n jJ) n []).isSome=true/\∀m<Xx n jJ,YT jJ m n []=none:=by
 have hn:n∈(qf (n+1)).filter λm=>(YT jJ m n []).isSome:=qm.mpr ⟨qu.mpr (by omega),ZaI (qI) (Yv.own n n (qq n))⟩;have hr:((qf (n+1)).filter λm=>(YT jJ m n []).isSome).Pairwise (· < ·):=(range_rise _).sublist qP
 cases e:(qf (n+1)).filter λm=>(YT jJ m n []).isSome with
 | nil=>simp_all
 | cons c r=>
  have hc:Xx n jJ=c:=by unfold Xx;rw[e];rfl
  have h1:c∈(qf (n+1)).filter λm=>(YT jJ m n []).isSome:=by rw[e];simp
  obtain⟨g1,g2⟩:=qm.mp h1;have g1:=qu.mp g1;rw[hc];refine⟨by omega,g2,λm hm=>?_⟩
  cases em:YT jJ m n []with
  | none=>rfl
  | some f=>
   have:m∈(qf (n+1)).filter λm=>(YT jJ m n []).isSome:=qm.mpr ⟨qu.mpr (by omega),by rw[em];rfl⟩;rw[e]at this hr;rcases qy.mp this with z | z
   ·omega
   ·have:=(zt.mp hr).1 m z;omega
theorem Zdy (n:Nat)(jJ:Qa):YT jJ (Xx n jJ) n []=some (Up n jJ)/\Yv jJ (Xx n jJ) (Up n jJ)/\(Up n jJ).length=n/\uq (Up n jJ)=Xx n jJ:=by
 obtain⟨h1,h2,h3⟩:=Zdx n jJ;obtain⟨f,hf⟩:=zM.mp h2;have e:Up n jJ=f:=by unfold Up;rw[hf];rfl
 obtain⟨g1,g2,_⟩:=ZgD Yv.nil hf;rw[e];simp at g2;refine⟨hf,g1,g2,?_⟩;have hle:=Zol g1.lt;rcases Nat.lt_or_ge (uq f) (Xx n jJ)with z | z
 ·have:=h3 _ z
  have h4:=ZaI g2 (g1.hues (qq _))
  grind
 ·omega
theorem Zpt (hl:f.length=n)(R:Yv jJ m f):Xx n jJ<=m:=by
 rcases Nat.lt_or_ge m (Xx n jJ)with z | z
 ·have h4:=ZaI hl R
  rw[(Zdx n jJ).2.2 m z]at h4;cases h4
 ·exact z
theorem Za1 (hw:IsWeb n jJ)(hn:n<=24):(Bz n jJ).length<=Xx n jJ:=by
 obtain⟨h1,h2,h3,h4⟩:=Zdy n jJ;have:=h2.knot h3 (Zby hw hn).1;omega
theorem ZiK (h:p<n):Zk (Yl n jJ) (nD p)=some (.lst ((Z5 n jJ p).map nD)):=by
 refine X2 ?_;simp_all
theorem ZhR (hw:w.length<n):((Z5 n jJ w.length).filter λo=>decide (o<w.length)).map (λo=>w.getD o 0)=X4 jJ w:=by
 unfold X4 Z5;congr 1;rw[List.filter_filter];have e:qf n=qf w.length++(qf (n-w.length)).map (w.length + ·):=by
  rw[<-List.range_add];congr 1;omega
 rw[e,List.filter_append];have h2:((qf (n-w.length)).map (w.length + ·)).filter (λo=>decide (o<w.length)&&tied jJ w.length o)=[]:=List.filter_eq_nil_iff.mpr λx hx=>by
  obtain⟨a,_,rfl⟩:=qt.mp hx
  grind
 rw[h2,z0];refine qav λx hx=>?_;simp_all
theorem Zmg (a b:Nat):Vt (nD a) (nD b)=some (.bl (decide (a<b))):=by
 show some (D.bl (decide ((a:Int)<(b:Int))))=_;simp
theorem Zmh (hw:w.length<n)(hn:n<=24)(h0:(ρ[0]?).bind id=some (Yl n jJ))(h2:(ρ[2]?).bind id=some (ZH w))(h3:(ρ[3]?).bind id=some (nD w.length)) :
  ZR [none,some 2,some 3] (ZV (Ze Zk (Za 0) (Za 3))) (Zt 0) (asB (Ze Vt (Za 0) (Za 2))) (Ze Zk (Za 1) (Za 0)) ρ s=some (.lst ((X4 jJ w).map nD),s):=by
 have hc:=YK (fi:=ZV (Ze Zk (Za 0) (Za 3))) (τ:=Zt 0) (ft:=asB (Ze Vt (Za 0) (Za 2))) (fe:=Ze Zk (Za 1) (Za 0)) (s:=s) (λd=>[some d,some (ZH w),some (nD w.length)]) (λd=>decide (ZZ d<w.length)) (λd=>nD (w.getD (ZZ d) 0))
  (XI (ZC (by unfold Za YI;rw[h0]) (by unfold Za YI;rw[h3]) (ZiK hw))) (by
   have:=za (λo=>tied jJ w.length o) (qf n);rw[qI]at this;rw[qj,Yf];unfold Z5;omega) (λd hd=>by
  obtain⟨x,hx,rfl⟩:=qt.mp hd;refine⟨?_,Yp (ZC rfl rfl (Zmg _ _)),λhb=>ZC rfl rfl (Zfi (of_decide_eq_true hb))⟩;show some ((X3 [none,some 2,some 3] ρ).set 0 _)=_;unfold X3;simp_all)
 rw[hc];rw[zR,qw,<-ZhR hw,qw];rfl
theorem Zmi (h:f ρ s=some (ZH w,s)):Bq f (dC (.int (-1))) ρ s=some (.int ((uq w:Int)-1),s):=by
 unfold Bq Zp;rw[h];show(match ZE (w.map nD)with | some (n::r)=>Zy (D.int (maxI n r)) | some []=>Zy (D.int (-1)) | none=>Zv) s=_
 cases w with
 | nil=>rfl
 | cons a r=>
  have e:=B8 (a::r);rw[e];show some (D.int (maxI (a:Int) (r.map λ(i:Nat)=>(i:Int))),s)=_;rw[Zgy r a];congr 3;have hg:∀(r:List Nat) (a:Nat),(r.map (· + 1)).foldl max (a+1)=r.foldl max a+1:=by
   intro r
   induction r with
   | nil=>intro a;rfl
   | cons b r ih=>
    simp_all
  have:uq (a::r)=r.foldl max a+1:=by
   unfold uq Wu;simp_all
  omega
noncomputable def optT:Option (List Nat)->D
 | some f=>ZH f
 | none=>.non
theorem Zmj (a:Nat)(b:Int)(h:0<=b):Um [nD a,.int b]=some (nD (min a b.toNat)):=by
 show some (D.int (if b<(a:Int)then b else a))=_
 grind
theorem Zcg (I:Zc->Prop)(g:Nat->Option D):∀(l:List Nat) (ρ:Zc),I ρ->
  (∀x∈l,∀ρ,I ρ->∃ρ1,τ (nD x) ρ=some ρ1/\match g x with | some d=>body ρ1 s=some (.rt d,s) | none=>∃ρ2,body ρ1 s=some (.nx ρ2,s)/\I ρ2)->
  match l.findSome? g with | some d=>WE τ body (l.map nD) ρ s=some (.rt d,s) | none=>∃ρ2,WE τ body (l.map nD) ρ s=some (.nx ρ2,s)/\I ρ2
 | [],ρ,h0,_=>⟨ρ,rfl,h0⟩
 | x::l,ρ,h0,h=>by
  obtain⟨ρ1,e1,e2⟩:=h x (by simp) ρ h0;rw[qab]
  cases hg:g x with
  | some d=>
   rw[hg]at e2;exact ZeX e1 e2
  | none=>
   rw[hg]at e2;obtain⟨ρ2,e3,h2⟩:=e2;have ih:=Zcg I g l ρ2 h2 λy hy=>h y (by simp[hy])
   cases hl:l.findSome? g with
   | some d=>rw[hl]at ih;exact ZbE e1 e3 ih
   | none=>
    rw[hl]at ih;obtain⟨ρ3,e4,h3⟩:=ih;exact⟨ρ3,ZbE e1 e3 e4,h3⟩
theorem Zaf {α β:Type}(p:α->Bool)(g:α->Option β):∀l:List α,(l.filter p).findSome? g=l.findSome? λx=>if p x=true then g x else none
 | []=>rfl
 | a::l=>by
  by_cases h:p a=true
  ·rw[List.filter_cons_of_pos h,qab,qab,Zaf p g l]
   simp[h]
  ·rw[List.filter_cons_of_neg h,Zaf p g l]
   simp[h]
theorem Zdz {n:Nat}{jJ:Qa}(hn:n<=24)(many:Nat)(hm:many<=1000)(s:Pn):∀(r k:Nat) (w:List Nat),w.length+r=n->r<k->VM k [Yl n jJ,nD many,ZH w] s=some (optT (YT jJ many r w),s)
 | r,0,w,_,h=>by omega
 | r,k+1,w,hl,hk=>by
  have jQ:Yi [ZH w]=some (nD w.length):=by show some (D.int _)=_;rw[qj]
  have hlenN:Yi [Yl n jJ]=some (nD n):=by show some (D.int _)=_;rw[qj,qI]
  refine Xe rfl (Y3 (XT (Yy (Zh rfl rfl) jQ)) ?_);have heq:XA (nD w.length) (nD n)=some (.bl (decide (w.length=n))):=by
   rw[eqi];congr 2;rw[qae,beq_iff_eq,decide_eq_true_iff];constructor <;> intro h <;> omega
  cases r with
  | zero=>
   rw[decide_eq_true (by omega)]at heq;exact YG (JA (Yp (ZC (d:=nD w.length) (e:=nD n) rfl (Yy (Zh rfl rfl) hlenN) heq)) (YG (Y8 rfl)))
  | succ r=>
   rw[decide_eq_false (by omega)]at heq;refine Y3 (Bv (Yp (ZC (d:=nD w.length) (e:=nD n) rfl (Yy (Zh rfl rfl) hlenN) heq)) rfl) ?_;refine Y3 (XT (Zmh (w:=w) (jJ:=jJ) (n:=n) (by omega) hn rfl rfl rfl)) ?_;have hrg:Z3 (ZF Um (Zb (Za 1) (Zb (Ze Y0 (Bq (Za 2) (dC (.int (-1)))) (dC (.int 2))) Zd))) [some (Yl n jJ),some (nD many),some (ZH w),some (nD w.length),some (.lst ((X4 jJ w).map nD)),none,none] s=some (Yo 0 (min many (uq w+1)),s):=
    Xy (Yy (c:=nD (min many (uq w+1))) (Zh rfl (Zh (ZC (d:=.int ((uq w:Int)-1)) (e:=.int 2) (c:=.int ((uq w:Int)+1)) (Zmi rfl) rfl (by show some (D.int _)=_;congr 2;omega)) rfl)) (by rw[Zmj _ _ (by omega)];congr 3)) (by omega)
   have hgo:=Zcg (τ:=Zt 5) (body:=(Zg (YR (asB (Ze XU (Za 5) (Za 4)))
 (Zg (ZS 6 (Zm (VM k) (Zb (Za 0) (Zb (Za 1) (Zb (Ze Y0 (Za 2) (ZT (Zb (Za 5) Zd))) Zd)))))
 (Zg (YR (asB (Ze ZlE (Za 6) (dC .non)))
 (Zg (ZN (Za 6))
 Zq)
 Zq)
 Zq))
 Zq)
 Zq)) (s:=s) (fun ρ=>∃o5 o6,ρ=[some (Yl n jJ),some (nD many),some (ZH w),some (nD w.length),some (.lst ((X4 jJ w).map nD)),o5,o6]) (λh=>if (!decide (h∈X4 jJ w))=true then (YT jJ many r (w ++ [h])).map ZH else none) (qf (min many (uq w+1))) [some (Yl n jJ),some (nD many),some (ZH w),some (nD w.length),some (.lst ((X4 jJ w).map nD)),none,none] ⟨none,none,rfl⟩ (λx hx ρ hI=>by
    obtain⟨o5,o6,rfl⟩:=hI;refine⟨_,rfl,?_⟩;by_cases ht:x∈X4 jJ w
    ·simp only[ht,decide_true,Bool.not_true,yo,if_false]
     exact⟨_,Y3 (Bv (Yp (ZC (d:=nD x) (e:=.lst ((X4 jJ w).map nD)) rfl rfl (by rw[JY,decide_eq_true ht];rfl))) rfl) rfl,some (nD x),o6,rfl⟩
    ·simp only[ht,decide_false,Bool.not_false,if_true]
     have ih:=Zdz (jJ:=jJ) hn many hm s r k (w ++ [x]) (by simp;omega) (by omega);have hin:asB (Ze XU (Za 5) (Za 4)) [some (Yl n jJ),some (nD many),some (ZH w),some (nD w.length),some (.lst ((X4 jJ w).map nD)),some (nD x),o6] s=some (true,s):=Yp (ZC (d:=nD x) (e:=.lst ((X4 jJ w).map nD)) rfl rfl (by rw[JY,decide_eq_false ht];rfl));have hcall:Zm (VM k) (Zb (Za 0) (Zb (Za 1) (Zb (Ze Y0 (Za 2) (ZT (Zb (Za 5) Zd))) Zd))) [some (Yl n jJ),some (nD many),some (ZH w),some (nD w.length),some (.lst ((X4 jJ w).map nD)),some (nD x),o6] s=some (optT (YT jJ many r (w ++ [x])),s):=Z4 (Zh rfl (Zh rfl (Zh (ZC (d:=ZH w) (e:=.tup [nD x]) rfl (Zin rfl) (ZiF w x (by omega))) rfl))) ih
     cases hd:YT jJ many r (w ++ [x])with
     | some f=>
      rw[hd]at hcall;exact YG (JA hin (Y3 (XT hcall) (YG (JA (Yp (ZC (d:=ZH f) (e:=.non) (c:=.bl true) rfl rfl rfl)) (YG (Y8 rfl))))))
     | none=>
      rw[hd]at hcall;exact⟨_,Y3 (JA hin (Y3 (XT hcall) (Y3 (Bv (Yp (ZC (d:=.non) (e:=.non) (c:=.bl false) rfl rfl rfl)) rfl) rfl))) rfl,some (nD x),some .non,rfl⟩)
   have e:(qf (min many (uq w+1))).findSome? (λh=>if (!decide (h∈X4 jJ w))=true then (YT jJ many r (w ++ [h])).map ZH else none)=(YT jJ many (r+1) w).map ZH:=by
    show _=((VU jJ many w).findSome? λh=>YT jJ many r (w ++ [h])).map ZH;unfold VU;rw[Zaf,List.map_findSome?];congr 1;funext h;show _=(if (!decide (h∈X4 jJ w))=true then YT jJ many r (w ++ [h])else none).map ZH;split <;> rfl
   rw[e]at hgo;rw[Vh]at hrg
   cases hd:YT jJ many (r+1) w with
   | some f=>
    rw[hd]at hgo;exact YG (ZcH hrg hgo)
   | none=>
    rw[hd]at hgo;obtain⟨ρ2,e2,o5,o6,rfl⟩:=hgo;exact Y3 (ZcH hrg e2) (YG (Y8 rfl))
theorem Zj6 (ds:List D)(hp:YN ds=true)(hd:XE ds<=10):XX (.lst ds) (.lst [])=some (.bl (!decide (ds=[]))):=by
 have hok:VY (.lst ds) (.lst [])=true:=by
  unfold VY;simp[Zs,Yr,YN,XE,hp];omega
 unfold XX;rw[if_pos hok]
 cases ds with
 | nil=>rfl
 | cons a r=>rfl
theorem canon (c:Nat->Nat)(vals:List Nat)(hr:∀a b,a<b->b<n->tied jJ a b=true->c a≠c b)(hv:∀i<n,c i∈vals) :
  ∀k≤n,∃(f:List Nat) (g:Nat->Nat),f.length=k/\Yv jJ vals.length f/\(∀i<k,c i=g (f.getD i 0))/\(∀x<uq f,∀y<uq f,g x=g y->x=y):=by
 intro k
 induction k with
 | zero=>intro _;exact⟨[],λ_=>0,rfl,Yv.nil,λi hi=>by omega,λx hx=>by simp[uq,Wu]at hx⟩
 | succ k ih=>
  intro hk;obtain⟨f,g,hl,R,hc,hg⟩:=ih (by omega);have hmem:∀x,x<uq f->∃i,i<k/\f.getD i 0=x:=λx hx=>by
   obtain⟨i,hi,e⟩:=yM ((R.all rfl x).mpr hx);exact⟨i,by omega,by rw[qE,qB hi];exact e⟩
  have hlt:∀i,i<k->f.getD i 0<uq f:=λi hi=>by
   refine ZiJ ?_;rw[qE,qB (by omega)];exact yn _
  have notTaken:∀h,(∀o<k,f.getD o 0=h->c o=c k)->h∉X4 jJ f:=λh hh z=>by
   obtain⟨o,ho,e⟩:=qt.mp z;obtain⟨h1,h2⟩:=qm.mp ho;have h1:=qu.mp h1;rw[hl]at h1 h2;exact hr o k h1 (by omega) (by rw[VL];exact h2) (hh o h1 e)
  by_cases old:∃j,j<k/\c j=c k
  ·obtain⟨j,hj,ej⟩:=old
   have hx:=hlt j hj;have hin:f.getD j 0∈VU jJ vals.length f:=Ud.mpr ⟨R.lt _ ((R.all rfl _).mpr hx),by omega,notTaken _ λo ho e=>by rw[hc o ho,e,<-hc j hj,ej]⟩;have hu:uq (f ++ [f.getD j 0])=uq f:=by rw[Zfl];omega
   refine⟨f ++ [f.getD j 0],g,by simp[hl],Yv.snoc.mpr ⟨R,hin⟩,λi hi=>?_,by rw[hu];exact hg⟩;by_cases e:i<k
   ·rw[ZaH (by omega)];exact hc i e
   ·have:i=f.length:=by omega
    subst this;rw[ZeE,<-hc j hj,ej,hl]
  ·have hnew:∀j,j<k->c j≠c k:=λj hj e=>old ⟨j,hj,e⟩
   have hgk:∀x<uq f,g x≠c k:=λx hx e=>by
    obtain⟨i,hi,ei⟩:=hmem x hx;exact hnew i hi (by rw[hc i hi,ei,e])
   have hcount:uq f+1<=vals.length:=by
    have nd:((qf (uq f)).map g ++ [c k]).Nodup:=by
     refine qa9.mpr ⟨?_,by simp,λa ha b hb e=>?_⟩
     ·refine zr.mpr (zP (λ{a b} ha hb hab e=>?_) (zw (n:=uq f)))
      exact hab (hg a (qu.mp ha) b (qu.mp hb) e)
     ·obtain⟨x,hx,rfl⟩:=qt.mp ha
      rw[qQ.mp hb]at e;exact hgk x (qu.mp hx) e
    have:=W2 (b:=vals) nd λy hy=>by
     rcases qZ.mp hy with hy | hy
     ·obtain⟨x,hx,rfl⟩:=qt.mp hy
      obtain⟨i,hi,ei⟩:=hmem x (qu.mp hx);rw[<-ei,<-hc i hi];exact hv i (by omega)
     ·rw[qQ.mp hy];exact hv k (by omega)
    simpa using this
   have hin:uq f∈VU jJ vals.length f:=Ud.mpr ⟨by omega,qq _,notTaken _ λo ho e=>by have:=hlt o ho;omega⟩;have hu:uq (f ++ [uq f])=uq f+1:=by rw[Zfl];omega
   refine⟨f ++ [uq f],λx=>if x=uq f then c k else g x,by simp[hl],Yv.snoc.mpr ⟨R,hin⟩,λi hi=>?_,λx hx y hy e=>?_⟩
   ·by_cases e:i<k
    ·rw[ZaH (by omega)]
     have:=hlt i e;show c i=if f.getD i 0=uq f then c k else g (f.getD i 0);rw[if_neg (by omega)];exact hc i e
    ·have:i=f.length:=by omega
     subst this;rw[ZeE,hl];show c k=if uq f=uq f then c k else _;rw[if_pos rfl]
   ·rw[hu]at hx hy
    have e:(if x=uq f then c k else g x)=if y=uq f then c k else g y:=e;by_cases h1:x=uq f
    ·by_cases h2:y=uq f
     ·omega
     ·rw[if_pos h1,if_neg h2]at e
      exact absurd e.symm (hgk y (by omega))
    ·by_cases h2:y=uq f
     ·rw[if_neg h1,if_pos h2]at e
      exact absurd e (hgk x (by omega))
     ·grind
theorem ZeF (c:Nat->Nat)(vals:List Nat)(hr:∀a b,a<b->b<n->tied jJ a b=true->c a≠c b)(hv:∀i<n,c i∈vals):Xx n jJ<=vals.length:=by
 obtain⟨f,g,h1,h2,_⟩:=canon c vals hr hv n (qq n);exact Zpt h1 h2
end TP3
namespace TQ
open L2 TF TS
open TP
open TP2
open TP3
theorem Zpu (h1:(ρ[i]?).bind id=some (.clo t cds))(h2:fs ρ s=some (ds,s1))(h3:T t (ds++cds) s1=r):BE T i fs ρ s=r:=by
 unfold BE Zp Za YI;simp_all
theorem Zmk (h1:f ρ s=some (d,s1))(h2:Vm ρ cix=some cds)(n1:YQ d=true)(n2:YY cds=true)(h3:F [d,.clo t cds] s1=some (c,s2))(n3:YQ c=true):JI F t cix f ρ s=some (c,s2):=by
 unfold JI Zp YI;rw[h1,h2];simp only;rw[if_pos (by simp_all),h3];simp;rw[if_pos n3];rfl
theorem Za8:∀{ds:List D},(∀d∈ds,YQ d=true)->YY ds=true
 | [],_=>rfl
 | d::ds,h=>by
  show(YQ d&&YY ds)=true;rw[h d qak,Za8 λx (hx:x∈ds)=>h x (qY _ hx)];rfl
theorem Zfm (hl:ds.length=n)(h:f (ds.map some) s=r):Y1 n f ds s=r:=by
 unfold Y1;simp_all
theorem ZeG (n:Nat)(jJ:Qa):YQ (ZU n jJ)=true:=by
 have:YY (jJ.map Zr)=true:=Za8 λd hd=>by obtain⟨p,_,rfl⟩:=qt.mp hd;rfl
 simp only[ZU,YQ,YY,this];rfl
theorem ZbU (lo:Int)(n:Nat):YY (Yo lo n)=true:=Za8 λd hd=>by
 obtain⟨i,_,rfl⟩:=qt.mp hd;rfl
theorem ZbV (h:JJ row ds)(hn:ds.length<=1000)(b:Nat×Nat->Bool)(s:Pn)(hb:∀p∈X8 ds.length,Tl t ([ds.getD p.1 .non,ds.getD p.2 .non]++cds) s=some (.bl (b p),s)):Ua [row,.clo t cds] s=some (ZU ds.length ((X8 ds.length).filter b),s):=by
 have hln:∀r,ZF Yi (Zb (Za 0) Zd) (some row::r) s=some (nD ds.length,s):=λr=>Yy (Zh rfl rfl) h.len;refine Xe rfl (Y3 (XT (Z4 (Zh (Zaz (hln _) hn) rfl) (ZfW s hn))) (YG (Y8 ?_)));have hap:=Zk2 ds.length hn;have hc:=YK (src:=[none,some 1,some 0]) (fi:=ZV (Za 2)) (τ:=Zt 0) (ft:=asB (BE Tl 1 (Zb (Ze Zk (Za 2) (Ze Zk (Za 0) (dC (.int 0)))) (Zb (Ze Zk (Za 2) (Ze Zk (Za 0) (dC (.int 1)))) Zd)))) (fe:=Za 0) (ρ:=[some row,some (.clo t cds),some (.lst ((X8 ds.length).map Zr))]) (λd=>[some d,some (.clo t cds),some row]) (λd=>b (WG d)) (λd=>d) (XI rfl) (by rw[qj,Yf];omega) λd hd=>by
  obtain⟨p,hpm,rfl⟩:=qt.mp hd;have hpp:=Je.mp hpm;refine⟨rfl,Yp (Zpu rfl (Zh (ZC rfl (ZC rfl rfl (UP _ _)) (h.ix (by omega))) (Zh (ZC rfl (ZC rfl rfl (Zk0 _ _ _)) (h.ix (by omega))) rfl)) (hb p hpm)),λ_=>rfl⟩
 rw[ZeV (X8 ds.length) _ b λp=>by rfl]at hc;exact Wg (Zh (hln _) (Zh (Yy (Zh hc rfl) rfl) rfl)) two_le
theorem range_getD (h:i<n):(Yo 0 n).getD i .non=nD i:=by
 rw[Vh];simp[h]
theorem ZdA (n:Nat)(jJ:Qa)(s:Pn)(hn:n<=1000)(hl:jJ.length<=100000):WN [ZU n jJ] s=some (ZU n ((X8 n).filter λp=>!decide (p∈jJ)),s):=by
 refine Xe rfl (Y3 (XT (Z4 (Zh rfl rfl) (Zei n jJ s hl))) (YG (Y8 ?_)));refine Zmk (Zaz (ZC rfl rfl JK) hn) rfl ((ZbU _ _)) rfl ?_ (ZeG _ _);have:=ZbV (row:=.lst (Yo 0 n)) (t:=0) (.inl rfl) (by rw[Xk];exact hn) (λp=>!decide (p∈jJ)) s (λp hp=>by
  rw[Xk]at hp;have hpp:=Je.mp hp;rw[range_getD (by omega),range_getD (by omega)];show ZbI [nD p.1,nD p.2,.dt (Z8 [] jJ)] s=_;refine Zfm rfl ?_;refine Zil (Z4 (Zh rfl (Zh rfl (Zh rfl rfl))) ?_);rw[ZbT,Uf hpp.1])
 rw[Xk]at this;exact this
theorem Zpv {g:Zc->M D}(h:f ρ s=some (.bl a,s))(h2:a=false->g ρ s=some (.bl b,s)):JM f g ρ s=some (.bl (a||b),s):=by
 unfold JM Zp;rw[h]
 cases a with
 | true=>rfl
 | false=>exact h2 rfl
theorem Ok.pick {gs:Zc->M (List D)}(hl:gs ρ s=some (ds,s))(hm1:ds.length=m)(ok:Xq T s)(hT:T<1000000000)(h1:fs ρ s=some ([.pen,.int (m:Int)],s))(hm:0<m)(hm2:m<1000)(h:∀d s',d∈ds->Xq (T+1) s'->Q d s'):Ok (Ze Zk (Xu gs) (Zm Yq fs) ρ) s Q:=by
 refine .op (.eq (Jp hl (by rw[Yf];omega)) (.drawD ok hT h1 hm (by omega) λr s' hr ok'=>?_));obtain⟨d,hd,e⟩:=Zm6 (ds:=ds) (r:=r) (by omega);exact⟨d,e,h d s' hd ok'⟩
theorem Zcs (h:a<b)(hb:b<N):tied ((X8 N).filter B) a b=B (a,b):=by
 rw[Uf h,qae,decide_eq_true_eq,qm];exact⟨λz=>z.2,λz=>⟨Je.mpr ⟨h,hb⟩,z⟩⟩
end TQ
namespace TQ
open L2 TF TS
open TP
open TP2 hiding g_all_near F_all_near
open TP3 hiding g_full_knots F_full_knots
noncomputable abbrev JQ (n:Nat)(jJ:Qa):D:=.tup [nD n,.dt (Z8 [] jJ)]
theorem mk0:Zk (JQ n jJ) (.int 0)=some (nD n):=UP _ _
theorem mk1:Zk (JQ n jJ) (.int 1)=some (.dt (Z8 [] jJ)):=Zk0 _ _ _
theorem Zml (n:Nat)(jJ:Qa)(p:Nat)(s:Pn)(hn:n<=100000):VQ [JQ n jJ,.int p] s=some (.lst ((Z5 n jJ p).map nD),s):=by
 refine Xe rfl (YG (Y8 ?_));unfold Z5;rw[<-B6];refine YK (λd=>[some d,some (JQ n jJ),some (.int p)]) (λd=>tied jJ p (ZZ d)) (λd=>d) (Xy (ZC rfl rfl mk0) hn) (Bg hn) ?_;intro d hd;obtain⟨i,hi,rfl⟩:=Ve hd;exact⟨rfl,Yp (Z4 (Zh (ZC rfl rfl mk1) (Zh rfl (Zh rfl rfl))) (ZbT jJ p i s)),λ_=>rfl⟩
noncomputable def gN:Zc->M Out:=(Zg (ZS 1 (ZT (Zb (Ze Zk (Za 0) (dC (.int 0))) (Zb (Zm Uz (Zb (Za 0) Zd)) Zd))))
 (Zg (ZN (ZR [none,some 1] (Z3 (Ze Zk (Za 0) (dC (.int 0)))) (Zt 0) Z7 (Zm VQ (Zb (Za 1) (Zb (Za 0) Zd)))))
 Zq))
theorem ZbW (n:Nat)(jJ:Qa)(hn:n<=1000)(hl:jJ.length<=100000)(s:Pn):runB 2 1 gN [ZU n jJ] s=some (Yl n jJ,s):=by
 refine Xe rfl (Y3 (XT (Wg (Zh (ZC rfl rfl JK) (Zh (Z4 (Zh rfl rfl) (Zei n jJ s hl)) rfl)) two_le)) (YG (Y8 ?_)));have hc:=YK (src:=[none,some 1]) (fi:=Z3 (Ze Zk (Za 0) (dC (.int 0)))) (τ:=Zt 0) (ft:=Z7) (fe:=Zm VQ (Zb (Za 1) (Zb (Za 0) Zd))) (ρ:=[some (ZU n jJ),some (JQ n jJ)]) (λd=>[some d,some (JQ n jJ)]) (λ_=>true) (λd=>.lst ((Z5 n jJ (ZZ d)).map nD)) (Xy (ZC rfl rfl JK) (by omega)) (Bg (by omega)) λd hd=>by
  obtain⟨i,hi,rfl⟩:=Ve hd;exact⟨rfl,rfl,λ_=>Z4 (Zh rfl (Zh rfl rfl)) (Zml n jJ i s (by omega))⟩
 rw[W1,Vh,qw]at hc;exact hc
theorem ZhS {g:Zc->M Out}(h:g (ds.map some++qA (n-k) none) s=g' (ds.map some++qA (n-k) none) s):runB n k g ds s=runB n k g' ds s:=by
 unfold runB;split
 ·unfold Zp;rw[h]
 ·rfl
end TQ
namespace TQ
open L2 TF TS
open TP
open TP2
open TP3
section
variable (ap:Nat->Nat->Bool)
noncomputable def one? (ps:List Nat):Option Nat:=ps.find? λp=>decide (Xp ap ps p<=1)
noncomputable def Yt:Nat->List Nat->List Nat
 | 0,_=>[]
 | m+1,ps=>if ps=[]then []else match one? ap ps with
  | some p=>p::Yt m (Xn ap ps p)
  | none=>if (Yt m (ps.filter λo=>!decide (o=Yz ap ps))).length<=(Yz ap ps::Yt m (Xn ap ps (Yz ap ps))).length then Yz ap ps::Yt m (Xn ap ps (Yz ap ps))
   else Yt m (ps.filter λo=>!decide (o=Yz ap ps))
end
section
variable {ap:Nat->Nat->Bool}
theorem ZbX (h:one? ap ps=some p):p∈ps/\Xp ap ps p<=1:=⟨List.mem_of_find?_eq_some h,by have:=List.find?_some h;simp_all⟩
theorem ZbY (sy:∀a b,ap a b=ap b a):∀(m:Nat) (ps:List Nat),KnA ap ps (Yt ap m ps)
 | 0,ps=>⟨qbC,λx hx=>by simp[Yt]at hx,λx hx=>by simp[Yt]at hx⟩
 | m+1,ps=>by
  unfold Yt;by_cases h0:ps=[]
  ·rw[if_pos h0];exact⟨qbC,λx hx=>by simp at hx,λx hx=>by simp at hx⟩
  ·rw[if_neg h0]
   have w:=λp (hp:p∈ps)=>jF sy hp (ZbY sy m (Xn ap ps p));split
   ·rename_i p hp
    exact w _ (ZbX hp).1
   ·split
    ·exact w _ (B5 h0)
    ·exact(ZbY sy m _).mono λx hx=>(qm.mp hx).1
theorem ZdB (sy:∀a b,ap a b=ap b a)(ir:∀a,ap a a=false):∀(m:Nat) (ps K:List Nat),ps.length<m->KnA ap ps K->K.length<=(Yt ap m ps).length
 | 0,ps,K,h,_=>by omega
 | m+1,ps,K,hl,h=>by
  unfold Yt;by_cases h0:ps=[]
  ·rw[if_pos h0]
   cases K with
   | nil=>simp
   | cons a r=>have:=h.sub a (by simp);rw[h0]at this;simp at this
  ·rw[if_neg h0]
   have w:∀p,p∈ps->(p∈K∨Xp ap ps p<=1)->K.length<=(p::Yt ap m (Xn ap ps p)).length:=λp hp hm=>by
    have h1:=Zj1 ir h hm;have h2:=ZdB sy ir m (Xn ap ps p) _ (by have:=ZgB (ap:=ap) hp;omega) (h.rest (p:=p));simp only[zo];omega
   split
   ·rename_i p hp
    exact w _ (ZbX hp).1 (.inr (ZbX hp).2)
   ·have hb:=B5 (ap:=ap) h0
    by_cases hk:Yz ap ps∈K
    ·have:=w _ hb (.inl hk)
     grind
    ·have h3:=ZdB sy ir m (ps.filter λo=>!decide (o=Yz ap ps)) K (by have:=Zdw hb;omega) ⟨h.nd,λx hx=>qm.mpr ⟨h.sub x hx,by
      grind⟩,h.two⟩
     grind
theorem ZcM (m:Nat):∀(ps:List Nat),(Yt ap m ps).length<=m:=by
 induction m with
 | zero=>simp[Yt]
 | succ m ih=>
  intro ps;unfold Yt;split
  ·simp
  ·grind
end
noncomputable abbrev Xi (n:Nat):D:=.tup (qA n (nD 1))
theorem ZiL (h:p<n):Zk (Xi n) (nD p)=some (nD 1):=by
 refine X2 ?_;simp_all
theorem Zmm (k:Nat):dSum [.lst (qA k (nD 1))]=some (nD k):=by
 have h1:ZE (qA k (nD 1))=some (qA k 1):=by
  rw[show qA k (nD 1)=(qA k (1:Int)).map D.int by simp];exact JZ _
 show(match ZE (qA k (nD 1))with | some ns=>if VT ns=true then some (D.int ns.sum)else none | none=>none)=_;have h2:VT (qA k 1)=true:=yz.mpr λx hx=>by simp_all
 simp_all
noncomputable def ZgF:Zc->M Out:=(Zg (ZN (ZF dSum (Zb (ZR [none,some 0] (ZV (Za 1)) (Zt 0) Z7 (Ze Zk (Za 1) (Za 0))) Zd)))
 Zq)
theorem ZaJ {ps:List Nat}(hp:∀p∈ps,p<n)(hl:ps.length<=1000)(s:Pn):runB 2 2 ZgF [Xi n,.lst (ps.map nD)] s=some (nD ps.length,s):=by
 have hc:=YK (src:=[none,some 0]) (fi:=ZV (Za 1)) (τ:=Zt 0) (ft:=Z7) (fe:=Ze Zk (Za 1) (Za 0)) (ρ:=[some (Xi n),some (.lst (ps.map nD))]) (s:=s) (λd=>[some d,some (Xi n)]) (λ_=>true) (λ_=>nD 1) (XI rfl) (by rw[qj,Yf];omega) (λd hd=>by
  obtain⟨x,hx,rfl⟩:=qt.mp hd;exact⟨rfl,rfl,λ_=>ZC rfl rfl (ZiL (hp x hx))⟩)
 rw[W1,List.map_const',qj]at hc;exact Xe rfl (YG (Y8 (Yy (Zh hc rfl) (Zmm _))))
noncomputable def Zpw:Zc->M Out:=(Zg (ZN (ZR [none,some 0,some 1] (ZV (Za 2)) (Zt 0) (asB (Ze Ys (Za 0) (Ze Zk (Za 1) (Za 2)))) (Za 0)))
 Zq)
noncomputable def ZhT:List D->M D:=runB 3 3 Zpw
noncomputable def Vv:List D->M D:=runB 2 2 ZgF
noncomputable def gHW (Fs:List D->M D):Zc->M Out:=(Zg (ZS 4 (ZR [none,some 2,some 0] (ZV (Za 3)) (Zt 0) (XW (asB (Ze XX (Za 0) (Za 1))) (asB (Ze XU (Za 0) (Ze Zk (Za 2) (Za 1))))) (Za 0)))
 (Zg (ZN (Ze Y0 (Xu (Zb (Za 2) Zd)) (Zm Fs (Zb (Za 0) (Zb (Za 1) (Zb (Za 4) Zd))))))
 Zq))
noncomputable def FHW (Fs:List D->M D):List D->M D:=runB 5 4 (gHW Fs)
noncomputable def Zom (Fs:List D->M D):Zc->M Out:=(Zg (YR (asB (Ze dLe (Zm Vv (Zb (Za 1) (Zb (Ze Zk (Za 3) (Za 4)) Zd))) (Ze Zk (Za 1) (Ze Zk (Za 2) (Za 4)))))
 (Zg (ZN (Zm (FHW Fs) (Zb (Za 0) (Zb (Za 1) (Zb (Ze Zk (Za 2) (Za 4)) (Zb (Za 2) Zd))))))
 Zq)
 Zq)
 Zq)
noncomputable def gHA (Fs:List D->M D):Zc->M Out:=(Zg (YR (asB (Ze XA (Za 2) (Xu Zd)))
 (Zg (ZN (Xu Zd))
 Zq)
 Zq)
 (Zg (ZS 3 (ZR [none,some 0,some 2] (ZV (Za 2)) (Zt 0) Z7 (Zm ZhT (Zb (Za 1) (Zb (Za 0) (Zb (Za 2) Zd))))))
 (Zg (YU (Z3 (ZF Yi (Zb (Za 2) Zd))) (Zt 4) (Zom Fs))
 (Zg (ZS 5 (ZR [none] (ZV (Za 3)) (Zt 0) Z7 (ZF Yi (Zb (Za 0) Zd))))
 (Zg (ZS 6 (Ze Zk (Za 2) (Ze Ze0 (Za 5) (ZF Zir (Zb (Za 5) Zd)))))
 (Zg (ZS 7 (Zm (FHW Fs) (Zb (Za 0) (Zb (Za 1) (Zb (Za 6) (Zb (Za 2) Zd))))))
 (Zg (ZS 8 (Zm Fs (Zb (Za 0) (Zb (Za 1) (Zb (ZR [none,some 6] (ZV (Za 2)) (Zt 0) (asB (Ze XX (Za 0) (Za 1))) (Za 0)) Zd)))))
 (Zg (ZN (BL (asB (Ze U2 (Zm Vv (Zb (Za 1) (Zb (Za 7) Zd))) (Zm Vv (Zb (Za 1) (Zb (Za 8) Zd))))) (Za 7) (Za 8)))
 Zq))))))))
noncomputable def BQ:Nat->List D->M D
 | 0=>λ_=>Zv
 | n+1=>runB 9 3 (gHA (BQ n))
theorem geN (a b:Nat):U2 (nD a) (nD b)=some (.bl (decide (b<=a))):=by
 show some (D.bl (decide ((b:Int)<=(a:Int))))=_;simp
theorem ZhU (P:Nat->Bool)(h:Nat->D)(ps:List Nat):(qf ps.length).findSome? (λi=>if P (ps.getD i 0)=true then some (h (ps.getD i 0))else none)=(ps.find? P).map h:=by
 have e:(qf ps.length).map (λi=>ps.getD i 0)=ps:=by
  apply yW;intro i;by_cases hi:i<ps.length
  ·simp_all
  ·simp_all
 have k:∀l:List Nat,l.findSome? (λx=>if P x=true then some (h x)else none)=(l.find? P).map h:=λl=>by
  induction l with
  | nil=>rfl
  | cons x l ih=>
   rw[qab,List.find?_cons]
   cases hx:P x with
   | true=>rfl
   | false=>exact ih
 rw[<-k ps]
 conv=>rhs;rw[<-e]
 rw[List.findSome?_map];rfl
section
variable {n:Nat}{A:Nat->List Nat}{ap:Nat->Nat->Bool}
theorem Zmn (hA:∀p o,ap p o=decide (o∈A p))(hp:p<n)(ps:List Nat)(hl:ps.length<=1000)(s:Pn):ZhT [Xw n A,nD p,.lst (ps.map nD)] s=some (.lst ((ps.filter λo=>ap p o).map nD),s):=by
 have hc:=YK (src:=[none,some 0,some 1]) (fi:=ZV (Za 2)) (τ:=Zt 0) (ft:=asB (Ze Ys (Za 0) (Ze Zk (Za 1) (Za 2)))) (fe:=Za 0) (ρ:=[some (Xw n A),some (nD p),some (.lst (ps.map nD))]) (s:=s) (λd=>[some d,some (Xw n A),some (nD p)]) (λd=>ap p (ZZ d)) (λd=>d) (XI rfl) (by rw[qj,Yf];omega) (λd hd=>by
  obtain⟨x,hx,rfl⟩:=qt.mp hd;exact⟨rfl,Yp (ZC rfl (ZC rfl rfl (Zma hp)) (by rw[Zpp,<-hA];rfl)),λ_=>rfl⟩)
 rw[zR,qw]at hc;exact Xe rfl (YG (Y8 hc))
theorem ZpZ (hA:∀p o,ap p o=decide (o∈A p))(hp:p<n)(hl:ps.length<=1000)(hr:r.length<=1000)(hF:Fs [Xw n A,Xi n,.lst ((Xn ap ps p).map nD)] s=some (.lst (r.map nD),s)):FHW Fs [Xw n A,Xi n,nD p,.lst (ps.map nD)] s=some (.lst ((p::r).map nD),s):=by
 have hc:=YK (src:=[none,some 2,some 0]) (fi:=ZV (Za 3)) (τ:=Zt 0) (ft:=XW (asB (Ze XX (Za 0) (Za 1))) (asB (Ze XU (Za 0) (Ze Zk (Za 2) (Za 1))))) (fe:=Za 0) (ρ:=[some (Xw n A),some (Xi n),some (nD p),some (.lst (ps.map nD)),none]) (s:=s) (λd=>[some d,some (nD p),some (Xw n A)]) (λd=>!decide (ZZ d=p) && !ap p (ZZ d)) (λd=>d) (XI rfl) (by rw[qj,Yf];omega) (λd hd=>by
  obtain⟨x,hx,rfl⟩:=qt.mp hd;refine⟨rfl,ZeW (Yp (ZC rfl rfl (ZhO x p))) λ_=>Yp (ZC rfl (ZC rfl rfl (Zma hp)) (by rw[Zj2,<-hA];rfl)),λ_=>rfl⟩)
 rw[zR,qw]at hc;refine Xe rfl (Y3 (XT hc) (YG (Y8 (ZC (Jp (Zh rfl rfl) (by show 1<=xh;decide)) (Z4 (Zh rfl (Zh rfl (Zh rfl rfl))) hF) ?_))));rw[ZnF (by grind)];rfl
theorem ZcN:∀(m:Nat) (ps:List Nat),∀x∈Yt ap m ps,x∈ps
 | 0,ps,x,hx=>by simp[Yt]at hx
 | m+1,ps,x,hx=>by
  unfold Yt at hx;by_cases h0:ps=[]
  ·grind
  ·rw[if_neg h0]at hx
   have w:=λp (hp:p∈ps) (h:x∈p::Yt ap m (Xn ap ps p))=>show x∈ps from by
    rcases qy.mp h with e | h
    ·simp_all
    ·exact(UE x (ZcN m _ x h)).1
   split at hx
   ·rename_i p hp
    exact w _ (ZbX hp).1 hx
   ·split at hx
    ·exact w _ (B5 h0) hx
    ·exact(qm.mp (ZcN m _ x hx)).1
theorem Za2 (hA:∀p o,ap p o=decide (o∈A p))(s:Pn):∀(m:Nat) (ps:List Nat),ps.length<m->m<=100->(∀p∈ps,p<n)->BQ m [Xw n A,Xi n,.lst (ps.map nD)] s=some (.lst ((Yt ap m ps).map nD),s)
 | 0,_,h,_,_=>by omega
 | m+1,ps,hl,hm,hn=>by
  have hpl:YN (ps.map nD)=true:=Zdv ps;have hdp:XE (ps.map nD)<=10:=by rw[ZiG];omega
  have heq:=Zpq (ps.map nD) hpl hdp;by_cases h0:ps=[]
  ·subst h0
   refine Xe rfl (YG (JA (Yp (ZC (d:=.lst []) (e:=.lst []) rfl (Jp rfl (zk _)) heq)) (YG (Y8 (d:=.lst []) (Jp rfl (zk _))))))
  ·have hf:decide (ps.map nD=[])=false:=by simpa using h0
   rw[hf]at heq;have hcs:ps.map (Xp ap ps)≠[]:=by simpa using h0
   have hc:=YK (src:=[none,some 0,some 2]) (fi:=ZV (Za 2)) (τ:=Zt 0) (ft:=Z7) (fe:=Zm ZhT (Zb (Za 1) (Zb (Za 0) (Zb (Za 2) Zd)))) (ρ:=[some (Xw n A),some (Xi n),some (.lst (ps.map nD)),none,none,none,none,none,none]) (s:=s) (ds:=ps.map nD) (λd=>[some d,some (Xw n A),some (.lst (ps.map nD))]) (λ_=>true) (λd=>.lst ((ps.filter λo=>ap (ZZ d) o).map nD)) (XI rfl) (by rw[qj,Yf];omega) (λd hd=>by
    obtain⟨x,hx,rfl⟩:=qt.mp hd;exact⟨rfl,rfl,λ_=>Z4 (Zh rfl (Zh rfl (Zh rfl rfl))) (Zmn hA (hn x hx) ps (by omega) s)⟩)
   rw[W1,qw]at hc;generalize hR:ps.map ((λd=>D.lst ((ps.filter λo=>ap (ZZ d) o).map nD))∘nD)=R at hc;have kw:∀p,p∈ps->FHW (BQ m) [Xw n A,Xi n,nD p,.lst (ps.map nD)] s=some (.lst ((p::Yt ap m (Xn ap ps p)).map nD),s):=λp hp=>by
    have hlt:=ZgB (ap:=ap) hp;have hb:=ZcM (ap:=ap) m (Xn ap ps p);exact ZpZ hA (hn p hp) (by omega) (by omega) (Za2 hA s m (Xn ap ps p) (by omega) (by omega) λx hx=>hn x (UE x hx).1)
   have hrow:∀i,i<ps.length->Zk (.lst R) (nD i)=some (.lst ((ps.filter λo=>ap (ps.getD i 0) o).map nD)):=λi hi=>by
    refine X2 ?_;rw[<-hR,qM,qE,qB hi];rfl
   have hpl2:∀i,i<ps.length->Zk (.lst (ps.map nD)) (nD i)=some (nD (ps.getD i 0)):=λi hi=>Zfi hi;have hgm:∀i,i<ps.length->ps.getD i 0∈ps:=λi hi=>by
    rw[qE,qB hi];exact yn hi
   have hfind:=Zcg (τ:=Zt 4) (body:=Zom (BQ m)) (s:=s) (fun ρ=>∃o4,ρ=[some (Xw n A),some (Xi n),some (.lst (ps.map nD)),some (.lst R),o4,none,none,none,none]) (λi=>if decide (Xp ap ps (ps.getD i 0)<=1)=true then some (.lst ((ps.getD i 0::Yt ap m (Xn ap ps (ps.getD i 0))).map nD))else none) (qf ps.length) [some (Xw n A),some (Xi n),some (.lst (ps.map nD)),some (.lst R),none,none,none,none,none] ⟨none,rfl⟩ (λi hi ρ hρ=>by
    obtain⟨o4,rfl⟩:=hρ;have hi:=qu.mp hi;refine⟨_,rfl,?_⟩;have hcond:asB (Ze dLe (Zm Vv (Zb (Za 1) (Zb (Ze Zk (Za 3) (Za 4)) Zd))) (Ze Zk (Za 1) (Ze Zk (Za 2) (Za 4)))) [some (Xw n A),some (Xi n),some (.lst (ps.map nD)),some (.lst R),some (nD i),none,none,none,none] s=some (decide (Xp ap ps (ps.getD i 0)<=1),s):=by
     refine Yp (ZC (Z4 (Zh rfl (Zh (ZC (d:=.lst R) (e:=nD i) rfl rfl (hrow i hi)) rfl)) (ZaJ (λp hp=>hn p (qm.mp hp).1) (by have:=za (λo=>ap (ps.getD i 0) o) ps;omega) s)) (ZC (d:=Xi n) rfl (ZC (d:=.lst (ps.map nD)) (e:=nD i) rfl rfl (hpl2 i hi)) (ZiL (hn _ (hgm i hi)))) ?_);show some (D.bl (decide (((ps.filter λo=>ap (ps.getD i 0) o).length:Int)<=(1:Int))))=_;congr 2;exact decide_eq_decide.mpr (by unfold Xp;omega)
    by_cases hq:Xp ap ps (ps.getD i 0)<=1
    ·rw[decide_eq_true hq]at hcond⊢
     rw[if_pos rfl];exact YG (JA hcond (YG (Y8 (Z4 (Zh rfl (Zh rfl (Zh (ZC (d:=.lst (ps.map nD)) (e:=nD i) rfl rfl (hpl2 i hi)) (Zh rfl rfl)))) (kw _ (hgm i hi))))))
    ·rw[decide_eq_false hq]at hcond⊢
     rw[if_neg yR];exact⟨_,Y3 (Bv hcond rfl) rfl,some (nD i),rfl⟩)
   rw[ZhU (λp=>decide (Xp ap ps p<=1)) (λp=>.lst ((p::Yt ap m (Xn ap ps p)).map nD)) ps]at hfind;have Z9:Z3 (ZF Yi (Zb (Za 2) Zd)) [some (Xw n A),some (Xi n),some (.lst (ps.map nD)),some (.lst R),none,none,none,none,none] s=some ((qf ps.length).map nD,s):=by
    have:=Xy (f:=ZF Yi (Zb (Za 2) Zd)) (ρ:=[some (Xw n A),some (Xi n),some (.lst (ps.map nD)),some (.lst R),none,none,none,none,none]) (s:=s) (n:=ps.length) (Yy (Zh rfl rfl) (ZjY ps)) (by omega);rw[Vh]at this;exact this
   unfold Yt;rw[if_neg h0];refine Xe rfl (Y3 (Bv (Yp (ZC (d:=.lst (ps.map nD)) (e:=.lst []) rfl (Jp rfl (zk _)) heq)) rfl) (Y3 (XT hc) ?_));show Zg _ _ [some (Xw n A),some (Xi n),some (.lst (ps.map nD)),some (.lst R),none,none,none,none,none] s=_
   cases ho:one? ap ps with
   | some p=>
    have ho':ps.find? (λp=>decide (Xp ap ps p<=1))=some p:=ho;rw[ho']at hfind;exact YG (ZcH Z9 hfind)
   | none=>
    have ho':ps.find? (λp=>decide (Xp ap ps p<=1))=none:=ho;rw[ho']at hfind;obtain⟨ρ2,hf2,o4,rfl⟩:=hfind;refine Y3 (ZcH Z9 hf2) ?_;have hmax:=Zmb hcs;have hp1:=B5 (ap:=ap) h0;have hix:Zk (.lst (ps.map nD)) (nD ((ps.map (Xp ap ps)).idxOf (Wu (ps.map (Xp ap ps)))))=some (nD (Yz ap ps)):=Zfi (by
     have:=qam.mpr (ZhN hcs);simpa using this)
    have hcc:=YK (src:=[none]) (fi:=ZV (Za 3)) (τ:=Zt 0) (ft:=Z7) (fe:=ZF Yi (Zb (Za 0) Zd)) (ρ:=[some (Xw n A),some (Xi n),some (.lst (ps.map nD)),some (.lst R),o4,none,none,none,none]) (s:=s) (ds:=R) (λd=>[some d]) (λ_=>true) (λd=>match d with | .lst l=>nD l.length | _=>.non) (XI rfl) (by rw[<-hR,qj,Yf];omega) (λd hd=>by
     rw[<-hR]at hd;obtain⟨x,hx,rfl⟩:=qt.mp hd;exact⟨rfl,rfl,λ_=>Yy (Zh rfl rfl) rfl⟩)
    rw[W1,<-hR,qw]at hcc;have e5:ps.map ((λd=>match d with | .lst l=>nD l.length | _=>D.non)∘((λd=>D.lst ((ps.filter λo=>ap (ZZ d) o).map nD))∘nD))=(ps.map (Xp ap ps)).map nD:=by
     rw[qw];refine zm λx _=>?_;show nD ((ps.filter λo=>ap x o).map nD).length=nD (Xp ap ps x);rw[qj];rfl
    rw[e5,hR]at hcc;have hwo:=Zdw hp1;have ih2:=Za2 hA s m (ps.filter λo=>!decide (o=Yz ap ps)) (by omega) (by omega) λx hx=>hn x (qm.mp hx).1;have hc2:=YK (src:=[none,some 6]) (fi:=ZV (Za 2)) (τ:=Zt 0) (ft:=asB (Ze XX (Za 0) (Za 1))) (fe:=Za 0) (ρ:=[some (Xw n A),some (Xi n),some (.lst (ps.map nD)),some (.lst R),o4,some (.lst ((ps.map (Xp ap ps)).map nD)),some (nD (Yz ap ps)),some (.lst ((Yz ap ps::Yt ap m (Xn ap ps (Yz ap ps))).map nD)),none]) (s:=s) (ds:=ps.map nD) (λd=>[some d,some (nD (Yz ap ps))]) (λd=>!decide (ZZ d=Yz ap ps)) (λd=>d) (XI rfl) (by rw[qj,Yf];omega) (λd hd=>by
     obtain⟨x,hx,rfl⟩:=qt.mp hd;exact⟨rfl,Yp (ZC (d:=nD x) (e:=nD (Yz ap ps)) rfl rfl (ZhO _ _)),λ_=>rfl⟩)
    have e2:((ps.map nD).filter λd=>!decide (ZZ d=Yz ap ps)).map (λd=>d)=(ps.filter λo=>!decide (o=Yz ap ps)).map nD:=by rw[zR,qw];rfl
    rw[e2]at hc2;have bl1:=ZcM (ap:=ap) m (Xn ap ps (Yz ap ps));have bl2:=ZcM (ap:=ap) m (ps.filter λo=>!decide (o=Yz ap ps));have w1:=ZaJ (n:=n) (ps:=Yz ap ps::Yt ap m (Xn ap ps (Yz ap ps))) (λp hp=>by
     rcases qy.mp hp with e | hp
     ·rw[e];exact hn _ hp1
     ·exact hn p (UE p (ZcN m _ p hp)).1) (by simp only[zo];omega) s
    have w2:=ZaJ (n:=n) (ps:=Yt ap m (ps.filter λo=>!decide (o=Yz ap ps))) (λp hp=>hn p (qm.mp (ZcN m _ p hp)).1) (by omega) s;refine Y3 (XT hcc) (Y3 (XT (ZC (d:=.lst (ps.map nD)) rfl (ZC (d:=.lst ((ps.map (Xp ap ps)).map nD)) rfl (Yy (Zh rfl rfl) hmax) (ZhP (ZhN hcs))) hix)) (Y3 (XT (Z4 (Zh rfl (Zh rfl (Zh rfl (Zh rfl rfl)))) (kw _ hp1))) (Y3 (XT (Z4 (Zh rfl (Zh rfl (Zh hc2 rfl))) ih2)) (YG (Y8 ?_)))));have hge:=geN (Yz ap ps::Yt ap m (Xn ap ps (Yz ap ps))).length (Yt ap m (ps.filter λo=>!decide (o=Yz ap ps))).length;have ht:=Yp (ZC (g:=U2) (ρ:=[some (Xw n A),some (Xi n),some (.lst (ps.map nD)),some (.lst R),o4,some (.lst ((ps.map (Xp ap ps)).map nD)),some (nD (Yz ap ps)),some (.lst ((Yz ap ps::Yt ap m (Xn ap ps (Yz ap ps))).map nD)),some (.lst ((Yt ap m (ps.filter λo=>!decide (o=Yz ap ps))).map nD))]) (s:=s) (Z4 (F:=Vv) (fs:=Zb (Za 1) (Zb (Za 7) Zd)) (Zh rfl (Zh rfl rfl)) w1) (Z4 (F:=Vv) (fs:=Zb (Za 1) (Zb (Za 8) Zd)) (Zh rfl (Zh rfl rfl)) w2) hge);generalize hX:Yz ap ps::Yt ap m (Xn ap ps (Yz ap ps))=X at ht⊢;generalize hY:Yt ap m (ps.filter λo=>!decide (o=Yz ap ps))=Y at ht⊢;have hfin:∀ρ:Zc,(ρ[7]?).bind id=some (.lst (X.map nD))->(ρ[8]?).bind id=some (.lst (Y.map nD))->asB (Ze U2 (Zm Vv (Zb (Za 1) (Zb (Za 7) Zd))) (Zm Vv (Zb (Za 1) (Zb (Za 8) Zd)))) ρ s=some (decide (Y.length<=X.length),s)->BL (asB (Ze U2 (Zm Vv (Zb (Za 1) (Zb (Za 7) Zd))) (Zm Vv (Zb (Za 1) (Zb (Za 8) Zd))))) (Za 7) (Za 8) ρ s=some (.lst ((if Y.length<=X.length then X else Y).map nD),s):=fun ρ h7 h8 ht=>by
     unfold BL Zp;rw[ht];by_cases hq:Y.length<=X.length
     ·simp only[hq,decide_true,if_true]
      unfold Za YI;rw[h7]
     ·simp only[hq,decide_false,if_false,yo]
      unfold Za YI;rw[h8]
    exact hfin _ rfl rfl ht
end
noncomputable def WR (n:Nat)(jJ:Qa):List Nat:=Jv n (Yt (tied (Yb n jJ)) 26 (qf n))
noncomputable def gHK:Zc->M Out:=(Zg (ZS 2 (ZR [none] (ZV (Zm (runB 2 1 gN) (Zb (Zm WN (Zb (Za 0) Zd)) Zd))) (Zt 0) Z7 (ZF ZeU (Zb (ZR [none] (ZV (Za 0)) (Zt 0) Z7 (ZT (Zb (Za 0) (Zb (dC (.bl true)) Zd)))) Zd))))
 (Zg (ZN (ZF Bl (Zb (ZF ZcI (Zb (Zm (BQ 26) (Zb (Za 2) (Zb (Za 1) (Zb (Vu (Ze Zk (Za 0) (dC (.int 0)))) Zd)))) Zd)) Zd)))
 Zq))
theorem Zct (hw:IsWeb n jJ)(hn:n<=24):WR n jJ∈kn jJ n/\∀K∈kn jJ n,K.length<=(WR n jJ).length:=by
 have sy:∀a b,tied (Yb n jJ) a b=tied (Yb n jJ) b a:=VL _;have hk:=ZbY sy 26 (qf n);have hlt:=λx hx=>qu.mp (hk.sub x hx);have hp:=Za0 hk.nd hlt;constructor
 ·refine Ug.mpr ⟨Zcq _ _,λo ho=>hlt o (hp.mem_iff.mp ho),λa ha b hb ne=>?_⟩
  have ha':=hp.mem_iff.mp ha;have hb':=hp.mem_iff.mp hb;have:=hk.two a ha' b hb' ne
  cases h:tied jJ a b with
  | true=>rfl
  | false=>
   have:=Jd.mpr ⟨hlt a ha',hlt b hb',ne,h⟩;simp_all
 ·intro K hK
  obtain⟨h1,h2,h3⟩:=Ug.mp hK;have:=ZdB sy Zmd 26 (qf n) K (by rw[qI];omega) ⟨ZaG h1,λx hx=>qu.mpr (h2 x hx),λx hx y hy ne=>by
   cases h:tied (Yb n jJ) x y with
   | false=>rfl
   | true=>
    have h4:=(Jd.mp h).2.2.2;simp_all⟩
  have e:=hp.length_eq;show K.length<=(Jv n _).length;omega
theorem ZhV:(WR n jJ).length<=n:=by
 have:=za (λx=>decide (x∈Yt (tied (Yb n jJ)) 26 (qf n))) (qf n);rw[qI]at this;exact this
theorem Zmo (n:Nat)(jJ:Qa)(hn:n<=24)(hl:jJ.length<=100000)(s:Pn):runB 3 2 gHK [ZU n jJ,Xi n] s=some (ZH (WR n jJ),s):=by
 have sy:∀a b,tied (Yb n jJ) a b=tied (Yb n jJ) b a:=VL _;have hk:=ZbY sy 26 (qf n);have hlt:∀x∈Yt (tied (Yb n jJ)) 26 (qf n),x<n:=λx hx=>qu.mp (hk.sub x hx);have hp:=Za0 hk.nd hlt;have htl:=(Za7 n jJ).len hn;have hc:=YK (src:=[none]) (fi:=ZV (Zm (runB 2 1 gN) (Zb (Zm WN (Zb (Za 0) Zd)) Zd))) (τ:=Zt 0) (ft:=Z7) (fe:=ZF ZeU (Zb (ZR [none] (ZV (Za 0)) (Zt 0) Z7 (ZT (Zb (Za 0) (Zb (dC (.bl true)) Zd)))) Zd)) (ρ:=[some (ZU n jJ),some (Xi n),none]) (s:=s) (ds:=(qf n).map λp=>D.lst ((Z5 n (Yb n jJ) p).map nD)) (λd=>[some d]) (λ_=>true) (λd=>match d with | .lst ds=>.dk (XS (ds.map ZZ)) | _=>.non)
  (XI (Z4 (Zh (Z4 (Zh rfl rfl) (ZdA n jJ s (by omega) hl)) rfl) (ZbW n (Yb n jJ) (by omega) (by omega) s))) (by rw[qj,qI,Yf];omega) (λd hd=>by
  obtain⟨p,hp,rfl⟩:=qt.mp hd;refine⟨rfl,rfl,λ_=>?_⟩;have hnl:(Z5 n (Yb n jJ) p).length<=n:=by
   have:=za (λo=>tied (Yb n jJ) p o) (qf n);rw[qI]at this;exact this
  have hc2:=YK (src:=[none]) (fi:=ZV (Za 0)) (τ:=Zt 0) (ft:=Z7) (fe:=ZT (Zb (Za 0) (Zb (dC (.bl true)) Zd))) (ρ:=[some (D.lst ((Z5 n (Yb n jJ) p).map nD))]) (s:=s) (ds:=(Z5 n (Yb n jJ) p).map nD) (λd=>[some d]) (λ_=>true) (λd=>D.tup [d,.bl true]) (XI rfl) (by rw[qj,Yf];omega) (λd hd=>⟨rfl,rfl,λ_=>Wg (Zh rfl (Zh rfl rfl)) two_le⟩);rw[W1,qw]at hc2;refine Yy (Zh hc2 rfl) ?_;show(if ((Z5 n (Yb n jJ) p).map ((λd=>D.tup [d,.bl true])∘nD)).length<=xh then (Vl [] _).map D.dk else none)=_;rw[if_pos (by rw[qj,Yf];omega)];have e:=Zl9 (Z5 n (Yb n jJ) p) [] (zw.sublist qP) λ_ _=>rfl;show(Vl [] ((Z5 n (Yb n jJ) p).map λo=>D.tup [nD o,.bl true])).map D.dk=_;rw[e];show some (D.dk (XS (Z5 n (Yb n jJ) p)))=some (D.dk (XS (((Z5 n (Yb n jJ) p).map nD).map ZZ)));rw[qw];have:(Z5 n (Yb n jJ) p).map (ZZ∘nD)=Z5 n (Yb n jJ) p:=qaX _;rw[this])
 rw[W1,qw]at hc;have e1:(qf n).map ((λd=>match d with | .lst ds=>D.dk (XS (ds.map ZZ)) | _=>.non)∘λp=>D.lst ((Z5 n (Yb n jJ) p).map nD))=(qf n).map λp=>.dk (XS (Z5 n (Yb n jJ) p)):=by
  refine zm λp _=>?_;show D.dk (XS (((Z5 n (Yb n jJ) p).map nD).map ZZ))=_;rw[qw];have:(Z5 n (Yb n jJ) p).map (ZZ∘nD)=Z5 n (Yb n jJ) p:=qaX _;rw[this]
 rw[e1]at hc;have hb:=Za2 (n:=n) (A:=Z5 n (Yb n jJ)) (ap:=tied (Yb n jJ)) Zd1 s 26 (qf n) (by rw[qI];omega) (by omega) λp hp=>qu.mp hp;have hlr:Vu (Ze Zk (Za 0) (dC (.int 0))) [some (ZU n jJ),some (Xi n),some (Xw n (Z5 n (Yb n jJ)))] s=some (.lst ((qf n).map nD),s):=by
  show(if -(2 ^ 62)<=(n:Int)/\(n:Int)<=2 ^ 24 then Zy (D.lst (Yo 0 (n:Int).toNat))else Zv) s=_;rw[if_pos ⟨by omega,by omega⟩,Vh];rfl
 have hbl:=ZcM (ap:=tied (Yb n jJ)) 26 (qf n);have hs:=Zj3 hk.nd hlt (by omega);exact Xe rfl (Y3 (XT hc) (YG (Y8 (Yy (Zh (Yy (Zh (Z4 (Zh rfl (Zh rfl (Zh hlr rfl))) hb) rfl) hs) rfl) rfl))))
theorem Zj7 (n:Nat)(hn:n<=1000):Ziz (.tup [nD 1]) (nD n)=some (Xi n):=by
 show(if (n:Int)=1 then some (D.tup [nD 1])else if (n:Int)=0/\[nD 1]≠[]then some (.tup [])else Jz (.tup [nD 1]) (.int (n:Int)))=_;by_cases h1:n=1
 ·subst h1;rfl
 ·rw[if_neg (by omega)]
  by_cases h0:n=0
  ·subst h0;rfl
  ·rw[if_neg (by omega)]
   show(if [nD 1]≠[]/\2<=(n:Int)/\(n:Int)<2 ^ 62/\[nD 1].length*(n:Int).toNat<=xh then some (D.tup (qA (n:Int).toNat [nD 1]).flatten)else none)=_;rw[if_pos ⟨by simp,by omega,by omega,by simp only[yq,qax,Yf];omega⟩,qax,List.flatten_replicate_singleton]
theorem Zj8 (hw:IsWeb n jJ)(hn:n<=24):(Bz n jJ).length=(WR n jJ).length:=by
 obtain⟨a1,a2⟩:=Zby hw hn;obtain⟨b1,b2⟩:=Zct hw hn;have:=a2 _ b1
 grind
end TQ
namespace TP3
open L2 TF TP TS
open TP2
noncomputable abbrev om (n:Nat)(jJ:Qa):Nat:=(Bz n jJ).length
section
variable {n:Nat}{jJ:Qa}
theorem Zon {K:List Nat}(hw:IsWeb n jJ)(hn:n<=24)(h:K∈kn jJ n):K.length<=om n jJ:=(Zby hw hn).2 K h
noncomputable def WL (n:Nat)(p:Nat->Bool):List Nat:=(qf n).filter p
theorem ZdC (n:Nat)(p:Nat->Bool):(WL n p).Pairwise (· < ·):=(range_rise n).sublist qP
theorem Wo:x∈WL n p↔x<n/\p x=true:=by unfold WL;simp
end
end TP3
namespace TQ
open L2 TF TS
open TP
open TP2 hiding g_all_near F_all_near
open TP3 hiding g_full_knots F_full_knots
theorem Zmp (n:Nat)(jJ:Qa)(hn:n<=1000)(hl:jJ.length<=100000)(s:Pn):F_all_near [ZU n jJ] s=some (Yl n jJ,s):=ZbW n jJ hn hl s
theorem Zmq (n:Nat)(jJ:Qa)(hw:IsWeb n jJ)(hn:n<=10)(s:Pn):F_full_knots [ZU n jJ] s=some (.lst (By n jJ),s):=by
 have hl:=hw.len (show n<=24 by omega);rw[<-ZdZ n jJ hw hn s];refine ZhS ?_;exact(Y3 (XT (Z4 (Zh rfl rfl) (Zmp n jJ (by omega) (by omega) s))) rfl).trans (Y3 (XT (Z4 (Zh rfl rfl) (Zco n jJ (by omega) s))) rfl).symm
theorem Zmr (n:Nat)(jJ:Qa)(hn:n<=24)(hl:jJ.length<=100000)(s:Pn):W6 [ZU n jJ] s=some (.tup [nD (WR n jJ).length,ZH (WR n jJ)],s):=by
 have h:=Zmo n jJ hn hl s;exact Xe rfl (Y3 (XT (Z4 (Zh rfl (Zh (ZC (Wg (Zh rfl rfl) (by decide)) (ZC rfl rfl JK) (Zj7 n (by omega))) rfl)) h)) (YG (Y8 (Wg (Zh (Yy (Zh rfl rfl) (by show some (D.int _)=_;simp)) (Zh rfl rfl)) two_le))))
theorem ZdD (hw:IsWeb n jJ)(hn:n<=24)(s:Pn):W6 [ZU n jJ] s=some (.tup [nD (om n jJ),ZH (WR n jJ)],s):=by
 have hl:=hw.len hn;have h:=Zmr n jJ hn (by omega) s;rw[<-Zj8 hw hn]at h;exact h
theorem ZnK (hw:IsWeb n jJ)(hn:n<=8)(s:Pn):UA [ZU n jJ] s=some (.tup [nD (Xx n jJ),ZH (Up n jJ)],s):=by
 have htl:=hw.len (by omega:n<=24);have hm:=ZdD hw (by omega) s;have hon:∀many≤1000,∀(ρ:Zc),(ρ[1]?).bind id=some (Yl n jJ)->(ρ[2]?).bind id=some (nD many)->Zm (VM 10) (Zb (Za 1) (Zb (Za 2) (Zb (ZT Zd) Zd))) ρ s=some (optT (YT jJ many n []),s):=λmany hmany ρ h1 h2=>
  Z4 (ds:=[Yl n jJ,nD many,ZH []]) (Zh (by unfold Za YI;rw[h1]) (Zh (by unfold Za YI;rw[h2]) (Zh (Wg rfl (by decide)) rfl))) (Zdz (by omega) many hmany s n 10 [] (by simp) (by omega))
 obtain⟨c1,c2,c3⟩:=Zdx n jJ;obtain⟨f1,f2,f3,f4⟩:=Zdy n jJ;have hmc:om n jJ<=Xx n jJ:=Za1 hw (by omega:n<=24);apply jv;refine Ok.runB rfl ?_;refine Ok.seq (.sset (.eq (Z4 (Zh rfl rfl) (Zmp n jJ (by omega) (by omega) s)) ?_));refine Ok.seq (.sset (.eq (ZC (d:=.tup [nD (om n jJ),ZH (WR n jJ)]) (e:=.int 0) (Z4 (Zh rfl rfl) hm) rfl (UP _ _)) ?_));refine Ok.seq (.sset (.eq (hon _ (by omega) _ rfl rfl) ?_));refine Ok.seq (.swhile (λm ρ s'=>s'=s/\∃k,m+k=Xx n jJ/\ρ=[some (ZU n jJ),some (Yl n jJ),some (nD k),some (optT (YT jJ k n []))]) (Xx n jJ-om n jJ) (by omega) ⟨rfl,om n jJ,by omega,rfl⟩ λm ρ s' hI=>?_);obtain⟨rfl,k,hk,rfl⟩:=hI
 cases m with
 | zero=>
  have:k=Xx n jJ:=by omega
  subst this;rw[f1];refine .eq (a:=false) (Yp (ZC (d:=ZH (Up n jJ)) (e:=.non) (c:=.bl false) rfl rfl rfl)) ?_;rw[if_neg (by decide)];exact Ok.seq (.sret (.eq (Zio rfl rfl) ⟨rfl,rfl⟩))
 | succ m=>
  rw[c3 k (by omega)];refine .eq (Yp (ZC rfl rfl rfl)) ?_;have ha:sAug 2 (Y2 true (dC (.int 1))) [some (ZU n jJ),some (Yl n jJ),some (nD k),some .non] s'=some (.nx [some (ZU n jJ),some (Yl n jJ),some (nD (k+1)),some .non],s'):=rfl;refine Ok.seq (.eq ha ?_);refine Ok.seq (.sset (.eq (hon (k+1) (by omega) _ rfl rfl) (.next ⟨m,by omega,rfl,k+1,by omega,rfl⟩)))
theorem ZnL (hn:n<=24)(hpn:p<n)(hp:p∉qs)(hq:∀q∈qs,q<n)(hl:qs.length<=1000)(o1:Option D)(s:Pn) :
  (JB 3 (fun ρ=>(Za 4) (YB [3] ρ)) (Y2 true (Zm U6 (Zb (ZR [none,some 3] (ZV (Ze Zk (Za 2) (Za 4))) (Zt 0) (asB (Ze Ys (Za 0) (Za 1))) (Ze Ut (Za 1) (Za 0))) Zd)))) [some (ZU n jJ),o1,some (Yl n jJ),some (.dk (Y5 qs f)),some (nD p)] s
   = some (.nx [some (ZU n jJ),o1,some (Yl n jJ),some (.dk (Y5 (qs ++ [p]) λx=>if x=p then XR ((qs.filter λo=>tied jJ p o).map f)else f x)),some (nD p)],s):=by
 have hc:=YK (src:=[none,some 3]) (fi:=ZV (Ze Zk (Za 2) (Za 4))) (τ:=Zt 0) (ft:=asB (Ze Ys (Za 0) (Za 1))) (fe:=Ze Ut (Za 1) (Za 0)) (ρ:=[some (ZU n jJ),o1,some (Yl n jJ),some (.dk (Y5 qs f)),some (nD p)]) (s:=s) (ds:=(Z5 n jJ p).map nD) (λd=>[some d,some (.dk (Y5 qs f))]) (λd=>decide (ZZ d∈qs)) (λd=>nD (f (ZZ d)))
  (XI (ZC (d:=Yl n jJ) (e:=nD p) rfl rfl (ZiK hpn))) (by
   have:=za (λo=>tied jJ p o) (qf n);rw[qj,Yf];rw[qI]at this;show(Z5 n jJ p).length<=_;unfold Z5;omega) (λd hd=>by
  obtain⟨x,hx,rfl⟩:=qt.mp hd;exact⟨rfl,Yp (ZC (d:=nD x) (e:=.dk (Y5 qs f)) rfl rfl (Zpo qs f x)),λhb=>ZC (d:=.dk (Y5 qs f)) (e:=nD x) rfl rfl (Zl8 (of_decide_eq_true hb))⟩)
 have e:(((Z5 n jJ p).map nD).filter λd=>decide (ZZ d∈qs)).map (λd=>nD (f (ZZ d)))=(((Z5 n jJ p).filter λo=>decide (o∈qs)).map f).map nD:=by
  rw[zR,qw,qw];rfl
 rw[e]at hc;have jQ:(((Z5 n jJ p).filter λo=>decide (o∈qs)).map f).length<=1000:=by
  rw[qj];have h1:=za (λo=>decide (o∈qs)) (Z5 n jJ p);have h2:=za (λo=>tied jJ p o) (qf n);rw[qI]at h2;unfold Z5 at h1;unfold Z5;omega
 have hm:XR (((Z5 n jJ p).filter λo=>decide (o∈qs)).map f)=XR ((qs.filter λo=>tied jJ p o).map f):=ZeB λx=>by
  simp only[Z5,qt,qm,qu,decide_eq_true_eq];constructor
  ·rintro⟨a,⟨⟨_,h2⟩,h3⟩,rfl⟩;exact⟨a,⟨h3,h2⟩,rfl⟩
  ·rintro⟨a,⟨h3,h2⟩,rfl⟩;exact⟨a,⟨⟨hq a h3,h2⟩,h3⟩,rfl⟩
 have hf:=Zd0 (((Z5 n jJ p).filter λo=>decide (o∈qs)).map f) jQ s;rw[hm]at hf;have hv:(Y2 true (Zm U6 (Zb (ZR [none,some 3] (ZV (Ze Zk (Za 2) (Za 4))) (Zt 0) (asB (Ze Ys (Za 0) (Za 1))) (Ze Ut (Za 1) (Za 0))) Zd))) [some (ZU n jJ),o1,some (Yl n jJ),some (.dk (Y5 qs f)),some (nD p)] s=some (nD (XR ((qs.filter λo=>tied jJ p o).map f)),s):=ZkG (Z4 (Zh hc rfl) hf) rfl;rw[ZnC hv rfl rfl rfl rfl (by unfold Y5;rw[qj,Yf];omega),ZnB hp];rfl
theorem Zms (n:Nat)(jJ:Qa)(hw:IsWeb n jJ)(hn:n<=24)(hp:ps.Perm (qf n))(s:Pn):JU [ZU n jJ,.lst (ps.map nD)] s=some (ZH (WA n jJ ps),s):=by
 have nd:ps.Nodup:=hp.nodup_iff.mpr zw;have hl:ps.length=n:=by rw[hp.length_eq,qI]
 have hlt:∀q∈ps,q<n:=λq hq=>qu.mp (hp.mem_iff.mp hq);have hlt2:=hw.len hn;refine jv (Ok.runB rfl (Ok.seq (.sset (.eq (Z4 (Zh rfl rfl) (Zmp n jJ (by omega) (by omega) s)) (Ok.seq (Ok.sown (.eq (a:=.dk []) rfl ⟨rfl,?_⟩)))))));refine Ok.seq (.sfor (λk ρ s'=>s'=s/\k<=ps.length/\∃o3,ρ=[some (ZU n jJ),some (.lst (ps.map nD)),some (Yl n jJ),some (.dk (Y5 (ps.take k) (hr jJ (ps.take k).reverse))),o3]) (.eq (a:=ps.map nD) (s':=s) (XI rfl) ⟨⟨rfl,zk _,none,by rw[List.take_zero];rfl⟩,λk d ρ s' hd hI=>?_,fun ρ' s' hI=>?_⟩))
 ·obtain⟨rfl,_,o3,rfl⟩:=hI
  rw[qM]at hd
  cases e:ps[k]? with
  | none=>rw[e]at hd;cases hd
  | some p=>
   rw[e]at hd
   cases hd
   refine⟨_,rfl,Ok.seq (.eq (ZnL (f:=hr jJ (ps.take k).reverse) hn (hlt p (ye e)) (ZhL nd e) (λq hq=>hlt q (List.take_subset _ _ hq)) (by rw[ym];omega) _ s') (.next ⟨_,rfl,rfl,?_,some (nD p),?_⟩))⟩
   ·have:=(qG.mp e).1;omega
   ·rw[ZnD jJ e,Zcf e]
 ·obtain⟨rfl,_,o3,rfl⟩:=hI
  rw[qj,qaK];have hc:=YK (src:=[none,some 3]) (fi:=Z3 (Ze Zk (Za 0) (dC (.int 0)))) (τ:=Zt 0) (ft:=Z7) (fe:=Ze Ut (Za 1) (Za 0)) (ρ:=[some (ZU n jJ),some (.lst (ps.map nD)),some (Yl n jJ),some (.dk (Y5 ps (hr jJ ps.reverse))),o3]) (s:=s') (ds:=Yo 0 n) (λd=>[some d,some (.dk (Y5 ps (hr jJ ps.reverse)))]) (λ_=>true) (λd=>nD (hr jJ ps.reverse (ZZ d)))
   (Xy (ZC (d:=ZU n jJ) (e:=.int 0) rfl rfl JK) (by omega)) (by rw[Xk,Yf];omega) (λd hd=>by
   obtain⟨i,hi,rfl⟩:=Ve hd;exact⟨rfl,rfl,λ_=>ZC rfl rfl (Zl8 (hp.mem_iff.mpr (qu.mpr hi)))⟩)
  rw[W1,Vh,qw]at hc;refine Ok.seq (.sret (.eq (Yy (Zh hc rfl) ?_) ⟨rfl,rfl⟩));show some (D.tup _)=some (D.tup _);unfold WA;rw[qw];rfl
section
variable {jJ:Qa}{ws:List Wb}
end
section
variable {n m:Nat}{t1 t2 T:Qa}
end
end TQ
namespace TF
open L2
section
variable {X:Cx}{G:Gh}
end
section
variable {X:Cx}{G:Gh}
end
end TF
namespace TQ
open L2 TF TQ
open TP
open TP2 hiding g_all_near F_all_near
open TP3 hiding g_full_knots F_full_knots
end TQ
namespace TQ
open L2 TF TS
open TP
open TP2 hiding g_all_near F_all_near
open TP3 hiding g_full_knots F_full_knots
section
variable {jJ:Qa}
theorem ZiM (p:Nat)(b:List Nat):hr jJ (p::b) p=XR ((b.filter λo=>tied jJ p o).map (hr jJ b)):=by
 show(if p=p then _ else _)=_;simp
theorem ZcO (h:x≠p):hr jJ (p::b) x=hr jJ b x:=by
 show(if x=p then _ else _)=_;simp_all
theorem ZgG:∀{qs:List Nat},qs.Nodup->∀x∈qs,∀y∈qs,x≠y->tied jJ x y=true->hr jJ qs x≠hr jJ qs y
 | [],_,x,hx,_,_,_,_=>by simp at hx
 | p::b,nd,x,hx,y,hy,ne,ht=>by
  have nd':=zq.mp nd;have key:∀z∈b,tied jJ p z=true->hr jJ (p::b) p≠hr jJ (p::b) z:=λz hz hp=>by
   have hzp:z≠p:=λe=>nd'.1 (e▸hz);rw[ZiM,ZcO hzp];intro e;exact(Ba _).1 (by rw[e];exact qt.mpr ⟨z,qm.mpr ⟨hz,hp⟩,rfl⟩)
  by_cases ex:x=p
  ·grind
  ·have hx':=(qy.mp hx).resolve_left ex
   by_cases ey:y=p
   ·subst ey
    exact(key x hx' (by rw[VL];exact ht)).symm
   ·have hy':=(qy.mp hy).resolve_left ey
    rw[ZcO ex,ZcO ey];exact ZgG nd'.2 x hx' y hy' ne ht
theorem Zoo:∀{qs:List Nat},∀x∈qs,hr jJ qs x<qs.length
 | [],x,hx=>by simp at hx
 | p::b,x,hx=>by
  by_cases ex:x=p
  ·subst ex
   rw[ZiM];have h1:=Zpn ((b.filter λo=>tied jJ x o).map (hr jJ b))
   grind
  ·have hx':=(qy.mp hx).resolve_left ex
   rw[ZcO ex,zo];have:=Zoo x hx';omega
variable {n:Nat}{ps:List Nat}
theorem Zj9:(WA n jJ ps).length=n:=by unfold WA;simp
theorem Za9 (h:i<n):(WA n jJ ps).getD i 0=hr jJ ps.reverse i:=by
 unfold WA;simp_all
theorem ZiN (hp:ps.Perm (qf n)):ps.reverse.Nodup/\(∀i,i∈ps.reverse↔i<n)/\ps.reverse.length=n:=
 ⟨(List.reverse_perm ps).nodup_iff.mpr (hp.nodup_iff.mpr zw),λi=>by rw[qaJ,hp.mem_iff,qu],by rw[List.length_reverse,hp.length_eq,qI]⟩
theorem ZgH (hp:ps.Perm (qf n))(ha:a<n)(hb:b<n)(ne:a≠b)(ht:tied jJ a b=true):(WA n jJ ps).getD a 0≠(WA n jJ ps).getD b 0:=by
 obtain⟨nd,mm,_⟩:=ZiN hp;rw[Za9 ha,Za9 hb];exact ZgG nd a ((mm a).mpr ha) b ((mm b).mpr hb) ne ht
theorem Zmt (hp:ps.Perm (qf n))(ha:a<n):(WA n jJ ps).getD a 0<n:=by
 obtain⟨nd,mm,ll⟩:=ZiN hp;rw[Za9 ha];have:=Zoo (jJ:=jJ) a ((mm a).mpr ha);omega
structure RightH (n:Nat)(jJ:Qa)(f:List Nat):Prop where
 len:f.length=n
 lt:∀a<n,f.getD a 0<n
 ri:∀a<n,∀b<n,a≠b->tied jJ a b=true->f.getD a 0≠f.getD b 0
theorem Zfn (hp:ps.Perm (qf n)):RightH n jJ (WA n jJ ps):=⟨Zj9,λa ha=>Zmt hp ha,λa ha b hb ne ht=>ZgH hp ha hb ne ht⟩
end
end TQ
namespace TF
open L2
section
variable {X:Cx}{G:Gh}{f:Zc->M D}
end
end TF
namespace TQ
open L2 TF TS
open TP
open TP2 hiding g_all_near F_all_near
open TP3 hiding g_full_knots F_full_knots
section
variable (ap:Nat->Nat->Bool)(W:List Nat)
end
section
variable {ap:Nat->Nat->Bool}{W:List Nat}
end
section
variable {n:Nat}{A:Nat->List Nat}{ap:Nat->Nat->Bool}
end
theorem ZgI (key:Nat->D):∀(ps:List Nat),(∀p∈ps,F (nD p::cds) s=some (key p,s))->Bx F cds (ps.map λ(i:Nat)=>(i:Int)) s=some (ps.map key,s)
 | [],_=>rfl
 | p::ps,h=>by
  show Zp (F (nD p::cds)) (λk=>Zp (Bx F cds (ps.map λ(i:Nat)=>(i:Int))) λks=>Zy (k::ks)) s=_;unfold Zp;rw[h p qak];dsimp only;rw[ZgI key ps λq hq=>h q (qY _ hq)];rfl
theorem Zmu (ns:List Int):ZE (ns.map D.int)=some ns:=by
 induction ns with
 | nil=>rfl
 | cons n r ih=>show(ZE (r.map D.int)).map (n :: ·)=_;rw[ih];rfl
noncomputable abbrev ltS (ns:List Int):Nat->Nat->Bool:=λi j=>decide (ns.getD i 0<ns.getD j 0)
theorem ZnM (ns:List Int):OrdW (ltS ns):=by
 refine⟨λa b c h1 h2=>?_,λa b h=>?_⟩
 ·grind
 ·grind
namespace PC
end PC
end TQ
namespace TQ
open L2 TF TS
open TP
open TP2 hiding g_all_near F_all_near
open TP3 hiding g_full_knots F_full_knots
noncomputable def gWb:Zc->M Out:=(Zg (ZN (JI Ua 5 [1] (Vu (Za 0))))
 Zq)
noncomputable def FWb:List D->M D:=runB 2 2 gWb
noncomputable def gA1:Zc->M Out:=(WD 2 (ZF Ze7 (Zb (ZR [none] (ZV (Za 1)) (Zt 0) Z7 (ZT (Zb (Za 0) (Zb (dC (.bl true)) Zd)))) Zd)))
noncomputable def gA2:Zc->M Out:=(YU (Z3 (Za 0)) (Zt 3)
 (Zg (YU (Z3 (Za 0)) (Zt 4)
 (Zg (YU (Z3 (Za 0)) (Zt 5)
 (Zg (YR (XW (asB (Ze Ys (ZT (Zb (Za 4) (Zb (Za 3) Zd))) (Za 2))) (asB (Ze Ys (ZT (Zb (Za 3) (Zb (Za 5) Zd))) (Za 2))))
 (Zg (JC 2 (fun ρ=>(ZT (Zb (Za 4) (Zb (Za 5) Zd))) (YB [2] ρ)) (fun ρ=>(dC (.bl true)) (YB [2] ρ)))
 Zq)
 Zq)
 Zq))
 Zq))
 Zq))
noncomputable def cA:Zc->M Bool:=(asB (ZF UV (Zb (ZR [none,some 2] (Z3 (Za 0)) (Zt 0) Z7 (Ze Ys (ZT (Zb (Za 0) (Zb (Za 0) Zd))) (Za 1))) Zd)))
noncomputable def gAb:Zc->M Out:=Zg gA1 (Zg gA2 (Zg (YR cA (λ_=>Zv) Zq) (Zg (ZN (Za 2)) Zq)))
noncomputable def FAb:List D->M D:=runB 6 2 gAb
noncomputable def gWo:Zc->M Out:=(Zg (ZN (Zm FWb (Zb (Za 0) (Zb (Zm FAb (Zb (Za 0) (Zb (Za 1) Zd))) Zd))))
 Zq)
noncomputable def FWo:List D->M D:=runB 2 2 gWo
noncomputable def gCb:Zc->M Out:=(Zg (ZN (ZF Yi (Zb (ZR [none,some 2,some 1] (Z3 (Za 0)) (Zt 0) (asB (Ze Ys (ZT (Zb (Za 0) (Zb (Za 1) Zd))) (Za 2))) (Za 0)) Zd)))
 Zq)
noncomputable def FCb:List D->M D:=runB 3 3 gCb
noncomputable def gCt:Zc->M Out:=(Zg (ZS 2 (Zm FAb (Zb (Za 0) (Zb (Za 1) Zd))))
 (Zg (ZS 3 (Zm FWb (Zb (Za 0) (Zb (Za 2) Zd))))
 (Zg (ZS 4 (ZR [none,some 0,some 2] (Z3 (Za 0)) (Zt 0) Z7 (Zm FCb (Zb (Za 1) (Zb (Za 2) (Zb (Za 0) Zd))))))
 (Zg (ZS 5 (Zm JU (Zb (Za 3) (Zb (J5 (Y1 2 (Ze Zk (Za 1) (Za 0))) [4] (Za 0)) Zd))))
 (Zg (ZS 6 (Zm W6 (Zb (Za 3) Zd)))
 (Zg (ZN (ZT (Zb (Ze Zk (Za 6) (dC (.int 0))) (Zb (Jg (Y1 2 (Ze Zk (Za 1) (Za 0))) [4] (Ze Zk (Za 6) (dC (.int 1)))) (Zb (Za 5) Zd)))))
 Zq))))))
noncomputable def FCt:List D->M D:=runB 7 2 gCt
inductive Pth (L:Qa)(k:Nat):Nat->Nat->Prop
 | one {a b:Nat} (h:(a,b)∈L):Pth L k a b
 | two {a c b:Nat} (hc:c<k) (h1:Pth L k a c) (h2:Pth L k c b):Pth L k a b
theorem Pth.zero (h:Pth L 0 a b):(a,b)∈L:=by
 cases h with
 | one h=>exact h
 | two hc _ _=>omega
theorem Pth.split (h:Pth L (k+1) a b):Pth L k a b∨(Pth L k a k/\Pth L k k b):=by
 induction h with
 | one h=>exact .inl (.one h)
 | @two a c b hc _ _ i1 i2=>
  by_cases e:c=k
  ·grind
  ·have hk:c<k:=by omega
   rcases i1 with p | ⟨p,q⟩
   ·rcases i2 with u | ⟨u,v⟩
    ·exact .inl (.two hk p u)
    ·exact .inr ⟨.two hk p u,v⟩
   ·rcases i2 with u | ⟨u,v⟩
    ·exact .inr ⟨p,.two hk q u⟩
    simp_all
theorem Pth.trans (hL:∀p∈L,p.1<n/\p.2<n)(h1:Pth L n a c)(h2:Pth L n c b):Pth L n a b:=by
 have hc:c<n:=by
  clear h2
  induction h1 with
  | one h=>exact(hL _ h).2
  | two _ _ _ _ i2=>exact i2
 exact .two hc h1 h2
theorem jG (h3:(ρ[i]?).bind id=some (.du (Z8 [] T)))(hv:fv ρ s=some (.bl true,s))(hx:fx ρ s=some (Zr p,s))(hl:T.length<=1000000)(h:Q (.nx (ρ.set i (some (.du (Z8 [] (T ++ [p])))))) s):Ok (JC i fx fv ρ) s Q:=by
 refine .eq ?_ h;have hk:=ZnI T [];rw[yt,qb8]at hk;unfold JC Zp;rw[hv];dsimp only;rw[hx];dsimp only;rw[h3];rw[show keyT (Zr p)=some (WW p)from rfl,show X6 (.bl true)=some (.bl true)from rfl];dsimp only;rw[if_pos (by rw[Yf];omega),Zme];rfl
theorem JE (ha:fa ρ s=some (nD a,s))(hb:fb ρ s=some (nD b,s))(hf:f ρ s=some (.du (Z8 [] T),s)):Ze Ys (ZT (Zb fa (Zb fb Zd))) f ρ s=some (.bl (decide ((a,b)∈T)),s):=
 ZC (Wg (Zh ha (Zh hb rfl)) two_le) hf (Zps (a,b) T)
theorem ZnN (L:Qa)(hl:L.length<=100000)(s:Pn):ZF Ze7 (Zb (ZR [none] (ZV (Za 1)) (Zt 0) Z7 (ZT (Zb (Za 0) (Zb (dC (.bl true)) Zd)))) Zd) [o0,some (.lst (L.map Zr)),o2,o3,o4,o5] s=some (.du (Z8 [] L),s):=by
 have hc:=YK (src:=[none]) (fi:=ZV (Za 1)) (τ:=Zt 0) (ft:=Z7) (fe:=ZT (Zb (Za 0) (Zb (dC (.bl true)) Zd))) (ρ:=[o0,some (.lst (L.map Zr)),o2,o3,o4,o5]) (s:=s) (λd=>[some d]) (λ_=>true) (λd=>D.tup [d,.bl true]) (XI rfl) (by rw[qj,Yf];omega) λd hd=>⟨rfl,rfl,λ_=>Zio rfl rfl⟩;rw[yK.mpr λ_ _=>rfl,qw]at hc;refine Yy (Zh hc rfl) ?_;show(if (L.map ((λd=>D.tup [d,.bl true])∘Zr)).length<=xh then (WU [] (L.map ((λd=>D.tup [d,.bl true])∘Zr))).map D.du else none)=_;rw[if_pos (by rw[qj,Yf];omega)];have:=Zb5 L [];rw[show(L.map ((λd=>D.tup [d,.bl true])∘Zr))=L.map λp=>D.tup [Zr p,.bl true]from rfl,this];rfl
theorem Zka {n:Nat}{L:Qa}(hn:n<=24)(hl:L.length<=1000)(hL:∀p∈L,p.1<n/\p.2<n)(r:Nat->Nat->Bool)(hr:∀a b,r a b=true↔Pth L n a b)(s:Pn):Ok (gA2 [some (nD n),some (.lst (L.map Zr)),some (.du (Z8 [] L)),none,none,none]) s λo s'=>s=s'/\∃(T:Qa) (o3 o4 o5:Option D),(∀a b,decide ((a,b)∈T)=r a b)/\o=.nx [some (nD n),some (.lst (L.map Zr)),some (.du (Z8 [] T)),o3,o4,o5]:=by
 refine .sfor (λk ρ s'=>s=s'/\∃(T:Qa) (o3 o4 o5:Option D),T.length<=1000+k*10000/\(∀p∈T,Pth L n p.1 p.2)/\(∀a b,Pth L k a b->(a,b)∈T)/\ρ=[some (nD n),some (.lst (L.map Zr)),some (.du (Z8 [] T)),o3,o4,o5]) (.eq (Xy (n:=n) rfl (by omega)) ⟨⟨rfl,L,none,none,none,by omega,λp hp=>.one hp,λa b h=>h.zero,rfl⟩,λk d ρ s' hd hI=>?_,fun ρ' s' hI=>?_⟩)
 ·obtain⟨rfl,T,o3,o4,o5,hT,snd,cpl,rfl⟩:=hI
  obtain⟨hk,rfl⟩:=V9 hd;refine⟨_,rfl,?_⟩;refine Ok.seq (.sfor (λx ρ s'=>s=s'/\∃(T:Qa) (o4 o5:Option D),T.length<=1000+k*10000+x*100/\(∀p∈T,Pth L n p.1 p.2)/\(∀a b,Pth L k a b->(a,b)∈T)/\(∀a<x,∀b<n,Pth L (k+1) a b->(a,b)∈T)/\ρ=[some (nD n),some (.lst (L.map Zr)),some (.du (Z8 [] T)),some (nD k),o4,o5]) (.eq (Xy (n:=n) rfl (by omega)) ⟨⟨rfl,T,o4,o5,by omega,snd,cpl,λa ha=>by omega,rfl⟩,λx d ρ s' hd hJ=>?_,fun ρ' s' hJ=>?_⟩))
  ·obtain⟨rfl,T,o4,o5,hT,snd,cpl,dn,rfl⟩:=hJ
   obtain⟨hx,rfl⟩:=V9 hd;refine⟨_,rfl,?_⟩;refine Ok.seq (.sfor (λy ρ s'=>s=s'/\∃(T:Qa) (o5:Option D),T.length<=1000+k*10000+x*100+y/\(∀p∈T,Pth L n p.1 p.2)/\(∀a b,Pth L k a b->(a,b)∈T)/\(∀a<x,∀b<n,Pth L (k+1) a b->(a,b)∈T)/\(∀b<y,Pth L (k+1) x b->(x,b)∈T)/\ρ=[some (nD n),some (.lst (L.map Zr)),some (.du (Z8 [] T)),some (nD k),some (nD x),o5]) (.eq (Xy (n:=n) rfl (by omega)) ⟨⟨rfl,T,o5,by omega,snd,cpl,dn,λb hb=>by omega,rfl⟩,λy d ρ s' hd hK=>?_,fun ρ' s' hK=>?_⟩))
   ·obtain⟨rfl,T,o5,hT,snd,cpl,dn,dm,rfl⟩:=hK
    obtain⟨hy,rfl⟩:=V9 hd;refine⟨_,rfl,?_⟩;refine Ok.seq (.sif (.eq (s':=s) (a:=decide ((x,k)∈T)&&decide ((k,y)∈T)) (ZeW (Yp (JE rfl rfl rfl)) λ_=>Yp (JE rfl rfl rfl)) ?_));by_cases hc:(x,k)∈T/\(k,y)∈T
    ·rw[decide_eq_true hc.1,decide_eq_true hc.2,if_pos (by rfl)]
     refine .seq (jG (T:=T) (p:=(x,y)) rfl rfl (Wg (Zh rfl (Zh rfl rfl)) two_le) (by omega) (.next (.next ⟨_,rfl,rfl,T ++ [(x,y)],_,?_,?_,?_,?_,?_,rfl⟩)))
     ·rw[zl,yq];omega
     ·intro p hp
      rcases qZ.mp hp with h | h
      ·exact snd p h
      ·rw[qQ.mp h]
       exact .two hk (snd _ hc.1) (snd _ hc.2)
     ·exact λa b h=>qW _ (cpl a b h)
     ·exact λa ha b hb h=>qW _ (dn a ha b hb h)
     ·intro b hb h
      by_cases e:b=y
      ·subst e;simp
      ·exact qW _ (dm b (by omega) h)
    ·rw[if_neg (by
      rw[zU,decide_eq_true_eq,decide_eq_true_eq];exact hc)]
     refine .next (.next ⟨_,rfl,rfl,T,_,by omega,snd,cpl,dn,?_,rfl⟩);intro b hb h;by_cases e:b=y
     ·subst e
      rcases h.split with z | ⟨z1,z2⟩
      ·exact cpl _ _ z
      ·exact absurd ⟨cpl _ _ z1,cpl _ _ z2⟩ hc
     ·exact dm b (by omega) h
   ·obtain⟨rfl,T,o5,hT,snd,cpl,dn,dm,rfl⟩:=hK
    rw[Xk]at hT dm;refine .next ⟨_,rfl,rfl,T,_,_,by omega,snd,cpl,?_,rfl⟩;intro a ha b hb h;by_cases e:a=x
    ·subst e;exact dm b hb h
    ·exact dn a (by omega) b hb h
  ·obtain⟨rfl,T,o4,o5,hT,snd,cpl,dn,rfl⟩:=hJ
   rw[Xk]at hT dn;refine .next ⟨_,rfl,rfl,T,_,_,_,by omega,snd,?_,rfl⟩;intro a b h;have hab:a<n/\b<n:=by
    have:∀{a b:Nat},Pth L (k+1) a b->a<n/\b<n:=λh=>by
     induction h with
     | one h=>exact hL _ h
     | two _ _ _ i1 i2=>exact⟨i1.1,i2.2⟩
    exact this h
   exact dn a hab.1 b hab.2 h
 obtain⟨rfl,T,o3,o4,o5,hT,snd,cpl,rfl⟩:=hI;rw[Xk]at cpl;refine⟨rfl,T,o3,o4,o5,λa b=>?_,rfl⟩;rw[qae,decide_eq_true_eq,hr];exact⟨λh=>snd _ h,cpl a b⟩
theorem Zkb {n a:Nat}(h:a<n):nD a∈Yo 0 n:=qt.mpr ⟨a,qu.mpr h,by show D.int (0+(a:Int))=_;rw[Int.zero_add]⟩
theorem Zkc {n:Nat}{L T:Qa}{o3 o4 o5:Option D}{r:Nat->Nat->Bool}(hn:n<=24)(hm:∀a b,decide ((a,b)∈T)=r a b)(s:Pn):∃b,cA [some (nD n),some (.lst (L.map Zr)),some (.du (Z8 [] T)),o3,o4,o5] s=some (b,s)/\(b=true↔∃a,a<n/\r a a=true):=by
 have hc:=YK (src:=[none,some 2]) (fi:=Z3 (Za 0)) (τ:=Zt 0) (ft:=Z7) (fe:=Ze Ys (ZT (Zb (Za 0) (Zb (Za 0) Zd))) (Za 1)) (ρ:=[some (nD n),some (.lst (L.map Zr)),some (.du (Z8 [] T)),o3,o4,o5]) (s:=s) (ds:=Yo 0 n) (λd=>[some d,some (.du (Z8 [] T))]) (λ_=>true) (λd=>.bl (r (ZZ d) (ZZ d))) (Xy (n:=n) rfl (by omega)) (by rw[Xk,Yf];omega) λd hd=>by
  obtain⟨q,hq,rfl⟩:=Ve hd;exact⟨rfl,rfl,λ_=>(JE (a:=q) (b:=q) rfl rfl rfl).trans (by rw[hm];rfl)⟩
 rw[yK.mpr λ_ _=>rfl]at hc;refine⟨_,Yp (Yy (Zh hc rfl) (ZeA (Yo 0 n) λd=>r (ZZ d) (ZZ d))),?_⟩;rw[qbi];constructor
 ·rintro⟨d,hd,h⟩
  obtain⟨q,hq,rfl⟩:=Ve hd;exact⟨q,hq,h⟩
 ·rintro⟨a,ha,h⟩
  exact⟨nD a,Zkb ha,h⟩
theorem ZbZ {n:Nat}{L:Qa}(hn:n<=24)(hl:L.length<=1000)(hL:∀p∈L,p.1<n/\p.2<n)(r:Nat->Nat->Bool)(hr:∀a b,r a b=true↔Pth L n a b)(irr:∀a,r a a=false)(s:Pn):∃T:Qa,FAb [nD n,.lst (L.map Zr)] s=some (.du (Z8 [] T),s)/\∀a b,decide ((a,b)∈T)=r a b:=by
 have main:Ok (FAb [nD n,.lst (L.map Zr)]) s λd s'=>s=s'/\∃T:Qa,d=.du (Z8 [] T)/\∀a b,decide ((a,b)∈T)=r a b:=by
  refine Ok.runB rfl ?_;refine Ok.seq (.sown (.eq (ZnN L (by omega) s) ⟨rfl,?_⟩));refine Ok.seq ((Zka hn hl hL r hr s).mono λo s' q=>?_);obtain⟨rfl,T,o3,o4,o5,hm,rfl⟩:=q;obtain⟨b,eb,hb⟩:=Zkc (L:=L) (o3:=o3) (o4:=o4) (o5:=o5) hn hm s;have hb:b=false:=by
   cases b with
   | false=>rfl
   | true=>obtain⟨a,_,h⟩:=hb.mp rfl;rw[irr]at h;cases h
  subst hb;refine Ok.seq (.sif (.eq (a:=false) eb (.next ?_)));exact Ok.seq (.sret (.eq rfl ⟨rfl,T,rfl,hm⟩))
 obtain⟨d,s',e,rfl,T,rfl,h⟩:=main;exact⟨T,e,h⟩
noncomputable abbrev ZX (n:Nat)(r:Nat->Nat->Bool):Qa:=(X8 n).filter λp=>r p.1 p.2||r p.2 p.1
noncomputable def YV (n:Nat)(r:Nat->Nat->Bool)(p:Nat):Nat:=(WL n λo=>r o p).length
theorem ZeH (hn:n<=1000)(hT:∀a b,decide ((a,b)∈T)=r a b)(s:Pn):FWb [nD n,.du (Z8 [] T)] s=some (ZU n (ZX n r),s):=by
 refine Xe rfl (YG (Y8 ?_));refine Zmk (Zaz rfl hn) rfl ((ZbU _ _)) rfl ?_ (ZeG _ _);have:=ZbV (row:=.lst (Yo 0 n)) (t:=5) (.inl rfl) (by rw[Xk];exact hn) (λp=>r p.1 p.2||r p.2 p.1) s (λp hp=>by
  rw[Xk]at hp;have hpp:=Je.mp hp;rw[range_getD (by omega),range_getD (by omega)];show Zai [nD p.1,nD p.2,.du (Z8 [] T)] s=_;refine Zfm rfl ?_;rw[<-hT,<-hT];exact Zpv (JE rfl rfl rfl) λ_=>JE rfl rfl rfl)
 rw[Xk]at this;exact this
section
variable {n:Nat}{L:Qa}
theorem Zfo (hn:n<=24)(hl:L.length<=1000)(hL:∀p∈L,p.1<n/\p.2<n)(r:Nat->Nat->Bool)(hr:∀a b,r a b=true↔Pth L n a b)(irr:∀a,r a a=false)(s:Pn):FWo [nD n,.lst (L.map Zr)] s=some (ZU n (ZX n r),s):=by
 obtain⟨T,e,hT⟩:=ZbZ hn hl hL r hr irr s;exact Xe rfl (YG (Y8 (Z4 (Zh rfl (Zh (Z4 (Zh rfl (Zh rfl rfl)) e) rfl)) (ZeH (by omega) hT s))))
theorem ZdE (hn:n<=1000)(hT:∀a b,decide ((a,b)∈T)=r a b)(p:Nat)(s:Pn):FCb [nD n,.du (Z8 [] T),nD p] s=some (nD (YV n r p),s):=by
 have hc:=YK (src:=[none,some 2,some 1]) (fi:=Z3 (Za 0)) (τ:=Zt 0) (ft:=asB (Ze Ys (ZT (Zb (Za 0) (Zb (Za 1) Zd))) (Za 2))) (fe:=Za 0) (ρ:=[some (nD n),some (.du (Z8 [] T)),some (nD p)]) (s:=s) (λd=>[some d,some (nD p),some (.du (Z8 [] T))]) (λd=>r (ZZ d) p) (λd=>d) (Xy rfl (by omega)) (by rw[Xk,Yf];omega) λd hd=>by
  obtain⟨q,hq,rfl⟩:=Ve hd;exact⟨rfl,Yp ((JE rfl rfl rfl).trans (by rw[hT];rfl)),λ_=>rfl⟩
 rw[B6 n λo=>r o p]at hc;refine Xe rfl (YG (Y8 (Yy (Zh hc rfl) ?_)));show some (D.int _)=some (D.int _);rw[qj];rfl
end
theorem ZdF (K:List Nat)(rk:Nat->Nat)(hF:∀p∈K,F (nD p::cds) s=some (nD (rk p),s))(hl:K.length<64)(hc:YY cds=true):∃C:List Nat,Vf F cds (K.map λ(i:Nat)=>(i:Int)) s=some (.lst (C.map nD),s)/\C.Perm K/\C.Pairwise λa b=>rk a<=rk b:=by
 have hk:=ZgI (F:=F) (cds:=cds) (s:=s) (λp=>nD (rk p)) K hF;have e1:K.map (λp=>nD (rk p))=(K.map λp=>((rk p:Nat):Int)).map D.int:=by rw[qw];rfl
 have o:=ZnM (K.map λp=>((rk p:Nat):Int));have pm:=JV (n:=K.length) o;refine⟨(YH (ltS (K.map λp=>((rk p:Nat):Int))) K.length).map λi=>K.getD i 0,?_,?_,?_⟩
 ·unfold Vf
  rw[if_pos (by rw[hc,qj,decide_eq_true hl];rfl)];unfold Zp;rw[hk,e1];dsimp only;unfold BP;rw[Zmu];dsimp only;rw[qj,qw];show some (D.lst _,s)=some (D.lst _,s);congr 3;refine zm λi hi=>?_;have hi:=qu.mp (pm.mem_iff.mp hi);show D.int _=D.int ((K.getD i 0:Nat):Int);rw[qE,qM,qE,qB hi];rfl
 ·have:=pm.map λi=>K.getD i 0
  rwa[TS.range_getD K 0]at this
 ·refine zr.mpr (zP (λ{a b} ha hb h=>?_) (Zgk o))
  have ha:=qu.mp (pm.mem_iff.mp ha);have hb:=qu.mp (pm.mem_iff.mp hb);simp_all
theorem ZiO {rk:Nat->Nat}(h:p<n):Y1 2 (Ze Zk (Za 1) (Za 0)) (nD p :: [.lst ((qf n).map λp=>nD (rk p))]) s=some (nD (rk p),s):=by
 refine Zfm rfl (ZC rfl rfl (X2 ?_));simp_all
theorem Zch (n:Nat)(rk:Nat->Nat):YY [.lst ((qf n).map λp=>nD (rk p))]=true:=by
 show(YY ((qf n).map λp=>nD (rk p))&&true)=true;rw[Za8 λd hd=>by obtain⟨p,_,rfl⟩:=qt.mp hd;rfl];rfl
theorem Zkd (hn:n<=24)(hl:L.length<=1000)(hL:∀p∈L,p.1<n/\p.2<n)(r:Nat->Nat->Bool)(hr:∀a b,r a b=true↔Pth L n a b)(irr:∀a,r a a=false)(s:Pn) :
  ∃C ps:List Nat,FCt [nD n,.lst (L.map Zr)] s=some (.tup [nD (om n (ZX n r)),.lst (C.map nD),ZH (WA n (ZX n r) ps)],s)/\C.Perm (WR n (ZX n r))/\C.Pairwise (λa b=>YV n r a<=YV n r b)/\ps.Perm (qf n)/\ps.Pairwise λa b=>YV n r a<=YV n r b:=by
 obtain⟨T,eT,hT⟩:=ZbZ hn hl hL r hr irr s;have hw:IsWeb n (ZX n r):=.filter _;obtain⟨ps,e1,p1,q1⟩:=ZdF (F:=Y1 2 (Ze Zk (Za 1) (Za 0))) (cds:=[.lst ((qf n).map λp=>nD (YV n r p))]) (s:=s) (qf n) (YV n r) (λp hp=>ZiO (qu.mp hp)) (by rw[qI];omega) (Zch _ _);have hmk:=(Zct hw hn).1;obtain⟨k1,k2,k3⟩:=Ug.mp hmk;have hkl:(WR n (ZX n r)).length<=n:=ZhV;obtain⟨C,e2,p2,q2⟩:=ZdF (F:=Y1 2 (Ze Zk (Za 1) (Za 0))) (cds:=[.lst ((qf n).map λp=>nD (YV n r p))]) (s:=s) (WR n (ZX n r)) (YV n r) (λp hp=>ZiO (k2 p hp)) (by omega) (Zch _ _);refine⟨C,ps,?_,p2,q2,p1,q1⟩;have hrk:=YK (src:=[none,some 0,some 2]) (fi:=Z3 (Za 0)) (τ:=Zt 0) (ft:=Z7) (fe:=Zm FCb (Zb (Za 1) (Zb (Za 2) (Zb (Za 0) Zd)))) (ρ:=[some (nD n),some (.lst (L.map Zr)),some (.du (Z8 [] T)),some (ZU n (ZX n r)),none,none,none]) (s:=s) (ds:=Yo 0 n) (λd=>[some d,some (nD n),some (.du (Z8 [] T))]) (λ_=>true) (λd=>nD (YV n r (ZZ d))) (Xy (n:=n) rfl (by omega)) (by rw[Xk,Yf];omega) λd hd=>by
  obtain⟨q,hq,rfl⟩:=Ve hd;exact⟨rfl,rfl,λ_=>Z4 (Zh rfl (Zh rfl (Zh rfl rfl))) (ZdE (by omega) hT q s)⟩
 rw[yK.mpr λ_ _=>rfl,Vh,qw]at hrk;have hrk':ZR [none,some 0,some 2] (Z3 (Za 0)) (Zt 0) Z7 (Zm FCb (Zb (Za 1) (Zb (Za 2) (Zb (Za 0) Zd)))) [some (nD n),some (.lst (L.map Zr)),some (.du (Z8 [] T)),some (ZU n (ZX n r)),none,none,none] s=some (.lst ((qf n).map λp=>nD (YV n r p)),s):=hrk;clear hrk;have hncl:=Zch n (YV n r);generalize hrl:((qf n).map λp=>nD (YV n r p))=RL at hrk' e1 e2 hncl;have hso:J5 (Y1 2 (Ze Zk (Za 1) (Za 0))) [4] (Za 0) [some (nD n),some (.lst (L.map Zr)),some (.du (Z8 [] T)),some (ZU n (ZX n r)),some (.lst RL),none,none] s=some (.lst (ps.map nD),s):=by
  unfold J5 Zp;rw[show Za 0 [some (nD n),some (.lst (L.map Zr)),some (.du (Z8 [] T)),some (ZU n (ZX n r)),some (.lst RL),none,none] s=some (nD n,s)from rfl];dsimp only;rw[show YI (Vm [some (nD n),some (.lst (L.map Zr)),some (.du (Z8 [] T)),some (ZU n (ZX n r)),some (.lst RL),none,none] [4]) s=some ([.lst RL],s)from rfl];dsimp only;rw[if_pos (by omega)];rw[qax];exact e1
 have hmo:=ZdD hw hn s;have hh:=Zms n (ZX n r) hw hn p1 s;have hW:=ZeH (n:=n) (by omega) hT s;generalize WA n (ZX n r) ps=hs at hh;generalize WR n (ZX n r)=MK at hmo e2;generalize hWb:ZX n r=WB at hW hmo hh hrk' hso;have hsc:Jg (Y1 2 (Ze Zk (Za 1) (Za 0))) [4] (Ze Zk (Za 6) (dC (.int 1))) [some (nD n),some (.lst (L.map Zr)),some (.du (Z8 [] T)),some (ZU n WB),some (.lst RL),some (ZH hs),some (.tup [nD (om n WB),ZH MK])] s=some (.lst (C.map nD),s):=by
  unfold Jg Zp;rw[show Ze Zk (Za 6) (dC (.int 1)) [some (nD n),some (.lst (L.map Zr)),some (.du (Z8 [] T)),some (ZU n WB),some (.lst RL),some (ZH hs),some (.tup [nD (om n WB),ZH MK])] s=some (ZH MK,s)from ZC rfl rfl (Zk0 _ _ _)];dsimp only;rw[show YI (Vm [some (nD n),some (.lst (L.map Zr)),some (.du (Z8 [] T)),some (ZU n WB),some (.lst RL),some (ZH hs),some (.tup [nD (om n WB),ZH MK])] [4]) s=some ([.lst RL],s)from rfl];dsimp only;show(match ZE (MK.map nD)with | some ns=>Vf (Y1 2 (Ze Zk (Za 1) (Za 0))) [D.lst RL] ns | none=>Zv) s=_;rw[ZeD MK];exact e2
 refine Xe rfl (jv ?_);refine Ok.seq (.sset (.eq (Z4 (Zh rfl (Zh rfl rfl)) eT) ?_));refine Ok.seq (.sset (.eq (Z4 (Zh rfl (Zh rfl rfl)) hW) ?_));refine Ok.seq (.sset (.eq hrk' ?_));refine Ok.seq (.sset (.eq (Z4 (Zh rfl (Zh hso rfl)) hh) ?_));refine Ok.seq (.sset (.eq (Z4 (Zh rfl rfl) hmo) ?_));exact Ok.seq (.sret (.eq (Wg (Zh (ZC rfl rfl (UP _ _)) (Zh hsc (Zh rfl rfl))) (by show 3<=xh;decide)) ⟨rfl,rfl⟩))
structure OrdN (n:Nat)(r:Nat->Nat->Bool):Prop where
 irr:∀a,r a a=false
 tr:∀a b c,r a b=true->r b c=true->r a c=true
 lt:∀a b,r a b=true->a<n/\b<n
section
variable {n:Nat}{r:Nat->Nat->Bool}
theorem Zfp (n:Nat)(r:Nat->Nat->Bool):IsWeb n (ZX n r):=.filter _
theorem Bb (h:a≠b)(ha:a<n)(hb:b<n):tied (ZX n r) a b=(r a b||r b a):=by
 rcases Nat.lt_or_gt_of_ne h with z | z
 ·exact Zcs z hb
 ·have:=Zcs (B:=λp=>r p.1 p.2||r p.2 p.1) z ha
  rw[Bool.or_comm];rw[<-this];unfold tied;rw[Nat.min_comm,Nat.max_comm]
theorem ZiP (o:OrdN n r)(h:r a b=true):YV n r a<YV n r b:=by
 have hna:a∉WL n λx=>r x a:=λz=>by
  have:=(Wo.mp z).2;rw[o.irr]at this
  cases this
 have:=W2 (b:=WL n λx=>r x b) (zq.mpr ⟨hna,ZaG (ZdC _ _)⟩) λx hx=>by
   rcases qy.mp hx with rfl | hx
   ·exact Wo.mpr ⟨(o.lt _ _ h).1,h⟩
   ·obtain⟨h1,h2⟩:=Wo.mp hx
    exact Wo.mpr ⟨h1,o.tr _ _ _ h2 h⟩
 exact this
theorem Zmv {K:List Nat}(o:OrdN n r){C:List Nat}(pm:C.Perm K)(hK:K∈kn (ZX n r) n)(hs:C.Pairwise λa b=>YV n r a<=YV n r b):C.Pairwise λa b=>r a b=true:=by
 obtain⟨q1,q2,q3⟩:=Ug.mp hK;have nd:=pm.nodup_iff.mpr (ZaG q1);have both:=zL.and hs nd;refine zP (λ{a b} ha hb h=>?_) both;have ha:=pm.mem_iff.mp ha;have hb:=pm.mem_iff.mp hb;have ht:=q3 a ha b hb h.2;rw[Bb h.2 (q2 a ha) (q2 b hb),qaQ]at ht;rcases ht with z | z
 ·exact z
 ·have:=ZiP o z
  omega
end
section
variable {n:Nat}{r:Nat->Nat->Bool}
theorem Zmw (o:OrdN n r)(hn:n<=24){c:List Nat}(hc:c.Pairwise λa b=>r a b=true)(hlt:∀x∈c,x<n):c.length<=om n (ZX n r):=by
 have nd:c.Nodup:=hc.imp λ{a b} h e=>by rw[e,o.irr]at h;cases h
 have hK:(WL n λx=>decide (x∈c))∈kn (ZX n r) n:=Ug.mpr ⟨ZdC _ _,λx hx=>(Wo.mp hx).1,λa ha b hb ne=>by
  obtain⟨a1,a2⟩:=Wo.mp ha;obtain⟨b1,b2⟩:=Wo.mp hb;rw[Bb ne a1 b1];obtain⟨i,hi,rfl⟩:=qbX.mp (of_decide_eq_true a2);obtain⟨j,hj,rfl⟩:=qbX.mp (of_decide_eq_true b2);have pw:=zf.mp hc;rcases yC i j with z | z | z
  ·simp_all
  ·simp_all
  ·simp_all⟩
 exact qV (W2 nd λx hx=>Wo.mpr ⟨hlt x hx,decide_eq_true hx⟩) (Zon (Zfp n r) hn hK)
theorem ZgJ (o:OrdN n r):∀qs:List Nat,qs.Nodup->(∀q∈qs,q<n)->(qs.Pairwise λa b=>YV n r b<=YV n r a)->∀x∈qs,∃c:List Nat,(c ++ [x]).Pairwise (λa b=>r a b=true)/\c.length=hr (ZX n r) qs x/\∀y∈c,y<n
 | [],_,_,_,x,hx=>by simp at hx
 | p::qs,nd,hlt,hs,x,hx=>by
  have nd':=zq.mp nd;have hs':=zt.mp hs;have ih:=ZgJ o qs nd'.2 (λq hq=>hlt q (qY _ hq)) hs'.2;unfold hr;by_cases e:x=p
  ·rw[if_pos e]
   subst e;generalize hh:XR ((qs.filter λo=>tied (ZX n r) x o).map (hr (ZX n r) qs))=h
   cases h with
   | zero=>exact⟨[],by simp,rfl,by simp⟩
   | succ h=>
    have hm:=(Ba ((qs.filter λo=>tied (ZX n r) x o).map (hr (ZX n r) qs))).2 h (by rw[hh];omega);obtain⟨q,hq,hqh⟩:=qt.mp hm;obtain⟨q1,q2⟩:=qm.mp hq;obtain⟨c,c1,c2,c3⟩:=ih q q1;have ne:x≠q:=λz=>nd'.1 (z▸q1);have hqn:=hlt q (qY _ q1);have hxn:=hlt x qak;have hrq:r q x=true:=by
     rw[Bb ne hxn hqn,qaQ]at q2;rcases q2 with z | z
     ·have:=ZiP o z
      have:=hs'.1 q q1;omega
     ·exact z
    refine⟨c ++ [q],yw.mpr ⟨c1,by simp,λa ha b hb=>?_⟩,by rw[zl,c2,hqh];rfl,λy hy=>?_⟩
    ·rw[qQ.mp hb]
     rcases qZ.mp ha with z | z
     ·exact o.tr a q x ((yw.mp c1).2.2 a z q (by simp)) hrq
     ·simp_all
    ·rcases qZ.mp hy with z | z
     ·exact c3 y z
     ·rw[qQ.mp z];exact hqn
  ·simp_all
theorem ZnO (o:OrdN n r)(hn:n<=24)(pm:ps.Perm (qf n))(hs:ps.Pairwise λa b=>YV n r a<=YV n r b):∀x<n,(WA n (ZX n r) ps).getD x 0<om n (ZX n r):=λx hx=>by
 rw[Za9 hx];have nd:=pm.nodup_iff.mpr zw;obtain⟨c,c1,c2,c3⟩:=ZgJ o ps.reverse (qaL.mpr (zL.imp (λh=>zh h) nd)) (λq hq=>qu.mp (pm.mem_iff.mp (qaJ.mp hq))) (qaL.mpr hs) x (qaJ.mpr (pm.mem_iff.mpr (qu.mpr hx)));have:=Zmw o hn c1 λy hy=>by
  rcases qZ.mp hy with z | z
  ·exact c3 y z
  ·simp_all
 rw[zl,yq,c2]at this;omega
theorem Zpx (o:OrdN n r)(hn:n<=24){ps:List Nat}(pm:ps.Perm (qf n))(hs:ps.Pairwise λa b=>YV n r a<=YV n r b):Xx n (ZX n r)=om n (ZX n r):=by
 refine qbw ?_ (Za1 (Zfp n r) hn);have R:=Zfn (jJ:=ZX n r) pm;have:=ZeF (λy=>(WA n (ZX n r) ps).getD y 0) (qf (om n (ZX n r))) (λa b hab hb ht=>R.ri a (by omega) b hb (by omega) ht) λi hi=>qu.mpr (ZnO o hn pm hs i hi);simp_all
end
section
variable {n:Nat}{r:Nat->Nat->Bool}
structure AC (r:Nat->Nat->Bool)(V B:List Nat):Prop where
 nd:B.Nodup
 sub:∀x∈B,x∈V
 no:∀x∈B,∀y∈B,r x y=false
noncomputable def Cmp (r:Nat->Nat->Bool)(x y:Nat):Prop:=r x y=true∨r y x=true
structure Col (r:Nat->Nat->Bool)(V:List Nat)(k:Nat)(f:Nat->Nat):Prop where
 lt:∀x∈V,f x<k
 ch:∀x∈V,∀y∈V,x≠y->f x=f y->Cmp r x y
theorem Z9 {V:List Nat}(c:Col r V k f)(a:AC r V B)(hl:B.length=k)(hi:i<k):∃y∈B,f y=i:=qaf λhn=>by
 have nd:(B.map f).Nodup:=zr.mpr (zP (λ{x y} hx hy h e=>by
  rcases c.ch x (a.sub x hx) y (a.sub y hy) h e with z | z
  ·rw[a.no x hx y hy]at z;cases z
  ·rw[a.no y hy x hx]at z;cases z) a.nd)
 have:=W2 (b:=qf k) (zq.mpr ⟨λz=>hn (qt.mp z),nd⟩) λx hx=>by
  rcases qy.mp hx with rfl | hx
  ·simp_all
  ·obtain⟨y,hy,rfl⟩:=qt.mp hx
   exact qu.mpr (c.lt y (a.sub y hy))
 grind
theorem Zmx (o:OrdN n r):∀(m:Nat) (V:List Nat) (k:Nat),V.length<=m->V.Nodup->(∀B,AC r V B->B.length<=k)->∃f,Col r V k f:=by
 intro m
 induction m with
 | zero=>
  intro V k hm _ _;have:V=[]:=List.eq_nil_of_length_eq_zero (by omega);subst this;exact⟨λ_=>0,by simp,by simp⟩
 | succ m ih=>
  intro V k hm nd hk;by_cases hV:V=[]
  ·subst hV;exact⟨λ_=>0,by simp,by simp⟩
  obtain⟨a,ha,hmax⟩:=Zfg (YV n r) V hV;have Z2:∀y∈V,r a y=false:=λy hy=>by
   cases e:r a y with
   | false=>rfl
   | true=>
    have:=ZiP o e;have:=hmax y hy;omega
  have hk0:0<k:=by
   have:=hk [a] ⟨by simp,by simpa using ha,by simp[o.irr]⟩;simp at this;omega
  have jQ:(V.erase a).length<=m:=by rw[List.length_erase_of_mem ha];omega
  have nd':(V.erase a).Nodup:=nd.erase a;have inE:∀x,x∈V.erase a↔x≠a/\x∈V:=λx=>nd.mem_erase_iff;by_cases hA:∃B,AC r (V.erase a) B/\B.length=k
  ·obtain⟨f,c⟩:=ih (V.erase a) k jQ nd' λB hB=>hk B ⟨hB.nd,λx hx=>((inE x).mp (hB.sub x hx)).2,hB.no⟩
   obtain⟨B0,hB0,hl0⟩:=hA
   let good (x:Nat):Prop:=∃B,AC r (V.erase a) B/\B.length=k/\x∈B
   have key:∀i,∃x,i<k->good x/\x∈V.erase a/\f x=i/\∀y,good y->y∈V.erase a->f y=i->y=x∨r y x=true:=λi=>by
    by_cases hi:i<k
    ·obtain⟨y,hy,e⟩:=Z9 c hB0 hl0 hi
     obtain⟨x,hx,hm'⟩:=Zfg (YV n r) ((V.erase a).filter λx=>@decide (good x/\f x=i) (qL _)) (List.ne_nil_of_mem (qm.mpr ⟨hB0.sub y hy,@decide_eq_true _ (qL _) ⟨⟨B0,hB0,hl0,hy⟩,e⟩⟩));obtain⟨x1,x2⟩:=qm.mp hx;have x2:=@of_decide_eq_true _ (qL _) x2;refine⟨x,λ_=>⟨x2.1,x1,x2.2,λz gz hz ez=>?_⟩⟩;by_cases e:z=x
     ·exact .inl e
     ·rcases c.ch z hz x x1 e (ez.trans x2.2.symm)with q | q
      ·exact .inr q
      ·have:=ZiP o q
       have:=hm' z (qm.mpr ⟨hz,@decide_eq_true _ (qL _) ⟨gz,ez⟩⟩);omega
    ·exact⟨0,λh=>absurd h hi⟩
   obtain⟨X,hX⟩:=Classical.axiomOfChoice key;have anti:∀i<k,∀j<k,r (X i) (X j)=false:=λi hi j hj=>by
    cases e:r (X i) (X j)with
    | false=>rfl
    | true=>
     obtain⟨⟨B,hB,hl,hx⟩,_,_,_⟩:=hX j hj;obtain⟨y,hy,ey⟩:=Z9 c hB hl hi;rcases (hX i hi).2.2.2 y ⟨B,hB,hl,hy⟩ (hB.sub y hy) ey with z | z
     ·rw[<-z,hB.no y hy _ hx]at e;cases e
     ·have:=o.tr _ _ _ z e
      rw[hB.no y hy _ hx]at this;cases this
   have hi:∃i,i<k/\r (X i) a=true:=qaf λhn=>by
    have h1:=hk (a::(qf k).map X) ⟨zq.mpr ⟨λz=>by
     obtain⟨i,hi,e⟩:=qt.mp z;have:=(hX i (qu.mp hi)).2.1;rw[e]at this;exact((inE a).mp this).1 rfl,zr.mpr (zP (λ{i j} hi hj h e=>by
      have h1:=(hX i (qu.mp hi)).2.2.1;have h2:=(hX j (qu.mp hj)).2.2.1;rw[e]at h1;exact h (h1.symm.trans h2)) zw)⟩,λx hx=>by
     rcases qy.mp hx with rfl | hx
     ·exact ha
     ·obtain⟨i,hi,rfl⟩:=qt.mp hx
      exact((inE _).mp (hX i (qu.mp hi)).2.1).2,λx hx y hy=>by
     have hyV:y∈V:=by
      rcases qy.mp hy with rfl | hy
      ·exact ha
      ·obtain⟨i,hi,rfl⟩:=qt.mp hy
       exact((inE _).mp (hX i (qu.mp hi)).2.1).2
     rcases qy.mp hx with rfl | hx
     ·exact Z2 y hyV
     ·obtain⟨i,hi,rfl⟩:=qt.mp hx
      have hi:=qu.mp hi;rcases qy.mp hy with rfl | hy
      ·cases e:r (X i) y with
       | false=>rfl
       | true=>exact absurd ⟨i,hi,e⟩ hn
      ·obtain⟨j,hj,rfl⟩:=qt.mp hy
       exact anti i hi j (qu.mp hj)⟩
    rw[zo,qj,qI]at h1;omega
   obtain⟨i,hi,hia⟩:=hi;obtain⟨gx,xV,fx,low⟩:=hX i hi
   let inK (z:Nat):Prop:=z=a∨(f z=i/\(z=X i∨r z (X i)=true))
   have wK:∀z,z∈V.filter (λz=>@decide (¬inK z) (qL _))↔z∈V/\¬inK z:=λz=>by
    rw[qm];exact and_congr_right λ_=>@decide_eq_true_iff _ (qL _)
   obtain⟨g,cg⟩:=ih (V.filter λz=>@decide (¬inK z) (qL _)) (k-1) (by
    refine qV (W2 (nd.sublist qP) λx hx=>(inE x).mpr ?_) jQ;obtain⟨h1,h2⟩:=(wK x).mp hx;exact⟨λe=>h2 (.inl e),h1⟩) (nd.sublist qP) λB hB=>by
     have sub:AC r (V.erase a) B:=⟨hB.nd,λx hx=>by
      obtain⟨h1,h2⟩:=(wK x).mp (hB.sub x hx);exact(inE x).mpr ⟨λe=>h2 (.inl e),h1⟩,hB.no⟩
     have hb:=hk B ⟨hB.nd,λx hx=>((wK x).mp (hB.sub x hx)).1,hB.no⟩;by_cases hlB:B.length=k
     ·obtain⟨y,hy,ey⟩:=Z9 c sub hlB hi
      exact absurd (.inr ⟨ey,low y ⟨B,sub,hlB,hy⟩ (sub.sub y hy) ey⟩) ((wK y).mp (hB.sub y hy)).2
     ·omega
   have upK:∀z,inK z->z≠a->r z a=true:=λz hz ne=>by
    rcases hz with e | ⟨_,e | e⟩
    ·exact absurd e ne
    ·rw[e];exact hia
    ·exact o.tr _ _ _ e hia
   refine⟨λz=>if @decide (inK z) (qL _)=true then k-1 else g z,λx hx=>?_,λx hx y hy ne e=>?_⟩
   ·by_cases hz:inK x
    ·rw[if_pos (@decide_eq_true _ (qL _) hz)];omega
    ·rw[if_neg (λz=>hz (@of_decide_eq_true _ (qL _) z))]
     have:=cg.lt x ((wK x).mpr ⟨hx,hz⟩);omega
   ·by_cases zx:inK x <;> by_cases zy:inK y
    ·by_cases xa:x=a
     ·exact .inr (xa▸upK y zy λe=>ne (xa.trans e.symm))
     ·by_cases ya:y=a
      ·exact .inl (ya▸upK x zx xa)
      ·have fx':f x=i:=zx.elim (λe=>absurd e xa) (·.1)
       have fy':f y=i:=zy.elim (λe=>absurd e ya) (·.1);exact c.ch x ((inE x).mpr ⟨xa,hx⟩) y ((inE y).mpr ⟨ya,hy⟩) ne (fx'.trans fy'.symm)
    ·rw[if_pos (@decide_eq_true _ (qL _) zx),if_neg (λz=>zy (@of_decide_eq_true _ (qL _) z))]at e
     have:=cg.lt y ((wK y).mpr ⟨hy,zy⟩);omega
    ·rw[if_pos (@decide_eq_true _ (qL _) zy),if_neg (λz=>zx (@of_decide_eq_true _ (qL _) z))]at e
     have:=cg.lt x ((wK x).mpr ⟨hx,zx⟩);omega
    ·rw[if_neg (λz=>zx (@of_decide_eq_true _ (qL _) z)),if_neg (λz=>zy (@of_decide_eq_true _ (qL _) z))]at e
     exact cg.ch x ((wK x).mpr ⟨hx,zx⟩) y ((wK y).mpr ⟨hy,zy⟩) ne e
  ·obtain⟨f,c⟩:=ih (V.erase a) (k-1) jQ nd' λB hB=>by
    have h1:=hk B ⟨hB.nd,λx hx=>((inE x).mp (hB.sub x hx)).2,hB.no⟩;by_cases e:B.length=k
    ·exact absurd ⟨B,hB,e⟩ hA
    ·omega
   refine⟨λz=>if z=a then k-1 else f z,λx hx=>?_,λx hx y hy ne e=>?_⟩
   ·by_cases xa:x=a
    ·rw[if_pos xa];omega
    ·rw[if_neg xa]
     have:=c.lt x ((inE x).mpr ⟨xa,hx⟩);omega
   ·by_cases xa:x=a
    ·rw[if_pos xa,if_neg (λh=>ne (xa.trans h.symm))]at e
     have:=c.lt y ((inE y).mpr ⟨λh=>ne (xa.trans h.symm),hy⟩);omega
    ·by_cases ya:y=a
     ·rw[if_neg xa,if_pos ya]at e
      have:=c.lt x ((inE x).mpr ⟨xa,hx⟩);omega
     ·rw[if_neg xa,if_neg ya]at e
      exact c.ch x ((inE x).mpr ⟨xa,hx⟩) y ((inE y).mpr ⟨ya,hy⟩) ne e
theorem Zmy (o:OrdN n r)(hn:n<=24):Xx n (Yb n (ZX n r))=om n (Yb n (ZX n r)):=by
 refine qbw ?_ (Za1 (Za7 _ _) hn);obtain⟨f,c⟩:=Zmx o n (qf n) (om n (Yb n (ZX n r))) (by simp) zw λB hB=>by
  have hK:(WL n λx=>decide (x∈B))∈kn (Yb n (ZX n r)) n:=Ug.mpr ⟨ZdC _ _,λx hx=>(Wo.mp hx).1,λa ha b hb ne=>by
   obtain⟨a1,a2⟩:=Wo.mp ha;obtain⟨b1,b2⟩:=Wo.mp hb;have a2:=of_decide_eq_true a2;have b2:=of_decide_eq_true b2;refine Jd.mpr ⟨a1,b1,ne,?_⟩;rw[Bb ne a1 b1,hB.no a a2 b b2,hB.no b b2 a a2];rfl⟩
  exact qV (W2 hB.nd λx hx=>Wo.mpr ⟨qu.mp (hB.sub x hx),decide_eq_true hx⟩) (Zon (Za7 _ _) hn hK)
 have:=ZeF (jJ:=Yb n (ZX n r)) f (qf (om n (Yb n (ZX n r)))) (λa b hab hb ht e=>by
  obtain⟨h1,h2,h3,h4⟩:=Jd.mp ht;rw[Bb h3 h1 h2]at h4;rcases c.ch a (qu.mpr h1) b (qu.mpr h2) h3 e with z | z
  ·grind
  ·grind) λi hi=>qu.mpr (c.lt i (qu.mpr hi))
 simp_all
end
noncomputable def gTl:Zc->M Out:=(Zg (YU (Z3 (Ze dMul (Ze Zk (Xu (Zb (dC (.int 0)) (Zb (dC (.int 0)) (Zb (dC (.int 0)) (Zb (dC (.int 1)) (Zb (dC (.int 1)) (Zb (dC (.int 2)) (Zb (dC (.int 3)) Zd)))))))) (Zm Yq (Zb (Za 0) (Zb (dC (.int 7)) Zd)))) (ZF ZkK (Zb (JF (Za 2) (Ze dGt (Za 1) (dC (.int 0)))) Zd)))) (Zt 8)
 (Zg (U1 5 (Y2 true (Zm Yq (Zb (Za 0) (Zb (Ze Y0 (ZF Yi (Zb (Za 5) Zd)) (dC (.int 1))) Zd)))) (Y2 true (ZT (Zb (Zm Yq (Zb (Za 0) (Zb (Za 1) Zd))) (Zb (Zm Yq (Zb (Za 0) (Zb (Za 1) Zd))) Zd)))))
 Zq))
 (Zg (ZN (Za 5))
 Zq))
noncomputable def gTpr:Zc->M Out:=(Zg (ZS 3 (Zm Vx (Zb (Za 0) (Zb (Za 1) Zd))))
 (Zg (ZS 4 (Ze Y0 (dC (.int 1)) (Zm Yq (Zb (Za 0) (Zb (dC (.int 5)) Zd)))))
 (Zg (WD 5 (Xu Zd))
 (Zg (YU (Z3 (Za 1)) (Zt 6)
 (Zg (YU (Z3 (Za 6)) (Zt 7)
 (Zg (YR (asB (Ze Vt (Zm Yq (Zb (Za 0) (Zb (dC (.int 8)) Zd))) (Za 4)))
 (Zg (U1 5 (Y2 true (Zm Yq (Zb (Za 0) (Zb (Ze Y0 (ZF Yi (Zb (Za 5) Zd)) (dC (.int 1))) Zd)))) (Y2 true (ZT (Zb (Ze Zk (Za 3) (Za 7)) (Zb (Ze Zk (Za 3) (Za 6)) Zd)))))
 Zq)
 Zq)
 Zq))
 Zq))
 (Zg (YR (XW (asB (Ze XX (Za 5) (Xu Zd))) (asB (Ze XA (Zm Yq (Zb (Za 0) (Zb (dC (.int 3)) Zd))) (dC (.int 0)))))
 (Zg (VE 5 (Y2 false (Ze Zk (Za 5) (Zm Yq (Zb (Za 0) (Zb (ZF Yi (Zb (Za 5) Zd)) Zd))))))
 Zq)
 Zq)
 gTl)))))
noncomputable def FTpr:List D->M D:=runB 9 3 gTpr
noncomputable def gTlo:Zc->M Out:=(Zg (WD 2 (Xu Zd))
 (Zg (YU (Z3 (Za 0)) (Zt 3)
 (Zg (WD 4 (fun ρ=>(ZR [none,none,some 3] (ZV (Za 1)) (W8 0 1) (asB (Ze XA (Za 1) (Za 2))) (Za 0)) (YB [2] ρ)))
 (Zg (ZS 5 (fun ρ=>(dC (.int 0)) (YB [4,2] ρ)))
 (Zg (Bp 1000000 (asB (Ze Vt (Za 5) (ZF Yi (Zb (Za 4) Zd))))
 (Zg (BD 4 (Y2 true (ZR [none,none,some 4,some 5] (ZV (Za 1)) (W8 0 1) (XW (asB (Ze XA (Za 1) (Ze Zk (Za 2) (Za 3)))) (asB (Ze XU (Za 0) (Za 2)))) (Za 0))))
 (Zg (ZS 5 (fun ρ=>(Ze Y0 (Za 5) (dC (.int 1))) (YB [4,2] ρ)))
 Zq)))
 (Zg (VE 2 (fun ρ=>(J9 (Za 4)) (YB [2] ρ)))
 Zq)))))
 (Zg (ZN (Za 2))
 Zq)))
noncomputable def FTlo:List D->M D:=runB 6 2 gTlo
theorem jz (h:Ok (f ρ) s λd s1=>XJ d=true/\Q d s1):Ok (Y2 fr f ρ) s Q:=
 .bind (h.mono λd s1 q=>.ite (by simp[q.1]) (.ret q.2))
theorem jH {g:Zc->M D}(h3:(ρ[i]?).bind id=some (.lst ds))(hl:ds.length<100000)(h:Ok (f ρ) s λd s1=>Ok (g ρ) s1 λe s2=>∃r:Nat,d=.int (r:Int)/\r<=100000/\Q (.nx (ρ.set i (some (.lst (ds.take r++e::ds.drop r))))) s2):Ok (U1 i f g ρ) s Q:=by
 refine .bind (h.mono λd s1 q=>.bind (q.mono λe s2 z=>?_));obtain⟨r,rfl,hr,hQ⟩:=z;simp only[h3];refine .ite ⟨by rw[Yf];omega,by omega,by omega⟩ (.ret ?_);exact hQ
noncomputable def BR:Nat->Nat
 | 0=>0
 | j+1=>BR j+j
theorem Zpy:∀n,n<11->BR n<=45:=by decide
theorem Zmz (h:j<11):BR j<=45:=Zpy j h
theorem ZnP (L:Qa)(r:Nat)(p:Nat×Nat):(L.map Zr).take r++Zr p::(L.map Zr).drop r=(L.take r++p::L.drop r).map Zr:=by
 simp
theorem ZnQ {α:Type}{L:List α}{p x:α}(h:x∈L.take r++p::L.drop r):x∈L∨x=p:=by
 grind
theorem plain_pairs (F:Qa):YN (F.map Zr)=true/\XE (F.map Zr)<=10:=by
 induction F with
 | nil=>exact⟨rfl,qbO rfl⟩
 | cons a l ih=>
  refine⟨?_,?_⟩
  ·show(Zs (Zr a)&&YN (l.map Zr))=true
   rw[ih.1];rfl
  ·exact Nat.max_le.mpr ⟨qbO rfl,ih.2⟩
noncomputable def Fr (ps:List Nat)(n:Nat)(p:Nat×Nat):Prop:=∃i j,i<j/\j<n/\p=(ps.getD i 0,ps.getD j 0)
theorem ZhW {b:Bool}{T n:Nat}{s:Pn}{Q:Out->Pn->Prop}(ok:Xq T s)(hT:T<800000000)(hn:n<=10)(cont:∀(ps:List Nat) (L:Qa) (s4:Pn) (q:Nat) (o6 o7:Option D),Xq (T+500) s4->ps.Perm (qf n)->L.length<=46->(∀p∈L,Fr ps n p)->Ok (gTl [some .pen,some (nD n),some (.bl b),some (.lst (ps.map nD)),some (nD (1+q)),some (.lst (L.map Zr)),o6,o7,none]) s4 Q):Ok (gTpr [some .pen,some (nD n),some (.bl b),none,none,none,none,none,none]) s Q:=by
 refine Ok.seq (.sset (.fn (Zh rfl (Zh rfl rfl)) ((Zlo ok (by omega) (by omega)).mono λd s1 q=>?_)));obtain⟨ok1,xs,rfl,hpx⟩:=q;obtain⟨ps,rfl,hpp⟩:=ZhM hpx;have hps:(Yg ps).map D.int=ps.map nD:=by unfold Yg;rw[qw];rfl
 rw[hps];have hpl:ps.length=n:=by rw[hpp.length_eq,qI]
 have hix:∀i,i<n->Zk (.lst (ps.map nD)) (nD i)=some (nD (ps.getD i 0)):=λi hi=>by
  refine X2 ?_;rw[qM,qE,qB (by omega)];rfl
 refine Ok.seq (.sset (.op (.eq (a:=.int 1) rfl (.drawD (m:=5) ok1 (by omega) (Zh rfl (Zh rfl rfl)) (by omega) (by omega) λq s2 hq ok2=>⟨nD (1+q),rfl,?_⟩))));refine Ok.seq (.sown (.eq (a:=.lst []) rfl ⟨rfl,?_⟩));refine Ok.seq (.sfor (λj ρ s'=>Xq (T+20+j*40) s'/\∃(L:Qa) (o6 o7:Option D),L.length<=BR j/\(∀p∈L,Fr ps n p)/\ρ=[some .pen,some (nD n),some (.bl b),some (.lst (ps.map nD)),some (nD (1+q)),some (.lst (L.map Zr)),o6,o7,none]) (.eq (Xy (n:=n) rfl (by omega)) ⟨⟨ok2.mono (by omega),[],none,none,by simp,by simp,rfl⟩,λj d ρ s' hd hI=>?_,fun ρ' s' hI=>?_⟩))
 ·obtain⟨ok3,L,o6,o7,hL,hF,rfl⟩:=hI
  obtain⟨hj,rfl⟩:=V9 hd;have ht:=Zmz (j:=j) (by omega);refine⟨_,rfl,?_⟩;refine Ok.seq (.sfor (λi ρ s'=>Xq (T+20+j*40+i*2) s'/\∃(L:Qa) (o7:Option D),L.length<=BR j+i/\(∀p∈L,Fr ps n p)/\ρ=[some .pen,some (nD n),some (.bl b),some (.lst (ps.map nD)),some (nD (1+q)),some (.lst (L.map Zr)),some (nD j),o7,none]) (.eq (Xy (n:=j) rfl (by omega)) ⟨⟨ok3.mono (by omega),L,o7,by omega,hF,rfl⟩,λi d ρ s' hd hJ=>?_,fun ρ' s' hJ=>?_⟩))
  ·obtain⟨ok4,L,o7,hL,hF,rfl⟩:=hJ
   obtain⟨hi,rfl⟩:=V9 hd;refine⟨_,rfl,?_⟩;refine Ok.seq (.sif (.asB (.op (.drawD (m:=8) ok4 (by omega) (Zh rfl (Zh rfl rfl)) (by omega) (by omega) λz s5 hz ok5=>.eq (a:=nD (1+q)) rfl ⟨_,rfl,_,rfl,?_⟩))));split
   ·refine .seq (jH (ds:=L.map Zr) rfl (by rw[qj];omega) (jz (.drawD (m:=L.length+1) ok5 (by omega) (Zh rfl (Zh (ZC (d:=nD L.length) (e:=.int 1) (Yy (Zh rfl rfl) (show some (D.int _)=some (D.int _) by rw[qj])) rfl rfl) rfl)) (by omega) (by omega) λr s6 hr ok6=>⟨rfl,jz (.eq (a:=Zr (ps.getD i 0,ps.getD j 0)) (Wg (Zh (ZC rfl rfl (hix i (by omega))) (Zh (ZC rfl rfl (hix j hj)) rfl)) two_le) ⟨rfl,r,rfl,by omega,.next (.next ⟨_,rfl,ok6.mono (by omega),L.take r++(ps.getD i 0,ps.getD j 0)::L.drop r,some (nD i),?_,?_,?_⟩)⟩)⟩)))
    ·rw[zl,zo,ym,qbe];omega
    ·intro p hp
     rcases ZnQ hp with w | w
     ·exact hF p w
     ·exact⟨i,j,hi,hj,w⟩
    ·rw[<-ZnP];rfl
   ·exact .next (.next ⟨_,rfl,ok5.mono (by omega),L,some (nD i),by omega,hF,rfl⟩)
  ·obtain⟨ok4,L,o7,hL,hF,rfl⟩:=hJ
   rw[Xk]at ok4 hL;exact .next ⟨_,rfl,ok4.mono (by omega),L,some (nD j),o7,hL,hF,rfl⟩
 obtain⟨ok3,L,o6,o7,hL,hF,rfl⟩:=hI;rw[Xk]at ok3 hL;have ht:=Zmz (j:=n) (by omega);refine Ok.seq (Ok.mono (Q:=λo s'=>Xq (T+500) s'/\∃L:Qa,L.length<=46/\(∀p∈L,Fr ps n p)/\o=.nx [some .pen,some (nD n),some (.bl b),some (.lst (ps.map nD)),some (nD (1+q)),some (.lst (L.map Zr)),o6,o7,none]) ?_ λo s' z=>?_)
 ·have hpp2:=plain_pairs L
  refine .sif (.bind (.eq (Yp (ZC (d:=.lst (L.map Zr)) (e:=.lst []) rfl rfl (Zj6 _ hpp2.1 hpp2.2))) ?_));by_cases hne:L.map Zr=[]
  ·rw[decide_eq_true hne]
   refine .ret ?_;exact .next ⟨ok3.mono (by omega),L,by omega,hF,rfl⟩
  ·rw[decide_eq_false hne]
   have hpos:0<L.length:=by
    cases L with
    | nil=>exact absurd rfl hne
    | cons a r=>exact Nat.succ_pos _
   refine .asB (.op (.drawD (m:=3) ok3 (by omega) (Zh rfl (Zh rfl rfl)) (by omega) (by omega) λz s5 hz ok5=>.eq (a:=.int 0) rfl ⟨_,eqi _ _,_,rfl,?_⟩));split
   ·refine .seq (.sapp (ds:=L.map Zr) rfl (by rw[qj,Yf];omega) (jz (.op (.eq (a:=.lst (L.map Zr)) rfl (.drawD (m:=L.length) ok5 (by omega) (Zh rfl (Zh (Yy (Zh rfl rfl) (show some (D.int _)=some (D.int _) by rw[qj])) rfl)) hpos (by omega) λr s6 hr ok6=>⟨Zr (L.getD r (0,0)),?_,rfl,.next ⟨ok6.mono (by omega),L ++ [L.getD r (0,0)],?_,?_,?_⟩⟩)))))
    ·refine X2 ?_
     rw[qM,qE,qB hr];rfl
    ·rw[zl,yq];omega
    ·intro p hp
     rcases qZ.mp hp with w | w
     ·exact hF p w
     ·rw[qQ.mp w,qE,qB hr]
      exact hF _ (yn hr)
    ·rw[zQ];rfl
   ·exact .next ⟨ok5.mono (by omega),L,by omega,hF,rfl⟩
 obtain⟨ok4,L,hL,hF,rfl⟩:=z;exact cont ps L s' q o6 o7 ok4 hpp hL hF
theorem Zke {T n:Nat}{s:Pn}(ok:Xq T s)(hT:T<800000000)(hn:n<=10):Ok (FTpr [.pen,nD n,.bl false]) s λd s'=>Xq (T+1000) s'/\∃(L:Qa) (ps:List Nat),d=.lst (L.map Zr)/\ps.Perm (qf n)/\L.length<=46/\∀p∈L,Fr ps n p:=by
 refine Ok.runB rfl (ZhW ok hT hn λps L s4 q o6 o7 ok4 hpp hL hF=>?_);refine Ok.seq (.sfor (λk ρ s'=>Xq (T+600) s'/\ρ=[some .pen,some (nD n),some (.bl false),some (.lst (ps.map nD)),some (nD (1+q)),some (.lst (L.map Zr)),o6,o7,none]) (.range1 (.op (Ok.pick (m:=7) (ds:=[nD 0,nD 0,nD 0,nD 1,nD 1,nD 2,nD 3]) rfl rfl ok4 (by omega) rfl (by omega) (by omega) λd s5 hd ok5=>.eq (a:=.int 0) ?_ ⟨.int 0,?_,0,rfl,by omega,⟨ok5.mono (by omega),rfl⟩,λk d ρ s' hd hI=>?_,fun ρ' s' hI=>?_⟩))))
 ·exact Yy (Zh (d:=.bl false) rfl rfl) rfl
 ·simp only[qy,zI,or_false]at hd
  rcases hd with rfl | rfl | rfl | rfl | rfl | rfl | rfl <;> rfl
 ·simp[Yo]at hd
 ·obtain⟨ok6,rfl⟩:=hI
  exact Ok.seq (.sret (.eq rfl ⟨ok6.mono (by omega),L,ps,rfl,hpp,hL,hF⟩))
theorem ZnR {L:Qa}(hl:L.length<=1000)(k:Nat)(s:Pn)(h1:(ρ[1]?).bind id=some (.lst (L.map Zr)))(hb:X3 [none,none,some 3] ρ=[none,none,some (nD k)]):ZR [none,none,some 3] (ZV (Za 1)) (W8 0 1) (asB (Ze XA (Za 1) (Za 2))) (Za 0) ρ s=some (.lst (((L.filter λp=>decide (p.2=k)).map (·.1)).map nD),s):=by
 have hc:=YK (src:=[none,none,some 3]) (fi:=ZV (Za 1)) (τ:=W8 0 1) (ft:=asB (Ze XA (Za 1) (Za 2))) (fe:=Za 0) (ρ:=ρ) (s:=s) (ds:=L.map Zr) (λd=>[some (nD (WG d).1),some (nD (WG d).2),some (nD k)]) (λd=>decide ((WG d).2=k)) (λd=>nD (WG d).1) (XI (by unfold Za YI;rw[h1])) (by rw[qj,Yf];omega) λd hd=>by
  obtain⟨p,_,rfl⟩:=qt.mp hd;rw[hb];exact⟨rfl,Yp (ZC rfl rfl (by show some (D.bl (ZK _ _))=_;rw[ZhI])),λ_=>rfl⟩
 rw[zR,qw]at hc;rw[hc,qw];rfl
theorem ZgK (l:List Nat):VO (l.map nD)=true:=by
 induction l with
 | nil=>rfl
 | cons a l ih=>show(XJ (nD a)&&VO (l.map nD))=true;rw[ih];rfl
theorem ZnS {L:Qa}(hl:L.length<=1000){lw:List Nat}(hat:at'<lw.length)(s:Pn)(h1:(ρ[1]?).bind id=some (.lst (L.map Zr)))(hb:X3 [none,none,some 4,some 5] ρ=[none,none,some (.lst (lw.map nD)),some (nD at')]):ZR [none,none,some 4,some 5] (ZV (Za 1)) (W8 0 1) (XW (asB (Ze XA (Za 1) (Ze Zk (Za 2) (Za 3)))) (asB (Ze XU (Za 0) (Za 2)))) (Za 0) ρ s=some (.lst (((L.filter λp=>decide (p.2=lw.getD at' 0) && !decide (p.1∈lw)).map (·.1)).map nD),s):=by
 have hix:Zk (.lst (lw.map nD)) (nD at')=some (nD (lw.getD at' 0)):=by
  refine X2 ?_;rw[qM,qE,qB hat];rfl
 have hc:=YK (src:=[none,none,some 4,some 5]) (fi:=ZV (Za 1)) (τ:=W8 0 1) (ft:=XW (asB (Ze XA (Za 1) (Ze Zk (Za 2) (Za 3)))) (asB (Ze XU (Za 0) (Za 2)))) (fe:=Za 0) (ρ:=ρ) (s:=s) (ds:=L.map Zr) (λd=>[some (nD (WG d).1),some (nD (WG d).2),some (.lst (lw.map nD)),some (nD at')]) (λd=>decide ((WG d).2=lw.getD at' 0) && !decide ((WG d).1∈lw)) (λd=>nD (WG d).1) (XI (by unfold Za YI;rw[h1])) (by rw[qj,Yf];omega) λd hd=>by
  obtain⟨p,_,rfl⟩:=qt.mp hd;rw[Zjo,hb];exact⟨rfl,ZeW (Yp (ZC rfl (ZC rfl rfl hix) (by show some (D.bl (ZK _ _))=_;rw[ZhI]))) λ_=>Yp (ZC rfl rfl (JY _ _)),λ_=>rfl⟩
 rw[zR,qw]at hc;rw[hc,qw];rfl
theorem ZiQ {α:Type}{p q r:α->Bool}(h:∀x,p x=true->r x=true)(h2:∀x,q x=true->r x=true)(h3:∀x,p x=true->q x=true->False):∀l:List α,(l.filter p).length+(l.filter q).length<=(l.filter r).length
 | []=>by simp
 | a::l=>by
  have ih:=ZiQ h h2 h3 l
  grind
theorem ZgL {lw:List Nat}(h:lw.length<64)(hm:∀x,x∈lw↔x<n/\p x=true)(hf:f ρ s=some (.lst (lw.map nD),s)):J9 f ρ s=some (.lst ((WL n p).map nD),s):=by
 unfold J9 Zp;rw[hf];show(match ZE (lw.map nD)with | some ns=>if ns.length<64 then Zy (D.lst ((Xh (YZ ns)).map .int))else Zv | none=>Zv) s=_;rw[ZeD];show(if (Yg lw).length<64 then Zy (D.lst ((Xh (YZ (Yg lw))).map .int))else Zv) s=_;have rs:(WL n p).Pairwise (· < ·):=(range_rise n).sublist qP;have e:Yg (WL n p)=Xh (YZ (Yg lw)):=by
  refine B9 ((qa5 ?_ (ZaD (Yg lw)).1).mpr λx=>?_) (zr.mpr (rs.imp λh=>by omega))
  ·exact zr.mpr (rs.imp λh=>by omega)
  ·rw[(ZaD (Yg lw)).2 x]
   unfold Yg;rw[qt,qt];constructor
   ·rintro⟨a,ha,rfl⟩;exact⟨a,(hm a).mpr (Wo.mp ha),rfl⟩
   ·rintro⟨a,ha,rfl⟩;exact⟨a,Wo.mpr ((hm a).mp ha),rfl⟩
 rw[if_pos (by unfold Yg;simp_all),<-e];unfold Yg;rw[qw];rfl
noncomputable abbrev X9 (n:Nat)(r:Nat->Nat->Bool)(k:Nat):List D:=(qf k).map λp=>.lst ((WL n λo=>r o p).map nD)
theorem ZnT {n:Nat}{L:Qa}(hn:n<=10)(hl:L.length<=60)(hL:∀p∈L,p.1<n/\p.2<n){r:Nat->Nat->Bool}(hr:∀a b,r a b=true↔Pth L n a b)(s:Pn):FTlo [nD n,.lst (L.map Zr)] s=some (.lst (X9 n r n),s):=by
 have h1:∀p∈L,r p.1 p.2=true:=λp hp=>(hr _ _).mpr (.one hp);have tr:∀a b c,r a b=true->r b c=true->r a c=true:=λa b c x y=>(hr _ _).mpr (Pth.trans hL ((hr _ _).mp x) ((hr _ _).mp y));apply jv;refine Ok.runB rfl ?_;refine Ok.seq (.sown (.eq (a:=.lst []) rfl ⟨rfl,?_⟩));refine Ok.seq (.sfor (λk ρ s'=>s=s'/\∃(o3 o4 o5:Option D),ρ=[some (nD n),some (.lst (L.map Zr)),some (.lst (X9 n r k)),o3,o4,o5]) (.eq (Xy (n:=n) rfl (by omega)) ⟨⟨rfl,none,none,none,rfl⟩,λk d ρ s' hd hI=>?_,fun ρ' s' hI=>?_⟩))
 ·obtain⟨rfl,o3,o4,o5,rfl⟩:=hI
  obtain⟨hk,rfl⟩:=V9 hd;refine⟨_,rfl,?_⟩;refine Ok.seq (.sown (.eq (ZnR (L:=L) (by omega) k s rfl rfl) ⟨rfl,?_⟩));refine Ok.seq (.sset (.eq (a:=nD 0) rfl ?_));refine Ok.seq (Ok.swhile (λm ρ s'=>s=s'/\∃(lw:List Nat) (at':Nat),m=100-at'/\at'<=lw.length/\lw.length<=(L.filter λp=>decide (p.1∈lw)).length/\(∀x∈lw,r x k=true)/\(∀p∈L,p.2=k->p.1∈lw)/\(∀i<at',∀p∈L,p.2=lw.getD i 0->p.1∈lw)/\ρ=[some (nD n),some (.lst (L.map Zr)),some (.lst (X9 n r k)),some (nD k),some (.lst (lw.map nD)),some (nD at')]) 100 (by omega) ⟨rfl,(L.filter λp=>decide (p.2=k)).map (·.1),0,rfl,by omega,?_,λx hx=>?_,λp hp e=>qt.mpr ⟨p,qm.mpr ⟨hp,decide_eq_true e⟩,rfl⟩,λi hi=>by omega,rfl⟩ λm ρ s' hI=>?_)
  ·rw[qj]
   have e:(L.filter λp=>decide (p.2=k))=((L.filter λp=>decide (p.1∈(L.filter λp=>decide (p.2=k)).map (·.1))).filter λp=>decide (p.2=k)):=by
    rw[List.filter_filter];refine qav λp hp=>?_;by_cases z:p.2=k
    ·rw[decide_eq_true z,decide_eq_true (qt.mpr ⟨p,qm.mpr ⟨hp,decide_eq_true z⟩,rfl⟩)];rfl
    ·rw[decide_eq_false z];rfl
   have e2:=za (λp:Nat×Nat=>decide (p.2=k)) (L.filter λp=>decide (p.1∈(L.filter λp=>decide (p.2=k)).map (·.1)));have e3:=congrArg qaW e;omega
  ·obtain⟨p,hp,rfl⟩:=qt.mp hx
   obtain⟨p1,p2⟩:=qm.mp hp;have:=h1 p p1
   rwa[of_decide_eq_true p2]at this
  obtain⟨rfl,lw,at',hm,hat,hlw,hrr,hin,hcl,rfl⟩:=hI;have hlw2:lw.length<=60:=qV hlw (qV (za _ _) hl);refine .eq (s':=s) (a:=decide (at'<lw.length)) (Yp (ZC (d:=nD at') (e:=nD lw.length) rfl (Yy (Zh rfl rfl) (show some (D.int _)=some (D.int _) by rw[qj])) (Zmg _ _))) ?_;by_cases hc:at'<lw.length
  ·rw[decide_eq_true hc,if_pos rfl]
   have hnw:((L.filter λp=>decide (p.2=lw.getD at' 0) && !decide (p.1∈lw)).map (·.1)).length<=60:=by
    rw[qj];exact qV (za _ _) hl
   refine Ok.seq (.sext (ds:=lw.map nD) rfl (.eq (ZkG (ZnS (L:=L) (by omega) hc s rfl rfl) (by
    show(XJ (.lst _)||(true&&VO _))=true;rw[ZgK];rfl)) ⟨_,rfl,by rw[qj,qj,Yf];omega,?_⟩))
   refine Ok.seq (.sset (.eq (a:=nD (at'+1)) (ZC (d:=nD at') (e:=.int 1) rfl rfl rfl) (.next ⟨100-(at'+1),by omega,rfl,lw++(L.filter λp=>decide (p.2=lw.getD at' 0) && !decide (p.1∈lw)).map (·.1),at'+1,rfl,?_,?_,?_,λp hp e=>qW _ (hin p hp e),?_,?_⟩)))
   ·rw[zl];omega
   ·have:=ZiQ (p:=λp:Nat×Nat=>decide (p.1∈lw)) (q:=λp:Nat×Nat=>(decide (p.2=lw.getD at' 0) && !decide (p.1∈lw))&&decide (p∈L)) (r:=λp:Nat×Nat=>decide (p.1∈lw++(L.filter λp=>decide (p.2=lw.getD at' 0) && !decide (p.1∈lw)).map (·.1))) (λx hx=>by
     have:=of_decide_eq_true hx;exact decide_eq_true (qW _ this)) (λx hx=>by
     rw[zU,decide_eq_true_eq]at hx;exact decide_eq_true (qp _ (qt.mpr ⟨x,qm.mpr ⟨hx.2,hx.1⟩,rfl⟩))) (λx a1 a2=>by
     rw[zU,zU]at a2;rw[a1]at a2;exact absurd a2.1.2 (by decide)) L
    have e:(L.filter λp:Nat×Nat=>(decide (p.2=lw.getD at' 0) && !decide (p.1∈lw))&&decide (p∈L))=L.filter λp=>decide (p.2=lw.getD at' 0) && !decide (p.1∈lw):=qav λp hp=>by rw[decide_eq_true hp,Bool.and_true]
    rw[e]at this;rw[zl,qj];omega
   ·intro x hx
    rcases qZ.mp hx with w | w
    ·exact hrr x w
    ·obtain⟨p,hp,rfl⟩:=qt.mp w
     obtain⟨p1,p2⟩:=qm.mp hp;rw[zU,decide_eq_true_eq]at p2;have e1:=h1 p p1;have e2:=hrr (lw.getD at' 0) (by rw[qE,qB hc];exact yn hc);rw[<-p2.1]at e2;exact tr _ _ _ e1 e2
   ·intro i hi p hp e
    have eg:(lw++(L.filter λp=>decide (p.2=lw.getD at' 0) && !decide (p.1∈lw)).map (·.1)).getD i 0=lw.getD i 0:=by
     rw[qE,zK (by omega),<-qE]
    rw[eg]at e;by_cases hi2:i<at'
    ·exact qW _ (hcl i hi2 p hp e)
    ·have:i=at':=by omega
     subst this;by_cases z:p.1∈lw
     ·exact qW _ z
     ·exact qp _ (qt.mpr ⟨p,qm.mpr ⟨hp,by rw[decide_eq_true e,decide_eq_false z];rfl⟩,rfl⟩)
   ·rw[zQ];rfl
  ·rw[decide_eq_false hc,if_neg (by decide)]
   have cl:∀p∈L,p.2∈lw->p.1∈lw:=λp hp z=>by
    obtain⟨i,hi,e⟩:=yM z;refine hcl i (by omega) p hp ?_;rw[qE,qB hi];exact e.symm
   have full:∀a b,Pth L n a b->b=k∨b∈lw->a∈lw:=λa b h=>by
    induction h with
    | one z=>exact λe=>e.elim (hin _ z) (cl _ z)
    | two _ _ _ i1 i2=>exact λe=>i1 (.inr (i2 e))
   have hK1:=ZgL (n:=n) (p:=λo=>r o k) (lw:=lw) (by omega) (λx=>⟨λhx=>⟨?_,hrr x hx⟩,λhx=>full x k ((hr _ _).mp hx.2) (.inl rfl)⟩) (f:=Za 4) (ρ:=[some (nD n),some (.lst (L.map Zr)),none,some (nD k),some (.lst (lw.map nD)),some (nD at')]) (s:=s) rfl
   ·refine Ok.seq (.sapp (ds:=X9 n r k) rfl (by rw[qj,qI,Yf];omega) (.eq hK1 (.next ⟨_,rfl,rfl,some (nD k),some (.lst (lw.map nD)),some (nD at'),?_⟩)))
    show [_,_,some (D.lst (X9 n r k ++ [_])),_,_,_]=_;unfold X9;rw[qaR,zQ];rfl
   ·have:=(hr x k).mp (hrr x hx)
    clear hrr hx;generalize k=b at this
    induction this with
    | one z=>exact(hL _ z).1
    | two _ _ _ i1 _=>exact i1
 ·obtain⟨rfl,o3,o4,o5,rfl⟩:=hI
  rw[Xk];exact Ok.seq (.sret (.eq (a:=.lst (X9 n r n)) rfl ⟨rfl,rfl⟩))
noncomputable def rL (L:Qa)(n a b:Nat):Bool:=@decide (Pth L n a b) (qL _)
theorem Ul:rL L n a b=true↔Pth L n a b:=@decide_eq_true_iff _ (qL _)
theorem ZmA (pm:ps.Perm (qf n))(h:Fr ps n p):p.1<n/\p.2<n:=by
 obtain⟨i,j,hij,hj,rfl⟩:=h;have hl:ps.length=n:=by rw[pm.length_eq,qI]
 have g:∀i,i<n->ps.getD i 0<n:=λi hi=>by
  rw[qE,qB (by omega)];exact qu.mp (pm.mem_iff.mp (yn _))
 grind
theorem ZmB (pm:ps.Perm (qf n))(hF:∀p∈L,Fr ps n p)(h:Pth L n a b):Fr ps n (a,b):=by
 have nd:=pm.nodup_iff.mpr zw;have hl:ps.length=n:=by rw[pm.length_eq,qI]
 induction h with
 | one z=>exact hF _ z
 | two _ _ _ i1 i2=>
  obtain⟨i,j,h1,h2,e1⟩:=i1;obtain⟨i',j',h3,h4,e2⟩:=i2
  cases e1
  injection e2 with e3 e4;have:j=i':=by
   rw[qE,qB (by omega),qE,qB (by omega)]at e3;have pw:=zf.mp nd;rcases yC j i' with z | z | z
   ·simp_all
   ·exact z
   ·exact absurd e3.symm (pw i' j (by omega) (by omega) z)
  exact⟨i,j',by omega,h4,by rw[e4]⟩
theorem Zp0 (pm:ps.Perm (qf n))(hF:∀p∈L,Fr ps n p):OrdN n (rL L n):=by
 have nd:=pm.nodup_iff.mpr zw;have hl:ps.length=n:=by rw[pm.length_eq,qI]
 refine⟨λa=>?_,λa b c h1 h2=>Ul.mpr (Pth.trans (λp hp=>ZmA pm (hF p hp)) (Ul.mp h1) (Ul.mp h2)),λa b h=>ZmA pm (ZmB pm hF (Ul.mp h))⟩
 cases e:rL L n a a with
 | false=>rfl
 | true=>
  obtain⟨i,j,h1,h2,e1⟩:=ZmB pm hF (Ul.mp e);injection e1 with e2 e3;have e4:=e2.symm.trans e3;rw[qE,qB (by omega),qE,qB (by omega)]at e4;exact absurd e4 (zf.mp nd i j (by omega) (by omega) h1)
end TQ
namespace K57
open L2 TF TQ TS
open TP
open TP2 hiding g_all_near F_all_near
open TP3 hiding g_full_knots F_full_knots
theorem ZmC {n:Nat}{jJ:Qa}{g:Zc->M D}{ρ:Zc}{s s1:Pn}(h:g ρ s=some (ZU n jJ,s1))(hw:IsWeb n jJ)(hn:n<=8):Ze Zk (Zm UA (Zb g Zd)) (dC (.int 0)) ρ s=some (nD (Xx n jJ),s1):=
 ZC (Z4 (Zh h rfl) (ZnK hw hn s1)) rfl (UP _ _)
theorem ZnU {n:Nat}{jJ:Qa}{g:Zc->M D}{ρ:Zc}{s s1:Pn}(h:g ρ s=some (ZU n jJ,s1))(hw:IsWeb n jJ)(hn:n<=24):Ze Zk (Zm W6 (Zb g Zd)) (dC (.int 0)) ρ s=some (nD (om n jJ),s1):=
 ZC (Z4 (Zh h rfl) (ZdD hw hn s1)) rfl (UP _ _)
theorem Zkf {f:Zc->M D}{fl fh:Zc->M (Option Int)}{ρ:Zc}{s:Pn}{ds:List D}{lo hi:Option Int}(h:f ρ s=some (.lst ds,s))(hl:fl ρ s=some (lo,s))(hh:fh ρ s=some (hi,s)):Bo f fl fh ρ s=some (.lst (VZ ds lo hi),s):=by
 unfold Bo Zp;simp only[h,hl,hh];rfl
theorem Zp1 (ds:List D):VZ ds (some ((1:Nat):Int)) none=ds.drop 1:=by
 unfold VZ;rw[HT.sIx_none,HT.sIx_nat];by_cases h:1<=ds.length
 ·rw[Nat.min_eq_left h,List.take_of_length_le (by simp)]
 ·grind
theorem ZnV {f g:Zc->M D}{ρ:Zc}{s:Pn}{ds es:List D}(h1:f ρ s=some (.lst ds,s))(h2:g ρ s=some (.lst es,s)):Bw f g ρ s=some (U0 ds es,s):=by
 unfold Bw Zp;simp only[h1,h2];rfl
noncomputable abbrev Wv (rk:Nat->Nat)(p:Nat):List Int:=[(rk p:Int),(p:Int)]
theorem ZnW {rk:Nat->Nat}{K:List Nat}(hr:K.Nodup)(hl:K.length<64):∃C:List Nat,UH [.lst (K.map λp=>Zr (rk p,p))]=some (.lst (C.map λp=>Zr (rk p,p)))/\C.Perm K/\C.Pairwise λa b=>rk a<=rk b:=by
 have e:K.map (λp=>Zr (rk p,p))=(K.map (Wv rk)).map Xv:=by rw[qw];rfl
 have inj:∀a b,Wv rk a=Wv rk b->a=b:=λa b h=>by
  injection h with _ h;injection h with h _;omega
 have hp:=ZaC (K.map (Wv rk));have hs:=ZbG (K.map (Wv rk));have hC:XM (K.map (Wv rk))=((XM (K.map (Wv rk))).map λns=>(ns.getD 1 0).toNat).map (Wv rk):=by
  rw[qw]
  conv=>lhs;rw[<-qaX (XM (K.map (Wv rk)))]
  refine zm λns h=>?_;obtain⟨p,_,rfl⟩:=qt.mp (hp.mem_iff.mp h);rfl
 generalize (XM (K.map (Wv rk))).map (λns=>(ns.getD 1 0).toNat)=C at hC;rw[hC]at hp hs;refine⟨C,?_,?_,?_⟩
 ·show(match WQ (K.map λp=>Zr (rk p,p))with | some jP=>if Vy jP then some (D.lst ((XM jP).map Xv))else none | none=>none)=_
  rw[e,Zbv];show(if Vy (K.map (Wv rk))then some (D.lst ((XM (K.map (Wv rk))).map Xv))else none)=_;rw[if_pos ⟨by rw[qj];exact hl,zr.mpr (hr.imp λh e=>h (inj _ _ e)),λ_ ns h=>by
   obtain⟨p,_,rfl⟩:=qt.mp h;exact λz=>by cases z⟩,hC,qw]
  rfl
 ·have:=hp.map λns:List Int=>(ns.getD 1 0).toNat
  rw[qw,qw]at this;have e2:((λns=>(ns.getD 1 0).toNat)∘Wv rk)=id:=rfl;simp_all
 ·refine(zr.mp hs).imp λ{a b} h=>?_
  unfold XG at h;refine qaf λhn=>?_;have:Xj (Wv rk b) (Wv rk a)=true:=by
   unfold Xj
   grind
  grind
theorem ZmD {n k p:Nat}{r:Nat->Nat->Bool}(hp:p<k)(hk:k<=1000):Zk (.lst (X9 n r k)) (nD p)=some (.lst ((WL n λo=>r o p).map nD)):=by
 refine X2 ?_;simp_all
theorem ZmE (m:Int)(w:List Int):∃s',ZlZ (none::some .pen::qA 9 none) ([m,0],w)=some (.rt (.bl true),s'):=by
 have ok0:Xq 0 ([m,0],w):=⟨m,0,rfl,by omega,by omega⟩;suffices hh:Ok (ZlZ (none::some .pen::qA 9 none)) ([m,0],w) λo s'=>o=.rt (.bl true) by
  obtain⟨o,s',e,rfl⟩:=hh;exact⟨s',e⟩
 refine Ok.seq (.sfor (λi ρ s'=>Xq (i*3000) s'/\∃o2 o3 o4 o5 o6 o7 o8 o9 o10,ρ=[none,some .pen,o2,o3,o4,o5,o6,o7,o8,o9,o10]) (.eq (Xy (n:=4) rfl (by omega)) ⟨⟨ok0.mono (by omega),none,none,none,none,none,none,none,none,none,rfl⟩,λi d ρ s' hd hI=>?_,fun ρ' s' hI=>?_⟩))
 ·obtain⟨ok1,o2,o3,o4,o5,o6,o7,o8,o9,o10,rfl⟩:=hI
  obtain⟨hi,rfl⟩:=V9 hd;refine⟨_,rfl,?_⟩;refine Ok.seq (.sset (.drawD (m:=9) ok1 (by omega) (Zh rfl (Zh rfl rfl)) (by omega) (by omega) λn s1 hn ok2=>?_));refine Ok.seq (.sset (.fn (Zh rfl (Zh rfl (Zh rfl rfl))) ((Zke (n:=n) ok2 (by omega) (by omega)).mono λd s q=>?_)));obtain⟨ok3,L,qs,rfl,pm,hl,hF⟩:=q;have o:=Zp0 pm hF;have hL:∀p∈L,p.1<n/\p.2<n:=λp hp=>ZmA pm (hF p hp);have hweb:=Zfp n (rL L n);have htl:=hweb.len (by omega);refine Ok.seq (.sset (.eq (Z4 (Zh rfl (Zh rfl rfl)) (Zfo (by omega) (by omega) hL (rL L n) (λ_ _=>Ul) o.irr s)) ?_));obtain⟨C,os,hC,pC,_,pO,hO⟩:=Zkd (by omega) (by omega) hL (rL L n) (λ_ _=>Ul) o.irr s;have hchi:=Zpx o (by omega) pO hO;have htu:=Zmy o (by omega);refine Ok.seq (.sset (.eq (Z4 (Zh rfl (Zh rfl rfl)) (ZnT (by omega) (by omega) hL (r:=rL L n) (λ_ _=>Ul) s)) ?_));have hfu:=Zmq n _ hweb (by omega) s;rw[ZnG]at hfu;have hok:∀K∈JD n (ZX n (rL L n)),K∈kn (ZX n (rL L n)) n:=λK hK=>ZnH (Zj4.mp hK);generalize JD n (ZX n (rL L n))=A at hfu hok;refine Ok.seq (.sfor (λj ρ s'=>s=s'/\∃o7 o8 o9 o10,ρ=[none,some .pen,some (nD i),some (nD n),some (.lst (L.map Zr)),some (ZU n (ZX n (rL L n))),some (.lst (X9 n (rL L n) n)),o7,o8,o9,o10]) (.eq (XI (Z4 (Zh rfl rfl) hfu)) ⟨⟨rfl,o7,o8,o9,o10,rfl⟩,λj d ρ s' hd hJ=>?_,fun ρ' s' hJ=>?_⟩))
  ·obtain⟨rfl,o7,o8,o9,o10,rfl⟩:=hJ
   rw[qM]at hd;obtain⟨K,hK',rfl⟩:=qby.mp hd;have hK:=hok K (ye hK');obtain⟨k1,k2⟩:=Ju hK;refine⟨_,rfl,?_⟩;obtain⟨C,e1,pC,sC⟩:=ZnW (rk:=YV n (rL L n)) (ZaG (ZcK hK)) (by omega);have up:=Zmv o pC hK sC;have hCl:C.length<=8:=by rw[pC.length_eq];omega
   have hc1:=YK (src:=[none,some 6]) (fi:=Vk (Za 7)) (τ:=Zt 0) (ft:=Z7) (fe:=ZT (Zb (ZF Yi (Zb (Ze Zk (Za 1) (Za 0)) Zd)) (Zb (Za 0) Zd))) (ρ:=[none,some .pen,some (nD i),some (nD n),some (.lst (L.map Zr)),some (ZU n (ZX n (rL L n))),some (.lst (X9 n (rL L n) n)),some (ZH K),o8,o9,o10]) (s:=s) (ds:=K.map nD) (λd=>[some d,some (.lst (X9 n (rL L n) n))]) (λ_=>true) (λd=>Zr (YV n (rL L n) (ZZ d),ZZ d)) (Zim rfl) (by rw[qj,Yf];omega) (λd hd=>by
    obtain⟨x,hx,rfl⟩:=qt.mp hd;exact⟨rfl,rfl,λ_=>Wg (Zh (Yy (Zh (ZC rfl rfl (ZmD (k1 x hx) (by omega))) rfl) (show some (D.int _)=some (D.int _) by rw[qj];rfl)) (Zh rfl rfl)) two_le⟩)
   rw[W1,qw]at hc1;have hc2:=YK (src:=[none,none]) (fi:=ZV (ZF UH (Zb (ZR [none,some 6] (Vk (Za 7)) (Zt 0) Z7 (ZT (Zb (ZF Yi (Zb (Ze Zk (Za 1) (Za 0)) Zd)) (Zb (Za 0) Zd)))) Zd))) (τ:=W8 0 1) (ft:=Z7) (fe:=Za 1) (ρ:=[none,some .pen,some (nD i),some (nD n),some (.lst (L.map Zr)),some (ZU n (ZX n (rL L n))),some (.lst (X9 n (rL L n) n)),some (ZH K),o8,o9,o10]) (s:=s) (ds:=C.map λp=>Zr (YV n (rL L n) p,p)) (λd=>[some (nD (WG d).1),some (nD (WG d).2)]) (λ_=>true) (λd=>nD (WG d).2) (XI (Yy (Zh hc1 rfl) e1)) (by rw[qj,Yf];omega) (λd hd=>by
    obtain⟨x,hx,rfl⟩:=qt.mp hd;exact⟨rfl,rfl,λ_=>rfl⟩)
   rw[W1,qw]at hc2;have hc2:_=some (D.lst (C.map nD),s):=hc2;refine Ok.seq (.sset (.eq hc2 ?_));have hz:Bw (Za 8) (Bo (Za 8) (Zk4 (dC (.int 1))) Zk3) [none,some .pen,some (nD i),some (nD n),some (.lst (L.map Zr)),some (ZU n (ZX n (rL L n))),some (.lst (X9 n (rL L n) n)),some (ZH K),some (.lst (C.map nD)),o9,o10] s=some (U0 (C.map nD) ((C.map nD).drop 1),s):=ZnV rfl ((Zkf rfl (lo:=some ((1:Nat):Int)) rfl rfl).trans (by rw[Zp1]));refine Ok.seq (.sfor (λj ρ s'=>s=s'/\∃o9 o10,ρ=[none,some .pen,some (nD i),some (nD n),some (.lst (L.map Zr)),some (ZU n (ZX n (rL L n))),some (.lst (X9 n (rL L n) n)),some (ZH K),some (.lst (C.map nD)),o9,o10]) (.eq hz ⟨⟨rfl,o9,o10,rfl⟩,λj d ρ s' hd hJ=>?_,fun ρ' s' hJ=>?_⟩))
   ·obtain⟨rfl,o9,o10,rfl⟩:=hJ
    unfold U0 at hd;rw[qbE,List.getElem?_drop,qM,qM]at hd
    cases ea:C[j]? with
    | none=>rw[ea]at hd;cases hd
    | some a=>
     cases eb:C[1+j]? with
     | none=>rw[ea,eb]at hd;cases hd
     | some b=>
      rw[ea,eb]at hd;obtain rfl:=zY hd;obtain⟨ha,ea⟩:=qG.mp ea;obtain⟨hb,eb⟩:=qG.mp eb;have hab:rL L n a b=true:=by
       have:=zf.mp up j (1+j) ha hb (by omega)
       rwa[ea,eb]at this
      refine⟨_,rfl,?_⟩;refine Ok.seq (.sif (.eq (a:=false) (Yp (ZC (d:=nD a) (e:=.lst ((WL n λo=>rL L n o b).map nD)) rfl (ZC rfl rfl (ZmD (o.lt _ _ hab).2 (by omega))) (by rw[JY,decide_eq_true (Wo.mpr ⟨(o.lt _ _ hab).1,hab⟩)];rfl))) (.next ?_)));exact .next ⟨_,rfl,rfl,_,_,rfl⟩
   ·obtain⟨rfl,o9',o10',rfl⟩:=hJ
    exact .next ⟨_,rfl,rfl,_,_,_,_,rfl⟩
  ·obtain⟨rfl,o7,o8,o9,o10,rfl⟩:=hJ
   have hnn:∀a:Nat,XX (nD a) (nD a)=some (.bl false):=λa=>by rw[ZhO];simp
   have hq:WN [ZU n (ZX n (rL L n))] s=some (ZU n (Yb n (ZX n (rL L n))),s):=ZdA n (ZX n (rL L n)) s (by omega) (by omega);have htw:=Za7 n (ZX n (rL L n));have F1:=ZmC (ρ:=[none,some .pen,some (nD i),some (nD n),some (.lst (L.map Zr)),some (ZU n (ZX n (rL L n))),some (.lst (X9 n (rL L n) n)),o7,o8,o9,o10]) (g:=Zm WN (Zb (Za 5) Zd)) (Z4 (Zh rfl rfl) hq) htw (by omega);rw[htu]at F1;have F2:=ZnU (ρ:=[none,some .pen,some (nD i),some (nD n),some (.lst (L.map Zr)),some (ZU n (ZX n (rL L n))),some (.lst (X9 n (rL L n) n)),o7,o8,o9,o10]) (g:=Zm WN (Zb (Za 5) Zd)) (Z4 (Zh rfl rfl) hq) htw (by omega);refine Ok.seq (.sif (.eq (a:=false) (Yp (ZC F1 F2 (hnn _))) (.next ?_)));have F3:=ZmC (ρ:=[none,some .pen,some (nD i),some (nD n),some (.lst (L.map Zr)),some (ZU n (ZX n (rL L n))),some (.lst (X9 n (rL L n) n)),o7,o8,o9,o10]) (g:=Za 5) (s:=s) rfl hweb (by omega);rw[hchi]at F3;refine Ok.seq (.sif (.eq (a:=false) (Yp (ZC (ZC (e:=.int 0) (Z4 (Zh rfl (Zh rfl rfl)) hC) rfl (UP _ _)) F3 (hnn _))) (.next ?_)));exact .next ⟨_,rfl,ok3.mono (by omega),_,_,_,_,_,_,_,_,_,rfl⟩
 ·obtain⟨ok1,o2,o3,o4,o5,o6,o7,o8,o9,o10,rfl⟩:=hI
  exact Ok.seq (.sret (.eq (a:=.bl true) rfl rfl))
end K57
namespace K57
open L2 TF TQ
open TP
open TP2 hiding g_all_near F_all_near
open TP3 hiding g_full_knots F_full_knots
theorem Zpz {P:xF}{w:World}{K:qk}{mg:Str->Option Value}{base:Heap}{ka a_p:Addr}{jN fd_p:xE}{L:List (Addr×Str)}(lo:WK L)(F:Fun K "law" "law" s_law ka jN)(T:Txt mg)(FP:FnOk P w K mg base ZQ 1 a_p fd_p ["script"] (Zoa K))(hmp:mg "_law_tpen" = some (.ref a_p))(hkp:yd K (.ref a_p)=true)(hbp:Wh K fd_p ["script"] [])(jL:ZL P w K mg base 1 "_law_tdraw" 2 true (Ws XY L) Yq)(kc:ZL P w K mg base 1 "_law_tlower" 2 true Z0 BY)(kd:ZL P w K mg base 3 "_law_tpairs" 3 true (Ws XY L) BX)(ke:ZL P w K mg base 56 "chains_told" 2 false (YD L) BZ)(j7:ZL P w K mg base 56 "fewest_hues" 1 true (YD L) UA)(kj:ZL P w K mg base 4 "full_knots" 1 true Z0 F_full_knots)(kr:ZL P w K mg base 55 "most" 1 true (YD L) W6)(ki:ZL P w K mg base 6 "turned" 1 false (YD L) WN)(kb:ZL P w K mg base 7 "web_of_order" 2 false (YD L) BV) :
  FnOk P w K mg base ZQ 57 ka jN ["script"] (Zhp K L):=by
 have nd:=ZhF.nd;refine F.ok ZhF (λvs H Q E h=>?_) λcdv A outer s0 H vs Q E hr h=>?_
 ·obtain⟨a,ns,rfl,_⟩:=h
  rfl
 ·obtain⟨a,ns,rfl,sq,hl,hTb,hQ⟩:=h
  refine⟨_,W3 (Ui (i:=1) nd rfl (qJ rfl) (ZeM (FP.mono (by decide)) hr rfl hmp hkp hbp .nil Zh7 (YF (pv 0) YX))) (Zk9 (GG:=(Ws XY L)) λG hG=>Znu lo T hr jL kc kd ke j7 kj kr ki kb G hG),?_⟩;refine⟨.ref a,rfl,a,ns,rfl,sq,hl,λp wa m H' st kp hp hw=>?_⟩;obtain⟨s',hs'⟩:=ZmE m (Vi ns);exact ZjG (n:=9) st hTb kp hp hw hQ hs'
noncomputable def Zop:List DRow:=[dR "pairs_of" 4 225 7 1 40 232 true "tiefold.things" 223,
 dR "near" 6 237 14 2 47 240 false "tiefold.webs" 235,
 dR "all_near" 7 243 16 1 52 246 false "tiefold.webs" 235,
 dR "are_tied" 8 249 19 3 57 255 true "tiefold.webs" 235,
 dR "marked_ties" 9 258 21 1 64 261 false "tiefold.webs" 235,
 dR "turned" 10 264 23 1 69 269 true "tiefold.webs" 235,
 dR "web_where" 11 272 26 2 76 275 false "tiefold.webs" 235,
 dR "most" 13 280 30 1 81 285 true "tiefold.most" 278,
 dR "heaviest_knot" 14 288 33 2 88 291 false "tiefold.most" 278,
 dR "heaviest_among" 15 294 36 3 93 297 false "tiefold.most" 278,
 dR "apart_among" 16 300 48 3 98 303 false "tiefold.most" 278,
 dR "heaviest_with" 17 306 50 4 103 309 false "tiefold.most" 278,
 dR "weighed" 18 312 53 2 108 315 false "tiefold.most" 278,
 dR "hued_along" 20 320 56 2 113 323 false "tiefold.hues" 318,
 dR "least_free" 21 326 62 1 118 329 false "tiefold.hues" 318,
 dR "fewest_hues" 22 332 64 1 123 339 true "tiefold.hues" 318,
 dR "hued_on" 23 342 72 3 130 345 false "tiefold.hues" 318,
 dR "web_of_order" 25 350 84 2 135 355 true "tiefold.chains" 348,
 dR "chains_told" 26 358 86 2 142 361 false "tiefold.chains" 348,
 dR "count_below" 27 364 93 3 147 367 false "tiefold.chains" 348,
 dR "web_of_below" 28 370 95 2 152 376 true "tiefold.chains" 348,
 dR "all_below" 29 379 97 2 159 382 false "tiefold.chains" 348,
 dR "full_knots" 31 387 108 1 164 390 false "tiefold.knots" 385,
 dR "all_knots" 32 393 111 1 169 396 false "tiefold.knots" 385,
 dR "is_near_all" 33 399 116 3 174 402 false "tiefold.knots" 385,
 dR "is_full" 34 405 118 2 179 408 false "tiefold.knots" 385,
 dR "_law_tpen" 36 413 121 1 184 416 false "law_tiefold_k57_whole_chains_and_apart_sets" 411,
 dR "_law_tdraw" 37 419 126 2 189 427 true "law_tiefold_k57_whole_chains_and_apart_sets" 411,
 dR "_law_torder" 38 430 137 2 196 433 false "law_tiefold_k57_whole_chains_and_apart_sets" 411,
 dR "_law_tpairs" 39 436 140 3 201 448 true "law_tiefold_k57_whole_chains_and_apart_sets" 411,
 dR "_law_tlower" 40 451 153 2 208 454 false "law_tiefold_k57_whole_chains_and_apart_sets" 411,
 dR "law" 41 457 163 1 213 460 false "law_tiefold_k57_whole_chains_and_apart_sets" 411]
noncomputable def KF (P:Params):qk:=ZpX Z2 181 ([dE P "__name__" 165 (.str "law_tiefold_k57_whole_chains_and_apart_sets" 411)] ++ [dE P "__doc__" 166 (.none)] ++ [dE P "__package__" 167 (.none)] ++ [dE P "__loader__" 168 (.builtin "__main__.__loader__#opaque")] ++ [dE P "__spec__" 169 (.none)]++dRs P [nE "__annotations__" 170 6,nE "__builtins__" 171 4] ++ [dE P "__file__" 173 (.str "/claim/cut.py" 172)] ++ [dE P "__cached__" 174 (.none)]++dRs P [nE "TieError" 206 24,nE "Round" 222 37,nE "pairs_of" 234 46,nE "near" 242 51,nE "all_near" 248 56,nE "are_tied" 257 63,nE "marked_ties" 263 68,nE "turned" 271 75,nE "web_where" 277 80,nE "most" 287 87,nE "heaviest_knot" 293 92,nE "heaviest_among" 299 97,nE "apart_among" 305 102,nE "heaviest_with" 311 107,nE "weighed" 317 112,nE "hued_along" 325 117,nE "least_free" 331 122,nE "fewest_hues" 341 129,nE "hued_on" 347 134,nE "web_of_order" 357 141,nE "chains_told" 363 146,nE "count_below" 369 151,nE "web_of_below" 378 158,nE "all_below" 384 163,nE "full_knots" 392 168,nE "all_knots" 398 173,nE "is_near_all" 404 178,nE "is_full" 410 183,nE "_law_tpen" 418 188,nE "_law_tdraw" 429 195,nE "_law_torder" 435 200,nE "_law_tpairs" 450 207,nE "_law_tlower" 456 212,nE "law" 462 217]) 43 Zop
noncomputable def asF:List Addr:=[3,45,46,50,51,55,56,62,63,67,68,74,75,79,80,86,87,91,92,96,97,101,102,106,107,111,112,116,117,121,122,128,129,133,134,140,141,145,146,150,151,157,158,162,163,167,168,172,173,177,178,182,183,187,188,194,195,199,200,206,207,211,212,216,217]
theorem eF:∀P,asF=(KF P).map (·.1):=λ_=>by kernel_rfl
theorem okF (P:Params):Zfc (KF P) Z2 Zop:=by
 repeat refine⟨⟨by kernel_rfl,by kernel_rfl,by kernel_rfl⟩,?_⟩
 exact trivial
noncomputable abbrev LF:List (Addr×Str):=[(70,(qH "turned.<locals>.<lambda>")),(153,(qH "web_of_below.<locals>.<lambda>")),(143,(qH "chains_told.<locals>.<lambda>"))]
theorem ZpA {P:xF}{w:World}{h:Heap}{mg:Str->Option Value}{fa:Addr}(X:(KF w.params).In h)(G:h.Ns mainGlobals mg)(hfa:mg "law" = some (.ref fa)) :
  ∃fd:xE,(∀(s:Shared) (v:Value),BindsTo s fd ⟨[v],[]⟩ [("script",v)])/\∀base:Heap,(KF w.params).In base->base.Ns mainGlobals mg->zO base 74 70->zO base 157 153->zO base 145 143->Ux mg base->FnOk P w (KF w.params) mg base ZQ 57 fa fd ["script"] (Zhp (KF w.params) LF):=by
 have lo:WK LF:=TF.lok_nd (by decide);have zn:∀x,qbl (KF w.params) mainGlobals x=some none->mg x=none:=λ_ z=>PySem.W.mg_none_of X G z;have T:Txt mg:=⟨zn _ (by kernel_rfl),zn _ (by kernel_rfl),zn _ (by kernel_rfl),zn _ (by kernel_rfl),zn _ (by kernel_rfl),zn _ (by kernel_rfl),zn _ (by kernel_rfl),zn _ (by kernel_rfl),zn _ (by kernel_rfl),zn _ (by kernel_rfl),zn _ (by kernel_rfl),zn _ (by kernel_rfl),zn _ (by kernel_rfl),zn _ (by kernel_rfl)⟩;have mk:=@mkc P w (KF w.params) mg;have at_:=λj {r} e=>@Zpm _ h mg _ _ (okF w.params) X G j r e;obtain⟨f1,_,F1,m1,_⟩:=at_ 27 rfl;obtain⟨f2,_,F2,m2,_⟩:=at_ 30 rfl;obtain⟨f3,_,F3,m3,_⟩:=at_ 28 rfl;obtain⟨f4,_,F4,m4,_⟩:=at_ 29 rfl;obtain⟨f5,_,F5,m5,_⟩:=at_ 21 rfl;obtain⟨f6,_,F6,m6,_⟩:=at_ 19 rfl;obtain⟨f7,_,F7,m7,_⟩:=at_ 4 rfl;obtain⟨f8,_,F8,m8,_⟩:=at_ 3 rfl;obtain⟨f9,_,F9,m9,_⟩:=at_ 1 rfl;obtain⟨f10,_,F10,m10,_⟩:=at_ 2 rfl;obtain⟨f11,_,F11,m11,_⟩:=at_ 14 rfl;obtain⟨f12,_,F12,m12,_⟩:=at_ 13 rfl;obtain⟨f13,_,F13,m13,_⟩:=at_ 10 rfl;obtain⟨f14,_,F14,m14,_⟩:=at_ 12 rfl;obtain⟨f15,_,F15,m15,_⟩:=at_ 11 rfl;obtain⟨f16,_,F16,m16,_⟩:=at_ 9 rfl;obtain⟨f17,_,F17,m17,_⟩:=at_ 0 rfl;obtain⟨f18,_,F18,m18,_⟩:=at_ 6 rfl;obtain⟨f19,_,F19,m19,e19⟩:=at_ 5 rfl;obtain⟨f20,_,F20,m20,_⟩:=at_ 8 rfl;obtain⟨f21,_,F21,m21,_⟩:=at_ 7 rfl;obtain⟨f22,_,F22,m22,e22⟩:=at_ 20 rfl;obtain⟨f23,_,F23,m23,e23⟩:=at_ 18 rfl;obtain⟨f24,_,F24,m24,_⟩:=at_ 16 rfl;obtain⟨f25,_,F25,m25,_⟩:=at_ 15 rfl;obtain⟨f26,_,F26,m26,_⟩:=at_ 24 rfl;obtain⟨f27,_,F27,m27,_⟩:=at_ 23 rfl;obtain⟨f28,_,F28,m28,_⟩:=at_ 25 rfl;obtain⟨f29,_,F29,m29,_⟩:=at_ 22 rfl;obtain⟨f30,_,F30,m30,_⟩:=at_ 17 rfl;obtain⟨f31,_,F31,m31,_⟩:=at_ 26 rfl;obtain⟨f32,_,F32,m32,_⟩:=at_ 31 rfl
 cases hfa.symm.trans m32
 have kt:=λb=>mk b F8 m8 (Zgu F8 T );have kJ:=λb=>mk b F17 m17 (Zgs F17 T );have kM:UY P w (KF w.params) mg 5 "web_where" 2 false (UX P w (KF w.params) mg 4 2 Tl) Ua:=⟨f18,_,_,λb=>Ze8 F18 T (kJ b),m18,F18.kp,bdc ["row","tied"] F18⟩;obtain⟨oc,od,kV,doc,pm,an,cdv,ct,osl,rfl,lk,hcd⟩:=F32.ex;refine⟨yr "law" "law" (W5 s_law) (Wy s_law) (Zx s_law) .none kV doc pm an cdv ct,λs v=>.of_eq rfl,λbase _ _ hC19 hC22 hC23 hBm=>?_⟩;have kG:=mk base F1 m1 (ZdY F1 T );have jL:ZL P w (KF w.params) mg base 1 "_law_tdraw" 2 true (Ws XY LF) Yq:=Zf0 kG Zlh;have kc:=mk base F2 m2 (Zdi F2 T );have kL:=mk base F3 m3 (Zdu F3 T kG);have kx:ZL P w (KF w.params) mg base 2 "_law_torder" 2 true (Ws XY LF) Vx:=Zf0 kL ZjH;have kd:=mk base F4 m4 (Zdh F4 T lo jL kx);have kh:=mk base F5 m5 (Ze9 F5 T );have kB:=mk base F6 m6 (Zdl F6 T );have jZ:=mk base F7 m7 (Zdm F7 T );have kH:=kt base;have kN:=mk base F9 m9 (Zns F9 T kH);have jT:=mk base F10 m10 (Zgv F10 T jZ kN);have kD:=mk base F11 m11 (ZdU F11 T );have kE:=mk base F12 m12 (ZdV F12 T jT kD);have kA:=mk base F13 m13 (Zdn F13 T );have kC:=mk base F14 m14 (ZhC F14 T );have rr:∀j:Nat,ZL P w (KF w.params) mg base (1+2*j) "heaviest_among" 3 false Z0 (JR j):=by
  intro j
  induction j with
  | zero=>exact ZL.none m16 F16.kp (bdc ["aparts","weights","places"] F16)
  | succ j ih=>
   have kf:=mk base F15 m15 (Zcd F15 T (by omega) ih);have z:ZL P w (KF w.params) mg base (1+2*j+2) "heaviest_among" 3 false Z0 (JR (j+1)):=mk base F16 m16 (ZbP F16 T (by omega) kA ih kf kC);exact z.mono (h:=by omega)
 have jR:=(rr 26).mono (k:=53);have kK:=kJ base;have kg:=kM;have ki:=mk base F19 m19 (ZjU F19 T lo jZ kg kt (tP:=70) e19 hC19 hBm (by simp));have km:=mk base F20 m20 (Zce F20 T lo jT jR ki);have kr:=mk base F21 m21 (Znt F21 T lo km);have jX:=mk base F22 m22 (Zcy F22 T lo kg (tP:=153) e22 hC22 hBm (by simp));have ke:=mk base F23 m23 (Zdp F23 T lo kh kB kE kr jX (tP:=143) e23 hC23 hBm (by simp));have kO:∀j:Nat,ZL P w (KF w.params) mg base (0+j) "hued_on" 3 false Z0 (VM j):=by
  intro j
  induction j with
  | zero=>exact ZL.none m24 F24.kp (bdc ["nears","many","hues"] F24)
  | succ j ih=>exact mk base F24 m24 (ZhE F24 T (Nat.le_add_right _ _) ih)
 have ko:=(kO 10).mono (k:=11);have j7:=mk base F25 m25 (Zdt F25 T lo jT ko kr);have j6:=mk base F26 m26 (Zdq F26 T );have kF:=mk base F27 m27 (Zfa F27 T j6);have kI:=mk base F28 m28 (ZhD F28 T j6);have kj:=mk base F29 m29 (ZdX F29 T kF jT kI);have kb:=mk base F30 m30 (Zcz F30 T lo kh jX);exact Zpz lo F32 T (Zfb F31 T) m31 F31.kp (bdc ["script"] F31) jL kc kd ke j7 kj kr ki kb
noncomputable def tb:List (Str×Addr×Addr):=[("turned",74,70),("web_of_below",157,153),("chains_told",145,143)]
theorem ZpB:∀P q,(P,q)∈LF->∃x c,(x,c,P)∈tb:=by
 intro P q h;simp only[qy,Prod.mk.injEq,zI,or_false]at h;rcases h with⟨rfl,_⟩ | ⟨rfl,_⟩ | ⟨rfl,_⟩
 ·exact⟨"turned",74,by simp[tb]⟩
 ·exact⟨"web_of_below",157,by simp[tb]⟩
 ·exact⟨"chains_told",145,by simp[tb]⟩
noncomputable def qF:xF:=PySem.W.view PySem.Challenge.pw_tiefold_k57_whole_chains_and_apart_sets [1,2,4,6,7,8,9,10,11,13,14,15,16,17,18,20,21,22,23,25,26,27,28,29,31,32,33,34,36,37,38,39,40,41]
theorem walk {loose:List Str}{XP:(Str->Option Value)->Heap->Prop}{YP:World->Heap->Prop}(hY:∀(w:World) (h:Heap),YP w h->(KF w.params).In h) :
  qbZ qF loose XP YP PySem.Challenge.rw_tiefold_k57_whole_chains_and_apart_sets.row.toRowW (ZhG s_law) [] (λf vs=>qbT f vs):=
 Zlj (K:=KF) (tb:=tb) (n:=63) (k:=57) (x:="script") (CX:=λ_=>ZQ) (sp:=λw=>Zhp (KF w.params) LF) rfl (by decide) rfl ⟨rfl,by decide,by decide,rfl⟩ hY
  (yy.mpr ⟨zM.mp (by kernel_rfl),yy.mpr ⟨zM.mp (by kernel_rfl),yy.mpr ⟨zM.mp (by kernel_rfl),(λ_ h=>nomatch h)⟩⟩⟩)
  (λw=>yy.mpr ⟨by kernel_rfl,yy.mpr ⟨by kernel_rfl,yy.mpr ⟨by kernel_rfl,(λ_ h=>nomatch h)⟩⟩⟩) (λw=>by kernel_rfl)
  (λw mg fa h h1 h2 h3=>let ⟨fd,hb,hF⟩:=ZpA h1 h2 h3;⟨fd,hb,λbase g1 g2 g3 g4=>hF base g1 g2 (g3 ("turned",74,70) (by simp[tb])) (g3 ("web_of_below",157,153) (by simp[tb])) (g3 ("chains_told",145,143) (by simp[tb])) g4⟩)
  (λ_ _ a ns hl hS hTb=>⟨a,ns,rfl,hS,hl,Zhq (tb:=tb) ZpB hTb,λ_=>rfl⟩) λ_ _ _ _ _ z=>z
theorem left:PySem.W.LeftO PySem.Challenge.rw_tiefold_k57_whole_chains_and_apart_sets.prog qF [] (λs=>PySem.W.xlAt qF [] s&&PySem.W.recOk PySem.Challenge.rw_tiefold_k57_whole_chains_and_apart_sets.row.records s) (yQ KF asF eF).obs (yQ KF asF eF).val 2836:=λw=>by kernel_rfl
theorem said:PySem.Challenge.rw_tiefold_k57_whole_chains_and_apart_sets.wellSaid=true:=by kernel_rfl
end K57
open PySem.W
set_option maxRecDepth 100000 in
set_option maxHeartbeats 0 in
theorem PySem.Challenge.cw_tiefold_k57_whole_chains_and_apart_sets_holds : PySem.Challenge.rw_tiefold_k57_whole_chains_and_apart_sets.Holds := by
 refine TF.head_of (q:=K57.qF) (K:=K57.KF) (st:=K57.s_law) K57.said K57.left (by kernel_rfl) (by kernel_rfl) (by kernel_rfl) (by decide +kernel) ⟨rfl,rfl,rfl,rfl,rfl,by decide +kernel⟩ ?hw rfl (K57.walk λw h Y=>kIn_of Y)
 case hw=>w_witness2
