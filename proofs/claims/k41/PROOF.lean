import PyProof.Rows.All
import Wide.All
import OpenK.AllK
import Wide.FinOn
import Lean
import PyProof.EqAt
import PyProof.EqKinds
import PyProof.TupleCall
import KE.KLam
import PyProof.ZipIter
import PyProof.WalksEnum
import PyProof.WalkInts
import PyProof.SeqI3
import PyProof.Rows.SeqMore
import PyProof.Rows.SortWalk
import PyProof.Draws
import PyProof.EnumMake
import PyProof.DictIter
import KE.KSortTup
import PyProof.Rows.SeqMore2
import PyProof.Rows.RuleIs
import PyProof.Rows.SetFrom
import PyProof.WalksMore
import PyProof.MinMaxWalk
import OpenK.KMore
import PyProof.Rows.SortRuns
import PyProof.Rows.SortRunsK
import KE.KDictSum
import PySem.Challenge.RW_tiefold_k41_settled_by_weight
-- CHANGE: your row's module here,as the last of these rows
open List renaming length_map->qd,getD_eq_getElem?_getD->qj,getElem?_eq_getElem->qk,range->qp,mem_cons->qq,mem_append_right->qw,getElem?_map->qy,mem_filter->qB,mem_map->qC,getElem?_eq_some_iff->qD,size_toArray->qE,map_map->qH,toArray->qM,length_range->qO,mem_range->qP,mem_singleton->qQ,mem_cons_of_mem->qU,getElem?_set_ne->qV,map_cons->qW,length_cons->qY,not_mem_nil->zd,lookup_cons->ze,mem_append->zg,filter_sublist->zh,map_append->zj,length_filter_le->zk,getElem?_set_self->zl,mem_of_getElem?->zm,all_eq_true->zo,length_append->zp,mem_append_left->zr,length_take->zt,getElem_mem->zu,pairwise_iff_getElem->zw,append_nil->zx,replicate->zC,nodup_cons->zD,getElem?_range->zE,map_congr_left->zF,take_length->zN,pairwise_map->zO,getElem?_append_left->zQ,mem_cons_self->zS,nodup_range->zV,idxOf_lt_length_iff->zW,perm_ext_iff_of_nodup->z7,pairwise_cons->yc,getElem?_eq_none->yd,length_nil->yh,filter_map->yi,forall_mem_cons->yj,take_zero->yk,find?_cons->yn,getElem?_append_right->yp,filterMap_cons->yA,mem_map_of_mem->yB,getElem?_replicate->yD,filter_cons_of_neg->yF,any_cons->yH,Pairwise->yI,filter_append->yP,take_sublist->yR,sum_cons->y6,drop_eq_getElem_cons->y9,forIn_cons->qaa,getElem?_zip_eq_some->qab,range_succ->qac,mem_filterMap->qae,getElem?_take_of_lt->qaf,getElem_idxOf->qak,nodup_nil->qao,length_eq_zero_iff->qar,filter_cons_of_pos->qas,ext_getElem?->qat,append_assoc->qau,nodup_append->qav,foldl_append->qax,length->qay,range_succ_eq_map->qaA,filter_cons->qaC,length_singleton->qaD,getD->qaF,getElem?_zipWith->qaG,of_mem_zip->qaH,map_nil->qaI,pairwise_append->qaN,idxOf_cons->qaO,filter_nil->qaP,toList_toArray->qaR,take_succ->qaV,cons_append->qa7,mem_reverse->qba,getElem_map->qbe,any_eq_true->qbf,pairwise_mergeSort->qbn,filter_eq_nil_iff->qby,map_id->qbz,forIn_nil->qbD,drop_eq_nil_iff->qbK,mem_erase_of_ne->qbN,mem_iff_getElem->qbO,filter_eq_self->qbS,length_zipWith->qbU,mergeSort_perm->qbV,getElem_of_mem->qbX,findSome?_cons->qbY,all_map->qb2,Sublist->qb4,lookup->qb5
open PySem.Heap renaming get?_push_of_some->qf,get?_push_size->qz,lt_size->qG,get?_update_ne->zP,size_push->yb,SameBut->qad,size_update->qbd,get?_update_other->qbv,get?_update_self->qbB,get?_none_of_le->qbH
open PySem.W renaming Frag->qm,kla_fn->zq,CodeHd->zK,kia_one->zL,envX->z6,keepIn->z9,fnOf->yg,kHook->yJ,codeIn->qan,tabObj->qap,methodObj->qa3,nsIn->qbi,instObj->qbp,cellsFrom_some->qbu,lookIn->qbA,hideAll_size->qbF,hideAll_none->qbG,WalkO->qbP,hideAll_get->qbQ
open Nat renaming le_refl->qu,le_trans->qJ,ne_of_lt->qN,lt_of_lt_of_le->qT,zero_le->za,lt_succ_of_lt->zH,lt_irrefl->zY,le_succ_of_le->z5,lt_trichotomy->yt,le_of_lt->yT,ne_of_gt->yU,lt_succ_self->yX,max_eq_right->yZ,zero_add->qbb,le_add_right->qbc,max_eq_left->qbr,min_eq_left->qbs,le_succ->qbx,mul_le_mul->qbC,lt_trans->qb1,le_of_eq->qb3
open PySem.Str renaming ofString->qA,ofString->ye
open Or renaming inl->qI,inr->yL
open PySem.Value renaming ref->qK,none->qR,bool->yf,type->yu,int->yV,str->qb0
open Bool renaming and_eq_true->qL,false_eq_true->zU,and_eq_true_iff->zZ,false_ne_true->z8,eq_iff_iff->yo,true_and->yq,not_eq_true'->yS,and_true->qa1,or_eq_true_iff->qbR
open PySem.Obj renaming mapSeq->qS
open PySem.PassesOwn renaming never->qX
open Sum renaming inl->qZ,inr->qaS
open Array renaming length_toList->zb,getD->qaM,toArray_toList->qbM,toList_append->qbT
open Option.some renaming inj->zf,injEq->qa5
open Option renaming map_eq_some_iff->zi,map_some->zR,isSome_iff_exists->zT,bind_eq_some_iff->yE,isSome_map->qa4,bind_some->qa8
open PySem.Builtin.SmallTypes renaming nextOf->zv,ownedTupleIsFree->z0,ownedTupleHandOut->qaj
open PySem renaming mem_of_lookup->zy,Fin->qbq,call->qbJ
open PyProof.Rows renaming slot_tuple_getitem->zB,callWith_type1->zM
open False renaming elim->zG
open PySem.NameKind renaming free->zI,cell->y4,globalImplicit->qaQ
open Ne renaming symm->zJ
open PySem.F renaming called_set->zX,slot_tuple_iterator_next->yr,args_tuple_add_2->qag,slot_list_getattribute->qah,entry_tuple_add->qaq,slot_tuple_add->qaz,slot_dict_get->qaE,slot_zip_next->qaL,args_tuple_iterator_next_1->qaU,entry_tuple_iterator_next->qaX,slot_dict_values->qbg,slot_tuple_index->qbh,args_dict_get_3->qbj,plainAttrs_dict->qbk,plainAttrs_list->qbl,slot_list_index->qbo,entry_dict_get->qbw
open True renaming intro->ym
open PySem.Builtin.Slice renaming slicePlaces->yw,sliceAdjust->y8,sliceApplied->qaZ
open Iff renaming rfl->yy
open PySem.Builtin.Tuple renaming tupleExact->yz,tupleItemsOf->qa0
open PySem.Builtin.Range renaming rangeSize->yC
open PySem.Paired renaming length->yG
open PySem.SeqAt renaming EqAt->yK,RcNeAt->qa9,RcAt->qbL
open ForInStep renaming yield->yM
open Int renaming emod_nonneg->yN,emod_lt_of_pos->qai,toNat_natCast->qaw,toNat_of_nonneg->qbZ,le_refl->qb6
open And renaming intro->yO
open PySem.Calls renaming callWith_builtin->yQ,evalArgs_plain->qaJ,spliced_cons->qaW,Name_function_global->qaY,call_function_entry->qa6
open PySem.Builtin.List renaming listExtendWith->yW
open PySem.Around renaming under_plainId->yY,frames_deeper->qbI
open Nat.succ renaming inj->qal
open List.Pairwise renaming imp_of_mem->qam
open Std.Legacy renaming Range->qaB
open List.cons renaming injEq->qaK,inj->qa2
open PySem.Value.type renaming inj->qaT
open PySem.Builtin.Dict renaming updateFrom->qbm
open Sum.inl renaming inj->qbt
open PySem.Keeper renaming machine->qbE
open PySem.Heap.SameBut renaming update->qbW
open PySem.Walks renaming tuple->qb7
open PySem PySem.Spec PyProof.Rows
set_option genSizeOfSpec false
set_option bootstrap.genMatcherCode false
set_option Elab.async false
set_option linter.all false
set_option maxRecDepth 100000
namespace L2
abbrev Zy:=Sum Int Str
def J3:Zy->Value->Bool
 | .inl k,v=>Value.isInt k v
 | .inr x,v=>Value.isStrOf x v
def keyH (w:World):Zy->Int
 | .inl k=>hashInt k
 | .inr x=>hashStr w x
theorem V3:∀{k:Zy} {v:Value},J3 k v=true->(∃i t,k=qZ i/\v=yV i t)∨(∃x t,k=qaS x/\v=qb0 x t)
 | .inl i,v,h=>by
  obtain⟨t,e⟩:=Value.isInt_shape (k:=i) (v:=v) h;exact .inl ⟨i,t,rfl,e⟩
 | .inr x,v,h=>by
  obtain⟨t,e⟩:=Value.isStrOf_shape (x:=x) (v:=v) h;exact .inr ⟨x,t,rfl,e⟩
theorem Zjo (i:Int)(t:Tok):J3 (.inl i) (.int i t)=true:=by simp[J3,Value.isInt]
theorem Zjp (x:Str)(t:Tok):J3 (.inr x) (.str x t)=true:=by simp[J3,Value.isStrOf]
theorem Zob (a b:Int):decide ((qZ a:Zy)=qZ b)=(a==b):=by
 by_cases e:a=b
 ·subst e;simp
 ·have h:¬(qZ a:Zy)=qZ b:=fun q=>e (qbt q)
  rw[decide_eq_false h];exact(beq_eq_false_iff_ne.mpr e).symm
theorem Zoc (a b:Str):decide ((qaS a:Zy)=qaS b)=decide (a=b):=by
 by_cases e:a=b
 ·subst e;simp
 ·have h:¬(qaS a:Zy)=qaS b:=fun q=>e (qaS.inj q)
  rw[decide_eq_false h,decide_eq_false e]
theorem Zod (a:Int)(b:Str):decide ((qZ a:Zy)=qaS b)=false:=decide_eq_false (fun q=>nomatch q)
theorem Zoe (a:Str)(b:Int):decide ((qaS a:Zy)=qZ b)=false:=decide_eq_false (fun q=>nomatch q)
def XT (prog:Program)(w:World):PySem.KeyKind prog w Zy where
 is:=J3
 hash:=keyH w
 inj:=fun v a b ha hb=>by
  rcases V3 ha with⟨i,t,rfl,rfl⟩ | ⟨x,t,rfl,rfl⟩
  ·rcases V3 hb with⟨j,u,rfl,e⟩ | ⟨y,u,rfl,e⟩
   ·injection e with e1 _;rw[e1]
   ·exact nomatch e
  ·rcases V3 hb with⟨j,u,rfl,e⟩ | ⟨y,u,rfl,e⟩
   ·exact nomatch e
   ·injection e with e1 _;rw[e1]
 byValue:=fun k v h=>by
  rcases V3 h with⟨i,t,rfl,rfl⟩ | ⟨x,t,rfl,rfl⟩ <;> rfl
 pyHash:=fun hv h=>by
  rcases V3 hv with⟨i,t,rfl,rfl⟩ | ⟨x,t,rfl,rfl⟩
  ·exact wpAny_pyHash_int h
  ·exact wpAny_pyHash_str h
 eqBool:=fun hu hv h=>by
  rcases V3 hu with⟨i,t,rfl,rfl⟩ | ⟨x,t,rfl,rfl⟩
  ·rcases V3 hv with⟨j,u,rfl,rfl⟩ | ⟨y,u,rfl,rfl⟩
   ·rw[Zob] at h;exact wpAny_eqBool_int h
   ·rw[Zod] at h;exact yK.int_str i t y u _ _ _ _ h
  ·rcases V3 hv with⟨j,u,rfl,rfl⟩ | ⟨y,u,rfl,rfl⟩
   ·rw[Zoe] at h;exact yK.str_int x t j u _ _ _ _ h
   ·rw[Zoc] at h;exact wpAny_eqBool_str h
 «strs»:=fun k x t v h=>by
  rcases V3 h with⟨i,u,rfl,e⟩ | ⟨y,u,rfl,e⟩
  ·exact nomatch e
  ·injection e with e1 _
   subst e1
   cases v <;> rfl
theorem Zgd (prog:Program)(w:World)(i:Int)(t:Tok):(XT prog w).is (.inl i) (.int i t)=true:=Zjo i t
theorem Zge (prog:Program)(w:World)(x:Str)(t:Tok):(XT prog w).is (.inr x) (.str x t)=true:=Zjp x t
end L2
namespace L2
inductive V where
 | non | bl (b:Bool) | int (i:Int) | str (x:Str) | byt (b:Array UInt8) | flt (b:UInt64) | ref (a:Addr) | ty (n:String)
 deriving DecidableEq
def ZK:V->Value->Prop
 | .non,u=>u=qR
 | .bl b,u=>u=yf b
 | .int i,u=>∃t,u=yV i t
 | .str x,u=>∃t,u=qb0 x t
 | .byt b,u=>∃t,u=Value.bytes b t
 | .flt b,u=>∃t,u=Value.float b t
 | .ref a,u=>u=qK a
 | .ty n,u=>u=yu n
abbrev ZI:List V->List Value->Prop:=Paired ZK
theorem ZI.length {xs:List V}{us:List Value}(r:ZI xs us):xs.length=us.length:=yG r
theorem ZI.get:∀{xs:List V} {us:List Value} {i:Nat} {x:V},ZI xs us->xs[i]?=some x->∃u,us[i]?=some u/\ZK x u
 | _,_,_,_,.nil,e=>by simp at e
 | _,_,0,_,.cons r _,e=>by simp at e;subst e;exact⟨_,rfl,r⟩
 | _,_,i+1,x,.cons _ t,e=>by
  obtain⟨u,h1,h2⟩:=ZI.get (i:=i) (x:=x) t (by simpa using e);exact⟨u,by simpa using h1,h2⟩
theorem ZI.set {x:V}{u:Value}(r:ZK x u):∀{xs:List V} {us:List Value} (i:Nat),ZI xs us->ZI (xs.set i x) (us.set i u)
 | _,_,_,.nil=>.nil
 | _,_,0,.cons _ t=>.cons r t
 | _,_,i+1,.cons q t=>.cons q (ZI.set r i t)
theorem ZI.append:∀{xs ys:List V} {us ws:List Value},ZI xs us->ZI ys ws->ZI (xs++ys) (us++ws)
 | _,_,_,_,.nil,s=>s
 | _,_,_,_,.cons r t,s=>.cons r (ZI.append t s)
theorem ZI.take:∀{xs:List V} {us:List Value} (n:Nat),ZI xs us->ZI (xs.take n) (us.take n)
 | _,_,0,_=>.nil
 | _,_,_+1,.nil=>.nil
 | _,_,n+1,.cons r t=>.cons r (ZI.take n t)
theorem ZI.drop:∀{xs:List V} {us:List Value} (n:Nat),ZI xs us->ZI (xs.drop n) (us.drop n)
 | _,_,0,r=>r
 | _,_,_+1,.nil=>.nil
 | _,_,n+1,.cons _ t=>ZI.drop n t
def VP:Option V->Option Value->Prop
 | some v,some u=>ZK v u
 | none,none=>True
 | _,_=>False
def KV {κ:Type}:List (κ×V)->List (κ×Value)->Prop:=Paired fun(p:κ×V) (q:κ×Value)=>p.1=q.1/\ZK p.2 q.2
def kV:Zy->V
 | .inl i=>.int i
 | .inr x=>.str x
inductive HO where
 | lst (xs:List V)
 | tup (xs:List V)
 | dK (kvs:List (Zy×V)) | dT (kvs:List (List Zy×V))
 | set (S:Int->Bool) (n:Nat)
 | ins (C dx:Addr) (fs:List (Str×V))
 | own (x:Addr)
 | xd (fs:List (Str×V))
 | met (f x:Addr)
 | rng (lo hi:Int)
 | frz (o:Obj) (u:HO)
 | tbl (ps:Array Value)
 | ext (φ:Heap->Prop)
abbrev Hp:=Addr->Option HO
def Zo (H:Hp)(a:Addr)(o:HO):Hp:=fun b=>if b=a then some o else H b
theorem Z8 {H:Hp}{a:Addr}{o:HO}:Zo H a o a=some o:=by unfold Zo;rw[if_pos rfl]
theorem Zu {H:Hp}{a b:Addr}{o:HO}(h:b≠a):Zo H a o b=H b:=by unfold Zo;rw[if_neg h]
theorem Zfb {H:Hp}{a:Addr}{o u:HO}:Zo (Zo H a o) a u=Zo H a u:=by
 funext b;unfold Zo;split <;> rfl
theorem ZnJ {H:Hp}{a b:Addr}{o u:HO}(h:H a=some o)(h':H b=some u)(d:o≠u):a≠b:=by
 intro e;subst e;rw[h] at h';exact d (zf h')
theorem Z5 {H:Hp}{a b:Addr}{o:HO}(h:H a=some o)(h':H b=none):a≠b:=by
 intro e;subst e;rw[h] at h';cases h'
def Uh (h:Heap)(a:Addr)(items:Array Value):Prop:=∃o,h.get? a=some o/\(o.cls=.type "tuple"/\∃n,o.data=.seq items n)/\o.dict=none
theorem Uh.tup {h:Heap}{a:Addr}{items:Array Value}(x:Uh h a items):IsTup h a items:=let ⟨o,e,c,_⟩:=x;⟨o,e,c⟩
theorem Uh.new (h:Heap)(items:Array Value):Uh (h.push { cls:=.type "tuple",data:=.seq items 0 }) h.objs.size items:=⟨_,qz _ rfl,⟨rfl,_,rfl⟩,rfl⟩
section
variable (P:Program)(w:World)
def YI (H:Hp)(h:Heap)(a:Addr):HO->Prop
 | .lst xs=>xs.length<=sizeLine/\∃(jG:List Value) (n:Nat),ZI xs jG/\h.get? a=some { cls:=.type "list",data:=.seq jG.toArray n }
 | .tup xs=>xs.length<=sizeLine/\∃jG:List Value,ZI xs jG/\Uh h a jG.toArray
 | .dK kvs=>kvs.length<=sizeLine/\(a==sysModules)=false/\∃vs,KV kvs vs/\h.DictOf (XT P w) a vs
 | .dT kvs=>kvs.length<=sizeLine/\(a==sysModules)=false/\∃xs:List (List Zy×Addr×Value),
   Paired (fun(p:List Zy×V) (q:List Zy×Addr×Value)=>p.1=q.1/\H q.2.1=some (.tup (p.1.map kV))/\ZK p.2 q.2.2) kvs xs/\
   ∃o es ep,h.get? a=some o/\o.ExactDict/\o.data=.dict es ep/\es.toList=xs.map (entryOfKey (tupleKind (XT P w)))/\(xs.map (·.1)).Nodup
 | .set S n=>h.SetOf (intKind P w) a S n
 | .ins C dx fs=>H dx=some (.own a)/\fs.length<=1000/\dx≠a/\h.get? a=some (qbp C dx)/\
   ∃mA,h.Ns1 dx mA/\(∀f,VP (fs.lookup f) (mA f))/\PySem.Within mA (fs.map (·.1))
 | .own _=>∃o,h.get? a=some o
 | .xd fs=>∃mA,h.Ns1 a mA/\∀f,VP (fs.lookup f) (mA f)
 | .rng lo hi=>∃t u v,h.get? a=some { cls:=.type "range",data:=.fields #[.int lo t,.int hi u,.int 1 v] }
 | .frz o u=>h.get? a=some o/\YI H h a u
 | .tbl ps=>h.get? a=some { cls:=.none,data:=.fields ps }
 | .met f x=>h.get? a=some (qa3 (.ref f) (.ref x))
 | .ext φ=>φ h/\(∃o,h.get? a=some o)/\∀h1 h2:Heap,φ h1->(∀o,h1.get? a=some o->h2.get? a=some o)->φ h2
def YJ (H:Hp)(h:Heap):Prop:=∀a o,H a=some o->YI P w H h a o
end
section
variable {P:Program}{w:World}{H H':Hp}{h h':Heap}{a:Addr}{o:HO}
theorem YI.lt (x:YI P w H h a o):a<h.objs.size:=by
 cases o with
 | lst xs=>obtain⟨_,_,_,_,e⟩:=x;exact qG e
 | tup xs=>obtain⟨_,_,_,p⟩:=x;exact p.tup.lt
 | dK kvs=>obtain⟨_,_,_,_,o,_,_,e,_⟩:=x;exact qG e
 | dT kvs=>obtain⟨_,_,_,_,o,_,_,e,_⟩:=x;exact qG e
 | set S n=>obtain⟨o,_,_,_,e,_⟩:=x;exact qG e
 | ins C dx fs=>obtain⟨_,_,_,e,_⟩:=x;exact qG e
 | own y=>obtain⟨_,e⟩:=x;exact qG e
 | xd fs=>obtain⟨_,⟨_,_,_,e,_⟩,_⟩:=x;exact qG e
 | rng lo hi=>obtain⟨_,_,_,e⟩:=x;exact qG e
 | frz ob u=>obtain⟨e,_⟩:=x;exact qG e
 | tbl ps=>exact qG (show h.get? a=some _ from x)
 | met f y=>exact qG (show h.get? a=some _ from x)
 | ext φ=>obtain⟨_,⟨_,e⟩,_⟩:=x;exact qG e
theorem Paired.mapP {α β:Type}{F G:α->β->Prop}:∀{l₁:List α} {l₂:List β},Paired F l₁ l₂->(∀a b,F a b->G a b)->Paired G l₁ l₂
 | _,_,.nil,_=>.nil
 | _,_,.cons r t,f=>.cons (f _ _ r) (Paired.mapP t f)
theorem YI.stay (x:YI P w H h a o)(k:∀b u,(b=a∨H b=some (.own a))->h.get? b=some u->h'.get? b=some u)
  (ho:∀b,H b=some (.own a)->H' b=some (.own a)) (ht:∀b xs,H b=some (.tup xs)->H' b=some (.tup xs)):YI P w H' h' a o:=by
 induction o with
 | lst xs=>obtain⟨z,jG,n,r,e⟩:=x;exact⟨z,jG,n,r,k _ _ (.inl rfl) e⟩
 | tup xs=>obtain⟨z,jG,r,ob,e,c⟩:=x;exact⟨z,jG,r,ob,k _ _ (.inl rfl) e,c⟩
 | dK kvs=>obtain⟨z,y,vs,r,ob,es,ep,e,c⟩:=x;exact⟨z,y,vs,r,ob,es,ep,k _ _ (.inl rfl) e,c⟩
 | dT kvs=>
  obtain⟨z,y,xs,r,ob,es,ep,e,c⟩:=x;exact⟨z,y,xs,Paired.mapP r fun p q z=>⟨z.1,ht _ _ z.2.1,z.2.2⟩,ob,es,ep,k _ _ (.inl rfl) e,c⟩
 | set S n=>obtain⟨ob,es,ep,t,e,c⟩:=x;exact⟨ob,es,ep,t,k _ _ (.inl rfl) e,c⟩
 | ins C dx fs=>
  obtain⟨d,z,ne,e,mA,⟨od,es,ep,e2,c⟩,r⟩:=x;exact⟨ho _ d,z,ne,k _ _ (.inl rfl) e,mA,⟨od,es,ep,k _ _ (.inr d) e2,c⟩,r⟩
 | own y=>obtain⟨ob,e⟩:=x;exact⟨ob,k _ _ (.inl rfl) e⟩
 | xd fs=>obtain⟨mA,⟨od,es,ep,e,c⟩,r⟩:=x;exact⟨mA,⟨od,es,ep,k _ _ (.inl rfl) e,c⟩,r⟩
 | rng lo hi=>obtain⟨t,u,v,e⟩:=x;exact⟨t,u,v,k _ _ (.inl rfl) e⟩
 | frz ob u ih=>obtain⟨e,q⟩:=x;exact⟨k _ _ (.inl rfl) e,ih q⟩
 | tbl ps=>
  have e:h.get? a=some { cls:=.none,data:=.fields ps }:=x;show h'.get? a=some { cls:=.none,data:=.fields ps };exact k a _ (.inl rfl) e
 | met f y=>
  have e:h.get? a=some (qa3 (.ref f) (.ref y)):=x;show h'.get? a=some (qa3 (.ref f) (.ref y));exact k a _ (.inl rfl) e
 | ext φ=>obtain⟨p,⟨o,e⟩,st⟩:=x;exact⟨st _ _ p fun o q=>k _ _ (.inl rfl) q,⟨o,k _ _ (.inl rfl) e⟩,st⟩
theorem YJ.lt (x:YJ P w H h)(e:H a=some o):a<h.objs.size:=(x a o e).lt
theorem YJ.fresh (x:YJ P w H h)(e:h.objs.size<=a):H a=none:=by
 cases q:H a with
 | none=>rfl
 | some u=>exact absurd (qT (x.lt q) e) (zY _)
theorem YJ.kept (x:YJ P w H h)(k:∀b u,h.get? b=some u->h'.get? b=some u):YJ P w H h':=fun a o e=>
 (x a o e).stay (fun b u _ q=>k b u q) (fun _ q=>q) fun _ _ q=>q
theorem YJ.laid (x:YJ P w H h)(k:∀b u,h.get? b=some u->h'.get? b=some u)(hp:h.objs.size<=a)(new:YI P w (Zo H a o) h' a o):YJ P w (Zo H a o) h':=fun b u e=>by
 have hn:=x.fresh hp;by_cases hb:b=a
 ·subst hb;rw[Z8] at e;cases e;exact new
 ·rw[Zu hb] at e
  exact(x b u e).stay (fun c v _ q=>k c v q) (fun c q=>by rw[Zu (Z5 q hn)];exact q) fun c xs q=>by rw[Zu (Z5 q hn)];exact q
end
def Rd (H:Hp)(a:Addr)(u:HO):Prop:=H a=some u∨∃o,H a=some (.frz o u)
theorem Rd.of {H:Hp}{a:Addr}{u:HO}(h:H a=some u):Rd H a u:=.inl h
theorem Rd.ok {P:Program}{w:World}{H:Hp}{h:Heap}{a:Addr}{u:HO}(r:Rd H a u)(x:YJ P w H h):YI P w H h a u:=by
 rcases r with r | ⟨o,r⟩
 ·exact x a u r
 ·obtain⟨_,q⟩:=x a _ r
  exact q
def B2:Option HO->Prop
 | some (.lst _)=>True
 | some (.dK _)=>True
 | some (.dT _)=>True
 | some (.set _ _)=>True
 | some (.ins _ _ _)=>True
 | some (.ext _)=>True
 | _=>False
section
variable {P:Program}{w:World}{H:Hp}{h h':Heap}{x e:Addr}{o':HO}
theorem YJ.write (ok:YJ P w H h)(mu:B2 (H x))(he:e=x∨H e=some (.own x))(k:∀b u,b≠e->h.get? b=some u->h'.get? b=some u)(heo:∃u,h'.get? e=some u)
  (new:YI P w (Zo H x o') h' x o'):YJ P w (Zo H x o') h':=fun b u q=>by
 have nown:∀c y,H c=some (.own y)->c≠x:=fun c y r z=>by subst z;rw[r] at mu;exact mu
 have ntup:∀c xs,H c=some (.tup xs)->c≠x:=fun c xs r z=>by subst z;rw[r] at mu;exact mu
 by_cases hb:b=x
 ·subst hb;rw[Z8] at q;cases q;exact new
 ·rw[Zu hb] at q
  by_cases hbe:b=e
  ·have q':H b=some (.own x):=by
    rcases he with z | z
    ·exact absurd (hbe.trans z) hb
    ·rw[hbe];exact z
   rw[q] at q';cases q';obtain⟨v,hv⟩:=heo;exact⟨v,by rw[hbe];exact hv⟩
  ·refine(ok b u q).stay (fun c v hc r=>k c v ?_ r) (fun c r=>by rw[Zu (nown c b r)];exact r) fun c xs r=>by rw[Zu (ntup c xs r)];exact r
   rcases hc with rfl | hc
   ·exact hbe
   ·rintro rfl
    rcases he with z | z
    ·exact nown c b hc z
    ·rw[hc] at z;cases z;exact hb rfl
end
structure Un (fs ex:List Addr)(H H':Hp)(h h':Heap):Prop where
 keep:∀b o,h.get? b=some o->H b=none->b∉fs->b∉ex->h'.get? b=some o
 slot:∀b o,h.get? b=some o->H b=none->b∈fs->b∉ex->∃sl,h'.get? b=some { o with slots:=sl }
 free:∀b o,h.get? b=some o->H b=none->b∉ex->H' b=none
 there:∀b o,h.get? b=some o->b∉ex->∃o',h'.get? b=some o'
 tups:∀b xs,H b=some (.tup xs)->H' b=some (.tup xs)
 frzs:∀b o u,H b=some (.frz o u)->H' b=some (.frz o u)
 tbls:∀b ps,H b=some (.tbl ps)->∃more,H' b=some (.tbl (ps++more))
section
variable {fs fs' ex ex':List Addr}{H H1 H2:Hp}{h h1 h2 h':Heap}{a x e:Addr}{o:HO}
theorem Un.any (u:Un fs ex H H1 h h1){b:Addr}{ob:Obj}(q:h.get? b=some ob)(n:H b=none)(hx:b∉ex):∃sl,h1.get? b=some { ob with slots:=sl }:=by
 by_cases hb:b∈fs
 ·exact u.slot b ob q n hb hx
 ·exact⟨ob.slots,u.keep b ob q n hb hx⟩
theorem Un.kept (k:∀b u,h.get? b=some u->h'.get? b=some u):Un fs ex H H h h':=
 ⟨fun b ob q _ _ _=>k b ob q,fun b ob q _ _ _=>⟨ob.slots,k b ob q⟩,fun _ _ _ n _=>n,fun b ob q _=>⟨ob,k b ob q⟩,fun _ _ q=>q,fun _ _ _ q=>q,fun _ ps q=>⟨#[],by rw[q];simp⟩⟩
theorem Un.refl:Un fs ex H H h h:=Un.kept fun _ _ q=>q
theorem Un.laid (k:∀b u,h.get? b=some u->h'.get? b=some u)(hp:h.objs.size<=a)(hn:H a=none):Un fs ex H (Zo H a o) h h' where
 keep:=fun b u q _ _ _=>k b u q
 slot:=fun b u q _ _ _=>⟨u.slots,k b u q⟩
 free:=fun b u q n _=>by rw[Zu (qN (qT (qG q) hp))];exact n
 there:=fun b u q _=>⟨u,k b u q⟩
 tups:=fun b xs q=>by rw[Zu (Z5 q hn)];exact q
 frzs:=fun b u xs q=>by rw[Zu (Z5 q hn)];exact q
 tbls:=fun b ps q=>⟨#[],by rw[Zu (Z5 q hn),q];simp⟩
theorem Un.write (mu:B2 (H x))(he:e=x∨H e=some (.own x))(k:∀b u,b≠e->h.get? b=some u->h'.get? b=some u)(heo:∃u,h'.get? e=some u):Un fs ex H (Zo H x o) h h':=by
 have hx:∀b,H b=none->b≠x:=fun b n z=>by subst z;rw[n] at mu;exact mu
 have hb:∀b,H b=none->b≠e:=fun b n z=>by
  subst z;rcases he with r | r
  ·exact hx b n r
  ·rw[n] at r;cases r
 have hm:∀b u,H b=some u->¬B2 (some u)->b≠x:=fun b u q nm z=>by subst z;rw[q] at mu;exact nm mu
 refine⟨fun b u q n _ _=>k b u (hb b n) q,fun b u q n _ _=>⟨u.slots,k b u (hb b n) q⟩,fun b u q n _=>by rw[Zu (hx b n)];exact n,fun b u q _=>?_,
  fun b xs q=>by rw[Zu (hm b _ q fun z=>z)];exact q,fun b u xs q=>by rw[Zu (hm b _ q fun z=>z)];exact q,fun b ps q=>⟨#[],by rw[Zu (hm b _ q fun z=>z),q];simp⟩⟩
 by_cases hbe:b=e
 ·subst hbe;exact heo
 ·exact⟨u,k b u hbe q⟩
end
def trk (h:Heap)(H:Hp):List Addr:=(qp h.objs.size).filter fun a=>(H a).isSome
def Vz (h:Heap)(H:Hp):Heap:=PySem.W.hideAll h (trk h H)
theorem Zjq (h:Heap)(H:Hp):(Vz h H).objs.size=h.objs.size:=qbF _ _
theorem ZkF {h:Heap}{H:Hp}{b:Addr}{o:Obj}(e:h.get? b=some o)(n:H b=none):(Vz h H).get? b=some o:=
 qbQ _ e fun hm=>by
  have q:(H b).isSome=true:=(qB.mp hm).2;rw[n] at q;simp at q
theorem Zmz {h:Heap}{H:Hp}{b:Addr}{o:Obj}(e:(Vz h H).get? b=some o):h.get? b=some o/\H b=none:=by
 have e':h.get? b=some o:=PySem.W.of_hideAll (trk h H) e;refine⟨e',?_⟩
 cases q:H b with
 | none=>rfl
 | some x=>
  have hm:b∈trk h H:=qB.mpr ⟨qP.mpr (qG e'),by simp[q]⟩;have z:(Vz h H).get? b=none:=qbG (trk h H) hm;rw[z] at e;cases e
end L2
namespace L2
structure Mod (K:qm)(mg:Str->Option Value)(base:Heap):Prop where
 kin:K.In base
 glob:base.Ns mainGlobals mg
 blt:∃mb,base.Ns builtinsNs mb/\∀x:Str,x≠"__name__"->mb x=bootBuiltins x
 nolimit:base.NoLimit
structure Cx where
 prog:Program
 w:World
 K:qm
 mg:Str->Option Value
 base:Heap
 A:Around
 N:List Str
 s₀:Shared
 H₀:Hp
 env:Env
 outer:List Env
 stack:List Env
 ex:List Addr
 fn:Str->Bool
 calm:Bool
 pn:List (Addr×Obj)
 xe:Value->Shared->Prop
def Wi (l:List Env):List Addr:=l.filterMap (·.frame)
abbrev Cx.fs (X:Cx):List Addr:=Wi X.outer
def B3 (sc:Scope)(x:Str):Prop:=sc.names.lookup x=some .local∨sc.names.lookup x=some .cell∨sc.names.lookup x=some .free
def VD (sc:Scope)(x:Str):Prop:=sc.names.lookup x=some .local∨sc.names.lookup x=some .cell
def Look (env:Env)(h:Heap)(m:Str->Option Value)(x:Str)(u:Value):Prop:=
 (env.kindOf x=some .local/\m x=some u)∨((env.kindOf x=some .cell∨env.kindOf x=some .free)/\∃c,env.cells.lookup x=some c/\h.IsCell c (some u))
structure Cx.Ok (X:Cx):Prop where
 mod:Mod X.K X.mg X.base
 kind:X.env.scope.kind=.function
 glob:X.env.globals=mainGlobals
 blt:X.env.builtins=builtinsNs
 above:X.s₀.heap.objs.size<=X.env.locals
 inj:∀x y c,X.env.cells.lookup x=some c->X.env.cells.lookup y=some c->x=y
 has:∀x,(X.env.kindOf x=some .cell∨X.env.kindOf x=some .free)->∃c,X.env.cells.lookup x=some c
 cab:∀x c,X.fn x=true->X.env.cells.lookup x=some c->X.s₀.heap.objs.size<=c
 hd:X.calm=true->X.A.handled=none
 frames:X.A.frames=some X.stack
 stk:X.stack=X.outer∨(X.stack=X.env::X.outer/\X.env.frame=some X.env.locals)
 exf:∀b∈X.ex,b≠X.env.locals/\∀x c,X.env.cells.lookup x=some c->c≠b
 bs:∀b o,X.base.get? b=some o->X.s₀.heap.get? b=some o/\X.H₀ b=none
 bsz:X.base.objs.size<=X.s₀.heap.objs.size
 noex:∀b o,X.base.get? b=some o->b∉X.ex
 exfs:∀b∈X.ex,b∉X.fs
 funs:X.s₀.heap.FunFrames X.base X.outer
 frf:∀b∈X.fs,X.H₀ b=none
structure Inv (X:Cx)(jE:List (Addr×Obj))(σ:List (Option V))(H:Hp)(s:Shared):Prop where
 ok:X.Ok
 os:s.os=X.s₀.os
 bare:AllBare s.gens
 base:Un X.fs X.ex X.H₀ H X.s₀.heap s.heap
 loc:∃m,s.heap.Ns X.env.locals m/\∀(i:Nat) (x:Str) (v:V),X.N[i]?=some x->σ[i]?=some (some v)->B3 X.env.scope x->∃u,ZK v u/\Look X.env s.heap m x u
 cell:∀x c,X.env.cells.lookup x=some c->∃v,s.heap.IsCell c v
 free:H X.env.locals=none
 freeC:∀x c,X.env.cells.lookup x=some c->H c=none
 pin:∀p∈X.pn++jE,s.heap.get? p.1=some p.2/\H p.1=none/\p.1≠X.env.locals/\p.1∉X.fs/\∀v,p.2.data≠.cell v
 hok:YJ X.prog X.w H s.heap
 len:σ.length=X.N.length
section
variable {X:Cx}{jE:List (Addr×Obj)}{σ:List (Option V)}{H H':Hp}{s:Shared}{h':Heap}
theorem Cx.Ok.nofr (ok:X.Ok){b:Addr}{o:Obj}(e:X.base.get? b=some o):b∉X.fs:=fun hb=>by
 have:=(ok.funs.mem hb).1;rw[e] at this;cases this
theorem Inv.bs (I:Inv X jE σ H s):∀b o,X.base.get? b=some o->s.heap.get? b=some o/\H b=none:=fun b o e=>
 ⟨I.base.keep b o (I.ok.bs b o e).1 (I.ok.bs b o e).2 (I.ok.nofr e) (I.ok.noex b o e),I.base.free b o (I.ok.bs b o e).1 (I.ok.bs b o e).2 (I.ok.noex b o e)⟩
theorem Inv.bk (I:Inv X jE σ H s):∀b o,X.base.get? b=some o->s.heap.get? b=some o:=fun b o e=>(I.bs b o e).1
theorem Inv.mod (I:Inv X jE σ H s):Mod X.K X.mg X.base:=I.ok.mod
theorem Inv.kIn (I:Inv X jE σ H s):X.K.In s.heap:=I.ok.mod.kin.keeps I.bk
theorem Inv.lt (I:Inv X jE σ H s):X.env.locals<s.heap.objs.size:=let ⟨_,hn,_⟩:=I.loc;hn.lt
theorem Inv.sz (I:Inv X jE σ H s):X.s₀.heap.objs.size<=s.heap.objs.size:=qJ I.ok.above (yT I.lt)
theorem Inv.nofs (I:Inv X jE σ H s){a:Addr}(h:s.heap.objs.size<=a):a∉X.fs:=fun hb=>by
 obtain⟨_,o,ho,_⟩:=I.ok.funs.mem hb;exact absurd (qT (qG ho) (qJ I.sz h)) (zY _)
theorem Inv.cne (I:Inv X jE σ H s):∀x c,X.env.cells.lookup x=some c->c≠X.env.locals:=fun x c e z=>by
 obtain⟨v,o,ho,hd⟩:=I.cell x c e;obtain⟨m,⟨o',es,ep,ho',hd',_⟩,_⟩:=I.loc;rw[z,ho'] at ho;cases ho;rw[hd'] at hd;cases hd
theorem Inv.funs (I:Inv X jE σ H s):s.heap.FunFrames X.base X.outer:=by
 have all:∀(l:List Env),(∀b∈Wi l,b∈X.fs)->X.s₀.heap.FunFrames X.base l->s.heap.FunFrames X.base l:=by
  intro l
  induction l with
  | nil=>intro _ _;trivial
  | cons env r ih=>
   intro hs hl;obtain⟨hk,⟨L,o,hf,hn,ho,hd⟩,hr⟩:=hl;have hL:L∈X.fs:=hs L (by unfold Wi;rw[yA,hf];exact zS);obtain⟨sl,e⟩:=I.base.slot L o ho (I.ok.frf L hL) hL fun z=>I.ok.exfs L z hL;exact⟨hk,⟨L,_,hf,hn,e,hd⟩,ih (fun b hb=>hs b (by unfold Wi;rw[yA,hf];exact qU _ hb)) hr⟩
 exact all X.outer (fun _ hb=>hb) I.ok.funs
theorem Inv.stack (I:Inv X jE σ H s):s.heap.FunFrames X.base X.stack:=by
 rcases I.ok.stk with e | ⟨e,hf⟩
 ·rw[e];exact I.funs
 ·rw[e]
  obtain⟨m,hn,_⟩:=I.loc;refine .cons (by rw[I.ok.kind];decide) hf hn ?_ I.funs;exact qbH (qJ I.ok.bsz I.ok.above)
theorem Inv.stkSub (I:Inv X jE σ H s):∀b∈Wi X.stack,b∈X.env.locals::X.fs:=fun b hb=>by
 rcases I.ok.stk with e | ⟨e,hf⟩
 ·rw[e] at hb;exact qU _ hb
 ·rw[e] at hb
  unfold Wi at hb;rw[yA,hf] at hb;exact hb
theorem Inv.stkFree (I:Inv X jE σ H s):∀b∈Wi X.stack,H b=none:=fun b hb=>by
 rcases qq.mp (I.stkSub b hb) with e | hb
 ·rw[e];exact I.free
 ·obtain⟨_,o,ho,_⟩:=I.ok.funs.mem hb
  exact I.base.free b o ho (I.ok.frf b hb) fun z=>I.ok.exfs b z hb
theorem Inv.step {g':Array GenState}{t':Nat}{d':Drawn}{ch:List Addr}(I:Inv X jE σ H s)
  (hch:∀b∈ch,(b∈X.ex∨X.s₀.heap.objs.size<=b)/\b≠X.env.locals/\(∀x c,X.env.cells.lookup x=some c->c≠b)/\∀p∈X.pn++jE,p.1≠b)
  (keep:∀b o,b≠X.env.locals->b∉X.fs->b∉ch->s.heap.get? b=some o->H b=none->h'.get? b=some o)
  (slot:∀b o,b≠X.env.locals->b∈X.fs->b∉ch->s.heap.get? b=some o->H b=none->∃sl,h'.get? b=some { o with slots:=sl }) (free:∀b o,b∉ch->s.heap.get? b=some o->H b=none->H' b=none)
  (there:∀b o,b∉ch->s.heap.get? b=some o->∃o',h'.get? b=some o')
  (tups:∀b xs,H b=some (.tup xs)->H' b=some (.tup xs)) (frzs:∀b o u,H b=some (.frz o u)->H' b=some (.frz o u)) (tbls:∀b ps,H b=some (.tbl ps)->∃more,H' b=some (.tbl (ps++more)))
  (ns:∀m,s.heap.Ns X.env.locals m->h'.Ns X.env.locals m) (hok:YJ X.prog X.w H' h') (hg:AllBare g') :
  Inv X jE σ H' { s with heap:=h',gens:=g',drawn:=d',toks:=t' }:=by
 have neL:∀b o,X.s₀.heap.get? b=some o->b≠X.env.locals:=fun b o e=>qN (qT (qG e) I.ok.above);have neC:∀b o,X.s₀.heap.get? b=some o->b∉X.ex->b∉ch:=fun b o e hx hb=>by
  rcases (hch b hb).1 with z | z
  ·exact hx z
  ·exact absurd (qT (qG e) z) (zY _)
 have cellK:∀x c,X.env.cells.lookup x=some c->∀v,s.heap.IsCell c v->h'.IsCell c v:=fun x c e v ⟨o,ho,hd⟩=>by
  have nch:c∉ch:=fun z=>(hch c z).2.2.1 x c e rfl;by_cases hc:c∈X.fs
  ·obtain⟨sl,q⟩:=slot c o (I.cne x c e) hc nch ho (I.freeC x c e)
   exact⟨_,q,hd⟩
  ·exact⟨o,keep c o (I.cne x c e) hc nch ho (I.freeC x c e),hd⟩
 refine⟨I.ok,I.os,hg,⟨fun b o e n hb hx=>?_,fun b o e n hb hx=>?_,fun b o e n hx=>?_,fun b o e hx=>?_,fun b xs e=>tups b xs (I.base.tups b xs e),fun b o xs e=>frzs b o xs (I.base.frzs b o xs e),fun b ps e=>?_⟩,?_,fun x c e=>?_,?_,fun x c e=>?_,fun p hp=>?_,hok,I.len⟩
 ·exact keep b o (neL b o e) hb (neC b o e hx) (I.base.keep b o e n hb hx) (I.base.free b o e n hx)
 ·obtain⟨sl,e1⟩:=I.base.slot b o e n hb hx
  obtain⟨sl',e2⟩:=slot b _ (neL b o e) hb (neC b o e hx) e1 (I.base.free b o e n hx);exact⟨sl',e2⟩
 ·obtain⟨o',e1⟩:=I.base.there b o e hx
  exact free b o' (neC b o e hx) e1 (I.base.free b o e n hx)
 ·obtain⟨o',e1⟩:=I.base.there b o e hx
  exact there b o' (neC b o e hx) e1
 ·obtain⟨m1,e1⟩:=I.base.tbls b ps e
  obtain⟨m2,e2⟩:=tbls b _ e1;exact⟨m1++m2,by rw[e2,Array.append_assoc]⟩
 ·obtain⟨m,hn,hl⟩:=I.loc
  refine⟨m,ns m hn,fun i x v e1 e2 e3=>?_⟩;obtain⟨u,r,l⟩:=hl i x v e1 e2 e3;refine⟨u,r,?_⟩;rcases l with l | ⟨k,c,e,z⟩
  ·exact .inl l
  ·exact .inr ⟨k,c,e,cellK x c e _ z⟩
 ·obtain⟨v,z⟩:=I.cell x c e
  exact⟨v,cellK x c e v z⟩
 ·obtain⟨m,⟨o,_,_,ho,_⟩,_⟩:=I.loc
  exact free _ o (fun z=>(hch _ z).2.1 rfl) ho I.free
 ·obtain⟨v,o,ho,hd⟩:=I.cell x c e
  exact free c o (fun z=>(hch c z).2.2.1 x c e rfl) ho (I.freeC x c e)
 ·obtain⟨e,n,ne,nf,d⟩:=I.pin p hp
  have nch:p.1∉ch:=fun z=>(hch p.1 z).2.2.2 p hp rfl;exact⟨keep p.1 p.2 ne nf nch e n,free p.1 p.2 nch e n,ne,nf,d⟩
theorem Inv.un {t':Nat}(I:Inv X jE σ H s)(u:Un X.fs [] H H' s.heap h')(hok:YJ X.prog X.w H' h'):Inv X jE σ H' { s with heap:=h',toks:=t' }:=by
 obtain⟨m,⟨o,es,ep,ho,r⟩,_⟩:=id I.loc;obtain⟨sl,hL⟩:=u.any ho I.free (by simp);exact I.step (g':=s.gens) (d':=s.drawn) (ch:=[]) (fun _ z=>nomatch z) (fun b o _ hb _ e n=>u.keep b o e n hb (by simp)) (fun b o _ hb _ e n=>u.slot b o e n hb (by simp)) (fun b o _ e n=>u.free b o e n (by simp)) (fun b o _ e=>u.there b o e (by simp)) u.tups u.frzs u.tbls (fun m' hm=>by
  obtain⟨o',es',ep',ho',r'⟩:=hm;rw[ho] at ho';cases ho';exact⟨_,es',ep',hL,r'⟩) hok I.bare
theorem Inv.call {g':Array GenState}{t':Nat}{d':Drawn}{ch:List Addr}(I:Inv X jE σ H s)(u:Un (Wi X.stack) ch H H' s.heap h')(hok:YJ X.prog X.w H' h')(hg:AllBare g')
  (hch:∀b∈ch,(b∈X.ex∨X.s₀.heap.objs.size<=b)/\b≠X.env.locals/\(∀x c,X.env.cells.lookup x=some c->c≠b)/\∀p∈X.pn++jE,p.1≠b) :
  Inv X jE σ H' { s with heap:=h',gens:=g',drawn:=d',toks:=t' }:=by
 obtain⟨m,⟨o,es,ep,ho,r⟩,_⟩:=id I.loc;obtain⟨sl,hL⟩:=u.any ho I.free fun z=>(hch _ z).2.1 rfl;exact I.step (ch:=ch) hch (fun b o hL hb hc e n=>u.keep b o e n (fun z=>(qq.mp (I.stkSub b z)).elim hL hb) hc) (fun b o _ _ hc e n=>u.any e n hc) (fun b o hc e n=>u.free b o e n hc) (fun b o hc e=>u.there b o e hc) u.tups u.frzs u.tbls (fun m' hm=>by
  obtain⟨o',es',ep',ho',r'⟩:=hm;rw[ho] at ho';cases ho';exact⟨_,es',ep',hL,r'⟩) hok hg
theorem Inv.turned {t':Nat}{it:Addr}(I:Inv X jE σ H s)(k:∀b o,b≠it->s.heap.get? b=some o->h'.get? b=some o)(hn:H it=none)(hL:it≠X.env.locals)
  (h1:it∈X.ex∨X.s₀.heap.objs.size<=it) (h2:∀x c,X.env.cells.lookup x=some c->c≠it) (h3:∀p∈X.pn++jE,p.1≠it):Inv X jE σ H { s with heap:=h',toks:=t' }:=by
 have nit:∀b u,H b=some u->b≠it:=fun b u e z=>by rw[z,hn] at e;cases e
 refine I.step (g':=s.gens) (d':=s.drawn) (ch:=[it]) (fun b hb=>?_) (fun b o _ _ hc e _=>k b o (fun z=>hc (by simp[z])) e) (fun b o _ _ hc e _=>⟨o.slots,k b o (fun z=>hc (by simp[z])) e⟩) (fun _ _ _ _ n=>n)
  (fun b o hc e=>⟨o,k b o (fun z=>hc (by simp[z])) e⟩) (fun _ _ e=>e) (fun _ _ _ e=>e) (fun b ps e=>⟨#[],by rw[e];simp⟩) (fun m hm=>?_) (fun b u e=>?_) I.bare
 ·have e:b=it:=by simpa using hb
  subst e;exact⟨h1,hL,h2,h3⟩
 ·obtain⟨o,es,ep,ho,r⟩:=hm
  exact⟨o,es,ep,k _ o (zJ hL) ho,r⟩
 ·refine(I.hok b u e).stay (fun c v hc q=>k c v ?_ q) (fun _ q=>q) fun _ _ q=>q
  rcases hc with z | z
  ·rw[z];exact nit b u e
  ·exact nit c _ z
theorem Inv.tok (I:Inv X jE σ H s)(t:Nat):Inv X jE σ H { s with toks:=t }:=I.un (h':=s.heap) (t':=t) Un.refl I.hok
theorem Inv.kept {t':Nat}(I:Inv X jE σ H s)(k:∀b u,s.heap.get? b=some u->h'.get? b=some u):Inv X jE σ H { s with heap:=h',toks:=t' }:=I.un (Un.kept k) (I.hok.kept k)
theorem Inv.laid {a:Addr}{o:HO}{t':Nat}(I:Inv X jE σ H s)(k:∀b u,s.heap.get? b=some u->h'.get? b=some u)(hp:s.heap.objs.size<=a)(new:YI X.prog X.w (Zo H a o) h' a o) :
  Inv X jE σ (Zo H a o) { s with heap:=h',toks:=t' }:=I.un (Un.laid k hp (I.hok.fresh hp)) (I.hok.laid k hp new)
theorem Inv.write {x e:Addr}{o:HO}{t':Nat}(I:Inv X jE σ H s)(mu:B2 (H x))(he:e=x∨H e=some (.own x))(k:∀b u,b≠e->s.heap.get? b=some u->h'.get? b=some u)(heo:∃u,h'.get? e=some u)
  (new:YI X.prog X.w (Zo H x o) h' x o):Inv X jE σ (Zo H x o) { s with heap:=h',toks:=t' }:=I.un (Un.write mu he k heo) (I.hok.write mu he k heo new)
theorem Inv.pins_of {pins':List (Addr×Obj)}(I:Inv X jE σ H s)(h:∀p∈pins',s.heap.get? p.1=some p.2/\H p.1=none/\p.1≠X.env.locals/\p.1∉X.fs/\∀v,p.2.data≠.cell v):Inv X pins' σ H s:=
 ⟨I.ok,I.os,I.bare,I.base,I.loc,I.cell,I.free,I.freeC,fun p hp=>(zg.mp hp).elim (fun z=>I.pin p (zr _ z)) (h p),I.hok,I.len⟩
theorem Zgf {N:List Str}(hN:N.Nodup){i j:Nat}{x:Str}(a:N[i]?=some x)(b:N[j]?=some x):i=j:=by
 obtain⟨h1,e1⟩:=qD.mp a;obtain⟨h2,e2⟩:=qD.mp b;exact(List.getElem_inj hN).mp (e1.trans e2.symm)
theorem Zjr {M:Model}{A:Around}{E:Value->Shared->Prop}{i:Nat}{x:Str}{v:V}{u:Value}{Q:Unit->Shared->Prop}(I:Inv X jE σ H s)(hN:X.N.Nodup)(hi:X.N[i]?=some x)(hx:VD X.env.scope x)(r:ZK v u)
  (h:∀s',Inv X jE (σ.set i (some v)) H s'->(∃a,qad a s.heap s'.heap/\(a=X.env.locals∨X.env.cells.lookup x=some a))->Q () s') (hf:X.fn x=true∨X.env.scope.names.lookup x=some .local:=by first | exact .inl rfl | exact .inr rfl | assumption):wpAny M A (storeName X.env x u) Q E s:=by
 obtain⟨m,hn,hl⟩:=id I.loc;have hcls:(X.env.scope.kind == .class||(X.env.scope.kind == .module&&X.env.locals != X.env.globals))=false:=by rw[I.ok.kind];rfl
 have hiσ:i < σ.length:=by rw[I.len];exact(qD.mp hi).1
 have cne:=I.cne;have tracked:∀{a:Addr} {h':Heap},(∃o,s.heap.get? a=some o/\H a=none)->qad a s.heap h'->YJ X.prog X.w H h':=fun {a h'} ha hs b ob e=>by
  obtain⟨_,_,hfree⟩:=ha;refine(I.hok b ob e).stay (fun c w' hc q=>(hs.2 c ?_).trans q) (fun _ q=>q) fun _ _ q=>q;rintro rfl;rcases hc with rfl | hc
  ·rw[hfree] at e;cases e
  ·rw[hfree] at hc;cases hc
 rcases hx with hk | hk
 ·refine wpAny_storeName_local hk hn (fun h' hn' hs=>?_) hcls
  obtain⟨oL,_,_,hoL,_⟩:=id hn;refine h _ ⟨I.ok,I.os,I.bare,⟨fun b o e n hb hx=>?_,fun b o e n hb hx=>?_,I.base.free,fun b o e hx=>?_,I.base.tups,I.base.frzs,I.base.tbls⟩,⟨_,hn',fun j y v' e1 e2 e3=>?_⟩,fun y c e=>?_,I.free,I.freeC,fun p hp=>?_,tracked ⟨oL,hoL,I.free⟩ hs,by simpa using I.len⟩ ⟨_,hs,.inl rfl⟩
  ·exact(hs.2 b (qN (qT (qG e) I.ok.above))).trans (I.base.keep b o e n hb hx)
  ·obtain⟨sl,e1⟩:=I.base.slot b o e n hb hx
   exact⟨sl,(hs.2 b (qN (qT (qG e) I.ok.above))).trans e1⟩
  ·obtain⟨o',e1⟩:=I.base.there b o e hx
   exact⟨o',(hs.2 b (qN (qT (qG e) I.ok.above))).trans e1⟩
  ·by_cases hj:j=i
   ·subst hj
    rw[hi] at e1;cases e1;rw[zl hiσ] at e2
    cases e2
    exact⟨u,r,.inl ⟨hk,by simp⟩⟩
   ·rw[qV (zJ hj)] at e2
    obtain⟨u',r',q⟩:=hl j y v' e1 e2 e3;refine⟨u',r',?_⟩;rcases q with⟨k,e⟩ | ⟨k,c,e,z⟩
    ·refine .inl ⟨k,?_⟩
     have:y≠x:=fun e=>hj (Zgf hN e1 (e▸hi));simp[this,e]
    ·exact .inr ⟨k,c,e,z.sameBut hs (cne y c e)⟩
  ·obtain⟨w',z⟩:=I.cell y c e
   exact⟨w',z.sameBut hs (cne y c e)⟩
  ·obtain⟨e,n,ne,nf,d⟩:=I.pin p hp
   exact⟨(hs.2 p.1 ne).trans e,n,ne,nf,d⟩
 ·have hfn:X.fn x=true:=by
   rcases hf with z | z
   ·exact z
   ·rw[z] at hk;cases hk
  obtain⟨c,hc⟩:=I.ok.has x (.inl hk);obtain⟨w',z⟩:=I.cell x c hc;refine wpAny_storeName_cell I.ok.kind hk hc z (fun h' hc' hs=>?_);obtain⟨oc,hoc,hocd⟩:=id z;refine h { s with heap:=h' } ⟨I.ok,I.os,I.bare,⟨fun b o e n hb hx=>?_,fun b o e n hb hx=>?_,I.base.free,fun b o e hx=>?_,I.base.tups,I.base.frzs,I.base.tbls⟩,⟨m,hn.sameBut hs (zJ (cne x c hc)),fun j y v' e1 e2 e3=>?_⟩,fun y c' e=>?_,I.free,I.freeC,fun p hp=>?_,tracked ⟨oc,hoc,I.freeC x c hc⟩ hs,by simpa using I.len⟩ ⟨c,hs,.inr hc⟩
  ·exact(hs.2 b (qN (qT (qG e) (I.ok.cab x c hfn hc)))).trans (I.base.keep b o e n hb hx)
  ·obtain⟨sl,e1⟩:=I.base.slot b o e n hb hx
   exact⟨sl,(hs.2 b (qN (qT (qG e) (I.ok.cab x c hfn hc)))).trans e1⟩
  ·obtain⟨o',e1⟩:=I.base.there b o e hx
   exact⟨o',(hs.2 b (qN (qT (qG e) (I.ok.cab x c hfn hc)))).trans e1⟩
  ·by_cases hj:j=i
   ·subst hj
    rw[hi] at e1;cases e1;rw[zl hiσ] at e2
    cases e2
    exact⟨u,r,.inr ⟨.inl hk,c,hc,hc'⟩⟩
   ·rw[qV (zJ hj)] at e2
    obtain⟨u',r',q⟩:=hl j y v' e1 e2 e3;refine⟨u',r',?_⟩;rcases q with q | ⟨k,c',e,z'⟩
    ·exact .inl q
    ·refine .inr ⟨k,c',e,z'.sameBut hs ?_⟩
     rintro rfl;exact hj (Zgf hN e1 (I.ok.inj _ _ _ e hc▸hi))
  ·by_cases hcc:c'=c
   ·subst hcc;exact⟨_,hc'⟩
   ·obtain⟨w2,z2⟩:=I.cell y c' e
    exact⟨w2,z2.sameBut hs hcc⟩
  ·obtain⟨e,n,ne,nf,d⟩:=I.pin p hp
   refine⟨(hs.2 p.1 ?_).trans e,n,ne,nf,d⟩;intro q;rw[q,hoc] at e;have q':oc=p.2:=zf e;exact d w' (by rw[<-q'];exact hocd)
theorem ZbV {M:Model}{A:Around}{E:Value->Shared->Prop}{i:Nat}{x:Str}{v:V}{u:Value}{Q:Unit->Shared->Prop}(I:Inv X jE σ H s)(hN:X.N.Nodup)(hi:X.N[i]?=some x)(hx:VD X.env.scope x)(r:ZK v u)
  (h:∀s',Inv X jE (σ.set i (some v)) H s'->Q () s') (hf:X.fn x=true∨X.env.scope.names.lookup x=some .local:=by first | exact .inl rfl | exact .inr rfl | assumption):wpAny M A (storeName X.env x u) Q E s:=
 Zjr I hN hi hx r (fun s' I' _=>h s' I') hf
theorem Inv.call' {s':Shared}{ch:List Addr}(I:Inv X jE σ H s)(ho:s'.os=s.os)(u:Un (Wi X.stack) ch H H' s.heap s'.heap)(hok:YJ X.prog X.w H' s'.heap)(hg:AllBare s'.gens)
  (hch:∀b∈ch,(b∈X.ex∨X.s₀.heap.objs.size<=b)/\b≠X.env.locals/\(∀x c,X.env.cells.lookup x=some c->c≠b)/\∀p∈X.pn++jE,p.1≠b):Inv X jE σ H' s':=by
 obtain⟨h',g',d',t',o'⟩:=s';have e:o'=s.os:=ho;subst e;exact I.call (g':=g') (t':=t') (d':=d') u hok hg hch
end
abbrev XK:=Value->Option Addr->Hp->Prop
abbrev St:=List (Option V)
abbrev VK:=V->Hp->Prop
abbrev TE:=St->Hp->VK->Prop
abbrev TT:=St->Hp->(Bool->Hp->Prop)->Prop
abbrev TA:=St->Hp->(List V->Hp->Prop)->Prop
structure Ends where
 nx:St->Hp->Prop
 rt:VK
 bk:St->Hp->Prop:=fun _ _=>False
 ct:St->Hp->Prop:=fun _ _=>False
abbrev TS:=Ends->St->Hp->Prop
def EP (X:Cx)(jE:List (Addr×Obj))(σ:St)(Q:VK)(u:Value)(s':Shared):Prop:=∃v H',Inv X jE σ H' s'/\ZK v u/\Q v H'
def TP (X:Cx)(jE:List (Addr×Obj))(σ:St)(Q:Bool->Hp->Prop)(b:Bool)(s':Shared):Prop:=∃H',Inv X jE σ H' s'/\Q b H'
def AP (X:Cx)(jE:List (Addr×Obj))(σ:St)(Q:List V->Hp->Prop)(us:List Value)(s':Shared):Prop:=∃vs H',Inv X jE σ H' s'/\ZI vs us/\Q vs H'
def SP (X:Cx)(jE:List (Addr×Obj))(D:Ends)(f:Flow)(s':Shared):Prop:=
 match f with
 | .next=>∃σ' H',Inv X jE σ' H' s'/\D.nx σ' H'
 | .brk=>∃σ' H',Inv X jE σ' H' s'/\D.bk σ' H'
 | .cont=>∃σ' H',Inv X jE σ' H' s'/\D.ct σ' H'
 | .ret u=>∃v σ' H',Inv X jE σ' H' s'/\ZK v u/\D.rt v H'
def PE (X:Cx)(e:Expr)(t:TE):Prop:=
 ∀(jE:List (Addr×Obj)) (s:Shared) (σ:St) (H:Hp) (Q:VK),Inv X jE σ H s->t σ H Q->wpAny (model X.prog X.w) X.A (eval e X.env) (EP X jE σ Q) X.xe s
def PT (X:Cx)(e:Expr)(t:TT):Prop:=
 ∀(jE:List (Addr×Obj)) (s:Shared) (σ:St) (H:Hp) (Q:Bool->Hp->Prop),Inv X jE σ H s->t σ H Q->wpAny (model X.prog X.w) X.A (isTrue e X.env (eval e X.env)) (TP X jE σ Q) X.xe s
def PW (X:Cx)(e:Expr)(t:TT):Prop:=
 ∀(whole:Sem Value) (jE:List (Addr×Obj)) (s:Shared) (σ:St) (H:Hp) (Q:Bool->Hp->Prop),Inv X jE σ H s->t σ H Q->wpAny (model X.prog X.w) X.A (isTrue e X.env whole) (TP X jE σ Q) X.xe s
theorem PW.pt {X:Cx}{e:Expr}{t:TT}(h:PW X e t):PT X e t:=h _
def PA (X:Cx)(es:List Expr)(t:TA):Prop:=
 ∀(pos:Pos) (jE:List (Addr×Obj)) (s:Shared) (σ:St) (H:Hp) (Q:List V->Hp->Prop),Inv X jE σ H s->t σ H Q->wpAny (model X.prog X.w) X.A (spliced (backTo pos (starEach es X.env))) (AP X jE σ Q) X.xe s
def PS (X:Cx)(st:Stmt)(t:TS):Prop:=
 ∀(jE:List (Addr×Obj)) (s:Shared) (σ:St) (H:Hp) (D:Ends),Inv X jE σ H s->t D σ H->wpAny (model X.prog X.w) X.A (exec st X.env) (SP X jE D) X.xe s
def WU (X:Cx)(st:List Stmt)(t:TS):Prop:=
 ∀(jE:List (Addr×Obj)) (s:Shared) (σ:St) (H:Hp) (D:Ends),Inv X jE σ H s->t D σ H->wpAny (model X.prog X.w) X.A (execs st X.env) (SP X jE D) X.xe s
theorem ZJ {α:Type}{t:Sem α}{Q Q':α->Shared->Prop}{M:Model}{A:Around}{E:Value->Shared->Prop}{s:Shared}(h:wpAny M A t Q E s)(hQ:∀a s,Q a s->Q' a s):wpAny M A t Q' E s:=wpAny_mono h hQ fun _ _ x=>x
end L2
namespace L2
section
variable {X:Cx}
def Y1 (i:Nat):TE:=fun σ H Q=>∃v,σ[i]?=some (some v)/\Q v H
def tC (v:V):TE:=fun _ H Q=>Q v H
theorem Zof {i:Nat}{x:Str}{pos:Pos}(hN:X.N[i]?=some x)(hv:B3 X.env.scope x)(hd:(x==("__debug__" : Str))=false:=by decide)(hcd:(x==("__classdict__" : Str))=false:=by decide):PE X (.Name x pos) (Y1 i):=by
 intro jE s σ H Q I h;obtain⟨v,e,h⟩:=h;obtain⟨m,hn,hl⟩:=I.loc;obtain⟨u,r,l⟩:=hl i x v hN e hv;have fin:EP X jE σ Q u s:=⟨v,H,I,r,h⟩;rcases l with⟨hk,hm⟩ | ⟨hk,c,hc,hcell⟩
 ·exact wpAny_Name (wpAny_loadName_local I.ok.kind hk hn hm fin) hd
 ·rcases hk with hk | hk
  ·exact wpAny_Name (wpAny_loadName_cell I.ok.kind hk hc hcell fin) hd
  ·exact wpAny_Name (wpAny_loadName_free I.ok.kind hk hc hcell fin hcd) hd
theorem XB {i j pos}:PE X (.Constant (.int i) j pos) (tC (.int i)):=fun _ _ _ H _ I h=>wpAny_Constant_int ⟨.int i,H,I.tok _,⟨_,rfl⟩,h⟩
theorem Zpl {b j pos}:PE X (.Constant (.bool b) j pos) (tC (.bl b)):=fun _ _ _ H _ I h=>Constant_bool ⟨.bl b,H,I,rfl,h⟩
theorem Zog {x j pos}:PE X (.Constant (.str x) j pos) (tC (.str x)):=fun _ _ _ H _ I h=>Calls.Constant_str ⟨.str x,H,I.tok _,⟨_,rfl⟩,h⟩
def Gl (X:Cx)(x:Str):Prop:=X.env.kindOf x=some .globalImplicit
theorem ZiE {E:Value->Shared->Prop}{jE:List (Addr×Obj)}{s:Shared}{σ:St}{H:Hp}{x:Str}{u:Value}{pos:Pos}{Q:Value->Shared->Prop}(I:Inv X jE σ H s)(hg:Gl X x)(hm:X.mg x=some u)(h:Q u s)
  (hd:(x==("__debug__" : Str))=false:=by decide):wpAny (model X.prog X.w) X.A (eval (.Name x pos) X.env) Q E s:=
 qaY I.ok.kind hg (Calls.loadGlobal_global (by rw[I.ok.glob];exact I.mod.glob.keeps I.bk) hm h) hd
theorem Ub {E:Value->Shared->Prop}{jE:List (Addr×Obj)}{s:Shared}{σ:St}{H:Hp}{x:Str}{u:Value}{pos:Pos}{Q:Value->Shared->Prop}(I:Inv X jE σ H s)(hg:Gl X x)(hm:X.mg x=none)(hv:bootBuiltins x=some u)(h:Q u s)
  (hn:x≠"__name__":=by decide) (hd:(x==("__debug__" : Str))=false:=by decide):wpAny (model X.prog X.w) X.A (eval (.Name x pos) X.env) Q E s:=by
 obtain⟨mb,h1,h2⟩:=I.mod.blt;exact qaY I.ok.kind hg (Calls.loadGlobal_builtin (by rw[I.ok.glob];exact I.mod.glob.keeps I.bk) hm (by rw[I.ok.blt];exact h1.keeps I.bk) ((h2 x hn).trans hv) h) hd
theorem ZmA {x:Str}{v:V}{u:Value}{pos:Pos}(hg:Gl X x)(hm:X.mg x=none)(hv:bootBuiltins x=some u)(r:ZK v u)(hn:x≠"__name__":=by decide)(hd:(x==("__debug__" : Str))=false:=by decide):PE X (.Name x pos) (tC v):=
 fun _ _ _ H _ I h=>Ub I hg hm hv ⟨v,H,I,r,h⟩ hn hd
variable {a b:Expr}{ta tb:TE}{pos:Pos}
def tB (t:TE):TT:=fun σ H Q=>t σ H fun x H1=>∃c,x=.bl c/\Q c H1
theorem Zoh {e:Expr}{t:TE}(h:PE X e t)(he:∀whole,isTrue e X.env whole=(do let v<-whole;standAt e.pos;holding [v] (truthy v)):=by intro _;rfl):PT X e (tB t):=by
 intro jE s σ H Q I hw;refine isTrue_plain (ZJ (h jE s σ H _ I hw) fun v s1 ⟨x,H1,I1,r1,q1⟩=>?_) (he _);obtain⟨d,rfl,q⟩:=q1
 cases r1
 exact wpAny_truthy_bool ⟨H1,I1,q⟩
variable {tA tB':TT}{rest:List Expr}
def tAnd (t u:TT):TT:=fun σ H Q=>t σ H fun c H1=>if c=true then u σ H1 Q else Q false H1
def tOr (t u:TT):TT:=fun σ H Q=>t σ H fun c H1=>if c=true then Q true H1 else u σ H1 Q
def tNot (t:TT):TT:=fun σ H Q=>t σ H fun c H1=>Q (!c) H1
theorem ZmB (ha:PT X a tA):PW X (.BoolOp .And [a] pos) tA:=by
 intro wh jE s σ H Q I h;refine isTrue_and (ZJ (ha jE s σ H Q I h) fun c s1 e=>?_)
 cases c with
 | true=>exact isTrue_and_nil e
 | false=>exact e
theorem Zoi (ha:PT X a tA):PW X (.BoolOp .Or [a] pos) tA:=by
 intro wh jE s σ H Q I h;refine isTrue_or (ZJ (ha jE s σ H Q I h) fun c s1 e=>?_)
 cases c with
 | false=>exact isTrue_or_nil e
 | true=>exact e
theorem Zoj (ha:PT X a tA)(hb:PW X (.BoolOp .And (b::rest) pos) tB'):PW X (.BoolOp .And (a::b::rest) pos) (tAnd tA tB'):=by
 intro wh jE s σ H Q I h;refine isTrue_and (ZJ (ha jE s σ H _ I h) fun c s1 ⟨H1,I1,q1⟩=>?_)
 cases c with
 | true=>exact hb wh jE s1 σ H1 Q I1 q1
 | false=>exact⟨H1,I1,q1⟩
theorem Zpm (ha:PT X a tA)(hb:PW X (.BoolOp .Or (b::rest) pos) tB'):PW X (.BoolOp .Or (a::b::rest) pos) (tOr tA tB'):=by
 intro wh jE s σ H Q I h;refine isTrue_or (ZJ (ha jE s σ H _ I h) fun c s1 ⟨H1,I1,q1⟩=>?_)
 cases c with
 | true=>exact⟨H1,I1,q1⟩
 | false=>exact hb wh jE s1 σ H1 Q I1 q1
theorem Zok (ha:PT X a tA):PT X (.UnaryOp .Not a pos) (tNot tA):=by
 intro jE s σ H Q I h;exact isTrue_not (ha jE s σ H (fun c H1=>Q (!c) H1) I h)
def Zpn (ta tb:TE):TE:=fun σ H Q=>ta σ H fun x H1=>∃c,x=.bl c/\if c=true then tb σ H1 Q else Q (.bl false) H1
def tOrV (ta tb:TE):TE:=fun σ H Q=>ta σ H fun x H1=>∃c,x=.bl c/\if c=true then Q (.bl true) H1 else tb σ H1 Q
def Zpo (ta:TE):TE:=fun σ H Q=>ta σ H fun x H1=>∃c,x=.bl c/\Q (.bl (!c)) H1
theorem Zol {op}{t:TE}(h:PE X a t):PE X (.BoolOp op [a] pos) t:=fun jE s σ H Q I hw=>BoolOp_one (h jE s σ H Q I hw)
theorem Zom (ha:PE X a ta)(hb:PE X (.BoolOp .And (b::rest) pos) tb):PE X (.BoolOp .And (a::b::rest) pos) (Zpn ta tb):=by
 intro jE s σ H Q I h;refine BoolOp_and (ZJ (ha jE s σ H _ I h) fun v s1 ⟨x,H1,I1,r1,q1⟩=>?_);obtain⟨c,rfl,q1⟩:=q1
 cases r1
 refine wpAny_truthy_bool ?_
 cases c with
 | true=>exact hb jE s1 σ H1 Q I1 q1
 | false=>exact⟨.bl false,H1,I1,rfl,q1⟩
theorem Zpp (ha:PE X a ta)(hb:PE X (.BoolOp .Or (b::rest) pos) tb):PE X (.BoolOp .Or (a::b::rest) pos) (tOrV ta tb):=by
 intro jE s σ H Q I h;refine BoolOp_or (ZJ (ha jE s σ H _ I h) fun v s1 ⟨x,H1,I1,r1,q1⟩=>?_);obtain⟨c,rfl,q1⟩:=q1
 cases r1
 refine wpAny_truthy_bool ?_
 cases c with
 | false=>exact hb jE s1 σ H1 Q I1 q1
 | true=>exact⟨.bl true,H1,I1,rfl,q1⟩
theorem Zon (ha:PE X a ta):PE X (.UnaryOp .Not a pos) (Zpo ta):=by
 intro jE s σ H Q I h;refine UnaryOp_ (ZJ (ha jE s σ H _ I h) fun v s1 ⟨x,H1,I1,r1,q1⟩=>?_);obtain⟨c,rfl,q1⟩:=q1
 cases r1
 exact not_of (wpAny_truthy_bool ⟨.bl (!c),H1,I1,rfl,q1⟩)
def tIf (t:TT)(ta tb:TE):TE:=fun σ H Q=>t σ H fun c H1=>if c=true then ta σ H1 Q else tb σ H1 Q
theorem ZkG {c:Expr}(hc:PT X c tA)(ha:PE X a ta)(hb:PE X b tb):PE X (.IfExp c a b pos) (tIf tA ta tb):=by
 intro jE s σ H Q I h;refine wpAny_IfExp (ZJ (hc jE s σ H _ I h) fun d s1 ⟨H1,I1,q1⟩=>?_)
 cases d with
 | true=>exact ha jE s1 σ H1 Q I1 q1
 | false=>exact hb jE s1 σ H1 Q I1 q1
end
end L2
namespace L2
def ZH (K:qm)(H:Hp)(a:Addr)(xs:List V):Prop:=
 Rd H a (.lst xs)∨
  ∃(o:Obj) (jG:Array Value) (n:Nat),K.lookup a=some o/\o.cls=.type "list"/\o.dict=none/\o.data=.seq jG n/\jG.size<=sizeLine/\ZI xs jG.toList
def ZT (K:qm)(H:Hp)(a:Addr)(xs:List V):Prop:=
 Rd H a (.tup xs)∨
  ∃(o:Obj) (jG:Array Value) (n:Nat),K.lookup a=some o/\o.cls=.type "tuple"/\o.data=.seq jG n/\jG.size<=sizeLine/\ZI xs jG.toList
def absV:Value->Option V
 | .none=>some .non
 | .bool b=>some (.bl b)
 | .int i _=>some (.int i)
 | .str x _=>some (.str x)
 | .bytes b _=>some (.byt b)
 | .float b _=>some (.flt b)
 | .ref a=>some (.ref a)
 | .type n=>some (.ty n)
 | _=>none
theorem ZK.abs {x:V}{u:Value}(r:ZK x u):absV u=some x:=by
 cases x with
 | non=>cases r;rfl
 | bl _=>cases r;rfl
 | int _=>obtain⟨t,rfl⟩:=r;rfl
 | str _=>obtain⟨t,rfl⟩:=r;rfl
 | byt _=>obtain⟨t,rfl⟩:=r;rfl
 | flt _=>obtain⟨t,rfl⟩:=r;rfl
 | ref _=>cases r;rfl
 | ty _=>cases r;rfl
theorem ZK.inj {x y:V}{u:Value}(r:ZK x u)(q:ZK y u):x=y:=zf (r.abs.symm.trans q.abs)
theorem ZI.inj:∀{xs ys:List V} {us:List Value},ZI xs us->ZI ys us->xs=ys
 | _,_,_,.nil,.nil=>rfl
 | _,_,_,.cons r t,.cons r' t'=>by rw[r.inj r',ZI.inj t t']
section
variable {X:Cx}{jE:List (Addr×Obj)}{σ:St}{H:Hp}{s:Shared}{a:Addr}{xs ys:List V}
theorem ZH.of {K:qm}(h:H a=some (.lst xs)):ZH K H a xs:=.inl (.inl h)
theorem ZT.of {K:qm}(h:H a=some (.tup xs)):ZT K H a xs:=.inl (.inl h)
theorem Inv.list (I:Inv X jE σ H s)(h:ZH X.K H a xs):∃jG:List Value,ZI xs jG/\PlainL s.heap a jG.toArray/\xs.length<=sizeLine:=by
 rcases h with h | ⟨o,jG,n,hk,hc,hd,hs,hz,r⟩
 ·obtain⟨z,jG,n,r,e⟩:=h.ok I.hok
  exact⟨jG,r,⟨_,n,e,rfl,rfl,rfl⟩,z⟩
 ·refine⟨jG.toList,r,⟨o,n,I.kIn a o hk,hc,hd,by simpa using hs⟩,?_⟩
  have e:=r.length;simp only[zb] at e;omega
theorem Inv.tuple (I:Inv X jE σ H s)(h:ZT X.K H a xs):∃jG:List Value,ZI xs jG/\IsTup s.heap a jG.toArray/\xs.length<=sizeLine:=by
 rcases h with h | ⟨o,jG,n,hk,hc,hs,hz,r⟩
 ·obtain⟨z,jG,r,p⟩:=h.ok I.hok
  exact⟨jG,r,p.tup,z⟩
 ·refine⟨jG.toList,r,⟨o,I.kIn a o hk,hc,n,by simpa using hs⟩,?_⟩
  have e:=r.length;simp only[zb] at e;omega
theorem Inv.list_inj (I:Inv X jE σ H s)(h:ZH X.K H a xs)(h':ZH X.K H a ys):xs=ys:=by
 obtain⟨jG,r,⟨o,n,e,_,_,d⟩,_⟩:=I.list h;obtain⟨its',r',⟨o',n',e',_,_,d'⟩,_⟩:=I.list h';rw[e] at e';cases e';rw[d] at d';injection d' with d1 _;have:jG=its':=by simpa using congrArg Array.toList d1
 subst this;exact r.inj r'
theorem Inv.tuple_inj (I:Inv X jE σ H s)(h:ZT X.K H a xs)(h':ZT X.K H a ys):xs=ys:=by
 obtain⟨jG,r,⟨o,e,_,n,d⟩,_⟩:=I.tuple h;obtain⟨its',r',⟨o',e',_,n',d'⟩,_⟩:=I.tuple h';rw[e] at e';cases e';rw[d] at d';injection d' with d1 _;have:jG=its':=by simpa using congrArg Array.toList d1
 subst this;exact r.inj r'
end
abbrev Cx.wish (X:Cx)(E:Value->Shared->Prop):Cx:={ X with xe:=E }
abbrev Cx.nox (X:Cx):Cx:=X.wish fun _ _=>False
theorem Cx.Ok.wish {X:Cx}(ok:X.Ok)(E:Value->Shared->Prop):(X.wish E).Ok:=
 ⟨ok.mod,ok.kind,ok.glob,ok.blt,ok.above,ok.inj,ok.has,ok.cab,ok.hd,ok.frames,ok.stk,ok.exf,ok.bs,ok.bsz,ok.noex,ok.exfs,ok.funs,ok.frf⟩
theorem Cx.Ok.unwish {X:Cx}{E:Value->Shared->Prop}(ok:(X.wish E).Ok):X.Ok:=
 ⟨ok.mod,ok.kind,ok.glob,ok.blt,ok.above,ok.inj,ok.has,ok.cab,ok.hd,ok.frames,ok.stk,ok.exf,ok.bs,ok.bsz,ok.noex,ok.exfs,ok.funs,ok.frf⟩
section
variable {X:Cx}{jE:List (Addr×Obj)}{σ:St}{H:Hp}{s:Shared}{E:Value->Shared->Prop}
theorem Inv.wish (I:Inv X jE σ H s)(E:Value->Shared->Prop):Inv (X.wish E) jE σ H s:=⟨I.ok.wish E,I.os,I.bare,I.base,I.loc,I.cell,I.free,I.freeC,I.pin,I.hok,I.len⟩
theorem Inv.unwish (I:Inv (X.wish E) jE σ H s):Inv X jE σ H s:=⟨I.ok.unwish,I.os,I.bare,I.base,I.loc,I.cell,I.free,I.freeC,I.pin,I.hok,I.len⟩
theorem SP.unwish {D:Ends}{f:Flow}{s':Shared}(h:SP (X.wish E) jE D f s'):SP X jE D f s':=by
 cases f with
 | next=>obtain⟨σ',H',I,q⟩:=h;exact⟨σ',H',I.unwish,q⟩
 | brk=>obtain⟨σ',H',I,q⟩:=h;exact⟨σ',H',I.unwish,q⟩
 | cont=>obtain⟨σ',H',I,q⟩:=h;exact⟨σ',H',I.unwish,q⟩
 | ret u=>obtain⟨v,σ',H',I,r,q⟩:=h;exact⟨v,σ',H',I.unwish,r,q⟩
theorem PE.nox {e:Expr}{t:TE}(h:PE X.nox e t):PE X e t:=fun jE s σ H Q I hw=>
 wpAny_mono (h jE s σ H Q (I.wish _) hw) (fun _ _ ⟨v,H',I',r,q⟩=>⟨v,H',I'.unwish,r,q⟩) fun _ _ z=>zG z
theorem WU.nox {st:List Stmt}{t:TS}(h:WU X.nox st t):WU X st t:=fun jE s σ H D I hw=>
 wpAny_mono (h jE s σ H D (I.wish _) hw) (fun _ _ q=>q.unwish) fun _ _ z=>zG z
end
section
variable {X:Cx}{st:Stmt}{rest:List Stmt}{t u:TS}{e:Expr}{te:TE}{pos:Pos}
def Zpq:TS:=fun D σ H=>D.nx σ H
def J6 (t u:TS):TS:=fun D σ H=>t { D with nx:=u D } σ H
theorem Zfc:WU X [] Zpq:=fun _ _ σ H _ I h=>wpAny_execs_nil ⟨σ,H,I,h⟩
theorem V5 (h1:PS X st t)(h2:WU X rest u):WU X (st::rest) (J6 t u):=by
 intro jE s σ H D I h;refine wpAny_execs_cons (ZJ (h1 jE s σ H { D with nx:=u D } I h) fun f s1 q=>?_)
 cases f with
 | next=>
  obtain⟨σ',H',I',q⟩:=q;exact h2 jE s1 σ' H' D I' q
 | ret v=>exact q
 | brk=>exact q
 | cont=>exact q
theorem BA (h1:PS X st t):WU X [st] t:=by
 intro jE s σ H D I h;refine wpAny_execs_cons (ZJ (h1 jE s σ H D I h) fun f s1 q=>?_)
 cases f with
 | next=>exact wpAny_execs_nil q
 | ret v=>exact q
 | brk=>exact q
 | cont=>exact q
theorem Inv.quiet {jE:List (Addr×Obj)}{σ:St}{H:Hp}{s:Shared}(I:Inv X jE σ H s):interactive X.env=false:=by simp[interactive,I.ok.kind]
def ZiF (te:TE):TS:=fun D σ H=>te σ H fun _ H1=>D.nx σ H1
theorem ZmC (he:PE X e te)(hs:swapsWith e none pos.line X.env=pure false:=by rfl):PS X (.Expr e pos) (ZiF te):=by
 intro jE s σ H D I h;exact wpAny_Expr_any (ZJ (he jE s σ H _ I h) fun v s1 ⟨x,H1,I1,r1,q1⟩=>⟨σ,H1,I1,q1⟩) I.quiet hs
def tRet (te:TE):TS:=fun D σ H=>te σ H D.rt
theorem Zhv (he:PE X e te):PS X (.Return (some e) pos) (tRet te):=by
 intro jE s σ H D I h;exact wpAny_Return_some (ZJ (he jE s σ H _ I h) fun v s1 ⟨x,H1,I1,r1,q1⟩=>⟨x,σ,H1,I1,r1,q1⟩)
def tIfS (c:TT)(t u:TS):TS:=fun D σ H=>c σ H fun b H1=>if b=true then t D σ H1 else u D σ H1
theorem ZiG {c:Expr}{a b:List Stmt}{tc:TT}(hc:PT X c tc)(ha:WU X a t)(hb:WU X b u):PS X (.If c a b pos) (tIfS tc t u):=by
 intro jE s σ H D I h;refine wpAny_If (ZJ (hc jE s σ H _ I h) fun d s1 ⟨H1,I1,q1⟩=>?_)
 cases d with
 | true=>exact ha jE s1 σ H1 D I1 q1
 | false=>exact hb jE s1 σ H1 D I1 q1
end
abbrev TG:=V->St->Hp->(St->Hp->Prop)->Prop
abbrev Jy:=List V->St->Hp->(St->Hp->Prop)->Prop
def PG (X:Cx)(target:Expr)(t:TG):Prop:=
 ∀(jE:List (Addr×Obj)) (s:Shared) (σ:St) (H:Hp) (v:V) (u:Value) (Q:St->Hp->Prop),Inv X jE σ H s->ZK v u->t v σ H Q->
  wpAny (model X.prog X.w) X.A (assign target X.env u) (fun _ s'=>∃σ' H',Inv X jE σ' H' s'/\Q σ' H') X.xe s
def B4 (X:Cx)(ts:List Expr)(t:Jy):Prop:=
 ∀(jE:List (Addr×Obj)) (s:Shared) (σ:St) (H:Hp) (vs:List V) (us:List Value) (Q:St->Hp->Prop),Inv X jE σ H s->ZI vs us->t vs σ H Q->
  wpAny (model X.prog X.w) X.A (assignInOrder ((assignEach ts X.env).map (·.2)) us) (fun _ s'=>∃σ' H',Inv X jE σ' H' s'/\Q σ' H') X.xe s
abbrev TSet:=V->V->V->Hp->(Hp->Prop)->Prop
def PSet (X:Cx)(t:TSet):Prop:=
 ∀(jE:List (Addr×Obj)) (s:Shared) (σ:St) (H:Hp) (o i v:V) (ov iv u:Value) (Q:Hp->Prop),Inv X jE σ H s->ZK o ov->ZK i iv->ZK v u->t o i v H Q->
  wpAny (model X.prog X.w) X.A (setItem ov iv u) (fun _ s'=>∃H',Inv X jE σ H' s'/\Q H') X.xe s
section
variable {X:Cx}{pos:Pos}
def J4 (i:Nat):TG:=fun v σ H Q=>Q (σ.set i (some v)) H
theorem Uy {i:Nat}{x:Str}(hN:X.N.Nodup)(hi:X.N[i]?=some x)(hx:VD X.env.scope x)(hf:X.fn x=true∨X.env.scope.names.lookup x=some .local:=by first | exact .inl rfl | exact .inr rfl | assumption):PG X (.Name x pos) (J4 i):=by
 intro jE s σ H v u Q I r h;exact wpAny_assign_Name (ZbV I hN hi hx r (fun s' I'=>⟨_,H,I',h⟩) hf)
def gNil:Jy:=fun vs σ H Q=>vs=[]/\Q σ H
def ZkH (t:TG)(u:Jy):Jy:=fun vs σ H Q=>∃v r,vs=v::r/\t v σ H fun σ' H'=>u r σ' H' Q
theorem Zfd:B4 X [] gNil:=by
 intro jE s σ H vs us Q I r h;obtain⟨e,h⟩:=h;subst e
 cases r
 exact assignInOrder_nil ⟨σ,H,I,h⟩
theorem JO {e:Expr}{es:List Expr}{t:TG}{u:Jy}(h1:PG X e t)(h2:B4 X es u)
  (hs:(assignEach (e::es) X.env).map (·.2)=assign e X.env::(assignEach es X.env).map (·.2):=by rfl):B4 X (e::es) (ZkH t u):=by
 intro jE s σ H vs us Q I r h;obtain⟨v,vr,e1,h⟩:=h;subst e1
 cases r with
 | cons r rr=>
  rw[hs];refine assignInOrder_cons (ZJ (h1 jE s σ H _ _ _ I r h) fun _ s1 ⟨σ1,H1,I1,q1⟩=>?_);exact h2 jE s1 σ1 H1 _ _ Q I1 rr q1
def gTup (K:qm)(n:Nat)(t:Jy):TG:=fun v σ H Q=>∃a xs,v=.ref a/\ZT K H a xs/\xs.length=n/\t xs σ H Q
theorem Zoo {es:List Expr}{k:Nat}{t:Jy}{n:Nat}(hc:X.calm=true)(h:B4 X es t)
  (hn:(assignEach es X.env).length=n:=by rfl) (hst:(assignEach es X.env).findIdx? (·.1)=none:=by rfl):PG X (.Tuple es k pos) (gTup X.K n t):=by
 intro jE s σ H v u Q I r hw;obtain⟨a,xs,e1,hq,hl,hw⟩:=hw;subst e1
 cases r
 obtain⟨jG,rv,ht,hz⟩:=I.tuple hq;refine assign_Tuple_tuple (I.ok.hd hc) ht (by simp[hn,<-hl,rv.length]) hst fun h' hx=>?_;have I1:Inv X jE σ H { s with heap:=h' }:=I.kept (t':=s.toks) fun b o e=>hx b o (qN (qG e)) e;exact h jE _ σ H xs _ Q I1 (by simpa using rv) hw
def BW (to ti:TE)(t:TSet):TG:=fun v σ H Q=>to σ H fun o H1=>ti σ H1 fun i H2=>t o i v H2 fun H3=>Q σ H3
theorem Zhw {o i:Expr}{to ti:TE}{t:TSet}(ho:PE X o to)(hi:PE X i ti)(hs:PSet X t)
  (ha:∀v,assign (.Subscript o i pos) X.env v=(do
   let ov<-holding [v] (eval o X.env)
   let iv<-holding [v,ov] (eval i X.env)
   standAt pos
   holding [v,ov,iv] (setItem ov iv v)
   release [v,ov,iv] []):=by intro _;rfl):PG X (.Subscript o i pos) (BW to ti t):=by
 intro jE s σ H v u Q I r h;rw[ha];refine wpAny_bind (wpAny_holding (ZJ (ho jE s σ H _ I h) fun ov s1 ⟨x,H1,I1,r1,q1⟩=>?_));refine wpAny_bind (wpAny_holding (ZJ (hi jE s1 σ H1 _ I1 q1) fun iv s2 ⟨y,H2,I2,r2,q2⟩=>?_));refine wpAny_bind (wpAny_standAt (wpAny_bind (wpAny_holding (ZJ (hs jE s2 σ H2 x y v ov iv u _ I2 r1 r2 r q2) fun _ s3 ⟨H3,I3,q3⟩=>?_))));exact wpAny_release ⟨σ,H3,I3,q3⟩
def UJ (te:TE)(g:TG):TS:=fun D σ H=>te σ H fun x H1=>g x σ H1 D.nx
theorem Zhx {tg e:Expr}{te:TE}{g:TG}(he:PE X e te)(hg:PG X tg g)(hs:swapsWithSole [tg] e pos.line X.env=pure false:=by rfl)(hw:swappedStores [tg] e X.env=pure none:=by rfl)
  (h1:(assignEach [tg] X.env).map (·.2)=[assign tg X.env]:=by rfl):PS X (.Assign [tg] e pos) (UJ te g):=by
 intro jE s σ H D I h;refine wpAny_Assign_stores (ZJ (he jE s σ H _ I h) fun v s1 ⟨x,H1,I1,r1,q1⟩=>?_) hs hw;rw[h1];exact ZJ (hg jE s1 σ H1 x v _ I1 r1 q1) fun _ s2 q=>q
theorem Jb {i:Nat}{x:Str}{e:Expr}{te:TE}{pos':Pos}(hN:X.N.Nodup)(hi:X.N[i]?=some x)(hx:VD X.env.scope x)(he:PE X e te)(hs:swapsWith e (some (.Name x pos')) pos.line X.env=pure false:=by rfl)(hf:X.fn x=true∨X.env.scope.names.lookup x=some .local:=by first | exact .inl rfl | exact .inr rfl | assumption) :
  PS X (.Assign [.Name x pos'] e pos) (UJ te (J4 i)):=by
 intro jE s σ H D I h;refine wpAny_Assign_Name (ZJ (he jE s σ H _ I h) fun v s1 ⟨y,H1,I1,r1,q1⟩=>?_) hs;exact ZbV I1 hN hi hx r1 (fun s2 I2=>⟨_,H1,I2,q1⟩) hf
def tPar (i j:Nat)(ta:TA):TS:=fun D σ H=>ta σ H fun vs H1=>∃v w,vs=[v,w]/\D.nx ((σ.set i (some v)).set j (some w)) H1
theorem Zop {i j:Nat}{x y:Str}{a b:Expr}{ta:TA}{px py pt:Pos}{kt k2 pt2}(hc:X.calm=true)(hN:X.N.Nodup)(hi:X.N[i]?=some x)(hj:X.N[j]?=some y)(hij:i≠j)
  (hx:X.env.scope.names.lookup x=some .local) (hy:X.env.scope.names.lookup y=some .local) (ha:PA X [a,b] ta)
  (hw:swappedStores [.Tuple [.Name x px,.Name y py] kt pt] (.Tuple [a,b] k2 pt2) X.env=pure (some [x,y]))
  (hs:swapsWithSole [.Tuple [.Name x px,.Name y py] kt pt] (.Tuple [a,b] k2 pt2) pos.line X.env=pure false:=by rfl) :
  PS X (.Assign [.Tuple [.Name x px,.Name y py] kt pt] (.Tuple [a,b] k2 pt2) pos) (tPar i j ta):=by
 intro jE s σ H D I h;rw[exec_Assign_arm];refine wpAny_bind (wpAny_standAt ?_);rw[hs];refine wpAny_bind (wpAny_pure ?_);rw[if_neg (by decide)];refine wpAny_bind (Tuple_ (ZJ (ha _ jE s σ H _ I h) fun us s1 ⟨vs,H1,I1,r1,q1⟩=>?_));obtain⟨v,w,e1,q1⟩:=q1;subst e1;obtain⟨u1,u2,rfl,rv,rw'⟩:∃u1 u2,us=[u1,u2]/\ZK v u1/\ZK w u2:=by
  cases r1 with
  | cons p q=>
   cases q with
   | cons p' q'=>
    cases q'
    exact⟨_,_,rfl,p,p'⟩
 refine wpAny_newObj_type ?_ (by show 2<=sizeLine;decide);have I2:Inv X jE σ H1 { s1 with heap:=s1.heap.push { cls:=.type "tuple",data:=.seq [u1,u2].toArray } }:=I1.kept (t':=s1.toks) fun b o e=>qf _ e;rw[hw];refine wpAny_bind (wpAny_pure ?_);show wpAny (model X.prog X.w) X.A (do rule "assign.swapped-stores";let items<-unpackItems (.ref s1.heap.objs.size) 2 none;assignInOrder [fun v=>bindName X.env y v,fun v=>bindName X.env x v] items.reverse;pure Flow.next) _ _ _;refine wpAny_bind (wpAny_rule (wpAny_bind (unpackItems_tuple (items:=#[u1,u2]) (I.ok.hd hc) (IsTup.new s1.heap _) fun h' hx'=>?_)));have I3:=I2.kept (h':=h') (t':=s1.toks) fun b o e=>hx' b o (qN (qG e)) e;show wpAny _ _ (assignInOrder [fun v=>bindName X.env y v,fun v=>bindName X.env x v] [u2,u1] >>= fun _=>pure Flow.next) _ _ _;refine wpAny_bind (assignInOrder_cons (wpAny_bindName (ZbV I3 hN hj (.inl hy) rw' (fun s2 I4=>?_) (.inr hy))));refine assignInOrder_cons (wpAny_bindName (ZbV I4 hN hi (.inl hx) rv (fun s3 I5=>assignInOrder_nil (wpAny_pure ?_)) (.inr hx)));rw[List.set_comm _ _ (zJ hij)] at I5;exact⟨_,H1,I5,q1⟩
end
section
variable {X:Cx}{pos:Pos}
end
structure It where
 go:Nat->Hp->Prop
 yld:Nat->Hp->V->Hp->Prop
 stop:Nat->Hp->Prop
def WI (X:Cx)(jE:List (Addr×Obj))(H:Hp)(b:Addr):Prop:=
 H b=none/\b≠X.env.locals/\b∉X.fs/\(b∈X.ex∨X.s₀.heap.objs.size<=b)/\(∀x c,X.env.cells.lookup x=some c->c≠b)/\∀p∈X.pn++jE,p.1≠b
theorem Inv.fpOk {X:Cx}{jE:List (Addr×Obj)}{σ:St}{H H':Hp}{s:Shared}{b:Addr}(I:Inv X jE σ H s)(hb:s.heap.objs.size<=b)(hn:H' b=none):WI X jE H' b:=by
 refine⟨hn,yU (qT I.lt hb),I.nofs hb,.inr (qJ I.sz hb),fun x c e z=>?_,fun p hp z=>?_⟩
 ·obtain⟨v,q⟩:=I.cell x c e
  exact absurd (qT q.lt (by rw[z];exact hb)) (zY _)
 ·exact absurd (qT (qG (I.pin p hp).1) (by rw[z];exact hb)) (zY _)
structure Turn (P:Program)(w:World)(K:qm)(tg:Expr)(J:It)(fp:List Addr)(it:Addr)(tn:Nat->Heap->Prop):Prop where
 mem:it∈fp
 obj:∀i h,tn i h->∀b∈fp,∃o,h.get? b=some o/\∀v,o.data≠.cell v
 keep:∀i h h',tn i h->(∀b∈fp,∀o,h.get? b=some o->h'.get? b=some o)->tn i h'
 item:∀(X:Cx),X.prog=P->X.w=w->X.K=K->X.calm=true->∀(i:Nat) (jE:List (Addr×Obj)) (s:Shared) (σ:St) (H:Hp) (E:Value->Shared->Prop),Inv X jE σ H s->(∀b∈fp,WI X jE H b)->tn i s.heap->J.go i H->
  wpAny (model P w) X.A (pyNext (.ref it)) (fun r s1=>∃u,r=some u/\
   wpAny (model P w) X.A (letOwnedTupleGo tg (.ref it) u) (fun _ s2=>∃x H',Inv X jE σ H' s2/\ZK x u/\J.yld i H x H'/\tn (i+1) s2.heap/\∀b∈fp,H' b=none) E s1) E s
 done:∀(X:Cx),X.prog=P->X.w=w->X.K=K->X.calm=true->∀(i:Nat) (jE:List (Addr×Obj)) (s:Shared) (σ:St) (H:Hp) (E:Value->Shared->Prop),Inv X jE σ H s->(∀b∈fp,WI X jE H b)->tn i s.heap->J.stop i H->
  wpAny (model P w) X.A (pyNext (.ref it)) (fun r s1=>r=none/\Inv X jE σ H s1) E s
 self:∀(A:Around) (i:Nat) (s:Shared) (Q:Value->Shared->Prop) (E:Value->Shared->Prop),tn i s.heap->Q (.ref it) s->wpAny (model P w) A (pyIter (.ref it)) Q E s
abbrev TI:=St->Hp->(It->Hp->Prop)->Prop
def PIE (X:Cx)(jE:List (Addr×Obj))(σ:St)(tg:Expr)(R:It->Hp->Prop)(itv:Value)(s2:Shared):Prop:=
 ∃(it:Addr) (fp:List Addr) (tn:Nat->Heap->Prop) (J:It) (H':Hp),itv=.ref it/\Inv X jE σ H' s2/\Turn X.prog X.w X.K tg J fp it tn/\tn 0 s2.heap/\(∀b∈fp,WI X jE H' b)/\R J H'
def PI (X:Cx)(tg iter:Expr)(wi:TI):Prop:=
 ∀(jE:List (Addr×Obj)) (s:Shared) (σ:St) (H:Hp) (R:It->Hp->Prop),Inv X jE σ H s->wi σ H R->
  wpAny (model X.prog X.w) X.A (eval iter X.env) (fun v s1=>wpAny (model X.prog X.w) X.A (pyIter v) (PIE X jE σ tg R) X.xe s1) X.xe s
theorem ZkI {M : Model}{A : Around}{E : Value -> Shared -> Prop}{s : Shared}{tg : Expr}{it : Addr}{u : Value}{o : Obj}{n : String}{vs : Array Value}{Q : Unit -> Shared -> Prop}(ho : s.heap.get? it = some o)(hc : o.cls = .type n)(hd : o.data = .fields vs)
    (hn : ["enumerate", "zip", "dict_itemiterator", "dict_reverseitemiterator", "odict_iterator", "itertools.zip_longest", "itertools.pairwise"].contains n = false) (hQ : Q () s) : wpAny M A (letOwnedTupleGo tg (.ref it) u) Q E s := by
  unfold letOwnedTupleGo
  cases tg <;> first
    | exact wpAny_pure hQ
    | (cases u <;> first
        | exact wpAny_pure hQ
        | (refine wpAny_bind (wpAny_load ho ?_)
           rw[hc, hd];show wpAny M A (if (["enumerate", "zip", "dict_itemiterator", "dict_reverseitemiterator", "odict_iterator", "itertools.zip_longest", "itertools.pairwise"].contains n && vs[0]? == some (rawInt _)) = true then _ else _) Q E s;rw[if_neg (by intro h; rw[hn, Bool.false_and] at h; cases h)];exact wpAny_pure hQ))
def Itl (K:qm)(a:Addr):It:=
 ⟨fun i H=>∃xs x,ZH K H a xs/\xs[i]?=some x,fun i H x H'=>H'=H/\∀xs,ZH K H a xs->xs[i]?=some x,fun i H=>∃xs,ZH K H a xs/\xs.length<=i⟩
def Itt (K:qm)(a:Addr):It:=
 ⟨fun i H=>∃xs x,ZT K H a xs/\xs[i]?=some x,fun i H x H'=>H'=H/\∀xs,ZT K H a xs->xs[i]?=some x,fun i H=>∃xs,ZT K H a xs/\xs.length<=i⟩
def B5 (lo:Int)(n:Nat):It:=⟨fun i _=>i<n,fun i H x H'=>H'=H/\x=.int (lo+i),fun i _=>n<=i⟩
theorem Zjs {P:Program}{w:World}{K:qm}{tg:Expr}(a it:Addr):Turn P w K tg (Itl K a) [it] it (fun i h=>h.IsListIter it a i) where
 mem:=by simp
 obj:=fun i h st b hb=>by
  have e:b=it:=by simpa using hb
  subst e;obtain⟨o,e,c,d⟩:=st;exact⟨o,e,fun v z=>by rw[d] at z;cases z⟩
 keep:=fun i h h' st k=>st.at fun o e=>k it (by simp) o e
 item:=by
  intro X hP hw hK hc i jE s σ H E I hf st hg;subst hP hw hK;obtain⟨xs,x,hq,hx⟩:=hg;obtain⟨jG,rv,p,hz⟩:=I.list hq;obtain⟨u,hu,ru⟩:=rv.get hx;obtain⟨f0,f1,f2,f3,f4,f5⟩:=hf it (by simp);refine wpAny_pyNext_list_item st p.isList (x:=u) (by simpa using hu) fun h' st' sb=>?_;have I1:Inv X jE σ H { s with heap:=h' }:=I.turned (t':=s.toks) (fun b o hb e=>(sb.2 b hb).trans e) f0 f1 f3 f4 f5;obtain⟨o,e,c,d⟩:=id st';exact⟨u,rfl,ZkI (s:={ s with heap:=h' }) e c d (by decide) ⟨x,H,I1,ru,⟨rfl,fun ys hy=>by rw[I.list_inj hy hq];exact hx⟩,st',fun b hb=>(hf b hb).1⟩⟩
 done:=by
  intro X hP hw hK hc i jE s σ H E I hf st hg;subst hP hw hK;obtain⟨xs,hq,hx⟩:=hg;obtain⟨jG,rv,p,hz⟩:=I.list hq;obtain⟨f0,f1,f2,f3,f4,f5⟩:=hf it (by simp);have hl:=rv.length;exact wpAny_pyNext_list_end (I.ok.hd hc) st p.isList (by simp;omega) fun h' eb=>⟨rfl,I.turned (t':=s.toks) (fun b o hb e=>eb b o hb e) f0 f1 f3 f4 f5⟩
 self:=fun _ _ _ _ _ st h=>wpAny_pyIter_listiter st h
theorem Zhy {P:Program}{w:World}{K:qm}{tg:Expr}(a it:Addr):Turn P w K tg (Itt K a) [it] it (fun i h=>h.IsTupleIter it a i) where
 mem:=by simp
 obj:=fun i h st b hb=>by
  have e:b=it:=by simpa using hb
  subst e;obtain⟨o,e,c,d⟩:=st;exact⟨o,e,fun v z=>by rw[d] at z;cases z⟩
 keep:=fun i h h' st k=>st.at fun o e=>k it (by simp) o e
 item:=by
  intro X hP hw hK hc i jE s σ H E I hf st hg;subst hP hw hK;obtain⟨xs,x,hq,hx⟩:=hg;obtain⟨jG,rv,p,hz⟩:=I.tuple hq;obtain⟨u,hu,ru⟩:=rv.get hx;obtain⟨f0,f1,f2,f3,f4,f5⟩:=hf it (by simp);refine wpAny_pyNext_tuple_item st (show s.heap.IsTuple a jG.toArray from p) (x:=u) (by simpa using hu) fun h' st' sb=>?_;have I1:Inv X jE σ H { s with heap:=h' }:=I.turned (t':=s.toks) (fun b o hb e=>(sb.2 b hb).trans e) f0 f1 f3 f4 f5;obtain⟨o,e,c,d⟩:=id st';exact⟨u,rfl,ZkI (s:={ s with heap:=h' }) e c d (by decide) ⟨x,H,I1,ru,⟨rfl,fun ys hy=>by rw[I.tuple_inj hy hq];exact hx⟩,st',fun b hb=>(hf b hb).1⟩⟩
 done:=by
  intro X hP hw hK hc i jE s σ H E I hf st hg;subst hP hw hK;obtain⟨xs,hq,hx⟩:=hg;obtain⟨jG,rv,p,hz⟩:=I.tuple hq;obtain⟨f0,f1,f2,f3,f4,f5⟩:=hf it (by simp);have hl:=rv.length;exact wpAny_pyNext_tuple_end (I.ok.hd hc) st (show s.heap.IsTuple a jG.toArray from p) (by simp;omega) fun h' eb=>⟨rfl,I.turned (t':=s.toks) (fun b o hb e=>eb b o hb e) f0 f1 f3 f4 f5⟩
 self:=fun _ _ _ _ _ st h=>wpAny_pyIter_tupleiter st h
theorem Zhz {P:Program}{w:World}{K:qm}{tg:Expr}(it:Addr)(lo:Int)(n:Nat):Turn P w K tg (B5 lo n) [it] it (fun i h=>IsRangeIter h it (lo+(i:Nat)*1) ((n:Int)-(i:Nat)) 1) where
 mem:=by simp
 obj:=fun i h st b hb=>by
  have e:b=it:=by simpa using hb
  subst e;exact⟨_,st,fun v z=>by
   have z':Data.fields _=Data.cell v:=z
   cases z'⟩
 keep:=fun i h h' st k=>k it (by simp) _ st
 item:=by
  intro X hP hw hK hc i jE s σ H E I hf st hg;subst hP hw hK;obtain⟨f0,f1,f2,f3,f4,f5⟩:=hf it (by simp);have W:=Walks.range (prog:=X.prog) (w:=X.w) (I.ok.hd hc) it lo 1 n;refine W.item i s _ _ hg st fun v h' tk hv st' kk=>?_;obtain⟨t,rfl⟩:=hv;have I1:Inv X jE σ H { s with heap:=h',toks:=tk }:=I.turned (fun b o hb e=>kk b o (by simpa using hb) e) f0 f1 f3 f4 f5;refine⟨_,rfl,ZkI (s:={ s with heap:=h',toks:=tk }) (n:="range_iterator") st' rfl rfl (by decide) ⟨.int (lo+i),H,I1,⟨t,?_⟩,⟨rfl,rfl⟩,st',fun b hb=>(hf b hb).1⟩⟩;rw[Int.mul_one]
 done:=by
  intro X hP hw hK hc i jE s σ H E I hf st hg;subst hP hw hK;obtain⟨f0,f1,f2,f3,f4,f5⟩:=hf it (by simp);exact wpAny_pyNext_range_end (I.ok.hd hc) st (by have:n<=i:=hg;omega) fun h' eb=>⟨rfl,I.turned (t':=s.toks) (fun b o hb e=>eb b o hb e) f0 f1 f3 f4 f5⟩
 self:=fun _ _ _ _ _ st h=>wpAny_pyIter_rangeiter st h
end L2
namespace L2
section
variable {X:Cx}{tg:Expr}
def Zpr (K:qm)(tl:TE):TI:=fun σ H R=>tl σ H fun x H1=>∃a,x=.ref a/\(∃xs,ZH K H1 a xs)/\R (Itl K a) H1
def iTup (K:qm)(tl:TE):TI:=fun σ H R=>tl σ H fun x H1=>∃a,x=.ref a/\(∃xs,ZT K H1 a xs)/\R (Itt K a) H1
theorem ZmD {l:Expr}{tl:TE}(hl:PE X l tl):PI X tg l (Zpr X.K tl):=by
 intro jE s σ H R I h;refine ZJ (hl jE s σ H _ I h) fun v s1 ⟨x,H1,I1,r1,q1⟩=>?_;obtain⟨a,e,⟨xs,hq⟩,q⟩:=q1;subst e
 cases r1
 obtain⟨jG,rv,p,hz⟩:=I1.list hq;refine wpAny_pyIter_list p.isList ?_;refine⟨s1.heap.objs.size,[s1.heap.objs.size],_,_,H1,rfl,I1.kept (t':=s1.toks) fun b o e=>qf _ e,Zjs a _,⟨_,qz _ rfl,rfl,rfl⟩,fun b hb=>?_,q⟩;have e:b=s1.heap.objs.size:=by simpa using hb
 subst e;exact I1.fpOk (qu _) (I1.hok.fresh (qu _))
theorem Zoq {l:Expr}{tl:TE}(hl:PE X l tl):PI X tg l (iTup X.K tl):=by
 intro jE s σ H R I h;refine ZJ (hl jE s σ H _ I h) fun v s1 ⟨x,H1,I1,r1,q1⟩=>?_;obtain⟨a,e,⟨xs,hq⟩,q⟩:=q1;subst e
 cases r1
 obtain⟨jG,rv,p,hz⟩:=I1.tuple hq;refine wpAny_pyIter_tuple (show s1.heap.IsTuple a jG.toArray from p) ?_;refine⟨s1.heap.objs.size,[s1.heap.objs.size],_,_,H1,rfl,I1.kept (t':=s1.toks) fun b o e=>qf _ e,Zhy a _,⟨_,qz _ rfl,rfl,rfl⟩,fun b hb=>?_,q⟩;have e:b=s1.heap.objs.size:=by simpa using hb
 subst e;exact I1.fpOk (qu _) (I1.hok.fresh (qu _))
theorem Zgg {jE:List (Addr×Obj)}{σ:St}{H:Hp}{s:Shared}{R:It->Hp->Prop}{E:Value->Shared->Prop}{lo hi:Int}{t u v:Tok}{tk:Nat}(I:Inv X jE σ H s)(h1:-(2 ^ 62)<=lo)(h2:lo<2 ^ 62)(h3:-(2 ^ 62)<=hi)(h4:hi<2 ^ 62)
  (q:R (B5 lo (hi-lo).toNat) H):wpAny (model X.prog X.w) X.A (pyIter (.ref s.heap.objs.size)) (PIE X jE σ tg R) E { s with heap:=s.heap.push { cls:=.type "range",data:=.fields #[.int lo t,.int hi u,.int 1 v] },toks:=tk }:=by
 refine wpAny_pyIter_range (IsRange.new ..) (small_one h1 h2 h3 h4) ?_;have I1:Inv X jE σ H { s with heap:=s.heap.push { cls:=.type "range",data:=.fields #[.int lo t,.int hi u,.int 1 v] },toks:=tk }:=I.kept fun b o e=>qf _ e;refine⟨(s.heap.push { cls:=.type "range",data:=.fields #[.int lo t,.int hi u,.int 1 v] }).objs.size,[(s.heap.push { cls:=.type "range",data:=.fields #[.int lo t,.int hi u,.int 1 v] }).objs.size],_,_,H,rfl,
  I1.kept (t':=tk) fun b o e=>qf _ e,Zhz _ lo (hi-lo).toNat,?_,fun b hb=>?_,q⟩
 ·have e1:lo+((0:Nat):Int)*1=lo:=by simp
  have e2:(((hi-lo).toNat:Nat):Int)-((0:Nat):Int)=yC lo hi 1:=by rw[rangeSize_one];split <;> omega
  show IsRangeIter _ _ (lo+((0:Nat):Int)*1) ((((hi-lo).toNat:Nat):Int)-((0:Nat):Int)) 1;rw[e1,e2];exact qz _ rfl
 ·have e:b=(s.heap.push { cls:=.type "range",data:=.fields #[.int lo t,.int hi u,.int 1 v] }).objs.size:=by simpa using hb
  subst e;exact I1.fpOk (qu _) (I1.hok.fresh (qu _))
def Zps (ta:TA):TI:=fun σ H R=>ta σ H fun vs H1=>∃j:Int,vs=[.int j]/\-(2 ^ 62)<=j/\j<2 ^ 62/\R (B5 0 j.toNat) H1
def Zpt (ta:TA):TI:=fun σ H R=>ta σ H fun vs H1=>∃i j:Int,vs=[.int i,.int j]/\(-(2 ^ 62)<=i/\i<2 ^ 62/\-(2 ^ 62)<=j/\j<2 ^ 62)/\R (B5 i (j-i).toNat) H1
theorem Zey {a:Expr}{ta:TA}{p pos:Pos}(hg:Gl X "range")(hm:X.mg "range" = none)(ha:PA X [a] ta)(hs:starEach [a] X.env=[(false,eval a X.env)]:=by rfl):PI X tg (.Call (.Name "range" p) [a] [] pos) (Zps ta):=by
 intro jE s σ H R I h;refine Call_ (Ub I hg hm boot_range (zM (ZJ (ha pos jE s σ H _ I h) fun us s1 ⟨vs,H1,I1,r1,q1⟩=>?_) hs rfl));obtain⟨j,e,q1,q2,q⟩:=q1;subst e
 cases r1 with
 | cons r rr=>
  cases rr
  obtain⟨t,rfl⟩:=r;exact call_range_1 (Zgg I1 (by omega) (by omega) q1 q2 (by simpa using q))
theorem Zjt {a b:Expr}{ta:TA}{p pos:Pos}(hg:Gl X "range")(hm:X.mg "range" = none)(ha:PA X [a,b] ta)(hs:starEach [a,b] X.env=[(false,eval a X.env),(false,eval b X.env)]:=by rfl)(hs2:starEach [b] X.env=[(false,eval b X.env)]:=by rfl) :
  PI X tg (.Call (.Name "range" p) [a,b] [] pos) (Zpt ta):=by
 intro jE s σ H R I h;refine Call_ (Ub I hg hm boot_range (zM (ZJ (ha pos jE s σ H _ I h) fun us s1 ⟨vs,H1,I1,r1,q1⟩=>?_) (by rw[hs,hs2]) (by rw[hs2];rfl)));obtain⟨i,j,e,⟨q1,q2,q3,q4⟩,q⟩:=q1;subst e
 cases r1 with
 | cons r rr=>
  cases rr with
  | cons r' rr=>
   cases rr
   obtain⟨t,rfl⟩:=r;obtain⟨t',rfl⟩:=r';exact call_range_2 (Zgg I1 q1 q2 q3 q4 q)
def tFor (wi:TI)(g:TG)(tb:TS):TS:=fun D σ H=>wi σ H fun J H1=>∃W:Nat->Nat->St->Hp->Prop,(∃m,W 0 m σ H1)/\∀i m σ H,W i m σ H->
 (J.stop i H/\D.nx σ H)∨(J.go i H/\∃N:St->Hp->Prop,(∀σ' H',N σ' H'->∃m',m'<m/\W (i+1) m' σ' H')/\∀x H',J.yld i H x H'->g x σ H' fun σ2 H2=>tb { D with nx:=N,ct:=N,bk:=D.nx } σ2 H2)
def BG (fp:List Addr)(h:Heap):List (Addr×Obj):=fp.filterMap fun b=>(h.get? b).map fun o=>(b,o)
theorem JI {fp:List Addr}{h:Heap}{b:Addr}{o:Obj}(hb:b∈fp)(e:h.get? b=some o):(b,o)∈BG fp h:=qae.mpr ⟨b,hb,by rw[e];rfl⟩
theorem Zju {fp:List Addr}{h:Heap}{p:Addr×Obj}(hp:p∈BG fp h):p.1∈fp/\h.get? p.1=some p.2:=by
 obtain⟨b,hb,e⟩:=qae.mp hp
 cases q:h.get? b with
 | none=>rw[q] at e;cases e
 | some o=>
  rw[q] at e;have e':(b,o)=p:=zf e;subst e';exact⟨hb,q⟩
theorem Inv.pinned {jE:List (Addr×Obj)}{σ:St}{H:Hp}{s:Shared}{fp:List Addr}(I:Inv X jE σ H s)(hf:∀b∈fp,WI X jE H b)(ho:∀b∈fp,∃o,s.heap.get? b=some o/\∀v,o.data≠.cell v):Inv X (jE++BG fp s.heap) σ H s:=
 I.pins_of fun p hp=>(zg.mp hp).elim (fun z=>I.pin p (qw _ z)) fun z=>by
  obtain⟨hb,e⟩:=Zju z;obtain⟨f0,f1,f2,_⟩:=hf p.1 hb;obtain⟨o,e',d⟩:=ho p.1 hb;rw[e] at e';cases e';exact⟨e,f0,f1,f2,d⟩
theorem Inv.unpinned {jE pl:List (Addr×Obj)}{σ:St}{H:Hp}{s:Shared}(I:Inv X (jE++pl) σ H s):Inv X jE σ H s:=I.pins_of fun p hp=>I.pin p (qw _ (zr _ hp))
theorem Zor {iter:Expr}{body:List Stmt}{wi:TI}{g:TG}{tb:TS}{pos:Pos}(hp:PassesOwn (model X.prog X.w) X.A X.env X.xe)(hc:X.calm=true)(hi:PI X tg iter wi)(hg:PG X tg g)(hb:WU X body tb)
  (hs:∀x,foldedSetIterable iter X.env x=pure x:=by intro _;rfl):PS X (.For tg iter body [] pos) (tFor wi g tb):=by
 intro jE s σ H D I h;refine wpAny_For (ZJ (hi jE s σ H _ I h) fun v s1 h1=>ZJ h1 fun itv s2 h2=>?_) hs;obtain⟨it,fp,tn,J,H2,e,I2,T,jV,f2,W,⟨m0,w0⟩,turn⟩:=h2;subst e
 -- what stays true of the iterator's objects through the loop
 have stat:∀{H':Hp},(∀b∈fp,H' b=none)->∀b∈fp,WI X jE H' b:=fun hn b hb=>⟨hn b hb,(f2 b hb).2⟩;refine codeAny_forLoop_any (fun n s'=>∃i σ' H',Inv X jE σ' H' s'/\tn i s'.heap/\(∀b∈fp,H' b=none)/\W i n σ' H') ?_ m0 ⟨0,σ,H2,I2,jV,fun b hb=>(f2 b hb).1,w0⟩;rintro n s3 ⟨i,σ3,H3,I3,st3,fr3,w3⟩;rcases turn i n σ3 H3 w3 with⟨stop,qn⟩ | ⟨go,N,hN,step⟩
 ·refine wpAny_passesOwn hp (ZJ (T.done X rfl rfl rfl hc i jE s3 σ3 H3 X.xe I3 (stat fr3) st3 stop) fun r s4 ⟨hr,I4⟩=>?_)
  subst hr;exact wpAny_execs_nil ⟨σ3,H3,I4,qn⟩
 ·refine wpAny_passesOwn hp (ZJ (T.item X rfl rfl rfl hc i jE s3 σ3 H3 X.xe I3 (stat fr3) st3 go) fun r s4 ⟨u,hr,h4⟩=>?_)
  subst hr;refine wpAny_passesOwn hp (ZJ h4 fun _ s5 ⟨x,H5,I5,r5,y5,st5,fr5⟩=>?_);have I5':=I5.pinned (stat fr5) (T.obj _ _ st5);refine wpAny_passesOwn hp (ZJ (hg _ s5 σ3 H5 x u _ I5' r5 (step x H5 y5)) fun _ s6 ⟨σ6,H6,I6,q6⟩=>?_);refine wpAny_passesOwn hp (ZJ (hb _ s6 σ6 H6 _ I6 q6) fun f s7 q7=>?_);have again:∀{σ7:St} {H7:Hp},Inv X (jE++BG fp s5.heap) σ7 H7 s7->N σ7 H7->∃m,m<n/\∃i σ' H',Inv X jE σ' H' s7/\tn i s7.heap/\(∀b∈fp,H' b=none)/\W i m σ' H':=fun {σ7 H7} I7 n7=>by
   obtain⟨m',hm,w7⟩:=hN σ7 H7 n7;refine⟨m',hm,i+1,σ7,H7,I7.unpinned,T.keep _ _ _ st5 fun b hb o e=>(I7.pin (b,o) (qw _ (qw _ (JI hb e)))).1,fun b hb=>?_,w7⟩;obtain⟨o,e,d⟩:=T.obj _ _ st5 b hb;exact(I7.pin (b,o) (qw _ (qw _ (JI hb e)))).2.1
  cases f with
  | next=>obtain⟨σ7,H7,I7,n7⟩:=q7;exact again I7 n7
  | cont=>obtain⟨σ7,H7,I7,n7⟩:=q7;exact again I7 n7
  | brk=>obtain⟨σ7,H7,I7,q7⟩:=q7;exact⟨σ7,H7,I7.unpinned,q7⟩
  | ret v=>obtain⟨x7,σ7,H7,I7,r7,q7⟩:=q7;exact⟨x7,σ7,H7,I7.unpinned,r7,q7⟩
end
end L2
namespace L2
abbrev R2:=V->V->Hp->VK->Prop
def YC (X:Cx)(f:Value->Value->Sem Value)(r:R2):Prop:=
 ∀(jE:List (Addr×Obj)) (s:Shared) (σ:St) (H:Hp) (x y:V) (v u:Value) (Q:VK),Inv X jE σ H s->ZK x v->ZK y u->r x y H Q->
  wpAny (model X.prog X.w) X.A (f v u) (EP X jE σ Q) X.xe s
def UnR (X:Cx)(f:Value->Sem Value)(r:V->Hp->VK->Prop):Prop:=
 ∀(jE:List (Addr×Obj)) (s:Shared) (σ:St) (H:Hp) (x:V) (v:Value) (Q:VK),Inv X jE σ H s->ZK x v->r x H Q->
  wpAny (model X.prog X.w) X.A (f v) (EP X jE σ Q) X.xe s
def Y9 (X:Cx)(f:Value)(r:List V->Hp->VK->Prop):Prop:=
 ∀(jE:List (Addr×Obj)) (s:Shared) (σ:St) (H:Hp) (xs:List V) (us:List Value) (Q:VK),Inv X jE σ H s->ZI xs us->r xs H Q->
  wpAny (model X.prog X.w) X.A (call f us) (EP X jE σ Q) X.xe s
def WV (r:R2)(ta tb:TE):TE:=fun σ H Q=>ta σ H fun x H1=>tb σ H1 fun y H2=>r x y H2 Q
def tUn (r:V->Hp->VK->Prop)(ta:TE):TE:=fun σ H Q=>ta σ H fun x H1=>r x H1 Q
def rI (C:Int->Int->Prop)(g:Int->Int->V):R2:=fun x y H Q=>∃i j,x=.int i/\y=.int j/\C i j/\Q (g i j) H
def VE (g:Int->Int->V):R2:=fun x y H Q=>∃i j,x=.int i/\y=.int j/\Q (g i j) H
def rU (g:Int->V):V->Hp->VK->Prop:=fun x H Q=>∃i,x=.int i/\Q (g i) H
section
variable {X:Cx}{a b c:Expr}{ta tb tc:TE}{pos:Pos}
theorem binT (ha:PE X a ta)(hb:PE X b tb){jE:List (Addr×Obj)}{s:Shared}{σ:St}{H:Hp}{R:V->V->Hp->Prop}(I:Inv X jE σ H s)
  (h:ta σ H fun x H1=>tb σ H1 fun y H2=>R x y H2) {Q:Value->Shared->Prop} {f:Value->Value->Sem Value}
  (hf:∀v u s2 x y H2,Inv X jE σ H2 s2->ZK x v->ZK y u->R x y H2->wpAny (model X.prog X.w) X.A (f v u) Q X.xe s2) :
  wpAny (model X.prog X.w) X.A (eval a X.env) (fun v s₁=>wpAny (model X.prog X.w) X.A (eval b X.env) (fun u s₂=>wpAny (model X.prog X.w) X.A (f v u) Q X.xe s₂) X.xe s₁) X.xe s:=by
 refine ZJ (ha jE s σ H _ I h) fun v s1 ⟨x,H1,I1,r1,q1⟩=>?_;refine ZJ (hb jE s1 σ H1 _ I1 q1) fun u s2 ⟨y,H2,I2,r2,q2⟩=>?_;exact hf v u s2 x y H2 I2 r1 r2 q2
theorem Ue {op:Operator}{r:R2}(ho:YC X (binaryOp op) r)(ha:PE X a ta)(hb:PE X b tb):PE X (.BinOp a op b pos) (WV r ta tb):=by
 intro jE s σ H Q I h;exact wpAny_BinOp (binT ha hb I h fun v u s2 x y H2 I2 rx ry q=>ho jE s2 σ H2 x y v u Q I2 rx ry q)
theorem Zpu {op:UnaryOp}{r:V->Hp->VK->Prop}(ho:UnR X (unaryOp op) r)(ha:PE X a ta):PE X (.UnaryOp op a pos) (tUn r ta):=by
 intro jE s σ H Q I h;exact UnaryOp_ (ZJ (ha jE s σ H _ I h) fun v s1 ⟨x,H1,I1,r1,q1⟩=>ho jE s1 σ H1 x v Q I1 r1 q1)
theorem opI {f:Value->Value->Sem Value}{C:Int->Int->Prop}{g:Int->Int->Int}
  (rule:∀(i j:Int) (t u:Tok) (s:Shared) (Q:Value->Shared->Prop) (E:Value->Shared->Prop),C i j->Q (.int (g i j) s.toks) { s with toks:=s.toks+1 }->wpAny (model X.prog X.w) X.A (f (.int i t) (.int j u)) Q E s) :
  YC X f (rI C fun i j=>.int (g i j)):=by
 intro jE s σ H x y v u Q I rx ry h;obtain⟨i,j,rfl,rfl,hc,q⟩:=h;obtain⟨t,rfl⟩:=rx;obtain⟨t',rfl⟩:=ry;exact rule i j t t' s _ _ hc ⟨.int (g i j),H,I.tok _,⟨_,rfl⟩,q⟩
theorem opI0 {f:Value->Value->Sem Value}{g:Int->Int->Int}
  (rule:∀(i j:Int) (t u:Tok) (s:Shared) (Q:Value->Shared->Prop) (E:Value->Shared->Prop),Q (.int (g i j) s.toks) { s with toks:=s.toks+1 }->wpAny (model X.prog X.w) X.A (f (.int i t) (.int j u)) Q E s) :
  YC X f (VE fun i j=>.int (g i j)):=by
 intro jE s σ H x y v u Q I rx ry h;obtain⟨i,j,rfl,rfl,q⟩:=h;obtain⟨t,rfl⟩:=rx;obtain⟨t',rfl⟩:=ry;exact rule i j t t' s _ _ ⟨.int (g i j),H,I.tok _,⟨_,rfl⟩,q⟩
theorem opB0 {f:Value->Value->Sem Value}{g:Int->Int->Bool}
  (rule:∀(i j:Int) (t u:Tok) (s:Shared) (Q:Value->Shared->Prop) (E:Value->Shared->Prop),Q (.bool (g i j)) s->wpAny (model X.prog X.w) X.A (f (.int i t) (.int j u)) Q E s) :
  YC X f (VE fun i j=>.bl (g i j)):=by
 intro jE s σ H x y v u Q I rx ry h;obtain⟨i,j,rfl,rfl,q⟩:=h;obtain⟨t,rfl⟩:=rx;obtain⟨t',rfl⟩:=ry;exact rule i j t t' s _ _ ⟨.bl (g i j),H,I,rfl,q⟩
def CDiv (i j:Int):Prop:=0<j/\j<1073741824
def CPow (i j:Int):Prop:=0<=j/\j<=1000000/\i.natAbs<2 ^ 64
def CMul (i j:Int):Prop:=(-(2 ^ 64)<i/\i<2 ^ 64)∨(-(2 ^ 64)<j/\j<2 ^ 64)
theorem CMul.ok {i j:Int}(h:CMul i j):IntMulOk i j:=by
 rcases h with⟨h1,h2⟩ | ⟨h1,h2⟩
 ·exact .of_left (intBits_le_64 h1 h2)
 ·exact .of_right (intBits_le_64 h1 h2)
theorem ZhA:YC X (binaryOp .Add) (VE fun i j=>.int (i+j)):=opI0 fun _ _ _ _ _ _ _ q=>add_int q
theorem Zos:YC X (binaryOp .Sub) (VE fun i j=>.int (i-j)):=opI0 fun _ _ _ _ _ _ _ q=>sub_int q
theorem ZhB:YC X (binaryOp .Mult) (rI CMul fun i j=>.int (i*j)):=opI fun _ _ _ _ _ _ _ hc q=>mul_int q hc.ok
theorem ZmE:YC X (binaryOp .FloorDiv) (rI CDiv fun i j=>.int (i / j)):=opI fun i j _ _ _ _ _ hc q=>by
 have h1:(0:Int)<j:=hc.1;have h2:j<1073741824:=hc.2;exact floordiv_int (by omega) (by rw[Int.fdiv_eq_ediv_of_nonneg i (by omega)];exact q) (.inl (PyProof.noPylong_small (by omega)))
theorem Zfe:YC X (binaryOp .Mod) (rI (fun _ j=>0<j) fun i j=>.int (i % j)):=opI fun i j _ _ _ _ _ hc q=>by
 have h1:(0:Int)<j:=hc;exact mod_int' (by omega) (by rw[Int.fmod_eq_emod_of_nonneg i (by omega)];exact q)
theorem Zot:YC X (binaryOp .Pow) (rI CPow fun i j=>.int (i ^ j.toNat)):=opI fun _ _ _ _ _ _ _ hc q=>pow_int_small hc.1 hc.2.1 hc.2.2 q
theorem unI {f:Value->Sem Value}{g:Int->Int}
  (rule:∀(i:Int) (t:Tok) (s:Shared) (Q:Value->Shared->Prop) (E:Value->Shared->Prop),Q (.int (g i) s.toks) { s with toks:=s.toks+1 }->wpAny (model X.prog X.w) X.A (f (.int i t)) Q E s) :
  UnR X f (rU fun i=>.int (g i)):=by
 intro jE s σ H x v Q I rx h;obtain⟨i,rfl,q⟩:=h;obtain⟨t,rfl⟩:=rx;exact rule i t s _ _ ⟨.int (g i),H,I.tok _,⟨_,rfl⟩,q⟩
theorem Zou:UnR X (unaryOp .USub) (rU fun i=>.int (-i)):=unI fun _ _ _ _ _ q=>neg_int q
end
section
variable {X:Cx}{a b c:Expr}{ta tb tc:TE}{pos:Pos}
theorem ZkJ:YC X (compareOp .Lt) (VE fun i j=>.bl (decide (i<j))):=opB0 fun _ _ _ _ _ _ _ q=>lt_int q
theorem Zpv:YC X (compareOp .LtE) (VE fun i j=>.bl (decide (i<=j))):=opB0 fun _ _ _ _ _ _ _ q=>le_int q
theorem ZnK:YC X (compareOp .Gt) (VE fun i j=>.bl (decide (j<i))):=opB0 fun _ _ _ _ _ _ _ q=>gt_int q
theorem Zpw:YC X (compareOp .GtE) (VE fun i j=>.bl (decide (j<=i))):=opB0 fun _ _ _ _ _ _ _ q=>ge_int q
theorem YC.or {f:Value->Value->Sem Value}{r r':R2}(h:YC X f r)(h':YC X f r'):YC X f (fun x y H Q=>r x y H Q∨r' x y H Q):=by
 intro jE s σ H x y v u Q I rx ry q;rcases q with q | q
 ·exact h jE s σ H x y v u Q I rx ry q
 ·exact h' jE s σ H x y v u Q I rx ry q
theorem BH (b:Expr){op:CmpOp}(h:op≠.In:=by decide)(h2:op≠.NotIn:=by decide):behindInMarks op b=false:=by
 have e1:(op==CmpOp.In)=false:=by cases op <;> first | rfl | exact absurd rfl h
 have e2:(op==CmpOp.NotIn)=false:=by cases op <;> first | rfl | exact absurd rfl h2
 cases b <;> simp[behindInMarks,e1,e2]
theorem ZmF {op:CmpOp}{r:R2}(ho:YC X (compareOp op) r)(ha:PE X a ta)(hb:PE X b tb)(hm:behindInMarks op b=false):PE X (.Compare a [op] [b] pos) (WV r ta tb):=by
 intro jE s σ H Q I h;exact wpAny_Compare1 (binT ha hb I h fun v u s2 x y H2 I2 rx ry q=>ho jE s2 σ H2 x y v u Q I2 rx ry q) hm
def Zpx (t:TE):TT:=fun σ H Q=>t σ H fun x H'=>∃k,x=.bl k/\Q k H'
theorem Zdg {op:CmpOp}{r:R2}(ho:YC X (compareOp op) r)(ha:PE X a ta)(hb:PE X b tb)(hm:behindInMarks op b=false):PT X (.Compare a [op] [b] pos) (Zpx (WV r ta tb)):=by
 intro jE s σ H Q I h;refine wpAny_isTrue_Compare1 (ZJ (ha jE s σ H _ I h) fun v s1 ⟨x,H1,I1,r1,q1⟩=>ZJ (hb jE s1 σ H1 _ I1 q1) fun u s2 ⟨y,H2,I2,r2,q2⟩=>
  ZJ (ho jE s2 σ H2 x y v u _ I2 r1 r2 q2) fun c s3 ⟨z,H3,I3,r3,k,e,q3⟩=>?_) hm
 subst e
 cases r3
 exact wpAny_truthy_bool ⟨H3,I3,q3⟩
theorem BI:(sizeLine:Nat)<2 ^ 63:=by rw[sizeLine_eq];decide
theorem Xl {x:V}{us:List Value}(r:ZI [x] us):∃u,us=[u]/\ZK x u:=by
 cases r with
 | cons r1 r2=>cases r2;exact⟨_,rfl,r1⟩
theorem ZkK {x y:V}{us:List Value}(r:ZI [x,y] us):∃u w',us=[u,w']/\ZK x u/\ZK y w':=by
 cases r with
 | cons r1 r2=>
  cases r2 with
  | cons r3 r4=>cases r4;exact⟨_,_,rfl,r1,r3⟩
theorem Zjv (hc:X.calm=true):Y9 X (.builtin "max") (fun xs H Q=>∃i j,xs=[.int i,.int j]/\Q (.int (if j > i then j else i)) H):=by
 intro jE s σ H xs us Q I r h;obtain⟨i,j,rfl,q⟩:=h;obtain⟨u,w',rfl,⟨t,rfl⟩,⟨t',rfl⟩⟩:=ZkK r;refine max_two_ints (I.ok.hd hc) fun h' tk k=>⟨_,H,I.kept k,?_,q⟩;by_cases hj:j > i
 ·rw[if_pos hj,if_pos hj];exact⟨_,rfl⟩
 ·rw[if_neg hj,if_neg hj];exact⟨_,rfl⟩
theorem Zjw (hc:X.calm=true):Y9 X (.builtin "min") (fun xs H Q=>∃i j,xs=[.int i,.int j]/\Q (.int (if j<i then j else i)) H):=by
 intro jE s σ H xs us Q I r h;obtain⟨i,j,rfl,q⟩:=h;obtain⟨u,w',rfl,⟨t,rfl⟩,⟨t',rfl⟩⟩:=ZkK r;refine min_two_ints (I.ok.hd hc) fun h' tk k=>⟨_,H,I.kept k,?_,q⟩;by_cases hj:j<i
 ·rw[if_pos hj,if_pos hj];exact⟨_,rfl⟩
 ·rw[if_neg hj,if_neg hj];exact⟨_,rfl⟩
theorem Zjx:Y9 X (.type "int") (fun xs H Q=>(∃i,xs=[.int i]/\Q (.int i) H)∨∃k,xs=[.bl k]/\Q (.int (if k then 1 else 0)) H):=by
 intro jE s σ H xs us Q I r h;rcases h with⟨i,rfl,q⟩ | ⟨k,rfl,q⟩
 ·obtain⟨u,rfl,t,rfl⟩:=Xl r
  exact call_int_int ⟨.int i,H,I,⟨_,rfl⟩,q⟩
 ·obtain⟨u,rfl,r1⟩:=Xl r
  cases r1
  exact call_int_bool ⟨.int (if k then 1 else 0),H,I.tok _,⟨_,rfl⟩,q⟩
end
end L2
namespace L2
structure ObjM (h:Heap)(x dx C:Addr)(mA:Str->Option Value):Prop where
 obj:h.get? x=some (qbp C dx)
 ns:h.Ns1 dx mA
 ne:dx≠x
theorem Zjy {h:Heap}{dx:Addr}{mA:Str->Option Value}(n:h.Ns1 dx mA):∃od,h.get? dx=some od/\∀name,qbA name od=some (mA name):=by
 obtain⟨o,es,ep,ho,hd,hk,_,hm⟩:=n;refine⟨o,ho,fun name=>?_⟩;have e:=hm name;unfold nsFind findBy at e;rw[<-Array.find?_toList] at e;unfold qbA;rw[hd];dsimp only;split
 ·rename_i y q
  rw[q] at e;exact congrArg some e
 ·rename_i q
  rw[q] at e;have a:es.toList.any (·.refKey)=false:=by
   rw[List.any_eq_false];intro y hy;obtain⟨z,t,hkey⟩:=hk y (Array.mem_toList_iff.mp hy);simp[DictEntry.refKey,hkey]
  have a':¬es.toList.any (·.refKey)=true:=by rw[a];exact z8
  rw[if_neg a'];exact congrArg some e
theorem ObjM.look {h:Heap}{x dx C:Addr}{mA:Str->Option Value}(I:ObjM h x dx C mA):∃od,PySem.W.InstAt h x (qbp C dx) C (some od)/\∀name,qbA name od=some (mA name):=
 let ⟨od,ho,hl⟩:=Zjy I.ns
 ⟨od,⟨I.obj,rfl,rfl,ho⟩,hl⟩
section
variable {prog:Program}{w:World}{A:Around}{E:Value->Shared->Prop}{s:Shared}{K:qm}{x dx C f:Addr}{mA:Str->Option Value}{name:Str}{v:Value}
end
theorem jv {v:V}{o:Option Value}(r:VP (some v) o):∃u,o=some u/\ZK v u:=by
 cases o with
 | none=>exact(show False from r).elim
 | some u=>exact⟨u,rfl,r⟩
section
variable {P:Program}{w:World}{H H':Hp}{h h':Heap}{a C dx:Addr}{fs fs':List (Str×V)}
theorem ZmG (hok:YJ P w H h)(e:H a=some (.ins C dx fs)):∃mA,ObjM h a dx C mA/\(∀f,VP (fs.lookup f) (mA f))/\PySem.Within mA (fs.map (·.1))/\fs.length<=1000/\H dx=some (.own a):=by
 obtain⟨d,z,ne,ob,mA,n,r,q⟩:=(show YI P w H h a (.ins C dx fs) from hok a _ e);exact⟨mA,⟨ob,n,ne⟩,r,q,z,d⟩
end
structure Cls (K:qm)(C:Addr):Prop where
 pg:PySem.W.plainGet K C Str.empty=true
 hd:PySem.W.hasDictIn K C=true
 po:PySem.W.plainOver K C=true
 sa:PySem.W.findIn K (.ref C) "__setattr__" = some (some (.builtin "object.__setattr__"))
theorem Cls.get {K:qm}{C:Addr}(c:Cls K C)(f:Str):PySem.W.plainGet K C f=true:=c.pg
section
variable {X:Cx}{jE:List (Addr×Obj)}{σ:St}{H:Hp}{s:Shared}{a C dx:Addr}{fs:List (Str×V)}{f:Str}{v:V}{A:Around}{E:Value->Shared->Prop}
end
section
variable {X:Cx}{o e value:Expr}{f:Str}{pos pos' tpos:Pos}{ta tv:TE}
end
section
variable {X:Cx}{jE:List (Addr×Obj)}{σ:St}{H:Hp}{s:Shared}{A:Around}{E:Value->Shared->Prop}{Q:Value->Shared->Prop}{c:Value}{b:Bool}
inductive TyOf (K:qm)(H:Hp):V->Value->Prop where
 | non:TyOf K H .non (.type "NoneType")
 | bl (x:Bool):TyOf K H (.bl x) (.type "bool")
 | int (i:Int):TyOf K H (.int i) (.type "int")
 | str (x:Str):TyOf K H (.str x) (.type "str")
 | flt (x:UInt64):TyOf K H (.flt x) (.type "float")
 | lst {a:Addr} {xs:List V} (e:H a=some (.lst xs)):TyOf K H (.ref a) (.type "list")
 | frz {a:Addr} {o:Obj} {xs:List V} (e:H a=some (.frz o (.lst xs))):TyOf K H (.ref a) (.type "list")
 | tup {a:Addr} {xs:List V} (e:H a=some (.tup xs)):TyOf K H (.ref a) (.type "tuple")
 | dK {a:Addr} {kvs:List (Zy×V)} (e:H a=some (.dK kvs)):TyOf K H (.ref a) (.type "dict")
 | dT {a:Addr} {kvs:List (List Zy×V)} (e:H a=some (.dT kvs)):TyOf K H (.ref a) (.type "dict")
 | ins {a C dx:Addr} {fs:List (Str×V)} (e:H a=some (.ins C dx fs)) (cl:Cls K C) (ha:PySem.W.findIn K (.ref C) "__class__" = some (some (.builtin "object.__class__")))
   (hn:PySem.W.specialIn K (.builtin "object.__class__") "__get__" = some (some (.builtin "getset_descriptor.__get__"))) (htk:PySem.W.takesIn K (.builtin "object.__class__")=some true)
   (hm:PySem.W.mroIn K C (.type "object")=some true):TyOf K H (.ref a) (.ref C)
theorem Zjz {x:V}{u t:Value}(I:Inv X jE σ H s)(rx:ZK x u)(ty:TyOf X.K H x t)(e:PySem.W.kitOne X.K t c=some b)(h:∀tk,Q (.bool b) { s with toks:=tk }) :
  wpAny (model X.prog X.w) A (call (.builtin "isinstance") [u,c]) Q E s:=by
 cases ty with
 | non=>cases (show u=qR from rx);exact zL PySem.W.kitx_none I.kIn ym e (fun z=>nomatch z) h
 | bl y=>cases (show u=yf y from rx);exact zL PySem.W.kitx_bool I.kIn ym e (fun z=>nomatch z) h
 | int i=>obtain⟨t,q⟩:=(show ∃t,u=yV i t from rx);cases q;exact zL PySem.W.kitx_int I.kIn ym e (fun z=>nomatch z) h
 | str y=>obtain⟨t,q⟩:=(show ∃t,u=qb0 y t from rx);cases q;exact zL PySem.W.kitx_str I.kIn ym e (fun z=>nomatch z) h
 | flt y=>obtain⟨t,q⟩:=(show ∃t,u=Value.float y t from rx);cases q;exact zL PySem.W.kitx_float I.kIn ym e (fun z=>nomatch z) h
 | @lst a xs ea=>
  cases (show u=qK a from rx)
  obtain⟨_,_,n,_,h1⟩:=(show YI X.prog X.w H s.heap a (.lst xs) from I.hok a _ ea);exact zL PySem.W.kitx_list I.kIn ⟨_,h1,rfl⟩ e (fun z=>nomatch z) h
 | @frz a ob xs ea=>
  cases (show u=qK a from rx)
  obtain⟨_,_,_,n,_,h1⟩:=(show YI X.prog X.w H s.heap a (.frz ob (.lst xs)) from I.hok a _ ea);exact zL PySem.W.kitx_list I.kIn ⟨_,h1,rfl⟩ e (fun z=>nomatch z) h
 | @tup a xs ea=>
  cases (show u=qK a from rx)
  obtain⟨_,_,_,p⟩:=(show YI X.prog X.w H s.heap a (.tup xs) from I.hok a _ ea);obtain⟨o,h1,h2,_⟩:=p;exact zL PySem.W.kitx_tuple I.kIn ⟨o,h1,h2.1⟩ e (fun z=>nomatch z) h
 | @dK a kvs ea=>
  cases (show u=qK a from rx)
  obtain⟨_,_,vs,_,p⟩:=(show YI X.prog X.w H s.heap a (.dK kvs) from I.hok a _ ea);obtain⟨o,es,ep,h1,h2,_⟩:=p;exact zL PySem.W.kitx_dict I.kIn ⟨o,h1,h2.1⟩ e (fun z=>nomatch z) h
 | @dT a kvs ea=>
  cases (show u=qK a from rx)
  obtain⟨_,_,xs,_,o,es,ep,h1,h2,_⟩:=(show YI X.prog X.w H s.heap a (.dT kvs) from I.hok a _ ea);exact zL PySem.W.kitx_dict I.kIn ⟨o,h1,h2.1⟩ e (fun z=>nomatch z) h
 | @ins a C dx fs ea cl ha hn htk hm=>
  cases (show u=qK a from rx)
  obtain⟨mA,O,_⟩:=ZmG I.hok ea;obtain⟨od,J,_⟩:=O.look;exact zL (PySem.W.kitx_own (cl.get _) cl.hd ha hn htk hm) I.kIn J e (fun z=>nomatch z) h
end
end L2
namespace L2
structure Room (k:Nat)(A:Around):Prop where
 hd:A.handled=none
 dp:A.depth+3*k+5<recursionLimit
 un:A.units+16*k+200<cLine
 gd:A.guards=some []
theorem Room.mono {j k:Nat}{A:Around}(r:Room k A)(h:j<=k):Room j A:=⟨r.hd,by have:=r.dp;omega,by have:=r.un;omega,r.gd⟩
theorem Room.deeper {k:Nat}{A:Around}(r:Room (k+1) A)(env:Env):Room k (A.deeper env):=
 ⟨r.hd,by have:=r.dp;show A.depth+1+3*k+5<_;omega,by have:=r.un;show A.units+3+16*k+200<_;omega,r.gd⟩
theorem Room.in1 {k:Nat}{A:Around}(r:Room (k+1) A):Room k A.in1:=
 ⟨r.hd,by have:=r.dp;show A.depth+3*k+5<_;omega,by have:=r.un;show A.units+1+16*k+200<_;omega,r.gd⟩
theorem Room.depth {k:Nat}{A:Around}(r:Room k A):A.depth<recursionLimit:=by have:=r.dp;omega
theorem Room.units {k:Nat}{A:Around}(r:Room k A):A.units+64<cLine:=by have:=r.un;omega
theorem Room.units0 {k:Nat}{A:Around}(r:Room k A):A.units<cLine:=by have:=r.un;omega
def UK:TA:=fun _ H Q=>Q [] H
def UE (ta:TE)(tr:TA):TA:=fun σ H Q=>ta σ H fun x H1=>tr σ H1 fun xs H2=>Q (x::xs) H2
section
variable {X:Cx}{e:Expr}{es:List Expr}{te:TE}{t:TA}{pos:Pos}
theorem XC:PA X [] UK:=fun _ _ _ _ H Q I h=>Calls.spliced_nil ⟨[],H,I,.nil,h⟩
theorem Y6 (ha:PE X e te)(hr:PA X es t)(hs:starEach (e::es) X.env=(false,eval e X.env)::starEach es X.env:=by rfl):PA X (e::es) (UE te t):=by
 intro pos jE s σ H Q I h;rw[hs];show wpAny _ _ (spliced ((false,eval e X.env)::backTo pos (starEach es X.env))) _ _ s;refine qaW (ZJ (ha jE s σ H _ I h) fun u s1 ⟨x,H1,I1,r1,q1⟩=>?_);exact ZJ (hr pos jE s1 σ H1 _ I1 q1) fun us s2 ⟨xs,H2,I2,r2,q2⟩=>⟨x::xs,H2,I2,.cons r1 r2,q2⟩
def tTup (t:TA):TE:=fun σ H Q=>t σ H fun xs H1=>xs.length<=sizeLine/\∀p,H1 p=none->Q (.ref p) (Zo H1 p (.tup xs))
def tLst (t:TA):TE:=fun σ H Q=>t σ H fun xs H1=>xs.length<=sizeLine/\∀p,H1 p=none->Q (.ref p) (Zo H1 p (.lst xs))
theorem Zov {x1}(h:PA X es t):PE X (.Tuple es x1 pos) (tTup t):=by
 intro jE s σ H Q I hq;refine wpAny_Tuple_spliced (ZJ (h pos jE s σ H _ I hq) fun us s1 ⟨xs,H1,I1,r,z,q⟩=>⟨by rw[<-r.length];exact z,?_⟩);have hf:H1 s1.heap.objs.size=none:=I1.hok.fresh (qu _);refine⟨.ref s1.heap.objs.size,Zo H1 s1.heap.objs.size (.tup xs),I1.laid (t':=s1.toks) (fun b u e=>qf _ e) (qu _) ?_,rfl,q _ hf⟩;exact⟨z,us,r,⟨_,qz _ rfl,⟨rfl,_,rfl⟩,rfl⟩⟩
theorem Zow (h:PA X es t):PE X (.List es pos) (tLst t):=by
 intro jE s σ H Q I hq;refine wpAny_List_spliced (ZJ (h pos jE s σ H _ I hq) fun us s1 ⟨xs,H1,I1,r,z,q⟩=>⟨by rw[<-r.length];exact z,?_⟩);have hf:H1 s1.heap.objs.size=none:=I1.hok.fresh (qu _);refine⟨.ref s1.heap.objs.size,Zo H1 s1.heap.objs.size (.lst xs),I1.laid (t':=s1.toks) (fun b u e=>qf _ e) (qu _) ?_,rfl,q _ hf⟩;exact⟨z,us,0,r,qz _ rfl⟩
end
abbrev Sp:=List V->Hp->VK->XK->Prop
abbrev Wj:=List Env->Hp->Shared->XK->Value->Shared->Prop
structure Env0 (P:Program)(w:World)(K:qm)(mg:Str->Option Value)(base:Heap)(A:Around)(outer:List Env)(s:Shared)(H:Hp):Prop where
 frames:A.frames=some outer
 mod:Mod K mg base
 bs:∀b o,base.get? b=some o->s.heap.get? b=some o/\H b=none
 bsz:base.objs.size<=s.heap.objs.size
 funs:s.heap.FunFrames base outer
 frf:∀b∈Wi outer,H b=none
 hok:YJ P w H s.heap
 bare:AllBare s.gens
def CE (outer:List Env)(P:Program)(w:World)(H:Hp)(s:Shared)(Q:VK)(u:Value)(s':Shared):Prop:=
 ∃v H',s'.os=s.os/\AllBare s'.gens/\Un (Wi outer) [] H H' s.heap s'.heap/\YJ P w H' s'.heap/\ZK v u/\Q v H'
def CR (CX:Wj)(outer:List Env)(P:Program)(w:World)(H:Hp)(s:Shared)(Q:VK)(E:XK)(r:Result)(s':Shared):Prop:=
 match r with
 | .ok (.ret u)=>CE outer P w H s Q u s'
 | .ok _=>False
 | .error e=>CX outer H s E e s'
structure FnOk (P:Program)(w:World)(K:qm)(mg:Str->Option Value)(base:Heap)(CX:Wj)(k:Nat)(f:Addr)(fd:FuncData)(ps:List Str)(sp:Sp):Prop where
 len:∀vs H Q E,sp vs H Q E->vs.length=ps.length
 run:∀(A:Around) (outer:List Env) (s:Shared) (H:Hp) (args:Args) (us:List Value) (vs:List V) (Q:VK) (E:XK),Room k A->Env0 P w K mg base A outer s H->BindsTo s fd args (ps.zip us)->ZI vs us->sp vs H Q E->
  codeAny (model P w) A (.call (.ref f) args) (CR CX outer P w H s Q E) s
theorem FnOk.mono {P:Program}{w:World}{K:qm}{mg:Str->Option Value}{base:Heap}{CX:Wj}{j k:Nat}{f:Addr}{fd:FuncData}{ps:List Str}{sp:Sp}(F:FnOk P w K mg base CX j f fd ps sp)(h:j<=k) :
  FnOk P w K mg base CX k f fd ps sp:=⟨F.len,fun A outer s H args us vs Q E hr=>F.run A outer s H args us vs Q E (hr.mono h)⟩
theorem FnOk.imp {P:Program}{w:World}{K:qm}{mg:Str->Option Value}{base:Heap}{CX:Wj}{k:Nat}{f:Addr}{fd:FuncData}{ps:List Str}{sp sp':Sp}(F:FnOk P w K mg base CX k f fd ps sp)
  (h:∀vs H Q E,sp' vs H Q E->sp vs H Q E):FnOk P w K mg base CX k f fd ps sp':=
 ⟨fun vs H Q E q=>F.len vs H Q E (h _ _ _ _ q),fun A outer s H args us vs Q E hr he hb hv hs=>F.run A outer s H args us vs Q E hr he hb hv (h _ _ _ _ hs)⟩
theorem Env0.in1 {P:Program}{w:World}{K:qm}{mg:Str->Option Value}{base:Heap}{A:Around}{outer:List Env}{s:Shared}{H:Hp}(e:Env0 P w K mg base A outer s H) :
  Env0 P w K mg base A.in1 outer s H:=⟨e.frames,e.mod,e.bs,e.bsz,e.funs,e.frf,e.hok,e.bare⟩
section
variable {X:Cx}{jE:List (Addr×Obj)}{σ:St}{H:Hp}{s s':Shared}
theorem Inv.env0 (I:Inv X jE σ H s):Env0 X.prog X.w X.K X.mg X.base X.A X.stack s H:=
 ⟨I.ok.frames,I.ok.mod,I.bs,qJ I.ok.bsz I.sz,I.stack,I.stkFree,I.hok,I.bare⟩
theorem Inv.after {Q:VK}{u:Value}(I:Inv X jE σ H s)(h:CE X.stack X.prog X.w H s Q u s'):EP X jE σ Q u s':=by
 obtain⟨v,H',os,bare,un,hok,r,q⟩:=h;obtain⟨hh,g,d,t,os'⟩:=s';obtain rfl:os'=s.os:=os;exact⟨v,H',I.call (h':=hh) (g':=g) (d':=d) (t':=t) (ch:=[]) un hok bare (fun b z=>absurd z (by simp)),r,q⟩
end
def Zpy (sp:Sp)(dvs:List V)(E:XK)(t:TA):TE:=fun σ H Q=>t σ H fun vs H1=>sp (vs++dvs) H1 Q E
def WF (K:qm)(fd:FuncData)(ps:List Str)(ds:List Value):Prop:=
 ∀(s:Shared) (us:List Value),K.In s.heap->(us++ds).length=ps.length->BindsTo s fd ⟨us,[]⟩ (ps.zip (us++ds))
theorem WF.all {K:qm}{fd:FuncData}{ps:List Str}(h:∀us:List Value,us.length=ps.length->bindArgs fd ⟨us,[]⟩=pure (ps.zip us)):WF K fd ps []:=fun s us _ hl=>by
 rw[zx] at hl⊢;exact .of_eq (h us hl)
def Zff (CX:Wj)(X:Cx)(E:XK):Prop:=∀(jE:List (Addr×Obj)) (σ:St) (H:Hp) (s:Shared) (e:Value) (s':Shared),Inv X jE σ H s->CX X.stack H s E e s'->X.xe e s'
section
variable {X:Cx}{CX:Wj}{k:Nat}{f C:Addr}{fd:FuncData}{ps:List Str}{sp:Sp}{dvs:List V}{ds:List Value}{E:XK}{x m:Str}{p pos apos:Pos}{e o:Expr}{es:List Expr}{ta:TE}{t:TA}
theorem ZkL {jE:List (Addr×Obj)}{σ:St}{H:Hp}{s:Shared}{Q:VK}{us:List Value}{vs:List V}(F:FnOk X.prog X.w X.K X.mg X.base CX k f fd ps sp)(hr:Room k X.A)(hb:WF X.K fd ps ds)(hd:ZI dvs ds)(hx:Zff CX X E)
  (I:Inv X jE σ H s) (r:ZI vs us) (h:sp (vs++dvs) H Q E):wpAny (model X.prog X.w) X.A (call (.ref f) us) (EP X jE σ Q) X.xe s:=by
 have r2:ZI (vs++dvs) (us++ds):=r.append hd;have hl:(us++ds).length=ps.length:=by rw[<-r2.length];exact F.len _ _ _ _ h
 refine wpAny_call (codeAny_mono (F.run X.A X.stack s H ⟨us,[]⟩ (us++ds) (vs++dvs) Q E hr I.env0 (hb s us I.kIn hl) r2 h) fun r s' hq=>?_)
 cases r with
 | error e=>exact hx jE σ H s e s' I hq
 | ok fl=>
  cases fl with
  | ret u=>exact I.after hq
  | next=>exact zG hq
  | brk=>exact zG hq
  | cont=>exact zG hq
theorem ZmH (F:FnOk X.prog X.w X.K X.mg X.base CX k f fd ps sp)(hr:Room k X.A)(hg:Gl X x)(hm:X.mg x=some (.ref f))(hk:z9 X.K (.ref f)=true)(hb:WF X.K fd ps ds)(hd:ZI dvs ds)(hx:Zff CX X E)
  (ha:PA X (e::es) t) (hdb:(x==("__debug__" : Str))=false:=by decide) (he:starEach (e::es) X.env=(false,eval e X.env)::starEach es X.env:=by rfl) (hpl:(backTo pos (starEach es X.env)).any (·.1)=false:=by rfl) :
  PE X (.Call (.Name x p) (e::es) [] pos) (Zpy sp dvs E t):=by
 intro jE s σ H Q I h;refine wpAny_Call_Name_kw (ZiE I hg hm ?_ hdb);refine PySem.W.callWith_K (h₀:=X.base) I.ok.mod.kin hk (ZJ (ha pos jE s σ H _ I h) fun us s1 ⟨vs,H1,I1,r,q⟩=>⟨I1.kIn,?_⟩) he hpl;exact ZkL F hr hb hd hx I1 r q
end
def PK (X:Cx)(kws:List Keyword)(t:TA):Prop:=
 ∀(pos:Pos) (jE:List (Addr×Obj)) (s:Shared) (σ:St) (H:Hp) (Q:List V->Hp->Prop),Inv X jE σ H s->t σ H Q->wpAny (model X.prog X.w) X.A (evalAll ((backToKw pos (keywordEach kws X.env)).map (·.2))) (AP X jE σ Q) X.xe s
section
variable {X:Cx}{CX:Wj}{k:Nat}{f C:Addr}{fd:FuncData}{ps ks:List Str}{sp:Sp}{E:XK}{x m:Str}{p pos apos kpos:Pos}{e o:Expr}{es:List Expr}{kws:List Keyword}{te ta:TE}{t tk:TA}{nm:Option Str}
theorem Zox:PK X [] UK:=fun _ _ _ _ H Q I h=>wpAny_evalAll_nil ⟨[],H,I,.nil,h⟩
theorem ZmI (ha:PE X e te)(hr:PK X kws t):PK X (⟨nm,e,kpos⟩::kws) (UE te t):=by
 intro pos jE s σ H Q I h;show wpAny _ _ (evalAll ((do let v<-eval e X.env;standAt pos;pure v)::(backToKw pos (keywordEach kws X.env)).map (·.2))) _ _ s;refine wpAny_evalAll_cons (wpAny_bind (ZJ (ha jE s σ H _ I h) fun u s1 ⟨x,H1,I1,r1,q1⟩=>wpAny_bind (wpAny_standAt (wpAny_pure ?_))));exact ZJ (hr pos jE s1 σ H1 _ I1 q1) fun us s2 ⟨xs,H2,I2,r2,q2⟩=>⟨x::xs,H2,I2,.cons r1 r2,q2⟩
variable {g:List Value->List Value->List Value}{gV:List V->List V->List V}
end
structure FnScope (N P:List Str)(sc:Scope):Prop where
 kind:sc.kind=.function
 co:sc.isCoroutine=false
 gen:sc.isGenerator=false
 nd:N.Nodup
 pre:N.take P.length=P
 par:∀x∈P,sc.names.lookup x=some .local∨sc.names.lookup x=some .cell
 nofree:∀y∈sc.names,y.2≠.free
theorem Zez {kindOf:Str->Option NameKind}{x:Str}:∀{binds:List (Str×Value)} {m:Str->Option Value},(∀v,(x,v)∉binds)->bindL kindOf binds m x=m x
 | [],_,_=>rfl
 | (n,v)::r,m,h=>by
  unfold bindL;rw[Zez fun w hw=>h w (qU _ hw)];split
  ·have:x≠n:=by rintro rfl;exact h v zS
   simp[this]
  ·rfl
theorem ZeA {kindOf:Str->Option NameKind}{x:Str}:∀{binds:List (Str×Value)} {m:Str->Option Value},(∀v,(x,v)∉binds)->bindC kindOf binds m x=m x
 | [],_,_=>rfl
 | (n,v)::r,m,h=>by
  unfold bindC;rw[ZeA fun w hw=>h w (qU _ hw)];split
  ·rfl
  ·have:x≠n:=by rintro rfl;exact h v zS
   simp[this]
theorem ZeB {kindOf:Str->Option NameKind}{x:Str}{v:Value}:∀{P:List Str} {vs:List Value} {i:Nat} {m:Str->Option Value},P.Nodup->P[i]?=some x->vs[i]?=some v->kindOf x=some .local->
  bindL kindOf (P.zip vs) m x=some v
 | [],_,_,_,_,h,_,_=>by simp at h
 | _::_,[],_,_,_,_,h,_=>by simp at h
 | p::P,w::vs,0,m,nd,h1,h2,hk=>by
  simp at h1 h2;subst h1;subst h2;show bindL kindOf ((p,w)::P.zip vs) m p=_;unfold bindL;rw[Zez fun v hv=>(zD.mp nd).1 (qaH hv).1,if_pos hk];simp
 | p::P,w::vs,i+1,m,nd,h1,h2,hk=>by
  show bindL kindOf ((p,w)::P.zip vs) m x=_;unfold bindL;exact ZeB (i:=i) (zD.mp nd).2 (by simpa using h1) (by simpa using h2) hk
theorem ZeC {kindOf:Str->Option NameKind}{x:Str}{v:Value}:∀{P:List Str} {vs:List Value} {i:Nat} {m:Str->Option Value},P.Nodup->P[i]?=some x->vs[i]?=some v->kindOf x≠some .local->
  bindC kindOf (P.zip vs) m x=some v
 | [],_,_,_,_,h,_,_=>by simp at h
 | _::_,[],_,_,_,_,h,_=>by simp at h
 | p::P,w::vs,0,m,nd,h1,h2,hk=>by
  simp at h1 h2;subst h1;subst h2;show bindC kindOf ((p,w)::P.zip vs) m p=_;unfold bindC;rw[ZeA fun v hv=>(zD.mp nd).1 (qaH hv).1,if_neg hk];simp
 | p::P,w::vs,i+1,m,nd,h1,h2,hk=>by
  show bindC kindOf ((p,w)::P.zip vs) m x=_;unfold bindC;exact ZeC (i:=i) (zD.mp nd).2 (by simpa using h1) (by simpa using h2) hk
def start (N:List Str)(vs:List V):St:=vs.map some++zC (N.length-vs.length) none
def Vn (CX:Wj)(P:Program)(w:World)(K:qm)(mg:Str->Option Value)(base:Heap)(N:List Str)(qual:Str)(scope:Scope)(f:Addr)(cd:Value)(A:Around)(outer:List Env)(s:Shared)(H:Hp)(E:XK):Cx where
 prog:=P
 w:=w
 K:=K
 mg:=mg
 base:=base
 A:=A.deeper (envOfC qual scope s.heap.objs.size f cd)
 N:=N
 s₀:=s
 H₀:=H
 env:=envOfC qual scope s.heap.objs.size f cd
 outer:=outer
 stack:=envOfC qual scope s.heap.objs.size f cd::outer
 ex:=[]
 calm:=true
 fn:=fun _=>true
 pn:=[]
 xe:=fun e s'=>wpAny (model P w) (A.deeper (envOfC qual scope s.heap.objs.size f cd)) (leaving (envOfC qual scope s.heap.objs.size f cd) e) (fun _ s''=>CX outer H s E e s'') (fun e' s''=>CX outer H s E e' s'') s'
theorem Zgh {sc:Scope}{n:Nat}{x:Str}(h:sc.names.lookup x=some .cell):∃c,(cellsFrom n sc.names []).lookup x=some c:=by
 have q:=qbu sc.names n [] (.inl h);exact zT.mp q
theorem ZjA {CX:Wj}{P:Program}{w:World}{K:qm}{mg:Str->Option Value}{base:Heap}{N ps:List Str}{qual:Str}{scope:Scope}{f:Addr}{cd:Value}{A:Around}{outer:List Env}{s s1:Shared}{H:Hp}{E:XK}{us:List Value}{vs:List V}
  (S:FnScope N ps scope) (hd:A.handled=none) (e0:Env0 P w K mg base A outer s H) (hl:vs.length=ps.length) (r:ZI vs us)
  (x:InCallC s s.heap.objs.size (bindL (envOfC qual scope s.heap.objs.size f cd).kindOf (ps.zip us) fun _=>none) (cellsFrom (s.heap.objs.size+1) scope.names []) (bindC (envOfC qual scope s.heap.objs.size f cd).kindOf (ps.zip us) fun _=>none) s1) :
  Inv (Vn CX P w K mg base N qual scope f cd A outer s H E) [] (start N vs) H s1:=by
 have hpl:ps.length<=N.length:=by have:=congrArg qay S.pre;rw[zt] at this;omega
 obtain⟨h1,tk,rfl,hk⟩:=x.done;have noA:∀b:Addr,b∉(Vn CX P w K mg base N qual scope f cd A outer s H E).ex:=fun b z=>absurd (show b∈([]:List Addr) from z) (by simp);refine⟨⟨e0.mod,S.kind,rfl,rfl,qu _,fun y z c h1 h2=>?_,fun y hy=>?_,fun y c _ h=>?_,fun _=>hd,qbI e0.frames,.inr ⟨rfl,rfl⟩,fun b z=>absurd z (noA b),e0.bs,e0.bsz,fun b _ _=>noA b,fun b z=>absurd z (noA b),e0.funs,e0.frf⟩,
  rfl,e0.bare,Un.kept hk,⟨_,x.toInCall.ns,fun i y v h1 h2 h3=>?_⟩,fun y c h=>⟨_,x.cell y c h⟩,e0.hok.fresh (qu _),fun y c h=>?_,fun p hp=>absurd (show p∈([]:List (Addr×Obj)) from hp) (by simp),e0.hok.kept hk,?_⟩
 ·exact name_of_addr x.apart (zy h1) (zy h2)
 ·have hy:scope.names.lookup y=some .cell∨scope.names.lookup y=some .free:=hy
  rcases hy with hy | hy
  ·exact Zgh hy
  ·exact absurd rfl (S.nofree _ (zy hy))
 ·exact yT (x.above y c (zy h))
 ·have hi:i<vs.length:=by
   unfold start at h2;by_cases hi:i<vs.length
   ·exact hi
   ·rw[yp (by simpa using hi)] at h2
    rw[yD] at h2;split at h2 <;> cases h2
  have ha:vs[i]?=some v:=by
   unfold start at h2;rw[zQ (by simpa using hi),qy] at h2
   cases e:vs[i]? with
   | none=>rw[e] at h2;cases h2
   | some a=>rw[e] at h2;cases h2;rfl
  obtain⟨u,hu,rv⟩:=r.get ha;have hp:ps[i]?=some y:=by
   rw[<-S.pre,qaf (by omega)];exact h1
  have ndP:ps.Nodup:=by rw[<-S.pre];exact S.nd.sublist (yR _ _)
  refine⟨u,rv,?_⟩;rcases S.par y (zm hp) with k | k
  ·exact .inl ⟨k,ZeB ndP hp hu k⟩
  ·obtain⟨c,e⟩:=Zgh (n:=s.heap.objs.size+1) k
   refine .inr ⟨.inl k,c,e,?_⟩;have q:=x.cell y c e;rw[ZeC ndP hp hu (by show scope.names.lookup y≠_;rw[k];decide)] at q;exact q
 ·exact e0.hok.fresh (yT (x.above y c (zy h)))
 ·unfold start
  show _=N.length;rw[zp,qd,List.length_replicate];omega
theorem ZnL {CX:Wj}{P:Program}{w:World}{K:qm}{mg:Str->Option Value}{base:Heap}{k:Nat}{f:Addr}{name qual:Str}{params:Arguments}{body:List Stmt}{scope:Scope}{dV kV doc pm cdv ct oc:Value}{an od:Option Addr}
  {osl:Array (Option Value)} {N ps:List Str} {sp:Sp} (lk:K.lookup f=some ⟨oc,od,.func (yg name qual params body scope dV kV doc pm an cdv ct),osl⟩) (hcd:qan K cdv qual=true) (S:FnScope N ps scope)
  (len:∀vs H Q E,sp vs H Q E->vs.length=ps.length)
  (hbody:∀(A:Around) (outer:List Env) (s:Shared) (H:Hp) (vs:List V) (Q:VK) (E:XK),Room k (A.deeper (envOfC qual scope s.heap.objs.size f cdv))->sp vs H Q E->
   ∃t,WU (Vn CX P w K mg base N qual scope f cdv A outer s H E) body t/\t { nx:=fun _ H'=>Q .non H',rt:=Q } (start N vs) H) :
  FnOk P w K mg base CX (k+1) f (yg name qual params body scope dV kV doc pm an cdv ct) ps sp:=by
 refine⟨len,fun A outer s H args us vs Q E hr e0 hb r hsp=>?_⟩;have hl:=len _ _ _ _ hsp;have KX:K.In s.heap:=e0.mod.kin.keeps fun b o e=>(e0.bs b o e).1;have lim:s.heap.NoLimit:=e0.mod.nolimit.keeps fun b o e=>(e0.bs b o e).1;have hkind:∀y∈ps.zip us,scope.names.lookup y.1=some .local∨(scope.names.lookup y.1=some .cell/\((cellsFrom (s.heap.objs.size+1) scope.names []).lookup y.1).isSome=true):=fun⟨n,v⟩ hy=>by
  rcases S.par n (qaH hy).1 with q | q
  ·exact .inl q
  ·exact .inr ⟨q,qbu _ _ _ (.inl q)⟩
 refine codeAny_call_function hr.depth (KX _ _ lk) rfl S.co S.gen rfl (PySem.W.codeRec_of KX hcd) (hb _ _ _ _ ?_);refine wpAny_newFunctionEnv_cells S.kind hkind fun env he s1 x=>?_;subst he;refine⟨lim.keeps x.toInCall.keep,codeAny_func ?_⟩;obtain⟨t,ht,hq⟩:=hbody A outer s H vs Q E (hr.deeper _) hsp;have I:Inv (Vn CX P w K mg base N qual scope f cdv A outer s H E) [] (start N vs) H s1:=ZjA S hr.hd e0 hl r x;refine wpAny_mono (ht [] s1 (start N vs) H _ I hq) (fun fl s' hs=>?_) fun e s' hs=>hs;have fin:∀{σ':St} {H':Hp} {v:V} {u:Value},Inv (Vn CX P w K mg base N qual scope f cdv A outer s H E) [] σ' H' s'->ZK v u->Q v H'->CE outer P w H s Q u s':=
  fun {σ' H' v u} J rv q=>⟨v,H',J.os,J.bare,J.base,J.hok,rv,q⟩
 cases fl with
 | ret u=>
  obtain⟨v,σ',H',J,rv,q⟩:=hs;exact fin J rv q
 | next=>
  obtain⟨σ',H',J,q⟩:=hs;exact fin (v:=V.non) (u:=qR) J rfl q
 | brk=>
  obtain⟨_,_,_,q⟩:=hs;exact zG q
 | cont=>
  obtain⟨_,_,_,q⟩:=hs;exact zG q
end L2
namespace L2
section
variable {X:Cx}{x:Str}{p pos:Pos}{e:Expr}{es:List Expr}{t:TA}{id T:String}{r:List V->Hp->VK->Prop}
def tCB (r:List V->Hp->VK->Prop)(t:TA):TE:=fun σ H Q=>t σ H fun vs H1=>r vs H1 Q
theorem JP (hc:Y9 X (.builtin id) r)(hg:Gl X x)(hm:X.mg x=none)(hv:bootBuiltins x=some (.builtin id))(ha:PA X (e::es) t)(hn:x≠"__name__":=by decide)(hdb:(x==("__debug__" : Str))=false:=by decide)
  (he:starEach (e::es) X.env=(false,eval e X.env)::starEach es X.env:=by rfl) (hpl:(backTo pos (starEach es X.env)).any (·.1)=false:=by rfl):PE X (.Call (.Name x p) (e::es) [] pos) (tCB r t):=by
 intro jE s σ H Q I h;refine wpAny_Call_Name_kw (Ub I hg hm hv ?_ hn hdb);exact PyProof.Rows.callWith_builtin1 (ZJ (ha pos jE s σ H _ I h) fun us s1 ⟨vs,H1,I1,r1,q1⟩=>hc jE s1 σ H1 vs us Q I1 r1 q1) he hpl
theorem Zbw (hc:Y9 X (.type T) r)(hg:Gl X x)(hm:X.mg x=none)(hv:bootBuiltins x=some (.type T))(ha:PA X (e::es) t)(hn:x≠"__name__":=by decide)(hdb:(x==("__debug__" : Str))=false:=by decide)
  (he:starEach (e::es) X.env=(false,eval e X.env)::starEach es X.env:=by rfl) (hpl:(backTo pos (starEach es X.env)).any (·.1)=false:=by rfl):PE X (.Call (.Name x p) (e::es) [] pos) (tCB r t):=by
 intro jE s σ H Q I h;refine wpAny_Call_Name_kw (Ub I hg hm hv ?_ hn hdb);exact zM (ZJ (ha pos jE s σ H _ I h) fun us s1 ⟨vs,H1,I1,r1,q1⟩=>hc jE s1 σ H1 vs us Q I1 r1 q1) he hpl
end
end L2
namespace HT
def lexLt:List Int->List Int->Bool
 | [],[]=>false
 | [],_::_=>true
 | _::_,[]=>false
 | x::xs,y::ys=>if x=y then lexLt xs ys else decide (x<y)
theorem ZhC (x y:Int)(xs ys:List Int):lexLt (x::xs) (y::ys)=if x=y then lexLt xs ys else decide (x<y):=rfl
theorem Zeg:lexLt [] []=false:=rfl
theorem Zdx (y:Int)(ys:List Int):lexLt [] (y::ys)=true:=rfl
theorem Zdy (x:Int)(xs:List Int):lexLt (x::xs) []=false:=rfl
theorem ZkM (A:Around)(s:Shared)(a:Int)(t:Tok)(c:Int)(u:Tok):∃e,yK A s (.int a t) (.int c u) e/\(e=true↔a=c):=
 ⟨(a==c),yK.int_int a t c u,by simp⟩
theorem ZkN (A:Around)(s:Shared)(a:Int)(t:Tok)(c:Int)(u:Tok)(prog:Program)(w:World)(E:Value->Shared->Prop)(Q:Value->Shared->Prop)(h:Q (.bool (decide (a<c))) s) :
  wpAny (model prog w) A (richCompare .Lt (.int a t) (.int c u)) Q E s:=
 (PyProof.Rows.lt_int h:wpAny (model prog w) A (compareOp .Lt (.int a t) (.int c u)) Q E s)
section
open PySem.SeqAt
open PySem.AutoSeq1 (wpAny_loadPart')
open PySem.MeetsSeq PySem.MeetsSeq2 PySem.MeetsSeq3
theorem Zeh (l b:Addr)(items items2:Array Value)(n n2:Nat)(dd dd2:Option Addr)(sl sl2:Array (Option Value))(ns ms:List Int)(hi:IntsAre items.toList ns)(hj:IntsAre items2.toList ms) :
  Meets (Builtin.«tuple.__lt__» ⟨[.ref l,.ref b],[]⟩)
   (fun _ R s=>s.heap.get? l=some { cls:=.type "tuple",dict:=dd,data:=.seq items n,slots:=sl }/\s.heap.get? b=some { cls:=.type "tuple",dict:=dd2,data:=.seq items2 n2,slots:=sl2 }/\
    R (.ok (.ret (.bool (lexLt ns ms)))) s):=
 .of_wp fun prog w A R s h=>by
  obtain⟨hp,g,d,tk,os⟩:=s;obtain⟨hl,hb,h⟩:=h;have f2:=AutoSeq1.sub_tuple_tuple;have z1:items.size=ns.length:=by rw[<-hi.length];simp
  have z2:items2.size=ms.length:=by rw[<-hj.length];simp
  wp_walk using wpAny_loadPart' hl,wpAny_loadPart' hb,wpAny_forIn_list _ (fun rest b s'=>b.1=none/\s'=⟨hp,g,d,tk,os⟩/\∃(vs ws:List Value) (ns' ms':List Int),rest=vs.zip ws/\
   IntsAre vs ns'/\IntsAre ws ms'/\ns'.length+items2.size=ms'.length+items.size/\R (.ok (.ret (.bool (lexLt ns' ms')))) ⟨hp,g,d,tk,os⟩) _
  case turn=>
   rintro⟨y,x⟩ rest b s' ⟨hb',rfl,vs,ws,ns',ms',hz,hvi,hwi,jO,hR⟩
   cases hvi with
   | nil=>rw[List.zip_nil_left] at hz;cases hz
   | cons a t hvi'=>
    cases hwi with
    | nil=>rw[List.zip_nil_right] at hz;cases hz
    | cons c u hwi'=>
     rw[List.zip_cons_cons] at hz;injection hz with hyx hrest;injection hyx with hy hx;subst hy hx;rw[ZhC] at hR;simp only[qY] at jO;obtain⟨e,he,hiff⟩:=ZkM A.in1 ⟨hp,g,d,tk,os⟩ a t c u;refine wpAny_bind (he prog w _ _ ?_)
     cases e with
     | true=>
      rw[if_pos (hiff.mp rfl)] at hR
      wp_walk
      exact⟨rfl,rfl,_,_,_,_,hrest,hvi',hwi',by omega,hR⟩
     | false=>
      rw[if_neg (fun q=>absurd (hiff.mpr q) z8)] at hR;have hri:=ZkN A.in1 ⟨hp,g,d,tk,os⟩ a t c u prog w
      wp_walk using hri
      exact⟨_,rfl,by simpa using hR⟩
  case fin=>
   rintro⟨b1,b2⟩ s' ⟨hb',rfl,vs,ws,ns',ms',hz,hvi,hwi,jO,hR⟩;simp only at hb';subst hb';have hv:lexLt ns' ms'=decide (items.size<items2.size):=by
    cases hvi with
    | nil=>
     cases hwi with
     | nil=>
      simp only[yh] at jO;rw[Zeg];exact(decide_eq_false (by omega)).symm
     | cons c u hw=>
      simp only[yh,qY] at jO;rw[Zdx];exact(decide_eq_true (by omega)).symm
    | cons a t hv=>
     cases hwi with
     | nil=>
      simp only[yh,qY] at jO;rw[Zdy];exact(decide_eq_false (by omega)).symm
     | cons c u hw=>
      rw[List.zip_cons_cons] at hz
      cases hz
   rw[hv] at hR
   wp_walk
   exact⟨_,rfl,by simpa[Builtin.Tuple.tupleCompareSizes] using hR⟩
  case h=>
   exact⟨rfl,rfl,items.toList,items2.toList,ns,ms,rfl,hi,hj,by omega,h⟩
end
section
variable {prog:Program}{w:World}{A:Around}{E:Value->Shared->Prop}{s:Shared}
theorem lt_tupInts {l b:Addr}{items items2:Array Value}{ns ms:List Int}{Q:Value->Shared->Prop}(hl:IsTup s.heap l items)(hb:IsTup s.heap b items2)(hi:IntsAre items.toList ns)(hj:IntsAre items2.toList ms)
  (hu:A.units<cLine) (h:Q (.bool (lexLt ns ms)) s):wpAny (model prog w) A (compareOp .Lt (.ref l) (.ref b)) Q E s:=by
 obtain⟨⟨cls,dd,data,sl⟩,ho,hc,n,hd⟩:=id hl;obtain⟨⟨cls2,dd2,data2,sl2⟩,ho2,hc2,n2,hd2⟩:=id hb;simp only at hc hd hc2 hd2;subst hc hd hc2 hd2;exact richCompare_meets_room (op:=.Lt) ⟨_,ho,rfl⟩ ⟨_,ho2,rfl⟩ PySem.F.slot_tuple_lt PySem.F.entry_tuple_lt (PySem.F.args_tuple_lt_2 _ _) (Zeh l b items items2 n n2 dd dd2 sl sl2 ns ms hi hj)
  ⟨ho,ho2,show yf (lexLt ns ms)≠Value.notImplemented/\Q (.bool (lexLt ns ms)) s from⟨(fun x=>nomatch x),h⟩⟩ hu
theorem cat_tup {t b:Addr}{vs ws:List Value}{Q:Value->Shared->Prop}(ht:IsTup s.heap t vs.toArray)(hb:IsTup s.heap b ws.toArray)(hv:vs≠[])
  (h1:ws=[]->Q (.ref t) s) (h2:ws≠[]->Q (.ref s.heap.objs.size) { s with heap:=s.heap.push { cls:=.type "tuple",data:=.seq (vs++ws).toArray } })
  (hsz:vs.length+ws.length<=sizeLine):wpAny (model prog w) A (binaryOp .Add (.ref t) (.ref b)) Q E s:=by
 obtain⟨⟨cls,dd,data,sl⟩,ho,hc,n,hd⟩:=id ht;obtain⟨⟨cls2,dd2,data2,sl2⟩,ho2,hc2,n2,hd2⟩:=id hb;simp only at hc hd hc2 hd2;subst hc hd hc2 hd2;have e:vs.toArray++ws.toArray=(vs++ws).toArray:=by simp
 by_cases hw:ws=[]
 ·exact concat_meets ⟨_,ho,rfl⟩ ⟨_,ho2,rfl⟩ noFill_tuple_add seq_tuple_add qaz qaq (qag _ _)
   (tuple_addW1 t b vs.toArray ws.toArray n n2 dd dd2 sl sl2 (by simpa using hv) (by simp[hw])) ⟨ho,ho2,h1 hw⟩
 ·refine concat_meets ⟨_,ho,rfl⟩ ⟨_,ho2,rfl⟩ noFill_tuple_add seq_tuple_add qaz qaq (qag _ _)
   (tuple_addW2 t b vs.toArray ws.toArray n n2 dd dd2 sl sl2 (by simpa using hv) (by simpa using hw) (by rw[qE,qE];exact hsz)) ⟨ho,ho2,?_⟩
  rw[e];exact h2 hw
def sIx (n d:Nat):Option Int->Nat
 | none=>d
 | some v=>if v<0 then (v+(n:Int)).toNat else min v.toNat n
theorem Zoy (n d:Nat)(hd:d<=n)(o:Option Int):sIx n d o<=n:=by
 cases o with
 | none=>exact hd
 | some v=>
  show(if v<0 then (v+(n:Int)).toNat else min v.toNat n)<=n;by_cases hv:v<0
  ·rw[if_pos hv];omega
  ·rw[if_neg hv];exact Nat.min_le_right _ _
theorem ZiH (v:Int)(n d:Nat):(if v<0 then max (v+(n:Int)) 0 else min v (n:Int))=((sIx n d (some v):Nat):Int):=by
 show(if v<0 then max (v+(n:Int)) 0 else min v (n:Int))=(((if v<0 then (v+(n:Int)).toNat else min v.toNat n):Nat):Int);by_cases hv:v<0
 ·simp only[if_pos hv];omega
 ·simp only[if_neg hv];omega
theorem ZhD (lo hi:Option Int)(n:Nat):y8 lo hi 1 (n:Int)=(((sIx n 0 lo:Nat):Int),((sIx n n hi:Nat):Int)):=by
 have h1:¬((1:Int)<0):=by omega
 unfold y8;simp only[h1,if_false];refine Prod.ext ?_ ?_
 ·cases lo with
  | none=>rfl
  | some v=>exact ZiH v n 0
 ·cases hi with
  | none=>rfl
  | some v=>exact ZiH v n n
theorem ZhE (i j:Nat):yw (i:Int) (j:Int) 1=j-i:=by
 unfold yw;have h1:(1:Int) > 0:=by omega
 simp only[h1,if_true,Int.ediv_one];split <;> omega
theorem Zdz {v:Value}{o:Option Int}{Q:Option Int->Shared->Prop}(p:IsPart v o)(h:Q o s):wpAny (model prog w) A (Builtin.Slice.slicePartIndex v) Q E s:=by
 cases p with
 | none=>exact slicePart_none h
 | int i t=>exact slicePart_int h
theorem ZaS {sl:Addr}{vl vu:Value}{lo hi:Option Int}{n:Nat}{Q:Int×Int×Nat->Shared->Prop}(hs:s.heap.IsSliceOf sl vl vu .none)(pl:IsPart vl lo)(pu:IsPart vu hi)
  (h:Q (((sIx n 0 lo:Nat):Int),1,sIx n n hi-sIx n 0 lo) s):wpAny (model prog w) A (qaZ (.ref sl) (pure (n:Int))) Q E s:=by
 obtain⟨os,hos,hcs,hds⟩:=id hs;unfold qaZ Builtin.Slice.sliceFields;refine wpAny_bind (wpAny_bind (wpAny_field hos hds (x:=vl) rfl (wpAny_bind (wpAny_field hos hds (x:=vu) rfl (wpAny_bind (wpAny_field hos hds (x:=.none) rfl (wpAny_pure ?_)))))));refine wpAny_bind (slicePart_none ?_);show wpAny _ _ (if ((1:Int)==0)=true then _ else _) _ _ s;rw[if_neg (by decide)];refine wpAny_bind (Zdz pl (wpAny_bind (Zdz pu (wpAny_bind (wpAny_pure ?_)))));show wpAny _ _ (match y8 lo hi 1 (n:Int) with | (lo,hi)=>pure (lo,(1:Int),yw lo hi 1)) _ _ s;rw[ZhD lo hi n];show wpAny _ _ (pure (((sIx n 0 lo:Nat):Int),(1:Int),yw ((sIx n 0 lo:Nat):Int) ((sIx n n hi:Nat):Int) 1)) _ _ s;rw[ZhE];exact wpAny_pure h
theorem ZkO (xs:Array Value)(i k:Nat):((qp k).filterMap fun(m:Nat)=>xs[((i:Int)+(m:Int)*1).toNat]?).toArray=((xs.toList.drop i).take k).toArray:=by
 have e:(fun(m:Nat)=>xs[((i:Int)+(m:Int)*1).toNat]?)=fun m=>xs[i+m]?:=by
  funext m;have:((i:Int)+(m:Int)*1).toNat=i+m:=by omega
  rw[this]
 rw[e];have:=pick_run xs i k;rw[List.filterMap_map] at this;have e2:((fun x=>xs[x]?)∘fun x=>i+x)=fun m=>xs[i+m]?:=rfl;rw[e2] at this;rw[this]
theorem getItem_tuple_cut {t sl:Addr}{items:Array Value}{vl vu:Value}{lo hi:Option Int}{Q:Value->Shared->Prop}(ht:IsTup s.heap t items)(hs:s.heap.IsSliceOf sl vl vu .none)(pl:IsPart vl lo)(pu:IsPart vu hi)
  (hw:¬(sIx items.size 0 lo=0/\sIx items.size items.size hi=items.size))
  (h:Q (.ref s.heap.objs.size) { s with heap:=s.heap.push { cls:=.type "tuple",data:=.seq ((items.toList.drop (sIx items.size 0 lo)).take (sIx items.size items.size hi-sIx items.size 0 lo)).toArray } })
  (hsz:items.size<=sizeLine):wpAny (model prog w) A (getItem (.ref t) (.ref sl)) Q E s:=by
 have htake:sizeOk (.seq ((items.toList.drop (sIx items.size 0 lo)).take (sIx items.size items.size hi-sIx items.size 0 lo)).toArray):=by
  show((items.toList.drop (sIx items.size 0 lo)).take (sIx items.size items.size hi-sIx items.size 0 lo)).toArray.size<=sizeLine;rw[qE,zt,List.length_drop,zb];omega
 have hj:sIx items.size items.size hi<=items.size:=Zoy _ _ (qu _) hi;obtain⟨os,hos,hcs,hds⟩:=id hs;have hTs:s.TypeIs (.ref sl) "slice":=⟨os,hos,hcs⟩;unfold getItem
 try with_reducible refine wpAny_holding ?_
 first | refine wpAny_bind (wpAny_pure ?_) | skip
 refine wpAny_bind (wpAny_sequenceKey ht.typeIs (by decide) ?_);refine wpAny_bind (wpAny_callSpecial?_slot (name:=qA "__getitem__") ht.typeIs zB
  (wpAny_call_entry zB ht.typeIs entry_tuple_getitem ?_ (args_tuple_getitem _ _)))
 show wpAny _ _ (qa0 (.ref t) >>= _) _ _ s;refine wpAny_bind (tupleItemsOf_ ht ?_);refine wpAny_bind (wpAny_typeOf hTs ?_);rw[if_pos (by decide)];refine wpAny_bind (ZaS hs pl pu ?_);have hno:¬((((sIx items.size 0 lo:Nat):Int)==0&&(1:Int)==1&&(sIx items.size items.size hi-sIx items.size 0 lo)==items.size)=true):=by
  intro q;rw[qL,qL] at q;have q1:((sIx items.size 0 lo:Nat):Int)=0:=eq_of_beq q.1.1;have q2:sIx items.size items.size hi-sIx items.size 0 lo=items.size:=eq_of_beq q.2;exact hw ⟨by omega,by omega⟩
 show wpAny _ _ (if (((sIx items.size 0 lo:Nat):Int)==0&&(1:Int)==1&&(sIx items.size items.size hi-sIx items.size 0 lo)==items.size)=true then _ else _) _ _ s;rw[if_neg hno,ZkO]
 first
  | exact wpAny_bind (m:=yz _) (wpAny_newObj_type (wpAny_pure ⟨_,rfl,wpAny_pure h⟩) htake)
  | exact wpAny_bind (m:=yz _) (wpAny_newObj_type (wpAny_bind (wpAny_pure (wpAny_pure ⟨_,rfl,wpAny_pure h⟩))) htake)
  | exact wpAny_bind (wpAny_bind (m:=yz _) (wpAny_newObj_type (wpAny_pure (wpAny_pure ⟨_,rfl,wpAny_pure h⟩)) htake))
  | exact wpAny_bind (wpAny_bind (m:=yz _) (wpAny_newObj_type (wpAny_pure ⟨_,rfl,wpAny_pure h⟩) htake))
end
end HT
namespace L2
abbrev TO:=St->Hp->(Option Int->Hp->Prop)->Prop
def PO (X:Cx)(e:Option Expr)(t:TO):Prop:=
 ∀(jE:List (Addr×Obj)) (s:Shared) (σ:St) (H:Hp) (Q:Option Int->Hp->Prop),Inv X jE σ H s->t σ H Q->
  wpAny (model X.prog X.w) X.A (evalPart e X.env) (fun u s'=>∃o H',Inv X jE σ H' s'/\IsPart u o/\Q o H') X.xe s
def ZmJ:TO:=fun _ H Q=>Q none H
def Zpz (t:TE):TO:=fun σ H Q=>t σ H fun x H1=>∃i,x=.int i/\Q (some i) H1
theorem Wx {ns:List Int}:∀{us:List Value},ZI (ns.map V.int) us->IntsAre us ns:=by
 induction ns with
 | nil=>intro us r;rw[qaI] at r;cases r;exact .nil
 | cons n ns ih=>
  intro us r;rw[qW] at r
  cases r with
  | cons r1 r2=>
   obtain⟨t,e⟩:=r1;subst e;exact .cons n t (ih r2)
section
variable {X:Cx}{e:Expr}{te:TE}{lo hi:Option Expr}{tl th:TO}{pos p2:Pos}
theorem ZmK:PO X none ZmJ:=by
 intro jE s σ H Q I h;rw[evalPart_none];exact wpAny_pure ⟨none,H,I,.none,h⟩
theorem ZmL (h:PE X e te):PO X (some e) (Zpz te):=by
 intro jE s σ H Q I hw;rw[evalPart_some];refine ZJ (h jE s σ H _ I hw) fun u s1 ⟨x,H1,I1,r1,q1⟩=>?_;obtain⟨i,rfl,q⟩:=q1;obtain⟨t,rfl⟩:=r1;exact⟨some i,H1,I1,.int i t,q⟩
def UQ (X:Cx)(r:V->Option Int->Option Int->Hp->VK->Prop):Prop:=
 ∀(jE:List (Addr×Obj)) (s:Shared) (σ:St) (H:Hp) (x:V) (v vl vu:Value) (lo hi:Option Int) (sl:Addr) (Q:VK),Inv X jE σ H s->ZK x v->s.heap.IsSliceOf sl vl vu .none->IsPart vl lo->IsPart vu hi->r x lo hi H Q->
  ∃T id,typeLookup (.type T) "__getitem__" = pure (some (.builtin id))/\s.TypeIs v T/\wpAny (model X.prog X.w) X.A (getItem v (.ref sl)) (EP X jE σ Q) X.xe s
theorem UQ.or {r r':V->Option Int->Option Int->Hp->VK->Prop}(h:UQ X r)(h':UQ X r'):UQ X (fun x lo hi H Q=>r x lo hi H Q∨r' x lo hi H Q):=by
 intro jE s σ H x v vl vu lo hi sl Q I rx hs pl pu q;rcases q with q | q
 ·exact h jE s σ H x v vl vu lo hi sl Q I rx hs pl pu q
 ·exact h' jE s σ H x v vl vu lo hi sl Q I rx hs pl pu q
def tSl (r:V->Option Int->Option Int->Hp->VK->Prop)(te:TE)(tl th:TO):TE:=fun σ H Q=>te σ H fun x H1=>tl σ H1 fun l H2=>th σ H2 fun u H3=>r x l u H3 Q
theorem ZkP {r:V->Option Int->Option Int->Hp->VK->Prop}(hr:UQ X r)(he:PE X e te)(hl:PO X lo tl)(hu:PO X hi th):PE X (.Subscript e (.Slice lo hi none p2) pos) (tSl r te tl th):=by
 intro jE s σ H Q I h;refine Subscript_ (ZJ (he jE s σ H _ I h) fun v s1 ⟨x,H1,I1,r1,q1⟩=>?_);refine wpAny_Slice (ZJ (hl jE s1 σ H1 _ I1 q1) fun vl s2 ⟨l,H2,I2,pl,q2⟩=>ZJ (hu jE s2 σ H2 _ I2 q2) fun vu s3 ⟨u,H3,I3,pu,q3⟩=>?_);rw[evalPart_none];refine wpAny_pure ?_;have I4:Inv X jE σ H3 { s3 with heap:=s3.heap.push { cls:=.type "slice",data:=.fields #[vl,vu,.none] } }:=I3.kept (t':=s3.toks) fun b ob q=>qf _ q;obtain⟨T,id,hT,ht,hg⟩:=hr jE { s3 with heap:=s3.heap.push { cls:=.type "slice",data:=.fields #[vl,vu,.none] } } σ H3 x v vl vu l u s3.heap.objs.size Q I4 r1 (Heap.IsSliceOf.new ..) pl pu q3;show wpAny (model X.prog X.w) X.A (subscriptTail e (.Slice lo hi none p2) v (.ref s3.heap.objs.size)) (EP X jE σ Q) X.xe { s3 with heap:=s3.heap.push { cls:=.type "slice",data:=.fields #[vl,vu,.none] } };exact tail_any (ops:=[.ref s3.heap.objs.size,v]) ht hT hg (by with_unfolding_all rfl)
def VQ (xs:List V)(lo hi:Option Int):List V:=(xs.drop (HT.sIx xs.length 0 lo)).take (HT.sIx xs.length xs.length hi-HT.sIx xs.length 0 lo)
theorem ZcJ (xs:List V)(lo hi:Option Int):(VQ xs lo hi).length<=xs.length:=by
 unfold VQ;rw[zt,List.length_drop];omega
def rSlT (K:qm):V->Option Int->Option Int->Hp->VK->Prop:=fun x lo hi H Q=>∃a xs,x=.ref a/\ZT K H a xs/\
 ¬(HT.sIx xs.length 0 lo=0/\HT.sIx xs.length xs.length hi=xs.length)/\∀p,H p=none->Q (.ref p) (Zo H p (.tup (VQ xs lo hi)))
theorem Zoz:UQ X (rSlT X.K):=by
 intro jE s σ H x v vl vu lo hi sl Q I rx hs pl pu h;obtain⟨a,xs,rfl,hx,hw,q⟩:=h
 cases rx
 obtain⟨jG,r,ht,hz⟩:=I.tuple hx;have jO:jG.toArray.size=xs.length:=by rw[qE];exact r.length.symm
 refine⟨"tuple",_,zB.lookup,ht.typeIs,?_⟩;refine HT.getItem_tuple_cut ht hs pl pu (by rw[jO];exact hw) ?_ (by rw[jO];exact hz);rw[jO];refine⟨.ref s.heap.objs.size,_,I.laid (t':=s.toks) (o:=.tup (VQ xs lo hi)) (fun b ob q=>qf _ q) (qu _) ?_,rfl,q _ (I.hok.fresh (qu _))⟩;exact⟨qJ (ZcJ xs lo hi) hz,_,(r.drop (HT.sIx xs.length 0 lo)).take (HT.sIx xs.length xs.length hi-HT.sIx xs.length 0 lo),Uh.new _ _⟩
def rLtT (K:qm):R2:=fun x y H Q=>∃a b ns ms,x=.ref a/\y=.ref b/\ZT K H a (ns.map V.int)/\ZT K H b (ms.map V.int)/\Q (.bl (HT.lexLt ns ms)) H
theorem ZoA (hu:X.A.units<cLine):YC X (compareOp .Lt) (rLtT X.K):=by
 intro jE s σ H x y v u Q I rx ry h;obtain⟨a,b,ns,ms,rfl,rfl,ha,hb,q⟩:=h
 cases rx
 cases ry
 obtain⟨jG,r1,p1,_⟩:=I.tuple ha;obtain⟨jT,r2,p2,_⟩:=I.tuple hb;have i1:IntsAre jG.toArray.toList ns:=Wx r1;have i2:IntsAre jT.toArray.toList ms:=Wx r2;exact HT.lt_tupInts p1 p2 i1 i2 hu ⟨.bl (HT.lexLt ns ms),H,I,rfl,q⟩
def ZpA (K:qm):R2:=fun x y H Q=>∃a b xs ys,x=.ref a/\y=.ref b/\ZT K H a xs/\ZT K H b ys/\xs≠[]/\xs.length+ys.length<=sizeLine/\
 (ys=[]->Q (.ref a) H)/\(ys≠[]->∀p,H p=none->Q (.ref p) (Zo H p (.tup (xs++ys))))
theorem ZI.nil_iff {xs:List V}{us:List Value}(r:ZI xs us):us=[]↔xs=[]:=by
 cases r with
 | nil=>simp
 | cons _ _=>simp
theorem ZmM:YC X (binaryOp .Add) (ZpA X.K):=by
 intro jE s σ H x y v u Q I rx ry h;obtain⟨a,b,xs,ys,rfl,rfl,ha,hb,hx,hz,q1,q2⟩:=h
 cases rx
 cases ry
 obtain⟨jG,r1,p1,_⟩:=I.tuple ha;obtain⟨jT,r2,p2,_⟩:=I.tuple hb;refine HT.cat_tup p1 p2 (fun z=>hx (r1.nil_iff.mp z)) (fun z=>⟨.ref a,H,I,rfl,q1 (r2.nil_iff.mp z)⟩) (fun z=>?_) (by rw[<-r1.length,<-r2.length];exact hz);refine⟨.ref s.heap.objs.size,_,I.laid (t':=s.toks) (o:=.tup (xs++ys)) (fun b ob q=>qf _ q) (qu _) ?_,rfl,q2 (fun w=>z (r2.nil_iff.mpr w)) _ (I.hok.fresh (qu _))⟩;exact⟨by rw[zp];exact hz,_,r1.append r2,Uh.new _ _⟩
end
end L2
namespace L2
def UR (n:Nat)(i:Int):Option Nat:=if 0<=i then (if i<n then some i.toNat else none) else if -(n:Int)<=i then some (i+n).toNat else none
def Xu {α:Type}(xs:List α)(i:Int):Option α:=(UR xs.length i).bind fun j=>xs[j]?
theorem ZiI {n:Nat}{i:Int}{j:Nat}(h:UR n i=some j):seqIndex? i n=some j/\j<n/\-(n:Int)<=i/\i<n:=by
 unfold UR at h;by_cases h0:0<=i
 ·rw[if_pos h0] at h
  by_cases h1:i<n
  ·rw[if_pos h1] at h
   have e:i.toNat=j:=zf h;exact⟨by rw[seqIndex_of h0 h1,e],by omega,by omega,h1⟩
  ·rw[if_neg h1] at h;cases h
 ·rw[if_neg h0] at h
  by_cases h1:-(n:Int)<=i
  ·rw[if_pos h1] at h
   have e:(i+n).toNat=j:=zf h;exact⟨by rw[seqIndex_neg (by omega) h1,e],by omega,h1,by omega⟩
  ·rw[if_neg h1] at h;cases h
theorem ZiJ {α:Type}{xs:List α}{i:Int}{v:α}(h:Xu xs i=some v):∃j,seqIndex? i xs.length=some j/\xs[j]?=some v/\j<xs.length/\-(xs.length:Int)<=i/\i<xs.length:=by
 unfold Xu at h
 cases e:UR xs.length i with
 | none=>rw[e] at h;cases h
 | some j=>
  rw[e] at h;obtain⟨h1,h2,h3,h4⟩:=ZiI e;exact⟨j,h1,h,h2,h3,h4⟩
theorem WL {α:Type}{xs:List α}{j:Nat}{v:α}(h:xs[j]?=some v):Xu xs (j:Int)=some v:=by
 have hj:j<xs.length:=(qD.mp h).1;have e:UR xs.length (j:Int)=some j:=by
  unfold UR;rw[if_pos (by omega),if_pos (by omega)];simp
 unfold Xu;rw[e];exact h
def ZiK (b:Expr):Prop:=∀o i,subscripted b false o i=operate [o,i] (getItem o i)
def US (X:Cx)(r:R2):Prop:=
 ∀(value slice:Expr) (jE:List (Addr×Obj)) (s:Shared) (σ:St) (H:Hp) (x y:V) (v u:Value) (Q:VK),Inv X jE σ H s->ZK x v->ZK y u->r x y H Q->
  subscripted slice false v u=operate [v,u] (getItem v u)->wpAny (model X.prog X.w) X.A (subscriptTail value slice v u) (EP X jE σ Q) X.xe s
def MtR (X:Cx)(id:String)(r:V->List V->Hp->VK->Prop):Prop:=
 ∀(jE:List (Addr×Obj)) (s:Shared) (σ:St) (H:Hp) (x:V) (xs:List V) (v:Value) (us:List Value) (Q:VK),Inv X jE σ H s->ZK x v->ZI xs us->r x xs H Q->
  wpAny (model X.prog X.w) X.A (call (.builtin id) (v::us)) (EP X jE σ Q) X.xe s
section
variable {X:Cx}{a b:Expr}{ta tb:TE}{pos:Pos}
theorem US.or {r r':R2}(h:US X r)(h':US X r'):US X (fun x y H Q=>r x y H Q∨r' x y H Q):=by
 intro value slice jE s σ H x y v u Q I rx ry q hs;rcases q with q | q
 ·exact h value slice jE s σ H x y v u Q I rx ry q hs
 ·exact h' value slice jE s σ H x y v u Q I rx ry q hs
theorem Vh {r:R2}(hr:US X r)(ha:PE X a ta)(hb:PE X b tb)(hs:ZiK b):PE X (.Subscript a b pos) (WV r ta tb):=by
 intro jE s σ H Q I h;exact Subscript_ (binT ha hb I h fun v u s2 x y H2 I2 rx ry q=>hr a b jE s2 σ H2 x y v u Q I2 rx ry q (hs _ _))
def BX (K:qm):R2:=fun x y H Q=>∃p xs i v,x=.ref p/\y=.int i/\ZH K H p xs/\Xu xs i=some v/\Q v H
def rIxT (K:qm):R2:=fun x y H Q=>∃p xs i v,x=.ref p/\y=.int i/\ZT K H p xs/\Xu xs i=some v/\Q v H
theorem Ve:US X (BX X.K):=by
 intro value slice jE s σ H x y v u Q I rx ry h hs;obtain⟨p,xs,i,z,rfl,rfl,hq,he,q⟩:=h
 cases rx
 obtain⟨t,rfl⟩:=ry;obtain⟨jG,r,pl,hz⟩:=I.list hq;obtain⟨j,h1,h2,h3,h4,h5⟩:=ZiJ he;obtain⟨w,ew,rw'⟩:=r.get h2;have hl:=r.length;have hn:=BI;have fin:EP X jE σ Q w s:=⟨z,H,I,rw',q⟩;by_cases h0:0<=i
 ·have hj:i.toNat=j:=by
   rw[seqIndex_of h0 h5] at h1;exact zf h1
  exact item_listR pl.isList h0 (by omega) (by rw[hj];simpa using ew) fin hs
 ·have hj:(i+(jG.toArray.size:Int)).toNat=j:=by
   rw[seqIndex_neg (by omega) h4] at h1;rw[qE,<-hl];exact zf h1
  exact subscriptTail_builtinR (x:=w) pl.isList.typeIs slot_list_getitem.lookup
   (wpAny_getItem_list_neg (Q:=fun r s'=>r=w/\EP X jE σ Q r s') pl.isList (by omega) (by rw[qE] <;> omega) (by omega) (by rw[hj];simpa using ew) ⟨rfl,fin⟩) hs
theorem ZoB:US X (rIxT X.K):=by
 intro value slice jE s σ H x y v u Q I rx ry h hs;obtain⟨p,xs,i,z,rfl,rfl,hq,he,q⟩:=h
 cases rx
 obtain⟨t,rfl⟩:=ry;obtain⟨jG,r,pl,hz⟩:=I.tuple hq;obtain⟨j,h1,h2,h3,h4,h5⟩:=ZiJ he;obtain⟨w,ew,rw'⟩:=r.get h2;have hl:=r.length;have hn:=BI;have fin:EP X jE σ Q w s:=⟨z,H,I,rw',q⟩;exact subscriptTail_builtinR (x:=w) pl.typeIs slot_tuple_getitem.lookup
  (getItem_tuple (j:=j) (Q:=fun r s'=>r=w/\EP X jE σ Q r s') pl (by omega) (by omega) (by rw[qE,<-hl];exact h1) (by simpa using ew) ⟨rfl,fin⟩) hs
theorem ZhF (jG:List Value)(n j:Nat)(u:Value):qS (·.setIfInBounds j u) { cls:=.type "list",data:=.seq jG.toArray n } = { cls:=.type "list",data:=.seq (jG.set j u).toArray n }:=by
 simp[qS]
theorem Inv.lst {jE:List (Addr×Obj)}{σ:St}{H:Hp}{s:Shared}{p:Addr}{xs:List V}(I:Inv X jE σ H s)(h:H p=some (.lst xs)) :
  ∃(jG:List Value) (n:Nat),ZI xs jG/\s.heap.get? p=some { cls:=.type "list",data:=.seq jG.toArray n }/\xs.length<=sizeLine:=by
 obtain⟨z,jG,n,r,e⟩:=I.hok p _ h;exact⟨jG,n,r,e,z⟩
theorem Inv.lstUpd {jE:List (Addr×Obj)}{σ:St}{H:Hp}{s:Shared}{p:Addr}{xs ys:List V}{jG its':List Value}{n n':Nat}{f:Obj->Obj}(I:Inv X jE σ H s)(h:H p=some (.lst xs))
  (ho:s.heap.get? p=some { cls:=.type "list",data:=.seq jG.toArray n }) (hf:f { cls:=.type "list",data:=.seq jG.toArray n } = { cls:=.type "list",data:=.seq its'.toArray n' }) (r:ZI ys its') (hz:ys.length<=sizeLine) (t:Nat) :
  Inv X jE σ (Zo H p (.lst ys)) { s with heap:=s.heap.update p f,toks:=t }:=by
 have e:(s.heap.update p f).get? p=some { cls:=.type "list",data:=.seq its'.toArray n' }:=by
  rw[qbB f ho (by rw[hf] <;> rfl),hf]
 refine I.write (x:=p) (e:=p) (by rw[h];trivial) (.inl rfl) (fun b u hb q=>(qbv _ _ (zJ hb)).trans q) ⟨_,e⟩ ?_;exact⟨hz,its',n',r,e⟩
def BO:V->V->V->Hp->(Hp->Prop)->Prop:=fun o i v H Q=>∃p xs k j,o=.ref p/\i=.int k/\H p=some (.lst xs)/\UR xs.length k=some j/\Q (Zo H p (.lst (xs.set j v)))
theorem ZdA:PSet X BO:=by
 intro jE s σ H o i v ov iv u Q I ro ri rv h;obtain⟨p,xs,k,j,rfl,rfl,hp,hj,q⟩:=h
 cases ro
 obtain⟨t,rfl⟩:=ri;obtain⟨jG,n,r,ho,hz⟩:=I.lst hp;obtain⟨h1,h2,h3,h4⟩:=ZiI hj;have hl:=r.length;have hn:=BI;have I':Inv X jE σ (Zo H p (.lst (xs.set j v))) { s with heap:=s.heap.update p (qS (·.setIfInBounds j u)) }:=
  I.lstUpd hp ho (ZhF jG n j u) (r.set rv j) (by rw[List.length_set];exact hz) s.toks
 by_cases h0:0<=k
 ·have hk:k.toNat=j:=by
   rw[seqIndex_of h0 h4] at h1;exact zf h1
  exact PySem.W.ki_setAt ho h0 (by omega) (by rw[qE,<-hl];exact h4) (by rw[hk];exact⟨_,I',q⟩)
 ·have hk:(k+(jG.toArray.size:Int)).toNat=j:=by
   rw[seqIndex_neg (by omega) h3] at h1;rw[qE,<-hl];exact zf h1
  exact PySem.W.ki_setBack ho (by omega) (by rw[qE,<-hl];exact h3) (by omega) (by rw[hk];exact⟨_,I',q⟩)
theorem Zfg (lo hi:Option Int)(n:Nat):(sliceBounds lo hi none n).1=((HT.sIx n 0 lo:Nat):Int)/\(sliceBounds lo hi none n).2.1=((HT.sIx n n hi:Nat):Int)/\(sliceBounds lo hi none n).2.2=1:=by
 refine⟨?_,?_,rfl⟩
 ·cases lo with
  | none=>simp[sliceBounds,HT.sIx]
  | some i=>
   simp only[sliceBounds,HT.sIx,Option.getD_none,show(1:Int) > 0 by decide,if_true];by_cases h:i<0
   ·simp only[h,if_true] <;> omega
   ·simp only[h,if_false] <;> omega
 ·cases hi with
  | none=>simp[sliceBounds,HT.sIx]
  | some i=>
   simp only[sliceBounds,HT.sIx,Option.getD_none,show(1:Int) > 0 by decide,if_true];by_cases h:i<0
   ·simp only[h,if_true] <;> omega
   ·simp only[h,if_false] <;> omega
theorem Zei (jG:List Value)(lo hi:Option Int):slicePick jG.toArray lo hi none=((jG.drop (HT.sIx jG.length 0 lo)).take (HT.sIx jG.length jG.length hi-HT.sIx jG.length 0 lo)).toArray:=by
 obtain⟨h1,h2,h3⟩:=Zfg lo hi jG.toArray.size;unfold slicePick;rw[h1,h2,h3];simp only[sliceRange_one,pick_run,qE] <;> rfl
def rSlL (K:qm):V->Option Int->Option Int->Hp->VK->Prop:=fun x lo hi H Q=>∃a xs,x=.ref a/\ZH K H a xs/\∀p,H p=none->Q (.ref p) (Zo H p (.lst (VQ xs lo hi)))
theorem ZmN:UQ X (rSlL X.K):=by
 intro jE s σ H x v vl vu lo hi sl Q I rx hs pl pu h;obtain⟨a,xs,rfl,hx,q⟩:=h
 cases rx
 obtain⟨jG,r,ht,hz⟩:=I.list hx;have jO:=r.length;refine⟨"list",_,slot_list_getitem.lookup,ht.isList.typeIs,?_⟩;refine wpAny_getItem_list_slice ht.isList hs pl pu .none (by simp) ?_ (by rw[qE] <;> omega);rw[Zei,<-jO];refine⟨.ref s.heap.objs.size,_,I.laid (t':=s.toks) (o:=.lst (VQ xs lo hi)) (fun b ob q=>qf _ q) (qu _) ?_,rfl,q _ (I.hok.fresh (qu _))⟩;exact⟨qJ (ZcJ xs lo hi) hz,_,0,(r.drop (HT.sIx xs.length 0 lo)).take (HT.sIx xs.length xs.length hi-HT.sIx xs.length 0 lo),qz _ rfl⟩
theorem ZaA:Y9 X (.builtin "len") (fun xs H Q=>∃p ys,xs=[.ref p]/\(ZH X.K H p ys∨ZT X.K H p ys)/\Q (.int ys.length) H):=by
 intro jE s σ H xs us Q I r h;obtain⟨p,ys,rfl,hq,q⟩:=h;obtain⟨u,rfl,rx⟩:=Xl r
 cases rx
 have hn:=BI;rcases hq with hq | hq
 ·obtain⟨jG,r',pl,hz⟩:=I.list hq
  have jO:=r'.length;exact Calls.call_len_list pl.isList (by simp only[qE] <;> omega) ⟨.int ys.length,H,I.tok _,⟨s.toks+1,by rw[qE,jO]⟩,q⟩
 ·obtain⟨jG,r',pl,hz⟩:=I.tuple hq
  have jO:=r'.length;exact len_tuple pl (by simp only[qE] <;> omega) ⟨.int ys.length,H,I.tok _,⟨s.toks+1,by rw[qE,jO]⟩,q⟩
theorem Zfh:Y9 X (.type "list") (fun xs H Q=>∃p ys,xs=[.ref p]/\(ZH X.K H p ys∨ZT X.K H p ys)/\∀l,H l=none->Q (.ref l) (Zo H l (.lst ys))):=by
 intro jE s σ H xs us Q I r h;obtain⟨p,ys,rfl,hq,q⟩:=h;obtain⟨u,rfl,rx⟩:=Xl r
 cases rx
 have fin:∀(jG:List Value),ZI ys jG->ys.length<=sizeLine->∀(h':Heap) (c':Nat),(∀b o',s.heap.get? b=some o'->h'.get? b=some o')->
   h'.get? s.heap.objs.size=some { cls:=.type "list",dict:=none,data:=.seq jG.toArray c',slots:=#[] }->EP X jE σ Q (.ref s.heap.objs.size) { s with heap:=h' }:=fun jG r' hz h' c' kp e=>
  ⟨.ref s.heap.objs.size,_,I.laid (t':=s.toks) kp (qu _) (show YI X.prog X.w _ h' _ (.lst ys) from⟨hz,jG,c',r',e⟩),rfl,q _ (I.hok.fresh (qu _))⟩
 rcases hq with hq | hq
 ·obtain⟨jG,r',pl,hz⟩:=I.list hq
  have jO:=r'.length;obtain⟨o,ho,hc,n,hd⟩:=pl.isList;exact call_list_seq p (.inl rfl) ho hc hd (fun h' c' kp e=>fin jG r' hz h' c' kp e) (by simp only[qE] <;> omega)
 ·obtain⟨jG,r',pl,hz⟩:=I.tuple hq
  have jO:=r'.length;obtain⟨o,ho,hc,n,hd⟩:=pl;exact call_list_seq p (.inr rfl) ho hc hd (fun h' c' kp e=>fin jG r' hz h' c' kp e) (by simp only[qE] <;> omega)
theorem Zej:Y9 X (.type "tuple") (fun xs H Q=>∃p ys,xs=[.ref p]/\((ZH X.K H p ys/\∀l,H l=none->Q (.ref l) (Zo H l (.tup ys)))∨(ZT X.K H p ys/\Q (.ref p) H))):=by
 intro jE s σ H xs us Q I r h;obtain⟨p,ys,rfl,h⟩:=h;obtain⟨u,rfl,rx⟩:=Xl r
 cases rx
 rcases h with⟨hq,q⟩ | ⟨hq,q⟩
 ·obtain⟨jG,r',pl,hz⟩:=I.list hq
  have jO:=r'.length;refine call_tuple_list pl.isList (fun h' kp=>?_) (by simp only[qE] <;> omega);have I1:Inv X jE σ H { s with heap:=h' }:=I.kept (t':=s.toks) kp;have I2:Inv X jE σ (Zo H h'.objs.size (.tup ys)) { s with heap:=h'.push { cls:=.type "tuple",data:=.seq jG.toArray } }:=
   I1.laid (t':=s.toks) (fun b o e=>qf _ e) (qu _) (show YI X.prog X.w _ _ _ (.tup ys) from⟨hz,jG,r',Uh.new _ _⟩)
  exact⟨.ref h'.objs.size,_,I2,rfl,q _ (I1.hok.fresh (qu _))⟩
 ·obtain⟨jG,r',pl,hz⟩:=I.tuple hq
  exact call_tuple_same pl ⟨.ref p,H,I,rfl,q⟩
def tyV (K:qm)(T:String)(x:V)(H:Hp):Prop:=match x with
 | .str _=>T = "str"
 | .int _=>T = "int"
 | .ref p=>(T = "list"/\∃xs,ZH K H p xs)∨(T = "tuple"/\∃o,K.lookup p=some o/\o.cls=.type "tuple"/\o.dict=none)∨
   (T = "dict"/\((∃kvs,H p=some (.dK kvs))∨∃kvs,H p=some (.dT kvs)))∨(T = "set"/\∃S n,H p=some (.set S n))
 | _=>False
theorem ZoC {jE:List (Addr×Obj)}{σ:St}{H:Hp}{s:Shared}{T:String}{x:V}{v:Value}(I:Inv X jE σ H s)(r:ZK x v)(ty:tyV X.K T x H) :
  s.TypeIs v T/\∀a,v=.ref a->∃ob,s.heap.get? a=some ob/\ob.dict=none:=by
 cases x with
 | str z=>
  obtain⟨t,rfl⟩:=r
  cases (show T = "str" from ty)
  exact⟨typeIs_str s z t,fun _ e=>nomatch e⟩
 | int i=>
  obtain⟨t,rfl⟩:=r
  cases (show T = "int" from ty)
  exact⟨typeIs_int s i t,fun _ e=>nomatch e⟩
 | ref p=>
  cases r
  rcases ty with⟨rfl,xs,hq⟩ | ⟨rfl,o,hk,hc,hd⟩ | ⟨rfl,hk⟩ | ⟨rfl,S,n,hk⟩
  ·obtain⟨jG,_,pl,_⟩:=I.list hq
   refine⟨pl.isList.typeIs,fun a e=>?_⟩
   cases e
   obtain⟨o,n,e,c,hd,_⟩:=pl;exact⟨o,e,hd⟩
  ·refine⟨⟨o,I.kIn p o hk,hc⟩,fun a e=>?_⟩
   cases e
   exact⟨o,I.kIn _ o hk,hd⟩
  ·have z:∃o,s.heap.get? p=some o/\o.ExactDict:=by
    rcases hk with⟨kvs,hk⟩ | ⟨kvs,hk⟩
    ·obtain⟨_,_,_,_,o,_,_,e,ex,_⟩:=I.hok p _ hk
     exact⟨o,e,ex⟩
    ·obtain⟨_,_,_,_,o,_,_,e,ex,_⟩:=I.hok p _ hk
     exact⟨o,e,ex⟩
   obtain⟨o,e,ex⟩:=z;refine⟨⟨o,e,ex.1⟩,fun a e2=>?_⟩
   cases e2
   exact⟨o,e,ex.2.1⟩
  ·obtain⟨o,_,_,_,e,ex,_⟩:=I.hok p _ hk
   refine⟨⟨o,e,ex.1⟩,fun a e2=>?_⟩
   cases e2
   exact⟨o,e,ex.2.1⟩
 | _=>exact zG ty
def tBM (K:qm)(T:String)(r:V->List V->Hp->VK->Prop)(to:TE)(t:TA):TE:=fun σ H Q=>to σ H fun x H1=>tyV K T x H1/\t σ H1 fun xs H2=>r x xs H2 Q
variable {o e:Expr}{es:List Expr}{to:TE}{t:TA}{name:Str}{apos cpos:Pos}{T id:String}{r:V->List V->Hp->VK->Prop}
theorem ZnM (pa:PlainAttrs T)(slot:Slot T name id)(hty:typeOf (.builtin id)=pure (.type "method_descriptor"))(hm:MtR X id r)(ho:PE X o to)(ha:PA X (e::es) t)
  (hbase:attributeBase o name X.env (eval o X.env)=eval o X.env:=by rfl)
  (hfew:((backTo cpos (starEach (e::es) X.env)).all (fun x=>!x.1)&&(backToKw cpos (keywordEach [] X.env)).all (fun x=>x.1.isSome)
   && decide ((e::es).length+([]:List Keyword).length+(if ([]:List Keyword).isEmpty then 0 else 1)<30))=true:=by rfl)
  (hline:(apos.endLine==cpos.line)=true:=by rfl) (hs:starEach (e::es) X.env=(false,eval e X.env)::starEach es X.env:=by rfl) (hplain:(backTo cpos (starEach es X.env)).any (·.1)=false:=by rfl) :
  PE X (.Call (.Attribute o name apos) (e::es) [] cpos) (tBM X.K T r to t):=by
 intro jE s σ H Q I h;refine wpAny_Call_method_late hbase hfew hline rfl (ZJ (ho jE s σ H _ I h) fun v s1 ⟨x,H1,I1,r1,ty,q1⟩=>?_);obtain⟨h1,h2⟩:=ZoC I1 r1 ty;refine⟨T,id,pa,slot,hty,h1,h2,?_⟩;have hA:=ha cpos jE s1 σ H1 _ I1 q1;rw[hs] at hA⊢;refine yQ (by show(false||(backTo cpos (starEach es X.env)).any (·.1))=false;rw[hplain] <;> rfl) (qaJ ?_);exact ZJ hA fun us s2 ⟨vs,H2,I2,r2,q2⟩=>hm jE s2 σ H2 x vs v us Q I2 r1 r2 q2
end
end L2
namespace L2
def MtM (X:Cx)(id:String)(r:V->List V->Hp->VK->Prop):Prop:=
 ∀(jE:List (Addr×Obj)) (s:Shared) (σ:St) (H:Hp) (x:V) (xs:List V) (v:Value) (us:List Value) (Q:VK),Inv X jE σ H s->ZK x v->ZI xs us->r x xs H Q->
  wpAny (model X.prog X.w) X.A (call (.builtin id) (v::us)) (EP X jE σ Q) X.xe s
theorem ZI.one:∀{x:V} {us:List Value},ZI [x] us->∃u,us=[u]/\ZK x u
 | _,_,.cons r .nil=>⟨_,rfl,r⟩
theorem ZI.two:∀{x y:V} {us:List Value},ZI [x,y] us->∃u v,us=[u,v]/\ZK x u/\ZK y v
 | _,_,_,.cons r (.cons q .nil)=>⟨_,_,rfl,r,q⟩
section
variable {X:Cx}{jE:List (Addr×Obj)}{σ:St}{H:Hp}{s:Shared}{l b:Addr}{xs ys zs:List V}
theorem Inv.lset {jG its':List Value}{n:Nat}{f:Array Value->Array Value}{t':Nat}(I:Inv X jE σ H s)(hH:H l=some (.lst xs))
  (e:s.heap.get? l=some { cls:=.type "list",data:=.seq jG.toArray n }) (hf:f jG.toArray=its'.toArray) (hv:ZI ys its') (hz:ys.length<=sizeLine) :
  Inv X jE σ (Zo H l (.lst ys)) { s with heap:=s.heap.update l (qS f),toks:=t' }:=by
 have q:=PySem.IsL.update e f;rw[hf] at q;refine I.write (x:=l) (e:=l) (by rw[hH];exact trivial) (.inl rfl) (fun b' u hb hu=>(qbv s.heap (qS f) (zJ hb)).trans hu) ⟨_,q⟩ ?_;exact⟨hz,its',_,hv,q⟩
theorem Inv.lnew {jG:List Value}{t':Nat}(I:Inv X jE σ H s)(hv:ZI ys jG)(hz:ys.length<=sizeLine) :
  Inv X jE σ (Zo H s.heap.objs.size (.lst ys)) { s with heap:=s.heap.push { cls:=.type "list",data:=.seq jG.toArray },toks:=t' }:=
 I.laid (fun _ _ q=>qf _ q) (qu _) ⟨hz,jG,0,hv,qz _ rfl⟩
theorem Inv.fresh (I:Inv X jE σ H s):H s.heap.objs.size=none:=I.hok.fresh (qu _)
theorem Inv.lstM (I:Inv X jE σ H s)(hH:H l=some (.lst xs)):xs.length<=sizeLine/\∃(jG:List Value) (n:Nat),ZI xs jG/\xs.length=jG.length/\s.heap.get? l=some { cls:=.type "list",data:=.seq jG.toArray n }:=by
 obtain⟨z,jG,n,r,e⟩:=I.hok l _ hH;exact⟨z,jG,n,r,r.length,e⟩
end
section
variable {X:Cx}
def Zdh:V->List V->Hp->VK->Prop:=fun x vs H Q=>∃l xs y,x=.ref l/\vs=[y]/\H l=some (.lst xs)/\xs.length<sizeLine/\Q .non (Zo H l (.lst (xs ++ [y])))
theorem ZeD:MtM X "list.append" Zdh:=by
 intro jE s σ H x vs v us Q I rx rv h;obtain⟨l,xs,y,rfl,rfl,hH,hz,q⟩:=h
 cases rx
 obtain⟨u,rfl,ru⟩:=rv.one;obtain⟨z,jG,n,r,hl,e⟩:=I.lstM hH;refine call_meets F.slot_list_append ⟨_,e,rfl⟩ F.entry_list_append (F.args_list_append_2 _ _) (PySem.list_append l jG.toArray n u (by rw[qE];omega)) ⟨e,?_⟩;refine⟨.non,_,I.lset (its':=jG ++ [u]) hH e (by simp) (r.append (.cons ru .nil)) ?_,rfl,q⟩;rw[zp,qaD];omega
def rCat:R2:=fun x y H Q=>∃l b xs zs,x=.ref l/\y=.ref b/\H l=some (.lst xs)/\H b=some (.lst zs)/\xs.length+zs.length<=sizeLine/\∀p,H p=none->Q (.ref p) (Zo H p (.lst (xs++zs)))
theorem ZoD:YC X (binaryOp .Add) rCat:=by
 intro jE s σ H x y v u Q I rx ry h;obtain⟨l,b,xs,zs,rfl,rfl,hH,hB,hz,q⟩:=h
 cases rx
 cases ry
 obtain⟨z,jG,n,r,hl,e⟩:=I.lstM hH;obtain⟨z2,jT,n2,r2,hl2,e2⟩:=I.lstM hB;refine PySem.P.add_list e e2 ?_ (by rw[qE,qE];omega);have ea:jG.toArray++jT.toArray=(jG++jT).toArray:=by simp
 rw[ea];exact⟨.ref _,_,I.lnew (t':=s.toks) (r.append r2) (by rw[zp];omega),rfl,q _ I.fresh⟩
end
section
variable {prog:Program}{w:World}{A:Around}{E:Value->Shared->Prop}{s:Shared}
end
section
variable {X:Cx}
end
end L2
namespace L2
section
variable {κ:Type}[DecidableEq κ]
def Z6 (kvs:List (κ×V))(k:κ):Option V:=(kvs.find? fun kv=>decide (kv.1=k)).map (·.2)
def Yo (kvs:List (κ×V))(k:κ)(v:V):List (κ×V):=
 if (kvs.any fun kv=>decide (kv.1=k))=true then kvs.map (fun kv=>if kv.1=k then (kv.1,v) else kv) else kvs ++ [(k,v)]
theorem WZ {p:κ×V}{r:List (κ×V)}{k:κ}(e:p.1=k):Z6 (p::r) k=some p.2:=by simp[Z6,yn,e]
theorem W0 {p:κ×V}{r:List (κ×V)}{k:κ}(e:¬p.1=k):Z6 (p::r) k=Z6 r k:=by simp[Z6,yn,e]
theorem Bx (k:κ):∀kvs:List (κ×V),(kvs.any fun kv=>decide (kv.1=k))=(Z6 kvs k).isSome
 | []=>rfl
 | p::r=>by
  rw[yH];by_cases e:p.1=k
  ·simp only[WZ e,decide_eq_true e,Bool.true_or,Option.isSome_some]
  ·rw[W0 e,decide_eq_false e,Bool.false_or];exact Bx k r
theorem Zgi (k j:κ)(y:V):∀kvs:List (κ×V),Z6 (kvs.map fun kv=>if kv.1=k then (kv.1,y) else kv) j=(Z6 kvs j).map fun x=>if j=k then y else x
 | []=>rfl
 | p::r=>by
  have ih:=Zgi k j y r;rw[qW];by_cases h:p.1=k
  ·rw[if_pos h]
   by_cases e:p.1=j
   ·rw[WZ (p:=(p.1,y)) e,WZ e,zR,if_pos (e.symm.trans h)]
   ·rw[W0 (p:=(p.1,y)) e,W0 e,ih]
  ·rw[if_neg h]
   by_cases e:p.1=j
   ·rw[WZ (p:=p) e,WZ e,zR,if_neg (fun z=>h (e.trans z))]
   ·rw[W0 (p:=p) e,W0 e,ih]
theorem ZeE (k j:κ)(y:V):∀kvs:List (κ×V),Z6 kvs k=none->Z6 (kvs ++ [(k,y)]) j=if j=k then some y else Z6 kvs j
 | [],_=>by
  by_cases e:k=j
  ·rw[if_pos e.symm];exact WZ (p:=(k,y)) e
  ·rw[if_neg (fun z=>e z.symm)];exact W0 (p:=(k,y)) e
 | p::r,hn=>by
  rw[qa7];have hk:¬p.1=k:=fun z=>by rw[WZ z] at hn;cases hn
  rw[W0 hk] at hn;have ih:=ZeE k j y r hn;by_cases e:p.1=j
  ·rw[WZ e,WZ e,if_neg (fun z=>hk (e.trans z))]
  ·rw[W0 e,W0 e,ih]
theorem Zgj (kvs:List (κ×V))(k j:κ)(y:V):Z6 (Yo kvs k y) j=if j=k then some y else Z6 kvs j:=by
 unfold Yo;by_cases a:(kvs.any fun kv=>decide (kv.1=k))=true
 ·rw[if_pos a,Zgi]
  rw[Bx] at a;by_cases e:j=k
  ·obtain⟨x,hx⟩:=zT.mp a
   rw[if_pos e,e,hx,zR,if_pos rfl]
  ·rw[if_neg e]
   cases Z6 kvs j with
   | none=>rfl
   | some x=>rw[zR,if_neg e]
 ·rw[if_neg a]
  refine ZeE k j y kvs ?_;rw[Bx] at a
  cases q:Z6 kvs k with
  | none=>rfl
  | some x=>rw[q] at a;exact(a rfl).elim
theorem UX (kvs:List (κ×V))(k:κ)(v:V):(Yo kvs k v).length<=kvs.length+1:=by
 unfold Yo;split
 ·rw[qd];omega
 ·rw[zp,qY,yh];omega
theorem Zgk {kvs:List (κ×V)}{k:κ}(v:V)(h:Z6 kvs k=none):Yo kvs k v=kvs ++ [(k,v)]:=by
 unfold Yo;rw[Bx,h];exact if_neg (by decide)
theorem VP.isSome_eq {o:Option V}{u:Option Value}(r:VP o u):o.isSome=u.isSome:=by
 cases o with
 | none=>cases u with
  | none=>rfl
  | some _=>exact(show False from r).elim
 | some _=>cases u with
  | none=>exact(show False from r).elim
  | some _=>rfl
theorem VP.getD {o:Option V}{u:Option Value}{d:V}{d':Value}(r:VP o u)(rd:ZK d d'):ZK (o.getD d) (u.getD d'):=by
 cases o with
 | none=>cases u with
  | none=>exact rd
  | some _=>exact(show False from r).elim
 | some _=>cases u with
  | none=>exact(show False from r).elim
  | some _=>exact r
theorem KV.val {kvs:List (κ×V)}{vs:List (κ×Value)}(r:KV kvs vs)(k:κ):VP (Z6 kvs k) (valueAt vs k):=by
 unfold KV at r
 induction r with
 | nil=>exact ym
 | @cons p q ps qs h t ih=>
  obtain⟨h1,h2⟩:=h;by_cases e:p.1=k
  ·have e':q.1=k:=h1.symm.trans e
   have b:valueAt (q::qs) k=some q.2:=by simp[valueAt,yn,e']
   rw[WZ e,b];exact h2
  ·have e':¬q.1=k:=fun z=>e (h1.trans z)
   have b:valueAt (q::qs) k=valueAt qs k:=by simp[valueAt,yn,e']
   rw[W0 e,b];exact ih
theorem KV.any {kvs:List (κ×V)}{vs:List (κ×Value)}(r:KV kvs vs)(k:κ):(kvs.any fun kv=>decide (kv.1=k))=vs.any fun kv=>decide (kv.1=k):=by
 unfold KV at r
 induction r with
 | nil=>rfl
 | cons h t ih=>rw[yH,yH,ih,h.1]
theorem KV.repl {kvs:List (κ×V)}{vs:List (κ×Value)}(r:KV kvs vs)(k:κ){y:V}{u:Value}(ry:ZK y u) :
  KV (kvs.map fun kv=>if kv.1=k then (kv.1,y) else kv) (vs.map fun kv=>if kv.1=k then (kv.1,u) else kv):=by
 unfold KV at r⊢
 induction r with
 | nil=>exact .nil
 | @cons p q ps qs h t ih=>
  rw[qW,qW];refine .cons ?_ ih;obtain⟨h1,h2⟩:=h;by_cases e:p.1=k
  ·rw[if_pos e,if_pos (h1.symm.trans e)];exact⟨h1,ry⟩
  ·rw[if_neg e,if_neg (fun z=>e (h1.trans z))];exact⟨h1,h2⟩
theorem KV.put {kvs:List (κ×V)}{vs:List (κ×Value)}(r:KV kvs vs)(k:κ){y:V}{u:Value}(ry:ZK y u):KV (Yo kvs k y) (stored vs k u):=by
 unfold Yo stored;rw[r.any k];by_cases e:(vs.any fun kv=>decide (kv.1=k))=true
 ·rw[if_pos e,if_pos e];exact r.repl k ry
 ·rw[if_neg e,if_neg e];exact Paired.snoc r ⟨rfl,ry⟩
theorem KV.length {kvs:List (κ×V)}{vs:List (κ×Value)}(r:KV kvs vs):kvs.length=vs.length:=yG r
end
theorem Jh {P:Program}{w:World}{k:Zy}{u:Value}(r:ZK (kV k) u):(XT P w).is k u=true:=by
 cases k with
 | inl i=>obtain⟨t,e⟩:=(show ∃t,u=yV i t from r);subst e;exact Zgd P w i t
 | inr x=>obtain⟨t,e⟩:=(show ∃t,u=qb0 x t from r);subst e;exact Zge P w x t
theorem ZeF {P:Program}{w:World}:∀{ks:List Zy} {us:List Value},ZI (ks.map kV) us->ItemsAre (XT P w) ks us
 | [],_,r=>by rw[qaI] at r;cases r;exact .nil
 | k::ks,_,r=>by
  rw[qW] at r
  cases r with
  | cons h t=>exact .cons (Jh h) (ZeF t)
abbrev KT (H:Hp):List (List Zy×V)->List (List Zy×Addr×Value)->Prop:=Paired fun p q=>p.1=q.1/\H q.2.1=some (.tup (p.1.map kV))/\ZK p.2 q.2.2
theorem KT.val {H:Hp}{kvs:List (List Zy×V)}{xs:List (List Zy×Addr×Value)}(r:KT H kvs xs)(k:List Zy):VP (Z6 kvs k) ((atKey xs k).map (·.2)):=by
 induction r with
 | nil=>exact ym
 | @cons p q ps qs h t ih=>
  obtain⟨h1,_,h2⟩:=h;by_cases e:p.1=k
  ·have e':q.1=k:=h1.symm.trans e
   have b:atKey (q::qs) k=some q.2:=by simp[atKey,yn,e']
   rw[WZ e,b];exact h2
  ·have e':¬q.1=k:=fun z=>e (h1.trans z)
   have b:atKey (q::qs) k=atKey qs k:=by simp[atKey,yn,e']
   rw[W0 e,b];exact ih
theorem KT.repl {H:Hp}{kvs:List (List Zy×V)}{xs:List (List Zy×Addr×Value)}(r:KT H kvs xs)(k:List Zy){y:V}{u:Value}(ry:ZK y u) :
  KT H (kvs.map fun kv=>if kv.1=k then (kv.1,y) else kv) (xs.map (putAt k u)):=by
 induction r with
 | nil=>exact .nil
 | @cons p q ps qs h t ih=>
  rw[qW,qW];refine .cons ?_ ih;obtain⟨h1,h2,h3⟩:=h;unfold putAt;by_cases e:p.1=k
  ·rw[if_pos e,if_pos (h1.symm.trans e)];exact⟨h1,h2,ry⟩
  ·rw[if_neg e,if_neg (fun z=>e (h1.trans z))];exact⟨h1,h2,h3⟩
theorem KT.put {H:Hp}{kvs:List (List Zy×V)}{xs:List (List Zy×Addr×Value)}(r:KT H kvs xs)(k:List Zy){b:Addr}{y:V}{u:Value}(hb:H b=some (.tup (k.map kV)))(ry:ZK y u) :
  KT H (Yo kvs k y) (storedH xs k b u):=by
 have e:(kvs.any fun kv=>decide (kv.1=k))=(atKey xs k).isSome:=by
  rw[Bx,(r.val k).isSome_eq,qa4]
 unfold Yo storedH;rw[e];by_cases q:(atKey xs k).isSome=true
 ·rw[if_pos q,if_pos q];exact r.repl k ry
 ·rw[if_neg q,if_neg q];exact Paired.snoc r ⟨rfl,hb,ry⟩
theorem KT.keeps {H H':Hp}{kvs:List (List Zy×V)}{xs:List (List Zy×Addr×Value)}(r:KT H kvs xs)(ht:∀b ys,H b=some (.tup ys)->H' b=some (.tup ys)):KT H' kvs xs:=
 Paired.mapP r fun _ _ z=>⟨z.1,ht _ _ z.2.1,z.2.2⟩
section
variable {P:Program}{w:World}{H:Hp}{h:Heap}{a:Addr}
theorem ZnN {u:HO}(ok:YJ P w H h)(e:Rd H a u):YI P w H h a u:=e.ok ok
theorem Vu {kvs:List (Zy×V)}(ok:YJ P w H h)(e:Rd H a (.dK kvs)):kvs.length<=sizeLine/\(a==sysModules)=false/\∃vs,KV kvs vs/\h.DictOf (XT P w) a vs:=
 show YI P w H h a (.dK kvs) from ZnN ok e
theorem ZnO {kvs:List (Zy×V)}(ok:YJ P w H h)(e:H a=some (.dK kvs)):kvs.length<=sizeLine/\(a==sysModules)=false/\∃vs,KV kvs vs/\h.DictOf (XT P w) a vs:=Vu ok (.inl e)
theorem Jc {ks:List Zy}(ok:YJ P w H h)(e:H a=some (.tup (ks.map kV))):(tupleKind (XT P w)).is h ks a:=by
 obtain⟨_,jG,r,o,h1,⟨h2,n,h3⟩,_⟩:=(show YI P w H h a (.tup (ks.map kV)) from ok a _ e);exact⟨o,jG.toArray,n,h1,h2,h3,by simpa using ZeF r⟩
theorem Ji {kvs:List (List Zy×V)}(ok:YJ P w H h)(e:Rd H a (.dT kvs)):kvs.length<=sizeLine/\(a==sysModules)=false/\
  ∃xs,KT H kvs xs/\h.DictOfH (tupleKind (XT P w)) a xs:=by
 obtain⟨z,y,xs,r,o,es,ep,h1,h2,h3,h4,h5⟩:=(show YI P w H h a (.dT kvs) from ZnN ok e);refine⟨z,y,xs,r,o,es,ep,h1,h2,h3,h4,fun x hx=>?_,h5⟩;have all:∀{l:List (List Zy×V)} {m:List (List Zy×Addr×Value)},KT H l m->∀x∈m,(tupleKind (XT P w)).is h x.1 x.2.1:=by
  intro l m q
  induction q with
  | nil=>intro x hx;exact nomatch hx
  | @cons p q ps qs hq t ih=>
   intro x hx;rcases qq.mp hx with e | hx
   ·subst e
    exact Jc ok (by rw[<-hq.1];exact hq.2.1)
   ·exact ih x hx
 exact all r x hx
theorem ZnP {kvs:List (List Zy×V)}(ok:YJ P w H h)(e:H a=some (.dT kvs)):kvs.length<=sizeLine/\(a==sysModules)=false/\
  ∃xs,KT H kvs xs/\h.DictOfH (tupleKind (XT P w)) a xs:=Ji ok (.inl e)
end
def X6 (H:Hp)(a:Addr)(y:V)(r:Option V):Prop:=
 (∃kvs k,Rd H a (.dK kvs)/\y=kV k/\r=Z6 kvs k)∨∃kvs k b,Rd H a (.dT kvs)/\y=.ref b/\H b=some (.tup (k.map kV))/\r=Z6 kvs k
def W5 (H:Hp)(a:Addr)(y v:V)(H':Hp):Prop:=
 (∃kvs k,H a=some (.dK kvs)/\y=kV k/\kvs.length<sizeLine/\H'=Zo H a (.dK (Yo kvs k v)))∨
 ∃kvs k b,H a=some (.dT kvs)/\y=.ref b/\H b=some (.tup (k.map kV))/\kvs.length<sizeLine/\H'=Zo H a (.dT (Yo kvs k v))
theorem X6.k {H:Hp}{a:Addr}{kvs:List (Zy×V)}{k:Zy}(e:H a=some (.dK kvs)):X6 H a (kV k) (Z6 kvs k):=.inl ⟨kvs,k,.inl e,rfl,rfl⟩
theorem X6.t {H:Hp}{a b:Addr}{kvs:List (List Zy×V)}{k:List Zy}(e:H a=some (.dT kvs))(eb:H b=some (.tup (k.map kV))):X6 H a (.ref b) (Z6 kvs k):=.inr ⟨kvs,k,b,.inl e,rfl,eb,rfl⟩
theorem W5.k {H:Hp}{a:Addr}{kvs:List (Zy×V)}{k:Zy}{v:V}(e:H a=some (.dK kvs))(hl:kvs.length<sizeLine):W5 H a (kV k) v (Zo H a (.dK (Yo kvs k v))):=.inl ⟨kvs,k,e,rfl,hl,rfl⟩
theorem W5.t {H:Hp}{a b:Addr}{kvs:List (List Zy×V)}{k:List Zy}{v:V}(e:H a=some (.dT kvs))(eb:H b=some (.tup (k.map kV)))(hl:kvs.length<sizeLine) :
  W5 H a (.ref b) v (Zo H a (.dT (Yo kvs k v))):=.inr ⟨kvs,k,b,e,rfl,eb,hl,rfl⟩
section
variable {X:Cx}{jE:List (Addr×Obj)}{σ:St}{H:Hp}{s:Shared}{a:Addr}{y v:V}{u r:Value}{o:Option V}{A:Around}{E:Value->Shared->Prop}
theorem Inv.big (I:Inv X jE σ H s):sysModules<s.heap.objs.size:=by
 have h:mainGlobals<s.heap.objs.size:=(I.mod.glob.keeps I.bk).lt;exact qb1 (by decide) h
theorem ZjB {Q:Value->Shared->Prop}(hu:A.units+1<cLine)(I:Inv X jE σ H s)(g:X6 H a y (some v))(ry:ZK y u)(h:∀w' s',Inv X jE σ H s'->ZK v w'->Q w' s') :
  wpAny (model X.prog X.w) A (getItem (.ref a) u) Q E s:=by
 rcases g with⟨kvs,k,e,ey,l⟩ | ⟨kvs,k,b,e,ey,eb,l⟩
 ·subst ey
  obtain⟨z,hd,vs,rel,dd⟩:=Vu I.hok e;obtain⟨w',hw,rw'⟩:=jv (v:=v) (o:=valueAt vs k) (by rw[l];exact rel.val k);exact wpAny_getItem_of (Jh ry) dd.mapOf hw (h w' _ (I.tok _) rw')
 ·subst ey
  cases (show u=qK b from ry)
  obtain⟨z,hd,xs,rel,dd⟩:=Ji I.hok e;obtain⟨w',hw,rw'⟩:=jv (v:=v) (o:=(atKey xs k).map (·.2)) (by rw[l];exact rel.val k);obtain⟨p,hp,hp2⟩:=zi.mp hw;refine wpAny_getItem_heap (tupleKind_room_in1 hu) (Jc I.hok eb) dd hp ?_;rw[hp2];exact h w' _ (I.tok _) rw'
theorem d_in {Q:Value->Shared->Prop}(hu:A.units+1<cLine)(I:Inv X jE σ H s)(g:X6 H a y o)(ry:ZK y u)(h:∀s',Inv X jE σ H s'->Q (.bool o.isSome) s') :
  wpAny (model X.prog X.w) A (compareOp .In u (.ref a)) Q E s:=by
 rcases g with⟨kvs,k,e,ey,l⟩ | ⟨kvs,k,b,e,ey,eb,l⟩
 ·subst ey
  obtain⟨z,hd,vs,rel,dd⟩:=Vu I.hok e;refine wpAny_in_of (Jh ry) hd dd.mapOf ?_;rw[<-(rel.val k).isSome_eq,<-l];exact h _ (I.tok _)
 ·subst ey
  cases (show u=qK b from ry)
  obtain⟨z,hd,xs,rel,dd⟩:=Ji I.hok e;refine wpAny_in_heap (tupleKind_room_in1 hu) (Jc I.hok eb) hd dd ?_;have q:=(rel.val k).isSome_eq;rw[qa4] at q;rw[<-q,<-l];exact h _ (I.tok _)
theorem ZmO {Q:Value->Shared->Prop}(hu:A.units+1<cLine)(I:Inv X jE σ H s)(g:X6 H a y o)(ry:ZK y u)(h:∀s',Inv X jE σ H s'->Q (.bool (!o.isSome)) s') :
  wpAny (model X.prog X.w) A (compareOp .NotIn u (.ref a)) Q E s:=by
 rcases g with⟨kvs,k,e,ey,l⟩ | ⟨kvs,k,b,e,ey,eb,l⟩
 ·subst ey
  obtain⟨z,hd,vs,rel,dd⟩:=Vu I.hok e;refine wpAny_notIn_of (Jh ry) hd dd.mapOf ?_;rw[<-(rel.val k).isSome_eq,<-l];exact h _ (I.tok _)
 ·subst ey
  cases (show u=qK b from ry)
  obtain⟨z,hd,xs,rel,dd⟩:=Ji I.hok e;refine wpAny_notIn_heap (tupleKind_room_in1 hu) (Jc I.hok eb) hd dd ?_;have q:=(rel.val k).isSome_eq;rw[qa4] at q;rw[<-q,<-l];exact h _ (I.tok _)
theorem Zdi {h':Heap}{t':Nat}{ob:HO}(I:Inv X jE σ H s)(mu:B2 (H a))(hs:qad a s.heap h')(he:∃q,h'.get? a=some q)(new:YI X.prog X.w (Zo H a ob) h' a ob) :
  Inv X jE σ (Zo H a ob) { s with heap:=h',toks:=t' }:=
 I.write (x:=a) (e:=a) mu (.inl rfl) (fun b q hb z=>(hs.2 b hb).trans z) he new
theorem ZkQ {P:Program}{w:World}{H':Hp}{h':Heap}{kvs:List (Zy×V)}{vs:List (Zy×Value)}(z:kvs.length<=sizeLine)(hd:(a==sysModules)=false)(rel:KV kvs vs)(dd:h'.DictOf (XT P w) a vs) :
  YI P w H' h' a (.dK kvs):=⟨z,hd,vs,rel,dd⟩
theorem ZjC {H':Hp}{Q:Unit->Shared->Prop}(hu:A.units+1<cLine)(I:Inv X jE σ H s)(g:W5 H a y v H')(ry:ZK y u)(rv:ZK v r)(h:∀s',Inv X jE σ H' s'->Q () s') :
  wpAny (model X.prog X.w) A (setItem (.ref a) u r) Q E s:=by
 rcases g with⟨kvs,k,e,ey,l,eH⟩ | ⟨kvs,k,b,e,ey,eb,l,eH⟩
 ·subst ey eH
  obtain⟨z,hd,vs,rel,dd⟩:=ZnO I.hok e;have hz:vs.length<=sizeLine:=by rw[<-rel.length];exact z
  have hl:(Yo kvs k v).length<=sizeLine:=by have:=UX kvs k v;omega
  refine wpAny_setItem_pairs (hsz:=hz) (Jh ry) dd fun h' dd' hs=>h _ ?_;have he:∃q,h'.get? a=some q:=let ⟨q,_,_,hq,_⟩:=dd';⟨q,hq⟩;exact Zdi I (by rw[e];exact ym) hs he (ZkQ hl hd (rel.put k rv) dd')
 ·subst ey eH
  cases (show u=qK b from ry)
  obtain⟨z,hd,xs,rel,dd⟩:=ZnP I.hok e;have hz:xs.length<=sizeLine:=by rw[<-yG rel];exact z
  have hl:(Yo kvs k v).length<=sizeLine:=by have:=UX kvs k v;omega
  refine wpAny_setItem_heap (hsz:=hz) (tupleKind_room_in1 hu) (Jc I.hok eb) dd fun h' dd' hs=>h _ ?_;obtain⟨q,es,ep,hq,h2,h3,h4,_,h5⟩:=dd';refine Zdi I (by rw[e];exact ym) hs ⟨q,hq⟩ ⟨hl,hd,_,(rel.put k eb rv).keeps fun c ys ec=>?_,q,es,ep,hq,h2,h3,h4,h5⟩;rw[Zu (ZnJ ec e (fun z=>nomatch z))];exact ec
end
section
variable {X:Cx}{jE:List (Addr×Obj)}{σ:St}{H:Hp}{s:Shared}{a:Addr}{kvs:List (Zy×V)}{k:Zy}{u:Value}{A:Around}{E:Value->Shared->Prop}
theorem ZpB {Q:Value->Shared->Prop}(I:Inv X jE σ H s)(e:Rd H a (.dK kvs))(h:∀t s',Inv X jE σ H s'->Q (.int kvs.length t) s'):wpAny (model X.prog X.w) A (call (.builtin "len") [.ref a]) Q E s:=by
 obtain⟨z,hd,vs,rel,dd⟩:=Vu I.hok e;refine call_len_dict hd dd (by rw[<-rel.length];rw[sizeLine_eq] at z;omega) ?_;rw[<-rel.length];exact h _ _ (I.tok _)
end
def NoSl (i:Expr):Prop:=∀ov iv,subscripted i false ov iv=operate [ov,iv] (getItem ov iv)
theorem ZmP {prog:Program}{w:World}{A:Around}{E:Value->Shared->Prop}{s:Shared}{env:Env}{value slice:Expr}{pos:Pos}{T id:String}{Q:Value->Shared->Prop}
  (hl:typeLookup (.type T) "__getitem__" = pure (some (.builtin id))) (hs:NoSl slice)
  (h:wpAny (model prog w) A (eval value env) (fun o s₁=>wpAny (model prog w) A (eval slice env) (fun i s₂=>s₂.TypeIs o T/\wpAny (model prog w) A (getItem o i) Q E s₂) E s₁) E s) :
  wpAny (model prog w) A (eval (.Subscript value slice pos) env) Q E s:=by
 refine Subscript_ (wpAny_mono h (fun o s₁ h₁=>wpAny_mono h₁ (fun i s₂ h₂=>?_) fun _ _ x=>x) fun _ _ x=>x);obtain⟨hT,h₂⟩:=h₂;unfold subscriptTail;refine wpAny_bind ?_;rw[getitemInPython_of_ne hT.not_modules];refine wpAny_bind (wpAny_specialOf hT hl ?_);have fin:wpAny (model prog w) A (subscripted slice false o i) (fun r s₃=>wpAny (model prog w) A (letTemporaryGo value o r >>= fun _=>pure r) Q E s₃) E s₂:=by
  rw[hs o i];exact wpAny_operating (wpAny_mono h₂ (fun r s₃ h₃=>wpAny_bind (wpAny_letTemporaryGo (wpAny_pure h₃))) fun _ _ x=>x)
 first
  | exact wpAny_pure (wpAny_bind fin)
  | exact wpAny_bind (wpAny_pure (wpAny_bind fin))
  | exact wpAny_bind fin
theorem Zgl {X:Cx}{jE:List (Addr×Obj)}{σ:St}{H:Hp}{s:Shared}{a:Addr}{y:V}{o:Option V}(I:Inv X jE σ H s)(g:X6 H a y o):s.TypeIs (.ref a) "dict":=by
 rcases g with⟨kvs,k,e,_,_⟩ | ⟨kvs,k,b,e,_,_,_⟩
 ·obtain⟨_,_,vs,_,dd⟩:=Vu I.hok e
  exact dd.typeIs
 ·obtain⟨_,_,xs,_,dd⟩:=Ji I.hok e
  exact dd.typeIs
def ZpC (td ty:TE):TE:=fun σ H Q=>td σ H fun x H1=>ty σ H1 fun y H2=>∃a v,x=.ref a/\X6 H2 a y (some v)/\Q v H2
def ZpD (td ty tv:TE):TS:=fun D σ H=>tv σ H fun v H1=>td σ H1 fun x H2=>ty σ H2 fun y H3=>∃a H4,x=.ref a/\W5 H3 a y v H4/\D.nx σ H4
section
variable {X:Cx}{o i e value:Expr}{pos pos' tpos:Pos}{td ty tv:TE}
theorem ZmQ (hu:X.A.units+1<cLine)(ho:PE X o td)(hi:PE X i ty)(hs:NoSl i):PE X (.Subscript o i pos) (ZpC td ty):=by
 intro jE s σ H Q I h;refine ZmP PySem.F.slot_dict_getitem.lookup hs (ZJ (ho jE s σ H _ I h) fun u s1 ⟨x,H1,I1,rx,q1⟩=>ZJ (hi jE s1 σ H1 _ I1 q1) fun iv s2 ⟨y,H2,I2,ry,a,v,ex,g,q2⟩=>?_);subst ex;obtain rfl:u=qK a:=rx;exact⟨Zgl I2 g,ZjB hu I2 g ry fun w' s3 I3 rw'=>⟨v,H2,I3,rw',q2⟩⟩
theorem ZiL (hu:X.A.units+1<cLine)(ho:PE X o td)(hi:PE X i ty)(hv:PE X value tv)(hs:swapsWith value (some (.Subscript o i pos')) pos.line X.env=pure false) :
  PS X (.Assign [.Subscript o i pos'] value pos) (ZpD td ty tv):=by
 intro jE s σ H D I h;refine wpAny_Assign_Subscript (ZJ (hv jE s σ H _ I h) fun r s1 ⟨v,H1,I1,rv,q1⟩=>ZJ (ho jE s1 σ H1 _ I1 q1) fun u s2 ⟨x,H2,I2,rx,q2⟩=>ZJ (hi jE s2 σ H2 _ I2 q2) fun iv s3 ⟨y,H3,I3,ry,a,H4,ex,g,q3⟩=>?_) hs;subst ex;obtain rfl:u=qK a:=rx;exact ZjC hu I3 g ry rv fun s4 I4=>⟨σ,H4,I4,q3⟩
end
theorem Zgm {P:Program}{w:World}{H:Hp}(h:Heap)(hb:sysModules<h.objs.size):YI P w H (h.push { cls:=.type "dict",data:=.dict #[] }) h.objs.size (.dK []):=
 ⟨za _,beq_eq_false_iff_ne.mpr (zJ (qN hb)),[],.nil,Heap.DictOf.new h⟩
theorem Zgn {P:Program}{w:World}{H:Hp}(h:Heap)(hb:sysModules<h.objs.size):YI P w H (h.push { cls:=.type "dict",data:=.dict #[] }) h.objs.size (.dT []):=
 ⟨za _,beq_eq_false_iff_ne.mpr (zJ (qN hb)),[],.nil,_,#[],0,qz _ rfl,⟨rfl,rfl,rfl⟩,rfl,rfl,qao⟩
def ZoE:TE:=fun _ H Q=>∀p,H p=none->Q (.ref p) (Zo H p (.dK []))
def ZoF:TE:=fun _ H Q=>∀p,H p=none->Q (.ref p) (Zo H p (.dT []))
section
variable {X:Cx}{pos:Pos}
theorem ZkR:PE X (.Dict [] [] pos) ZoE:=fun jE s σ H Q I h=>
 wpAny_Dict_empty ⟨.ref s.heap.objs.size,_,I.laid (a:=s.heap.objs.size) (o:=.dK []) (t':=s.toks) (fun _ _ q=>qf _ q) (qu _) (Zgm s.heap I.big),rfl,h _ (I.hok.fresh (qu _))⟩
theorem ZkS:PE X (.Dict [] [] pos) ZoF:=fun jE s σ H Q I h=>
 wpAny_Dict_empty ⟨.ref s.heap.objs.size,_,I.laid (a:=s.heap.objs.size) (o:=.dT []) (t':=s.toks) (fun _ _ q=>qf _ q) (qu _) (Zgn s.heap I.big),rfl,h _ (I.hok.fresh (qu _))⟩
end
structure M2 (X:Cx)(o:Expr)(m:Str)(apos:Pos)(e f:Expr)(cpos:Pos):Prop where
 base:attributeBase o m X.env (eval o X.env)=eval o X.env
 few:((backTo cpos (starEach [e,f] X.env)).all (fun x=>!x.1)&&(backToKw cpos (keywordEach [] X.env)).all (fun x=>x.1.isSome)
  && decide (([e,f]:List Expr).length+([]:List Keyword).length+(if ([]:List Keyword).isEmpty then 0 else 1)<30))=true
 line:(apos.endLine==cpos.line)=true
 trees:backTo cpos (starEach [e,f] X.env)=[(false,eval e X.env),(false,eval f X.env)]
def IsD (H:Hp)(a:Addr):Prop:=(∃kvs,Rd H a (.dK kvs))∨∃kvs,Rd H a (.dT kvs)
theorem ZkT {X:Cx}{jE:List (Addr×Obj)}{σ:St}{H:Hp}{s:Shared}{a:Addr}(I:Inv X jE σ H s)(d:IsD H a) :
  s.TypeIs (.ref a) "dict"/\(∀b,qK a=.ref b->∃ob,s.heap.get? b=some ob/\ob.dict=none)/\(a==sysModules)=false:=by
 rcases d with⟨kvs,e⟩ | ⟨kvs,e⟩
 ·obtain⟨_,hd,vs,_,dd⟩:=Vu I.hok e
  refine⟨dd.typeIs,fun b q=>?_,hd⟩
  cases q
  obtain⟨ob,_,_,h1,h2,_⟩:=dd;exact⟨ob,h1,h2.2.1⟩
 ·obtain⟨_,hd,xs,_,dd⟩:=Ji I.hok e
  refine⟨dd.typeIs,fun b q=>?_,hd⟩
  cases q
  obtain⟨ob,_,_,h1,h2,_⟩:=dd;exact⟨ob,h1,h2.2.1⟩
section
variable {X:Cx}{jE:List (Addr×Obj)}{σ:St}{H:Hp}{s:Shared}{a:Addr}{y d:V}{u r:Value}{o:Option V}{A:Around}{E:Value->Shared->Prop}
theorem ZoG {Q:Value->Shared->Prop}(hu:A.units+1<cLine)(I:Inv X jE σ H s)(g:X6 H a y o)(ry:ZK y u)(rd:ZK d r)(h:∀w' s',Inv X jE σ H s'->ZK (o.getD d) w'->Q w' s') :
  wpAny (model X.prog X.w) A (call (.builtin "dict.get") [.ref a,u,r]) Q E s:=by
 rcases g with⟨kvs,k,e,ey,l⟩ | ⟨kvs,k,b,e,ey,eb,l⟩
 ·subst ey
  obtain⟨z,hd,vs,rel,dd⟩:=Vu I.hok e;refine call_meetsIn qaE dd.typeIs qbw (qbj _ _ _) (meets_dict_get_default (XT X.prog X.w) a (Jh ry) hd r) ⟨_,dd.mapOf,h _ _ (I.tok _) ?_⟩;rw[l];exact(rel.val k).getD rd
 ·subst ey
  cases (show u=qK b from ry)
  obtain⟨z,hd,xs,rel,dd⟩:=Ji I.hok e;refine call_meetsIn qaE dd.typeIs qbw (qbj _ _ _) (meetsH_dict_get_default (tupleKind (XT X.prog X.w)) a b hd r) ⟨tupleKind_room_in1 hu,k,xs,Jc I.hok eb,dd,h _ _ (I.tok _) ?_⟩;rw[l];exact(rel.val k).getD rd
end
def ZoH (td ty tx:TE):TE:=fun σ H Q=>td σ H fun x H1=>∃a,x=.ref a/\IsD H1 a/\ty σ H1 fun y H2=>tx σ H2 fun z H3=>∃o,X6 H3 a y o/\Q (o.getD z) H3
section
variable {X:Cx}{o e f:Expr}{apos cpos:Pos}{td ty tx:TE}
theorem ZkU (hu:X.A.units+1<cLine)(ho:PE X o td)(he:PE X e ty)(hf:PE X f tx)(m:M2 X o "get" apos e f cpos):PE X (.Call (.Attribute o "get" apos) [e,f] [] cpos) (ZoH td ty tx):=by
 intro jE s σ H Q I h;refine wpAny_Call_method m.base m.few m.line qbk qaE PySem.F.type_dict_get (ZJ (ho jE s σ H _ I h) fun u s1 ⟨x,H1,I1,rx,a,ex,d,q1⟩=>?_);subst ex;obtain rfl:u=qK a:=rx;obtain⟨t1,t2,_⟩:=ZkT I1 d;refine⟨t1,t2,?_⟩;rw[m.trees];refine yQ rfl (qaJ (qaW (ZJ (he jE s1 σ H1 _ I1 q1) fun iv s2 ⟨y,H2,I2,ry,q2⟩=>
  qaW (ZJ (hf jE s2 σ H2 _ I2 q2) fun fv s3 ⟨z,H3,I3,rz,ov,g,q3⟩=>Calls.spliced_nil ?_))))
 exact ZoG hu I3 g ry rz fun w' s4 I4 rw'=>⟨_,H3,I4,rw',q3⟩
end
section
variable {X:Cx}{jE:List (Addr×Obj)}{σ:St}{H:Hp}{s:Shared}{a:Addr}{kvs:List (Zy×V)}{A:Around}{E:Value->Shared->Prop}
end
section
variable {X:Cx}{jE:List (Addr×Obj)}{σ:St}{H:Hp}{s:Shared}{a:Addr}{y:V}{u:Value}{A:Around}{E:Value->Shared->Prop}
end
end L2
namespace Att
open PySem.W PySem.Calls
theorem Zc5 {P:Params}{h:Heap}:∀(ns:List Int) (vs:List Value),WellAll P h vs (ns.map WData.int)->IntsAre vs ns:=by
 intro ns
 induction ns with
 | nil=>
  intro vs w;rw[qaI] at w
  cases w
  exact .nil
 | cons n ns ih=>
  intro vs w;rw[qW] at w
  cases w with
  | cons a b=>
   cases a
   exact .cons _ _ (ih _ b)
theorem ZjD {l:OpenLaw}{n:Nat}(hn:l.most=some n){P:Params}{h:Heap}{args:List WData}{vals:List Value}
  (hpre:l.row.toRowW.claim.pre args=true) (hwl:WellAll P h vals args) :
  ∃a vs ns,vals=[qK a]/\args=[WData.list (ns.map WData.int)]/\h.get? a=some { cls:=.type "list",data:=.seq vs.toArray }/\IntsAre vs ns/\ns.length<=n:=by
 have hsh:WShape.hasAll [] args [.list .int]=true:=(pre_splitW hpre).1;have hc:l.pre.holds [] { args:=args }=true:=(pre_splitW hpre).2;obtain⟨d,r,rfl,h1,h2⟩:=hasAllW_cons hsh;obtain rfl:=hasAllW_nil h2;obtain⟨xs,rfl,h3⟩:=hasW_list h1;obtain⟨ns,rfl⟩:=items_int h3;have jO:ns.length<=n:=by
  unfold OpenLaw.pre at hc;have h4:(WTm.not (.lt (.lit (.int (n:Int))) (.len (.arg 0)))).holds [] { args:=[.list (ns.map .int)] }=true:=by
   have h4:=(holds_andW hc).1;rw[hn] at h4;exact h4
  have h5:=condW_of h4 (w_not (w_lt w_lit (w_len_list (w_arg rfl))));rw[qd] at h5;refine Nat.le_of_not_lt fun q=>?_;have q':(n:Int)<((ns.length:Nat):Int):=by omega
  first
   | (rw[decide_eq_true q'] at h5;exact absurd h5 (by decide))
   | (simp at h5;omega)
 cases hwl with
 | cons w1 w2=>
  cases w2
  cases w1 with
  | list ho hall=>exact⟨_,_,ns,rfl,rfl,ho,Zc5 ns _ hall,jO⟩
theorem ZjE (l:OpenLaw)(args:List WData):l.row.toRowW.claim.post args (.bool true) args=true:=
 postW_of (r:=l.row.toRowW) (X:=(true==true))
  (show WShape.has [] (.bool true) .bool=true by first | rfl | decide | simp[WShape.has,WShape.arms,WShape.armsAll])
  (show(WTm.eq .res (.lit (.bool true))).value [] { args:=args,res:=some (.bool true),after:=args }=some (.bool (true==true)) from w_eq_bool (w_res rfl) w_lit) rfl
theorem attach_call {l:OpenLaw}{n:Nat}{q:Program}{loose:List Str}{XP:(Str->Option Value)->Heap->Prop}{YP:World->Heap->Prop}{d:DefRec}
  (hn:l.most=some n) (hdf:d.params.defaults=[])
  (call:∀(w:World) (s₀ s₁:Shared) (mg mb:Str->Option Value) (fa:Addr) (o:Obj) (pm cd doc:Value) (a:Addr) (vs:List Value) (ns:List Int),
   Ground q loose [] XP w s₀ mg mb s₁.heap->YP w s₁.heap->
   s₁.heap.get? fa=some o->o.data=.func (docDef d.name d.params d.body d.scope pm cd doc)->s₁.heap.CodeRec cd d.name->mg d.name=some (.ref fa)->
   s₁.heap.get? a=some { cls:=.type "list",data:=.seq vs.toArray }->IntsAre vs ns->ns.length<=n->s₁.gens = #[]->
   codeAny (model l.prog w) callerA (.call (.ref fa) ⟨[.ref a],[]⟩) (fun r s'=>r=.ok (.ret (.bool true))/\OldK s₁.heap s'.heap/\s'.os=s₁.os/\AllBare s'.gens) s₁) :
  WalkO q loose XP YP l.row.toRowW d [] (fun f vs=>qbJ f vs):=by
 intro w s₀ s₁ mg mb G Y fa o pm cd doc dV kV ho hd hcd hD hmg hg args vals as hpre hlay hrd hwl hlo;obtain rfl:dV=.none:=Dflts.none hD hdf;obtain rfl:kV=.none:=Dflts.noKw hD;obtain⟨a,vs,ns,rfl,rfl,hobj,hints,jO⟩:=ZjD hn hpre hwl;refine enter_call (codeAny_mono (call w s₀ s₁ mg mb fa o pm cd doc a vs ns G Y ho (fd_plain hd) hcd hmg hobj hints jO hg) fun r s' hq=>?_);obtain⟨rfl,h2,h3,h4⟩:=hq;exact⟨.inl ⟨.bool true,.bool true,[],rfl,fun _=>rfl,.bool true,ZjE l _,fun _=>⟨yI.nil,fun _ hm=>(nomatch hm)⟩⟩,h2,h3,h4⟩
section
variable {prog:Program}{w:World}{A:Around}{E:Value->Shared->Prop}{s:Shared}{K:Frag}
end
end Att
namespace L2
theorem ZeG:∀{vs:List Value} {ns:List Int},IntsAre vs ns->ZI (ns.map V.int) vs
 | _,_,.nil=>.nil
 | _,_,.cons n t h=>.cons ⟨t,rfl⟩ (ZeG h)
end L2
namespace L2
end L2
namespace L2
def Vf (s:Stmt):Arguments:=match s with
 | .FunctionDef _ a _ _ _ _ _ _ _ _=>a
 | _=>{ posonlyargs:=[],args:=[],vararg:=none,kwonlyargs:=[],kw_defaults:=[],kwarg:=none,defaults:=[] }
def WM (s:Stmt):List Stmt:=match s with
 | .FunctionDef _ _ b _ _ _ _ _ _ _=>b
 | _=>[]
def ZD (s:Stmt):Scope:=match s with
 | .FunctionDef _ _ _ _ _ _ sc _ _ _=>sc
 | _=>{ kind:=.function,names:=[],isGenerator:=false,isCoroutine:=false }
abbrev ZX:Wj:=fun _ _ _ _ _ _=>False
abbrev E0:XK:=fun _ _ _=>False
theorem ZnQ {X:Cx}:Zff ZX X E0:=fun _ _ _ _ _ _ _ h=>h.elim
structure Fun (K:qm)(x qual:Str)(st:Stmt)(f:Addr)(fd:FuncData):Prop where
 ex:∃(oc:Value) (od:Option Addr) (kV doc pm:Value) (an:Option Addr) (cdv ct:Value) (osl:Array (Option Value)),
  fd=yg x qual (Vf st) (WM st) (ZD st) .none kV doc pm an cdv ct/\K.lookup f=some ⟨oc,od,.func fd,osl⟩/\qan K cdv qual=true
 kp:z9 K (.ref f)=true
section
variable {P:Program}{w:World}{K:qm}{mg:Str->Option Value}{base:Heap}
theorem Fun.ok {x qual:Str}{st:Stmt}{f:Addr}{fd:FuncData}{N ps:List Str}{k:Nat}{sp:Sp}(F:Fun K x qual st f fd)(S:FnScope N ps (ZD st))(len:∀vs H Q E,sp vs H Q E->vs.length=ps.length)
  (hbody:∀(cdv:Value) (A:Around) (outer:List Env) (s:Shared) (H:Hp) (vs:List V) (Q:VK) (E:XK),Room k (A.deeper (envOfC qual (ZD st) s.heap.objs.size f cdv))->sp vs H Q E->
   ∃t,WU (Vn ZX P w K mg base N qual (ZD st) f cdv A outer s H E).nox (WM st) t/\t { nx:=fun _ H'=>Q .non H',rt:=Q } (start N vs) H):FnOk P w K mg base ZX (k+1) f fd ps sp:=by
 obtain⟨oc,od,kV,doc,pm,an,cdv,ct,osl,rfl,lk,hcd⟩:=F.ex;refine ZnL lk hcd S len fun A outer s H vs Q E hr hsp=>?_;obtain⟨t,h,q⟩:=hbody cdv A outer s H vs Q E hr hsp;exact⟨t,h.nox,q⟩
theorem Fun.binds {x qual:Str}{st:Stmt}{f:Addr}{fd:FuncData}{ps:List Str}(F:Fun K x qual st f fd)
  (h:∀(kV doc pm:Value) (an:Option Addr) (cdv ct:Value) (us:List Value),us.length=ps.length->bindArgs (yg x qual (Vf st) (WM st) (ZD st) .none kV doc pm an cdv ct) ⟨us,[]⟩=pure (ps.zip us)):WF K fd ps []:=by
 obtain⟨oc,od,kV,doc,pm,an,cdv,ct,osl,rfl,lk,hcd⟩:=F.ex;exact .all (h kV doc pm an cdv ct)
theorem ZoI {x qual:Str}{st:Stmt}{f:Addr}{oc:Value}{od an:Option Addr}{osl:Array (Option Value)}{kV doc pm cdv ct:Value}(l:K.lookup f=some ⟨oc,od,.func (yg x qual (Vf st) (WM st) (ZD st) .none kV doc pm an cdv ct),osl⟩)
  (c:qan K cdv qual=true) (k:z9 K (.ref f)=true):Fun K x qual st f (yg x qual (Vf st) (WM st) (ZD st) .none kV doc pm an cdv ct):=⟨⟨oc,od,kV,doc,pm,an,cdv,ct,osl,rfl,l,c⟩,k⟩
end
theorem hu_of {A:Around}{k:Nat}(hr:Room k A):A.units+1<cLine:=Nat.lt_of_le_of_lt (Nat.add_le_add_left (by decide:1<=64) _) hr.units
section
variable {X:Cx}
theorem pv (i:Nat){x:Str}{pos:Pos}(hN:X.N[i]?=some x:=by rfl)(hv:B3 X.env.scope x:=by first | exact qI rfl | exact yL (qI rfl) | exact yL (yL rfl))(hd:(x==("__debug__" : Str))=false:=by decide)
  (hcd:(x==("__classdict__" : Str))=false:=by decide):PE X (.Name x pos) (Y1 i):=Zof hN hv hd hcd
end
theorem UL {A B:Prop}(h:B):if false=true then A else B:=by
 rw[if_neg z8];exact h
theorem UM {A B:Prop}(h:A):if true=true then A else B:=by
 rw[if_pos rfl];exact h
section
variable {X:Cx}
theorem ZjF:Y9 X (.builtin "len") (fun xs H Q=>∃a kvs,xs=[V.ref a]/\H a=some (.dK kvs)/\Q (.int kvs.length) H):=by
 intro jE s σ H xs us Q I r h;obtain⟨a,kvs,rfl,ha,q⟩:=h;obtain⟨u,rfl,ru⟩:=Xl r
 cases ru
 exact ZpB I (.inl ha) fun t s' I'=>⟨.int kvs.length,H,I',⟨t,rfl⟩,q⟩
end
section
variable {κ:Type}[DecidableEq κ]
end
end L2
namespace L2
theorem Zgo {prog:Program}{w:World}{A:Around}{R:Result->Shared->Prop}{s:Shared}{elt target iter:Expr}{ifs:List Expr}{scope:Scope}{pos:Pos}{it jL:Value}{env:Env}(I:Nat->Shared->Prop)
  (turn:∀n s,I n s->wpAny (model prog w) A (pyNext it) (fun r s₁=>match r with
   | none=>R (.ok .next) s₁
   | some v=>wpAny (model prog w) A (letOwnedTupleGo target it v) (fun _ s₁'=>wpAny (model prog w) A (assign target env v) (fun _ s₂=>
     wpAny (model prog w) A (forIn ifs true fun c r=>if r=true then do let ok<-isTrue c env (eval c env);pure (yM ok) else pure (yM r)) (fun ok s₃=>
      if ok=true then wpAny (model prog w) A (eval elt env) (fun x s₄=>
       wpAny (model prog w) A (call (.builtin "list.append") [jL,x]) (fun _ s₅=>∃m,m<n/\I m s₅) (notedBy (model prog w) A env fun e s'=>R (.error e) s') s₄) (notedBy (model prog w) A env fun e s'=>R (.error e) s') s₃
      else ∃m,m<n/\I m s₃) (notedBy (model prog w) A env fun e s'=>R (.error e) s') s₂) (notedBy (model prog w) A env fun e s'=>R (.error e) s') s₁') (notedBy (model prog w) A env fun e s'=>R (.error e) s') s₁) (notedBy (model prog w) A env fun e s'=>R (.error e) s') s)
  (n:Nat) (h:I n s) :
  codeAny (model prog w) A (.compLoop (.ListComp elt [⟨target,iter,ifs,0⟩] scope pos) 0 it jL env) R s:=by
 refine codeAny_loop rfl I (fun n s hI=>?_) n h;show wpAny _ A ((compTurn (.ListComp elt [⟨target,iter,ifs,0⟩] scope pos) 0 it jL env).onRaise (fun x=>do noteFrame x env;theTreesLotGoes x)) _ _ s;refine wpAny_noted ?_;rw[compTurn_list];refine wpAny_bind (wpAny_standAt (wpAny_bind (wpAny_mono (turn n s hI) (fun r s₁ h₁=>?_) fun _ _ h'=>h')))
 cases r with
 | none=>exact wpAny_pure h₁
 | some v=>
  refine wpAny_bind (wpAny_mono h₁ (fun _ s₁' h₁'=>?_) fun _ _ h'=>h');refine wpAny_bind (wpAny_mono h₁' (fun _ s₂ h₂=>wpAny_bind (wpAny_mono h₂ (fun ok s₃ h₃=>?_) fun _ _ h'=>h')) fun _ _ h'=>h')
  cases ok with
  | false=>exact wpAny_pure ⟨rfl,h₃⟩
  | true=>
   exact wpAny_bind (wpAny_bind (wpAny_mono h₃ (fun x s₄ h₄=>wpAny_bind (wpAny_mono h₄ (fun _ s₅ h₅=>wpAny_pure (wpAny_pure ⟨rfl,h₅⟩)) fun _ _ h'=>h')) fun _ _ h'=>h'))
def YU (X:Cx)(jE:List (Addr×Obj))(N':List Str)(scope:Scope)(cl:List (Str×Addr))(C:Addr)(s:Shared)(H:Hp)(fp:List Addr):Cx where
 prog:=X.prog
 w:=X.w
 K:=X.K
 mg:=X.mg
 base:=X.base
 A:=X.A
 N:=N'
 s₀:=s
 H₀:=H
 env:=compEnvC scope cl C X.env
 outer:=X.stack
 stack:=X.stack
 ex:=fp
 fn:=fun _=>false
 calm:=X.calm
 pn:=X.pn++jE
 xe:=fun _ _=>False
def VR (X:Cx)(ifs:List Expr)(t:TT):Prop:=
 ∀(jE:List (Addr×Obj)) (s:Shared) (σ:St) (H:Hp) (Q:Bool->Hp->Prop),Inv X jE σ H s->t σ H Q->
  wpAny (model X.prog X.w) X.A (forIn ifs true fun c r=>if r=true then do let ok<-isTrue c X.env (eval c X.env);pure (yM ok) else pure (yM r)) (TP X jE σ Q) X.xe s
def ZpE:TT:=fun _ H Q=>Q true H
theorem ZkV {X:Cx}:VR X [] ZpE:=fun _ _ _ H _ I h=>wpAny_pure ⟨H,I,h⟩
theorem ZkW {X:Cx}{c:Expr}{t:TT}(h:PT X c t):VR X [c] t:=fun jE s σ H Q I hq=>wpAny_tests_one (h jE s σ H Q I hq)
structure BlkOk (X:Cx)(N':List Str)(src:List (Option Nat))(scope:Scope)(cl:List (Str×Addr)):Prop where
 clos:closureFor scope X.env=pure cl
 nocell:∀y∈scope.names,y.2≠.cell
 kind:scope.kind=.function
 names:∀y∈scope.names,y.2=.local->scope.names.lookup y.1=some .local
 len:src.length=N'.length
 cells:∀x c,cl.lookup x=some c->X.env.cells.lookup x=some c
 has:∀x,((relabel scope X.env).names.lookup x=some .cell∨(relabel scope X.env).names.lookup x=some .free)->∃c,cl.lookup x=some c
 from_:∀(i j:Nat) x,src[i]?=some (some j)->N'[i]?=some x->X.N[j]?=some x/\(X.env.kindOf x=some .cell∨X.env.kindOf x=some .free)/\((relabel scope X.env).names.lookup x=some .cell∨(relabel scope X.env).names.lookup x=some .free)
def VM (src:List (Option Nat))(σ:St):St:=src.map fun o=>o.bind fun j=>(σ[j]?).bind id
theorem ZmR {X:Cx}{jE:List (Addr×Obj)}{σ:St}{H:Hp}{s s1:Shared}{N':List Str}{src:List (Option Nat)}{scope:Scope}{cl:List (Str×Addr)}{C:Addr}{fp:List Addr}{m:Str->Option Value}
  (B:BlkOk X N' src scope cl) (I:Inv X jE σ H s) (hf:∀b∈fp,WI X jE H b) (hC:s.heap.objs.size<=C) (hCf:∀b∈fp,b≠C)
  (hs:s1.os=s.os) (hg:s1.gens=s.gens) (hk:∀b o,s.heap.get? b=some o->s1.heap.get? b=some o) (hn:s1.heap.Ns C m):Inv (YU X jE N' scope cl C s H fp) [] (VM src σ) H s1:=by
 have noC:∀b o,s.heap.get? b=some o->b≠C:=fun b o e=>qN (qT (qG e) hC);refine⟨⟨I.ok.mod,B.kind,I.ok.glob,I.ok.blt,hC,fun x y c h1 h2=>I.ok.inj x y c (B.cells _ _ h1) (B.cells _ _ h2),fun x hx=>B.has x hx,fun x c hf _=>(by cases hf),I.ok.hd,I.ok.frames,.inl rfl,fun b hb=>?_,I.bs,qJ I.ok.bsz I.sz,fun b o e hb=>?_,fun b hb z=>?_,I.stack,I.stkFree⟩,
  hs,by rw[hg];exact I.bare,Un.kept hk,⟨m,hn,fun i x v h1 h2 h3=>?_⟩,fun x c e=>?_,I.hok.fresh hC,fun x c e=>I.freeC x c (B.cells _ _ e),fun p hp=>?_,I.hok.kept hk,?_⟩
 ·obtain⟨f0,f1,f2,f3,f4,f5⟩:=hf b hb
  exact⟨hCf b hb,fun x c e=>f4 x c (B.cells _ _ e)⟩
 ·obtain⟨f0,f1,f2,f3,f4,f5⟩:=hf b hb
  rcases f3 with z | z
  ·exact I.ok.noex b o e z
  ·exact absurd (qT (qG (I.ok.bs b o e).1) z) (zY _)
 ·obtain⟨f0,f1,f2,f3,f4,f5⟩:=hf b hb
  rcases qq.mp (I.stkSub b z) with e | e
  ·exact f1 e
  ·exact f2 e
 ·have h2':(VM src σ)[i]?=some (some v):=h2
  unfold VM at h2';rw[qy] at h2'
  cases e:src[i]? with
  | none=>rw[e] at h2';cases h2'
  | some o=>
   rw[e] at h2'
   cases o with
   | none=>simp at h2'
   | some j=>
    obtain⟨q1,q2,q3⟩:=B.from_ i j x e h1;have hj:σ[j]?=some (some v):=by
     simp only[zR,qa8,qa5] at h2'
     cases e2:σ[j]? with
     | none=>rw[e2] at h2';cases h2'
     | some o2=>rw[e2] at h2';simp at h2';rw[h2']
    obtain⟨mm,hnn,hl⟩:=I.loc;have vis:B3 X.env.scope x:=by
     rcases q2 with z | z
     ·exact .inr (.inl z)
     ·exact .inr (.inr z)
    obtain⟨u,r,l⟩:=hl j x v q1 hj vis;refine⟨u,r,?_⟩;rcases l with⟨k,_⟩ | ⟨_,c,ec,z⟩
    ·rcases q2 with z | z <;> rw[z] at k <;> cases k
    ·obtain⟨c',ec'⟩:=B.has x q3
     have ee:c'=c:=by
      have:=B.cells _ _ ec';rw[ec] at this;exact(zf this).symm
     subst ee;obtain⟨o,ho,hd⟩:=z;exact .inr ⟨q3,c',ec',o,hk _ _ ho,hd⟩
 ·obtain⟨v,o,ho,hd⟩:=I.cell x c (B.cells _ _ e)
  exact⟨v,o,hk _ _ ho,hd⟩
 ·have hp':p∈X.pn++jE:=by simpa[YU] using hp
  obtain⟨e,n,ne,nf,d⟩:=I.pin p hp';refine⟨hk _ _ e,n,noC _ _ e,fun z=>?_,d⟩;rcases qq.mp (I.stkSub p.1 z) with q | q
  ·exact ne q
  ·exact nf q
 ·show(VM src σ).length=N'.length
  unfold VM;rw[qd,B.len]
def ZkX (src:List (Option Nat))(wi:TI)(g:TG)(tt:TT)(te:TE):TE:=fun σ H Q=>wi σ H fun J H1=>∀p,H1 p=none->
 ∃W:Nat->Nat->St->Hp->Prop,(∃m,W 0 m (VM src σ) (Zo H1 p (.lst [])))/\∀i m σ2 H2,W i m σ2 H2->
  (J.stop i H2/\Q (.ref p) H2)∨(J.go i H2/\∀x H3,J.yld i H2 x H3->g x σ2 H3 fun σ4 H4=>tt σ4 H4 fun ok H5=>
   if ok=true then te σ4 H5 fun y H6=>∃xs,H6 p=some (.lst xs)/\xs.length<sizeLine/\∃m',m'<m/\W (i+1) m' σ4 (Zo H6 p (.lst (xs ++ [y])))
   else ∃m',m'<m/\W (i+1) m' σ4 H5)
theorem ZeH {X:Cx}{elt tg iter:Expr}{ifs:List Expr}{scope:Scope}{pos:Pos}{N':List Str}{src:List (Option Nat)}{cl:List (Str×Addr)}{g:TG}{tt:TT}{te:TE}
  {jE:List (Addr×Obj)} {σ:St} {H2:Hp} {s₂:Shared} {it:Addr} {fp:List Addr} {tn:Nat->Heap->Prop} {J:It} {Qp:Addr->Hp->Prop} {RR:Value->Addr->Result->Shared->Prop} {E:Value->Shared->Prop}
  (hc:X.calm=true) (B:BlkOk X N' src scope cl)
  (hg:∀jE C s H fp,PG (YU X jE N' scope cl C s H fp) tg g) (ht:∀jE C s H fp,VR (YU X jE N' scope cl C s H fp) ifs tt) (he:∀jE C s H fp,PE (YU X jE N' scope cl C s H fp) elt te)
  (I2:Inv X jE σ H2 s₂) (T:Turn X.prog X.w X.K tg J fp it tn) (jV:tn 0 s₂.heap) (f2:∀b∈fp,WI X jE H2 b)
  (q2:∀p,H2 p=none->∃W:Nat->Nat->St->Hp->Prop,(∃m,W 0 m (VM src σ) (Zo H2 p (.lst [])))/\∀i m σ2 H2,W i m σ2 H2->
   (J.stop i H2/\Qp p H2)∨(J.go i H2/\∀x H3,J.yld i H2 x H3->g x σ2 H3 fun σ4 H4=>tt σ4 H4 fun ok H5=>
    if ok=true then te σ4 H5 fun y H6=>∃xs,H6 p=some (.lst xs)/\xs.length<sizeLine/\∃m',m'<m/\W (i+1) m' σ4 (Zo H6 p (.lst (xs ++ [y])))
    else ∃m',m'<m/\W (i+1) m' σ4 H5))
  (hfin:∀p C s6 H5 mm,Inv X jE σ H5 s6->s6.heap.Ns C mm->WI X jE H5 C->Qp p H5->RR (.ref p) C (.ok .next) s6) :
  wpAny (model X.prog X.w) X.A (newList []) (fun jL s₃=>wpAny (model X.prog X.w) X.A (newFunctionEnv scope X.env.globals cl [] X.env.qual none .none (some X.env)) (fun cenv s₄=>
   codeAny (model X.prog X.w) X.A (.compStart (.ListComp elt [⟨tg,iter,ifs,0⟩] scope pos) 0 (.ref it) jL { cenv with scope:=relabel scope X.env }) (RR jL cenv.locals) s₄) E s₃) E s₂:=by
 have fpold:∀b∈fp,b<s₂.heap.objs.size:=fun b hb=>by
  obtain⟨o,e,_⟩:=T.obj _ _ jV b hb;exact qG e
 have q2:=q2 s₂.heap.objs.size (I2.hok.fresh (qu _));obtain⟨W,⟨m0,w0⟩,turn⟩:=q2
 -- the new list
 refine wpAny_newObj_type ?_;have I3:Inv X jE σ (Zo H2 s₂.heap.objs.size (.lst [])) { s₂ with heap:=s₂.heap.push { cls:=.type "list",dict:=none,data:=.seq ([]:List Value).toArray } }:=
  I2.lnew (t':=s₂.toks) (ys:=[]) .nil (za _)
 have st3:tn 0 (s₂.heap.push { cls:=.type "list",dict:=none,data:=.seq ([]:List Value).toArray }):=T.keep _ _ _ jV fun b _ o e=>qf _ e;have f3:∀b∈fp,WI X jE (Zo H2 s₂.heap.objs.size (.lst [])) b:=fun b hb=>by
  obtain⟨f0,f1⟩:=f2 b hb;exact⟨by rw[Zu (qN (fpold b hb))];exact f0,f1⟩
 generalize hs3:({ s₂ with heap:=s₂.heap.push { cls:=.type "list",dict:=none,data:=.seq ([]:List Value).toArray } }:Shared)=s₃ at I3;have st3':tn 0 s₃.heap:=by rw[<-hs3];exact st3
 have lt3:s₂.heap.objs.size<s₃.heap.objs.size:=by rw[<-hs3];show _<(Heap.push _ _).objs.size;rw[yb];exact yX _
 refine wpAny_newFunctionEnv B.nocell (by intro y hy;simp at hy) (fun h₁ hns₁ hsb₁=>?_) B.kind;have kp1:∀b o,s₃.heap.get? b=some o->h₁.get? b=some o:=fun b o e=>hsb₁.extBut b o (qN (qG e)) (qf _ e);have I4:=ZmR (s1:={ s₃ with heap:=h₁,toks:=s₃.toks+([]:List (Str×Value)).length }) (C:=s₃.heap.objs.size) B I3 f3 (qu _) (fun b hb=>qN (qb1 (fpold b hb) lt3)) rfl rfl kp1 hns₁;have st4:tn 0 h₁:=T.keep _ _ _ st3' fun b _ o e=>kp1 b o e;show codeAny (model X.prog X.w) X.A (.compStart (.ListComp elt [⟨tg,iter,ifs,0⟩] scope pos) 0 (.ref it) (.ref s₂.heap.objs.size) (compEnvC scope cl s₃.heap.objs.size X.env)) (RR (.ref s₂.heap.objs.size) s₃.heap.objs.size) _;generalize hs4:({ s₃ with heap:=h₁,toks:=s₃.toks+([]:List (Str×Value)).length }:Shared)=s₄ at I4;have st4':tn 0 s₄.heap:=by rw[<-hs4];exact st4
 have blkX:∀{b:Addr} {H':Hp},b∈fp->H' b=none->WI (YU X jE N' scope cl s₃.heap.objs.size s₃ (Zo H2 s₂.heap.objs.size (.lst [])) fp) [] H' b:=fun {b H'} hb hn=>by
  obtain⟨f0,f1,f2',f3',f4',f5'⟩:=f3 b hb;refine⟨hn,qN (qb1 (fpold b hb) lt3),fun z=>?_,.inl hb,fun x c e=>f4' x c (B.cells _ _ e),fun p hp=>?_⟩
  ·rcases qq.mp (I3.stkSub b z) with e | e
   ·exact f1 e
   ·exact f2' e
  ·exact f5' p (by simpa[YU] using hp)
 have loop:codeAny (model X.prog X.w) X.A (.compLoop (.ListComp elt [⟨tg,iter,ifs,0⟩] scope pos) 0 (.ref it) (.ref s₂.heap.objs.size) (compEnvC scope cl s₃.heap.objs.size X.env)) (RR (.ref s₂.heap.objs.size) s₃.heap.objs.size) s₄:=by
  refine Zgo (fun n s'=>∃i σ' H',Inv (YU X jE N' scope cl s₃.heap.objs.size s₃ (Zo H2 s₂.heap.objs.size (.lst [])) fp) [] σ' H' s'/\tn i s'.heap/\(∀b∈fp,H' b=none)/\W i n σ' H') ?_ m0 ⟨0,_,_,I4,st4',fun b hb=>(f3 b hb).1,w0⟩;rintro n s5 ⟨i,σ5,H5,I5,st5,fr5,w5⟩;rcases turn i n σ5 H5 w5 with⟨stop,qn⟩ | ⟨go,step⟩
  ·refine wpAny_mono (T.done (YU X jE N' scope cl s₃.heap.objs.size s₃ (Zo H2 s₂.heap.objs.size (.lst [])) fp) rfl rfl rfl hc i [] s5 σ5 H5 (fun _ _=>False) I5 (fun b hb=>blkX hb (fr5 b hb)) st5 stop) (fun r s6 ⟨hr,I6⟩=>?_) fun _ _ f=>f.elim
   subst hr;obtain⟨mm,hnn,_⟩:=id I6.loc;have nC:H5 s₃.heap.objs.size=none:=I6.free;have J1:Inv X jE σ H5 s6:=by
    refine I3.call' (ch:=fp) I6.os I6.base I6.hok I6.bare fun b hb=>?_;obtain⟨f0,f1,f2',f3',f4',f5'⟩:=f3 b hb;exact⟨f3',f1,f4',f5'⟩
   exact hfin _ _ s6 H5 mm J1 hnn (I3.fpOk (qu _) nC) qn
  ·refine wpAny_mono (T.item (YU X jE N' scope cl s₃.heap.objs.size s₃ (Zo H2 s₂.heap.objs.size (.lst [])) fp) rfl rfl rfl hc i [] s5 σ5 H5 (fun _ _=>False) I5 (fun b hb=>blkX hb (fr5 b hb)) st5 go) (fun r s6 ⟨u,hr,h6⟩=>?_) fun _ _ f=>f.elim
   subst hr;refine wpAny_mono h6 (fun _ s7 ⟨x,H7,I7,r7,y7,st7,fr7⟩=>?_) fun _ _ f=>f.elim;have I7':=I7.pinned (fun b hb=>blkX hb (fr7 b hb)) (T.obj _ _ st7);refine wpAny_mono (hg _ _ _ _ _ _ s7 σ5 H7 x u _ I7' r7 (step x H7 y7)) (fun _ s8 ⟨σ8,H8,I8,q8⟩=>?_) fun _ _ f=>f.elim;refine wpAny_mono (ht _ _ _ _ _ _ s8 σ8 H8 _ I8 q8) (fun ok s9 ⟨H9,I9,q9⟩=>?_) fun _ _ f=>f.elim;have again:∀{σ7:St} {H7:Hp} {sz:Shared},Inv (YU X jE N' scope cl s₃.heap.objs.size s₃ (Zo H2 s₂.heap.objs.size (.lst [])) fp) ([]++BG fp s7.heap) σ7 H7 sz->(∃m',m'<n/\W (i+1) m' σ7 H7)->
     ∃m,m<n/\∃i σ' H',Inv (YU X jE N' scope cl s₃.heap.objs.size s₃ (Zo H2 s₂.heap.objs.size (.lst [])) fp) [] σ' H' sz/\tn i sz.heap/\(∀b∈fp,H' b=none)/\W i m σ' H':=fun {σ7 H7 sz} Iz ⟨m',hm,wz⟩=>by
    refine⟨m',hm,i+1,σ7,H7,Iz.unpinned,T.keep _ _ _ st7 fun b hb o e=>(Iz.pin (b,o) (qw _ (qw _ (JI hb e)))).1,fun b hb=>?_,wz⟩;obtain⟨o,e,d⟩:=T.obj _ _ st7 b hb;exact(Iz.pin (b,o) (qw _ (qw _ (JI hb e)))).2.1
   cases ok with
   | false=>
    show ∃m,m<n/\_;exact again I9 (by simpa using q9)
   | true=>
    have q9':te σ8 H9 fun y H6=>∃xs,H6 s₂.heap.objs.size=some (.lst xs)/\xs.length<sizeLine/\∃m',m'<n/\W (i+1) m' σ8 (Zo H6 s₂.heap.objs.size (.lst (xs ++ [y]))):=by simpa using q9
    show wpAny _ _ _ _ _ _;refine wpAny_mono (he _ _ _ _ _ _ s9 σ8 H9 _ I9 q9') (fun y sA ⟨yv,HA,IA,rA,xs,eA,zA,mA⟩=>?_) fun _ _ f=>f.elim;refine wpAny_mono (ZeD (X:=YU X jE N' scope cl s₃.heap.objs.size s₃ (Zo H2 s₂.heap.objs.size (.lst [])) fp) _ sA σ8 HA (.ref s₂.heap.objs.size) [yv] (.ref s₂.heap.objs.size) [y] (fun _ HB=>HB=Zo HA s₂.heap.objs.size (.lst (xs ++ [yv]))) IA rfl (.cons rA .nil) ⟨_,xs,yv,rfl,rfl,eA,zA,rfl⟩) (fun _ sB ⟨_,HB,IB,_,eB⟩=>?_) fun _ _ f=>f.elim;subst eB;exact again IB mA
 exact codeAny_compStart_list loop (T.self _ 0 _ _ _ st4' loop)
theorem ZmS {X:Cx}{elt tg iter:Expr}{ifs:List Expr}{scope:Scope}{pos:Pos}{N':List Str}{src:List (Option Nat)}{cl:List (Str×Addr)}{wi:TI}{g:TG}{tt:TT}{te:TE}
  (hc:X.calm=true) (B:BlkOk X N' src scope cl) (hi:PI X tg iter wi)
  (hg:∀jE C s H fp,PG (YU X jE N' scope cl C s H fp) tg g) (ht:∀jE C s H fp,VR (YU X jE N' scope cl C s H fp) ifs tt) (he:∀jE C s H fp,PE (YU X jE N' scope cl C s H fp) elt te)
  (hs:∀x,foldedSetIterable iter X.env x=pure x:=by intro _;rfl):PE X (.ListComp elt [⟨tg,iter,ifs,0⟩] scope pos) (ZkX src wi g tt te):=by
 intro jE s σ H Q I h;rw[eval_ListComp];refine wpAny_comprehension_free (use:=none) rfl hs B.clos B.kind B.names (wpAny_mono (hi jE s σ H _ I h) (fun xv s₁ h₁=>wpAny_mono h₁ (fun it s₂ h₂=>?_) fun _ _ e=>e) fun _ _ e=>e);obtain⟨it,fp,tn,J,H2,e,I2,T,jV,f2,q2⟩:=h₂;subst e;refine ZeH (RR:=fun jL C=>compPost (model X.prog X.w) X.A X.xe none (EP X jE σ Q) jL C) (Qp:=fun p H=>Q (.ref p) H) hc B hg ht he I2 T jV f2 q2 ?_;intro p C s6 H5 mm J1 hnn fC qn;refine⟨mm,hnn,fun h' sb=>?_⟩;obtain⟨c0,c1,c2,c3,c4,c5⟩:=fC;exact⟨.ref p,H5,J1.turned (t':=s6.toks) (it:=C) (fun b o hb e=>(sb.2 b hb).trans e) c0 c1 c3 c4 c5,rfl,qn⟩
theorem ZmT {X:Cx}{elt tg iter:Expr}{ifs:List Expr}{scope:Scope}{pos pos' spos:Pos}{N':List Str}{src:List (Option Nat)}{cl:List (Str×Addr)}{wi:TI}{g:TG}{tt:TT}{te:TE}{i:Nat}{x:Str}
  (hN:X.N.Nodup) (hi':X.N[i]?=some x) (hx:VD X.env.scope x)
  (hc:X.calm=true) (B:BlkOk X N' src scope cl) (hi:PI X tg iter wi)
  (hg:∀jE C s H fp,PG (YU X jE N' scope cl C s H fp) tg g) (ht:∀jE C s H fp,VR (YU X jE N' scope cl C s H fp) ifs tt) (he:∀jE C s H fp,PE (YU X jE N' scope cl C s H fp) elt te)
  (hsw:swapsWith (.ListComp elt [⟨tg,iter,ifs,0⟩] scope pos) (some (.Name x pos')) spos.line X.env=pure true:=by rfl)
  (hs:∀x,foldedSetIterable iter X.env x=pure x:=by intro _;rfl)
  (hf:X.fn x=true∨X.env.scope.names.lookup x=some .local:=by first | exact .inl rfl | exact .inr rfl | assumption) :
  PS X (.Assign [.Name x pos'] (.ListComp elt [⟨tg,iter,ifs,0⟩] scope pos) spos) (fun D σ H=>ZkX src wi g tt te σ H fun y H1=>D.nx (σ.set i (some y)) H1):=by
 intro jE s σ H D I h;rw[exec_Assign_Name_used _ _ _ _ hsw];refine wpAny_bind (wpAny_standAt (wpAny_bind ?_));show wpAny _ _ (do let _<-comprehension (.ListComp elt [⟨tg,iter,ifs,0⟩] scope pos) scope X.env _ (newList []) false (eval iter X.env) (some (assign (.Name x pos') X.env))) _ _ s;refine wpAny_bind (wpAny_mono (wpAny_comprehension_free (use:=some (assign (.Name x pos') X.env)) (Q:=fun _ s'=>SP X jE D .next s') rfl hs B.clos B.kind B.names
  (wpAny_mono (hi jE s σ H _ I h) (fun xv s₁ h₁=>wpAny_mono h₁ (fun it s₂ h₂=>?_) fun _ _ e=>e) fun _ _ e=>e)) (fun _ s' hq=>wpAny_pure (wpAny_pure hq)) fun _ _ e=>e)
 obtain⟨it,fp,tn,J,H2,e,I2,T,jV,f2,q2⟩:=h₂;subst e;refine ZeH (RR:=fun jL C=>compPost (model X.prog X.w) X.A X.xe (some (assign (.Name x pos') X.env)) (fun _ s'=>SP X jE D .next s') jL C) (Qp:=fun p H=>D.nx (σ.set i (some (.ref p))) H) hc B hg ht he I2 T jV f2 q2 ?_;intro p C s6 H5 mm J1 hnn fC qn;obtain⟨oC,es,ep,hoC,hdC,hrC⟩:=id hnn;have fC':∀b∈[C],WI X jE H5 b:=by
  intro b hb;have e:b=C:=by simpa using hb
  rw[e];exact fC
 have oC':∀b∈[C],∃o,s6.heap.get? b=some o/\∀v,o.data≠.cell v:=by
  intro b hb;have e:b=C:=by simpa using hb
  rw[e];exact⟨oC,hoC,fun v z=>by rw[hdC] at z;cases z⟩
 have J2:=J1.pinned (fp:=[C]) fC' oC';show wpAny _ _ (assign (.Name x pos') X.env (.ref p)) _ _ _;refine wpAny_mono (Uy (X:=X) (pos:=pos') hN hi' hx hf _ s6 σ H5 (.ref p) (.ref p) (fun σ' H'=>σ'=σ.set i (some (.ref p))/\H'=H5) J2 rfl ⟨rfl,rfl⟩) (fun _ s7 ⟨σ7,H7,I7,e7,e7'⟩=>?_) fun _ _ e=>e;subst e7 e7';have pC:=I7.pin (C,oC) (qw _ (qw _ (JI (by simp) hoC)));refine⟨mm,⟨oC,es,ep,pC.1,hdC,hrC⟩,fun h' sb=>?_⟩;obtain⟨c0,c1,c2,c3,c4,c5⟩:=fC;exact⟨_,_,(I7.unpinned).turned (t':=s7.toks) (it:=C) (fun b o hb e=>(sb.2 b hb).trans e) c0 c1 c3 c4 c5,qn⟩
end L2
namespace TF
open L2
inductive D where
 | non | bl (b:Bool) | int (i:Int) | str (x:Str) | tup (xs:List D) | lst (xs:List D)
 | dk (kvs:List (Zy×V)) | dt (kvs:List (List Zy×V)) | du (kvs:List (List Zy×V)) | df (kvs:List (Zy×V)) | pen | ty (n:String) | clo (t:Nat) (caps:List D)
abbrev St:=L2.St
abbrev Pn:=List Int×List Int
abbrev M (α:Type):=Pn->Option (α×Pn)
abbrev Zb:=List (Option D)
def Zx {α:Type}(a:α):M α:=fun s=>some (a,s)
def Zn {α β:Type}(m:M α)(k:α->M β):M β:=fun s=>match m s with | none=>none | some p=>k p.1 p.2
def ZC {α:Type}:M α:=fun _=>none
def YF {α:Type}(o:Option α):M α:=fun s=>match o with | none=>none | some a=>some (a,s)
theorem ZB {α β:Type}{m:M α}{k:α->M β}{s s':Pn}{b:β}(h:Zn m k s=some (b,s')):∃a s1,m s=some (a,s1)/\k a s1=some (b,s'):=by
 unfold Zn at h
 cases e:m s with
 | none=>rw[e] at h;cases h
 | some p=>rw[e] at h;exact⟨p.1,p.2,rfl,h⟩
theorem ZW {α:Type}{a b:α}{s s':Pn}(h:Zx a s=some (b,s')):b=a/\s'=s:=by
 unfold Zx at h
 cases h
 exact⟨rfl,rfl⟩
theorem Wz {α:Type}{o:Option α}{b:α}{s s':Pn}(h:YF o s=some (b,s')):o=some b/\s'=s:=by
 unfold YF at h
 cases e:o with
 | none=>rw[e] at h;cases h
 | some a=>rw[e] at h;cases h;exact⟨rfl,rfl⟩
structure Gh where
 fp:Addr->Prop
 rd:Addr->Prop
 pen:V
 st:Pn->Hp->Prop
 mono:∀s H H',st s H->(∀b o,rd b->H b=some o->H' b=some o)->(∀b φ,H b=some (.ext φ)->H' b=some (.ext φ))->st s H'
 sub:∀b,fp b->rd b
 dom:∀s H b,st s H->rd b->∃o,H b=some o
 ntp:∀s H b vs,st s H->fp b->H b≠some (.tup vs)
 clo:Nat->V->List V->Prop:=fun _ _ _=>False
mutual
def Zp (G:Gh)(H:Hp):D->V->Prop
 | .non,v=>v=.non
 | .bl b,v=>v=.bl b
 | .int i,v=>v=.int i
 | .str x,v=>v=.str x
 | .tup ds,v=>∃a vs,v=.ref a/\¬G.fp a/\H a=some (.tup vs)/\Zm G H ds vs
 | .lst ds,v=>∃a vs,v=.ref a/\¬G.fp a/\H a=some (.lst vs)/\Zm G H ds vs
 | .dk kvs,v=>∃a,v=.ref a/\¬G.fp a/\H a=some (.dK kvs)
 | .dt kvs,v=>∃a o,v=.ref a/\¬G.fp a/\H a=some (.frz o (.dT kvs))
 | .du kvs,v=>∃a,v=.ref a/\¬G.fp a/\H a=some (.dT kvs)
 | .df kvs,v=>∃a o,v=.ref a/\¬G.fp a/\H a=some (.frz o (.dK kvs))
 | .pen,v=>v=G.pen
 | .ty n,v=>v=.ty n
 | .clo t ds,v=>∃vs,G.clo t v vs/\Zm G H ds vs
def Zm (G:Gh)(H:Hp):List D->List V->Prop
 | [],vs=>vs=[]
 | d::ds,vs=>∃v r,vs=v::r/\Zp G H d v/\Zm G H ds r
end
def ZL (G:Gh)(H H':Hp):Prop:=∀b o,¬G.fp b->H b=some o->H' b=some o
theorem ZL.refl (G:Gh)(H:Hp):ZL G H H:=fun _ _ _ e=>e
theorem ZL.trans {G:Gh}{H H1 H2:Hp}(a:ZL G H H1)(b:ZL G H1 H2):ZL G H H2:=fun c o n e=>b c o n (a c o n e)
mutual
theorem Zp.ext {G:Gh}{H H':Hp}(e:ZL G H H'):∀{d:D} {v:V},Zp G H d v->Zp G H' d v
 | .non,_,h=>h
 | .bl _,_,h=>h
 | .int _,_,h=>h
 | .str _,_,h=>h
 | .tup ds,v,h=>by
  unfold Zp at h⊢;obtain⟨a,vs,e1,n,e2,r⟩:=h;exact⟨a,vs,e1,n,e _ _ n e2,Zm.ext e r⟩
 | .lst ds,v,h=>by
  unfold Zp at h⊢;obtain⟨a,vs,e1,n,e2,r⟩:=h;exact⟨a,vs,e1,n,e _ _ n e2,Zm.ext e r⟩
 | .dk kvs,v,h=>by
  unfold Zp at h⊢;obtain⟨a,e1,n,e2⟩:=h;exact⟨a,e1,n,e _ _ n e2⟩
 | .dt kvs,v,h=>by
  unfold Zp at h⊢;obtain⟨a,o,e1,n,e2⟩:=h;exact⟨a,o,e1,n,e _ _ n e2⟩
 | .df kvs,v,h=>by
  unfold Zp at h⊢;obtain⟨a,o,e1,n,e2⟩:=h;exact⟨a,o,e1,n,e _ _ n e2⟩
 | .du kvs,v,h=>by
  unfold Zp at h⊢;obtain⟨a,e1,n,e2⟩:=h;exact⟨a,e1,n,e _ _ n e2⟩
 | .pen,_,h=>h
 | .ty _,_,h=>h
 | .clo t ds,v,h=>by
  unfold Zp at h⊢;obtain⟨vs,c,r⟩:=h;exact⟨vs,c,Zm.ext e r⟩
theorem Zm.ext {G:Gh}{H H':Hp}(e:ZL G H H'):∀{ds:List D} {vs:List V},Zm G H ds vs->Zm G H' ds vs
 | [],_,h=>h
 | d::ds,vs,h=>by
  unfold Zm at h⊢;obtain⟨v,r,e1,r1,r2⟩:=h;exact⟨v,r,e1,Zp.ext e r1,Zm.ext e r2⟩
end
section
variable {G:Gh}{H:Hp}
theorem jc {ds:List D}{v:V}:Zp G H (.tup ds) v↔∃a vs,v=.ref a/\¬G.fp a/\H a=some (.tup vs)/\Zm G H ds vs:=by unfold Zp;exact yy
theorem jb {ds:List D}{v:V}:Zp G H (.lst ds) v↔∃a vs,v=.ref a/\¬G.fp a/\H a=some (.lst vs)/\Zm G H ds vs:=by unfold Zp;exact yy
theorem jj {kvs:List (Zy×V)}{v:V}:Zp G H (.dk kvs) v↔∃a,v=.ref a/\¬G.fp a/\H a=some (.dK kvs):=by unfold Zp;exact yy
theorem jl {kvs:List (List Zy×V)}{v:V}:Zp G H (.dt kvs) v↔∃a o,v=.ref a/\¬G.fp a/\H a=some (.frz o (.dT kvs)):=by unfold Zp;exact yy
theorem jm {kvs:List (List Zy×V)}{v:V}:Zp G H (.du kvs) v↔∃a,v=.ref a/\¬G.fp a/\H a=some (.dT kvs):=by unfold Zp;exact yy
theorem jt {kvs:List (Zy×V)}{v:V}:Zp G H (.df kvs) v↔∃a o,v=.ref a/\¬G.fp a/\H a=some (.frz o (.dK kvs)):=by unfold Zp;exact yy
theorem ja {i:Int}{v:V}:Zp G H (.int i) v↔v=.int i:=by unfold Zp;exact yy
theorem jd {b:Bool}{v:V}:Zp G H (.bl b) v↔v=.bl b:=by unfold Zp;exact yy
theorem jh {b:Str}{v:V}:Zp G H (.str b) v↔v=.str b:=by unfold Zp;exact yy
theorem ji {v:V}:Zp G H .non v↔v=.non:=by unfold Zp;exact yy
theorem jq {v:V}:Zp G H .pen v↔v=G.pen:=by unfold Zp;exact yy
theorem js {n:String}{v:V}:Zp G H (.ty n) v↔v=.ty n:=by unfold Zp;exact yy
theorem jx {t:Nat}{ds:List D}{v:V}:Zp G H (.clo t ds) v↔∃vs,G.clo t v vs/\Zm G H ds vs:=by unfold Zp;exact yy
theorem Zm.nil_iff {vs:List V}:Zm G H [] vs↔vs=[]:=by unfold Zm;exact yy
theorem je {d:D}{ds:List D}{vs:List V}:Zm G H (d::ds) vs↔∃v r,vs=v::r/\Zp G H d v/\Zm G H ds r:=by
 constructor
 ·intro h;unfold Zm at h;exact h
 ·intro h;unfold Zm;exact h
theorem Zm.length:∀{ds:List D} {vs:List V},Zm G H ds vs->ds.length=vs.length
 | [],vs,h=>by rw[Zm.nil_iff.mp h];rfl
 | d::ds,vs,h=>by
  obtain⟨v,r,rfl,_,h2⟩:=je.mp h;simp[Zm.length h2]
theorem Zm.get:∀{ds:List D} {vs:List V} {i:Nat} {d:D},Zm G H ds vs->ds[i]?=some d->∃v,vs[i]?=some v/\Zp G H d v
 | [],_,_,_,_,e=>by simp at e
 | d::ds,vs,0,d',h,e=>by
  obtain⟨v,r,rfl,h1,_⟩:=je.mp h;simp at e;subst e;exact⟨v,rfl,h1⟩
 | d::ds,vs,i+1,d',h,e=>by
  obtain⟨v,r,rfl,_,h2⟩:=je.mp h;obtain⟨u,e1,e2⟩:=Zm.get h2 (i:=i) (d:=d') (by simpa using e);exact⟨u,by simpa using e1,e2⟩
theorem Zm.append:∀{ds es:List D} {vs us:List V},Zm G H ds vs->Zm G H es us->Zm G H (ds++es) (vs++us)
 | [],es,vs,us,h,h'=>by rw[Zm.nil_iff.mp h];exact h'
 | d::ds,es,vs,us,h,h'=>by
  obtain⟨v,r,rfl,h1,h2⟩:=je.mp h;exact je.mpr ⟨v,r++us,rfl,h1,Zm.append h2 h'⟩
theorem Zm.one {d:D}{v:V}(h:Zp G H d v):Zm G H [d] [v]:=je.mpr ⟨v,[],rfl,h,Zm.nil_iff.mpr rfl⟩
theorem Zm.cons {d:D}{v:V}{ds:List D}{vs:List V}(h:Zp G H d v)(h2:Zm G H ds vs):Zm G H (d::ds) (v::vs):=je.mpr ⟨v,vs,rfl,h,h2⟩
theorem Zm.take:∀{ds:List D} {vs:List V} (n:Nat),Zm G H ds vs->Zm G H (ds.take n) (vs.take n)
 | _,_,0,_=>Zm.nil_iff.mpr (by simp)
 | [],vs,n+1,h=>by rw[Zm.nil_iff.mp h];exact Zm.nil_iff.mpr (by simp)
 | d::ds,vs,n+1,h=>by
  obtain⟨u,r,rfl,h1,h2⟩:=je.mp h;exact Zm.cons h1 (Zm.take n h2)
theorem Zm.drop:∀{ds:List D} {vs:List V} (n:Nat),Zm G H ds vs->Zm G H (ds.drop n) (vs.drop n)
 | _,_,0,h=>h
 | [],vs,n+1,h=>by rw[Zm.nil_iff.mp h];exact Zm.nil_iff.mpr (by simp)
 | d::ds,vs,n+1,h=>by
  obtain⟨u,r,rfl,h1,h2⟩:=je.mp h;exact Zm.drop n h2
end
def Nt (o:Option HO):Prop:=∃u,o=some u/\∀vs,u≠.tup vs
theorem Nt.no {o:Option HO}(h:Nt o)(e:o=none):False:=by
 obtain⟨u,q,_⟩:=h;rw[e] at q;cases q
structure Gr (G:Gh)(Hf H Hf' H':Hp):Prop where
 hh:ZL G H H'
 ff:ZL G Hf Hf'
 fh:ZL G Hf' H'
 nw:∀b,¬G.fp b->Hf b=none->Nt (H b)->Hf' b=none
theorem Gr.refl {G:Gh}{Hf H:Hp}(e:ZL G Hf H):Gr G Hf H Hf H:=⟨.refl _ _,.refl _ _,e,fun _ _ h _=>h⟩
theorem Gr.trans {G:Gh}{Hf H jM H1 jX H2:Hp}(a:Gr G Hf H jM H1)(b:Gr G jM H1 jX H2):Gr G Hf H jX H2:=
 ⟨a.hh.trans b.hh,a.ff.trans b.ff,b.fh,fun c n h1 h2=>b.nw c n (a.nw c n h1 h2) (let ⟨u,e,nt⟩:=h2;⟨u,a.hh c u n e,nt⟩)⟩
theorem Gr.new {G:Gh}{Hf H:Hp}{p:Addr}{o:HO}(e:ZL G Hf H)(hp:H p=none)(nf:¬G.fp p):Gr G Hf H (Zo Hf p o) (Zo H p o) where
 hh:=fun b u n q=>by rw[Zu (Z5 q hp)];exact q
 ff:=fun b u n q=>by rw[Zu (Z5 (e b u n q) hp)];exact q
 fh:=fun b u n q=>by
  by_cases hb:b=p
  ·subst hb;rw[Z8] at q⊢;exact q
  ·rw[Zu hb] at q⊢;exact e b u n q
 nw:=fun b n h1 h2=>by
  by_cases hb:b=p
  ·subst hb;exact(h2.no hp).elim
  ·rw[Zu hb];exact h1
theorem Gh.nofp {G:Gh}{s:Pn}{H:Hp}{p:Addr}(h:G.st s H)(hp:H p=none):¬G.fp p:=fun f=>by
 obtain⟨o,e⟩:=G.dom s H p h (G.sub p f);rw[hp] at e;cases e
theorem jA {G:Gh}{s:Pn}{H:Hp}{p:Addr}(h:G.st s H)(hp:H p=none):¬G.rd p:=fun f=>by
 obtain⟨o,e⟩:=G.dom s H p h f;rw[hp] at e;cases e
theorem Gh.grow {G:Gh}{s:Pn}{H:Hp}{p:Addr}{o:HO}(h:G.st s H)(hp:H p=none):G.st s (Zo H p o):=G.mono s H _ h (fun b u _ q=>by
 rw[Zu (Z5 q hp)];exact q) fun b φ q=>by
 rw[Zu (Z5 q hp)];exact q
def Jj:D->Prop
 | .lst _=>True
 | .dk _=>True
 | .dt _=>True
 | .du _=>True
 | _=>False
def YH (G:Gh)(H Hf':Hp)(d:D)(v:V):Prop:=∀a,v=.ref a->Jj d->H a=none/\∀ds,d=.lst ds->∃vs Hm,Hf' a=some (.lst vs)/\Hm a=none/\ZL G Hm Hf'/\Zm G Hm ds vs
theorem jn {G:Gh}{H H' Hf':Hp}{d:D}{v:V}(e:ZL G H H')(r:∀a,v=.ref a->Jj d->¬G.fp a)(h:YH G H' Hf' d v):YH G H Hf' d v:=fun a ea m=>by
 refine⟨?_,(h a ea m).2⟩
 cases q:H a with
 | none=>rfl
 | some o=>
  have:=e a o (r a ea m) q;rw[(h a ea m).1] at this;cases this
theorem Zp.nofp {G:Gh}{H:Hp}{d:D}{v:V}(r:Zp G H d v):∀a,v=.ref a->Jj d->¬G.fp a:=fun a e m=>by
 cases d with
 | lst ds=>obtain⟨b,vs,e1,n,_⟩:=jb.mp r;rw[e] at e1;cases e1;exact n
 | dk ds=>obtain⟨b,e1,n,_⟩:=jj.mp r;rw[e] at e1;cases e1;exact n
 | dt ds=>obtain⟨b,_,e1,n,_⟩:=jl.mp r;rw[e] at e1;cases e1;exact n
 | du ds=>obtain⟨b,e1,n,_⟩:=jm.mp r;rw[e] at e1;cases e1;exact n
 | _=>exact m.elim
def YX (G:Gh)(H:Hp)(σ:St)(ρ:Zb):Prop:=∀(i:Nat) (d:D),ρ[i]?=some (some d)->∃v,σ[i]?=some (some v)/\Zp G H d v
theorem YX.ext {G:Gh}{H H':Hp}{σ:St}{ρ:Zb}(h:YX G H σ ρ)(e:ZL G H H'):YX G H' σ ρ:=fun i d q=>let ⟨v,a,b⟩:=h i d q;⟨v,a,b.ext e⟩
def PD (X:Cx)(G:Gh)(fr:Bool)(e:Expr)(f:Zb->M D):Prop:=
 ∃t,PE X e t/\∀(σ:St) (Hf H:Hp) (ρ:Zb) (s:Pn) (d:D) (s':Pn) (Q:VK),ZL G Hf H->YX G Hf σ ρ->G.st s H->f ρ s=some (d,s')->
  (∀v Hf' H',Gr G Hf H Hf' H'->G.st s' H'->Zp G Hf' d v->(fr=true->YH G H Hf' d v)->Q v H')->t σ H Q
def Wu (X:Cx)(G:Gh)(e:Expr)(f:Zb->M Bool):Prop:=
 ∃t,PT X e t/\∀(σ:St) (Hf H:Hp) (ρ:Zb) (s:Pn) (b:Bool) (s':Pn) (Q:Bool->Hp->Prop),ZL G Hf H->YX G Hf σ ρ->G.st s H->f ρ s=some (b,s')->
  (∀Hf' H',Gr G Hf H Hf' H'->G.st s' H'->Q b H')->t σ H Q
def W7 (X:Cx)(G:Gh)(es:List Expr)(f:Zb->M (List D)):Prop:=
 ∃t,PA X es t/\∀(σ:St) (Hf H:Hp) (ρ:Zb) (s:Pn) (ds:List D) (s':Pn) (Q:List V->Hp->Prop),ZL G Hf H->YX G Hf σ ρ->G.st s H->f ρ s=some (ds,s')->
  (∀vs Hf' H',Gr G Hf H Hf' H'->G.st s' H'->Zm G Hf' ds vs->Q vs H')->t σ H Q
section
variable {X:Cx}{G:Gh}
theorem PD.weak {e:Expr}{f:Zb->M D}{fr:Bool}(h:PD X G fr e f):PD X G false e f:=by
 obtain⟨t,p,q⟩:=h;exact⟨t,p,fun σ Hf H ρ s d s' Q e1 e2 e3 e4 k=>q σ Hf H ρ s d s' Q e1 e2 e3 e4 fun v Hf' H' g1 g2 g3 _=>k v Hf' H' g1 g2 g3 (fun z=>by cases z)⟩
def Za (i:Nat):Zb->M D:=fun ρ=>YF ((ρ[i]?).bind id)
def dC (d:D):Zb->M D:=fun _=>Zx d
theorem ZhG (i:Nat){x:Str}{pos:Pos}(h:PE X (.Name x pos) (Y1 i)):PD X G false (.Name x pos) (Za i):=by
 refine⟨_,h,fun σ Hf H ρ s d s' Q e1 e2 e3 e4 k=>?_⟩;obtain⟨e,rfl⟩:=Wz e4;have e':ρ[i]?=some (some d):=by
  cases q:ρ[i]? with
  | none=>rw[q] at e;cases e
  | some o=>rw[q] at e;simp at e;rw[e]
 obtain⟨v,h1,h2⟩:=e2 i d e';exact⟨v,h1,k v Hf H (.refl e1) e3 h2 (fun z=>by cases z)⟩
theorem YH.scal {H Hf':Hp}{d:D}{v:V}(h:Jj d->False):YH G H Hf' d v:=fun _ _ m=>(h m).elim
theorem ZA {i:Int}{j pos}:PD X G true (.Constant (.int i) j pos) (dC (.int i)):=by
 refine⟨_,XB,fun σ Hf H ρ s d s' Q e1 e2 e3 e4 k=>?_⟩;obtain⟨rfl,rfl⟩:=ZW e4;exact k _ Hf H (.refl e1) e3 (ja.mpr rfl) fun _=>.scal fun z=>z
theorem Xr {b:Bool}{j pos}:PD X G true (.Constant (.bool b) j pos) (dC (.bl b)):=by
 refine⟨_,Zpl,fun σ Hf H ρ s d s' Q e1 e2 e3 e4 k=>?_⟩;obtain⟨rfl,rfl⟩:=ZW e4;exact k _ Hf H (.refl e1) e3 (jd.mpr rfl) fun _=>.scal fun z=>z
theorem VG {x:Str}{j pos}:PD X G true (.Constant (.str x) j pos) (dC (.str x)):=by
 refine⟨_,Zog,fun σ Hf H ρ s d s' Q e1 e2 e3 e4 k=>?_⟩;obtain⟨rfl,rfl⟩:=ZW e4;exact k _ Hf H (.refl e1) e3 (jh.mpr rfl) fun _=>.scal fun z=>z
def Zg:Zb->M (List D):=fun _=>Zx []
def Zc (f:Zb->M D)(g:Zb->M (List D)):Zb->M (List D):=fun ρ=>Zn (f ρ) fun d=>Zn (g ρ) fun ds=>Zx (d::ds)
theorem Zk:W7 X G [] Zg:=by
 refine⟨_,XC,fun σ Hf H ρ s d s' Q e1 e2 e3 e4 k=>?_⟩;obtain⟨rfl,rfl⟩:=ZW e4;exact k _ Hf H (.refl e1) e3 (Zm.nil_iff.mpr rfl)
theorem Zf {e:Expr}{es:List Expr}{f:Zb->M D}{g:Zb->M (List D)}{fr:Bool}(h:PD X G fr e f)(hr:W7 X G es g)(hs:starEach (e::es) X.env=(false,eval e X.env)::starEach es X.env:=by rfl):W7 X G (e::es) (Zc f g):=by
 obtain⟨t,p,q⟩:=h;obtain⟨u,p2,q2⟩:=hr;refine⟨_,Y6 p p2 hs,fun σ Hf H ρ s ds s' Q e1 e2 e3 e4 k=>?_⟩;obtain⟨d,s1,a1,a2⟩:=ZB e4;obtain⟨r,s2,a3,a4⟩:=ZB a2;obtain⟨rfl,rfl⟩:=ZW a4;refine q σ Hf H ρ s d s1 _ e1 e2 e3 a1 fun v jM H1 g1 jW r1 _=>?_;refine q2 σ jM H1 ρ s1 r _ _ g1.fh (e2.ext g1.ff) jW a3 fun vs jX H2 g2 jV r2=>?_;exact k _ jX H2 (g1.trans g2) jV (Zm.cons (r1.ext g2.ff) r2)
def Yr (f:Zb->M (List D)):Zb->M D:=fun ρ=>Zn (f ρ) fun ds=>if ds.length<=sizeLine then Zx (.tup ds) else ZC
def Xf (f:Zb->M (List D)):Zb->M D:=fun ρ=>Zn (f ρ) fun ds=>if ds.length<=sizeLine then Zx (.lst ds) else ZC
theorem Xw {α:Type}{c:Prop}[Decidable c]{a:M α}{s s':Pn}{b:α}(h:(if c then a else ZC) s=some (b,s')):c/\a s=some (b,s'):=by
 split at h
 ·rename_i hc;exact⟨hc,h⟩
 ·cases h
theorem YH.mk {Hf H:Hp}{p:Addr}{vs:List V}{ds:List D}(e:ZL G Hf H)(hp:H p=none)(nf:¬G.fp p)(r:Zm G Hf ds vs):YH G H (Zo Hf p (.lst vs)) (.lst ds) (.ref p):=fun a ea _=>by
 cases ea
 refine⟨hp,fun ds' ed=>?_⟩
 cases ed
 have hf:Hf p=none:=by
  cases q:Hf p with
  | none=>rfl
  | some o=>rw[e p o nf q] at hp;cases hp
 exact⟨vs,Hf,Z8,hf,fun b o n q=>by rw[Zu (Z5 q hf)];exact q,r⟩
theorem Xy {es:List Expr}{f:Zb->M (List D)}{x1:Nat}{pos:Pos}(h:W7 X G es f):PD X G true (.Tuple es x1 pos) (Yr f):=by
 obtain⟨t,p,q⟩:=h;refine⟨_,Zov p,fun σ Hf H ρ s d s' Q e1 e2 e3 e4 k=>?_⟩;obtain⟨ds,s1,a1,a2⟩:=ZB e4;obtain⟨hl,a3⟩:=Xw a2;obtain⟨rfl,rfl⟩:=ZW a3;refine q σ Hf H ρ s ds s' _ e1 e2 e3 a1 fun vs jM H1 g1 jW r1=>⟨by rw[<-r1.length];exact hl,fun p hp=>?_⟩;have nf:=Gh.nofp jW hp;have g2:=Gr.new (o:=.tup vs) g1.fh hp nf;exact k (.ref p) _ _ (g1.trans g2) (Gh.grow jW hp) (jc.mpr ⟨p,vs,rfl,nf,Z8,r1.ext g2.ff⟩) fun _=>.scal fun z=>z
theorem W1 {es:List Expr}{f:Zb->M (List D)}{pos:Pos}(h:W7 X G es f):PD X G true (.List es pos) (Xf f):=by
 obtain⟨t,p,q⟩:=h;refine⟨_,Zow p,fun σ Hf H ρ s d s' Q e1 e2 e3 e4 k=>?_⟩;obtain⟨ds,s1,a1,a2⟩:=ZB e4;obtain⟨hl,a3⟩:=Xw a2;obtain⟨rfl,rfl⟩:=ZW a3;refine q σ Hf H ρ s ds s' _ e1 e2 e3 a1 fun vs jM H1 g1 jW r1=>⟨by rw[<-r1.length];exact hl,fun p hp=>?_⟩;have nf:=Gh.nofp jW hp;have g2:=Gr.new (o:=.lst vs) g1.fh hp nf;refine k (.ref p) _ _ (g1.trans g2) (Gh.grow jW hp) (jb.mpr ⟨p,vs,rfl,nf,Z8,r1.ext g2.ff⟩) fun _=>jn g1.hh (fun a ea _=>by cases ea;exact nf) (YH.mk g1.fh hp nf r1)
def Xv (X:Cx)(G:Gh)(f:Value->Value->Sem Value)(g:D->D->Option D):Prop:=
 ∃r,YC X f r/\∀(Hf H:Hp) (s:Pn) (x y:V) (d e c:D) (Q:VK),ZL G Hf H->G.st s H->Zp G Hf d x->Zp G Hf e y->g d e=some c->
  (∀v Hf' H',Gr G Hf H Hf' H'->G.st s H'->Zp G Hf' c v->YH G H Hf' c v->Q v H')->r x y H Q
def Zd (g:D->D->Option D)(a b:Zb->M D):Zb->M D:=fun ρ=>Zn (a ρ) fun d=>Zn (b ρ) fun e=>YF (g d e)
theorem op2D {fa fb:Zb->M D}{g:D->D->Option D}{ta tb:TE}{r:R2}
  (qa:∀(σ:St) (Hf H:Hp) (ρ:Zb) (s:Pn) (d:D) (s':Pn) (Q:VK),ZL G Hf H->YX G Hf σ ρ->G.st s H->fa ρ s=some (d,s')->(∀v Hf' H',Gr G Hf H Hf' H'->G.st s' H'->Zp G Hf' d v->Q v H')->ta σ H Q)
  (qb:∀(σ:St) (Hf H:Hp) (ρ:Zb) (s:Pn) (d:D) (s':Pn) (Q:VK),ZL G Hf H->YX G Hf σ ρ->G.st s H->fb ρ s=some (d,s')->(∀v Hf' H',Gr G Hf H Hf' H'->G.st s' H'->Zp G Hf' d v->Q v H')->tb σ H Q)
  (qo:∀(Hf H:Hp) (s:Pn) (x y:V) (d e c:D) (Q:VK),ZL G Hf H->G.st s H->Zp G Hf d x->Zp G Hf e y->g d e=some c->(∀v Hf' H',Gr G Hf H Hf' H'->G.st s H'->Zp G Hf' c v->YH G H Hf' c v->Q v H')->r x y H Q)
  (σ:St) (Hf H:Hp) (ρ:Zb) (s:Pn) (d:D) (s':Pn) (Q:VK) (e1:ZL G Hf H) (e2:YX G Hf σ ρ) (e3:G.st s H) (e4:Zd g fa fb ρ s=some (d,s'))
  (k:∀v Hf' H',Gr G Hf H Hf' H'->G.st s' H'->Zp G Hf' d v->YH G H Hf' d v->Q v H'):WV r ta tb σ H Q:=by
 obtain⟨da,s1,a1,a2⟩:=ZB e4;obtain⟨db,s2,a3,a4⟩:=ZB a2;obtain⟨a5,rfl⟩:=Wz a4;refine qa σ Hf H ρ s da s1 _ e1 e2 e3 a1 fun x jM H1 g1 jW r1=>?_;refine qb σ jM H1 ρ s1 db _ _ g1.fh (e2.ext g1.ff) jW a3 fun y jX H2 g2 jV r2=>?_;refine qo jX H2 _ x y da db d Q g2.fh jV (r1.ext g2.ff) r2 a5 fun v Hf3 H3 g3 st3 r3 fz=>?_;exact k v Hf3 H3 ((g1.trans g2).trans g3) st3 r3 (jn (g1.hh.trans g2.hh) r3.nofp fz)
theorem PD.drop {e:Expr}{f:Zb->M D}{fr:Bool}(h:PD X G fr e f):∃t,PE X e t/\∀(σ:St) (Hf H:Hp) (ρ:Zb) (s:Pn) (d:D) (s':Pn) (Q:VK),ZL G Hf H->YX G Hf σ ρ->G.st s H->f ρ s=some (d,s')->
  (∀v Hf' H',Gr G Hf H Hf' H'->G.st s' H'->Zp G Hf' d v->Q v H')->t σ H Q:=by
 obtain⟨t,p,q⟩:=h;exact⟨t,p,fun σ Hf H ρ s d s' Q a b c d' k=>q σ Hf H ρ s d s' Q a b c d' fun v Hf' H' g1 g2 g3 _=>k v Hf' H' g1 g2 g3⟩
theorem YO {a b:Expr}{op:Operator}{pos:Pos}{fa fb:Zb->M D}{g:D->D->Option D}{r1 r2:Bool}(ho:Xv X G (binaryOp op) g)(ha:PD X G r1 a fa)(hb:PD X G r2 b fb):PD X G true (.BinOp a op b pos) (Zd g fa fb):=by
 obtain⟨r,po,qo⟩:=ho;obtain⟨ta,pa,qa⟩:=ha.drop;obtain⟨tb,pb,qb⟩:=hb.drop;exact⟨_,Ue po pa pb,fun σ Hf H ρ s d s' Q e1 e2 e3 e4 k=>op2D qa qb qo σ Hf H ρ s d s' Q e1 e2 e3 e4 fun v Hf' H' g1 g2 g3 fz=>k v Hf' H' g1 g2 g3 fun _=>fz⟩
theorem VH {a b:Expr}{op:CmpOp}{pos:Pos}{fa fb:Zb->M D}{g:D->D->Option D}{r1 r2:Bool}(ho:Xv X G (compareOp op) g)(ha:PD X G r1 a fa)(hb:PD X G r2 b fb)
  (hm:behindInMarks op b=false:=by first | exact BH _ | with_unfolding_all rfl):PD X G true (.Compare a [op] [b] pos) (Zd g fa fb):=by
 obtain⟨r,po,qo⟩:=ho;obtain⟨ta,pa,qa⟩:=ha.drop;obtain⟨tb,pb,qb⟩:=hb.drop;exact⟨_,ZmF po pa pb hm,fun σ Hf H ρ s d s' Q e1 e2 e3 e4 k=>op2D qa qb qo σ Hf H ρ s d s' Q e1 e2 e3 e4 fun v Hf' H' g1 g2 g3 fz=>k v Hf' H' g1 g2 g3 fun _=>fz⟩
def Zz (f:Zb->M D):Zb->M Bool:=fun ρ=>Zn (f ρ) fun d=>match d with | .bl b=>Zx b | _=>ZC
theorem Zgp {f:Zb->M D}{ρ:Zb}{s s':Pn}{b:Bool}(h:Zz f ρ s=some (b,s')):f ρ s=some (.bl b,s'):=by
 obtain⟨d,s1,a1,a2⟩:=ZB h
 cases d with
 | bl c=>obtain⟨rfl,rfl⟩:=ZW a2;exact a1
 | _=>cases a2
theorem YD {a b:Expr}{op:CmpOp}{pos:Pos}{fa fb:Zb->M D}{g:D->D->Option D}{r1 r2:Bool}(ho:Xv X G (compareOp op) g)(ha:PD X G r1 a fa)(hb:PD X G r2 b fb)
  (hm:behindInMarks op b=false:=by first | exact BH _ | with_unfolding_all rfl):Wu X G (.Compare a [op] [b] pos) (Zz (Zd g fa fb)):=by
 obtain⟨r,po,qo⟩:=ho;obtain⟨ta,pa,qa⟩:=ha.drop;obtain⟨tb,pb,qb⟩:=hb.drop;refine⟨_,Zdg po pa pb hm,fun σ Hf H ρ s c s' Q e1 e2 e3 e4 k=>?_⟩;exact op2D qa qb qo σ Hf H ρ s (.bl c) s' _ e1 e2 e3 (Zgp e4) fun v Hf' H' g1 g2 g3 fz=>⟨c,jd.mp g3,k Hf' H' g1 g2⟩
theorem XU {e:Expr}{f:Zb->M D}{fr:Bool}(h:PD X G fr e f)(he:∀whole,isTrue e X.env whole=(do let v<-whole;standAt e.pos;holding [v] (truthy v)):=by intro _;rfl):Wu X G e (Zz f):=by
 obtain⟨t,p,q⟩:=h;refine⟨_,Zoh p he,fun σ Hf H ρ s c s' Q e1 e2 e3 e4 k=>?_⟩;exact q σ Hf H ρ s (.bl c) s' _ e1 e2 e3 (Zgp e4) fun v Hf' H' g1 g2 g3 fz=>⟨c,jd.mp g3,k Hf' H' g1 g2⟩
def XY (f:Zb->M Bool):Zb->M Bool:=fun ρ=>Zn (f ρ) fun b=>Zx (!b)
theorem WA {a:Expr}{pos:Pos}{f:Zb->M Bool}(h:Wu X G a f):Wu X G (.UnaryOp .Not a pos) (XY f):=by
 obtain⟨t,p,q⟩:=h;refine⟨_,Zok p,fun σ Hf H ρ s c s' Q e1 e2 e3 e4 k=>?_⟩;obtain⟨b,s1,a1,a2⟩:=ZB e4;obtain⟨rfl,rfl⟩:=ZW a2;exact q σ Hf H ρ s b s' _ e1 e2 e3 a1 fun Hf' H' g1 g2=>k Hf' H' g1 g2
def XZ (f g:Zb->M Bool):Zb->M Bool:=fun ρ=>Zn (f ρ) fun b=>if b=true then g ρ else Zx false
def Wk (f g:Zb->M Bool):Zb->M Bool:=fun ρ=>Zn (f ρ) fun b=>if b=true then Zx true else g ρ
def XH (X:Cx)(G:Gh)(e:Expr)(f:Zb->M Bool):Prop:=
 ∃t,PW X e t/\∀(σ:St) (Hf H:Hp) (ρ:Zb) (s:Pn) (b:Bool) (s':Pn) (Q:Bool->Hp->Prop),ZL G Hf H->YX G Hf σ ρ->G.st s H->f ρ s=some (b,s')->
  (∀Hf' H',Gr G Hf H Hf' H'->G.st s' H'->Q b H')->t σ H Q
theorem XH.pt {e:Expr}{f:Zb->M Bool}(h:XH X G e f):Wu X G e f:=by
 obtain⟨t,p,q⟩:=h;exact⟨t,p.pt,q⟩
theorem ZbW {a:Expr}{pos:Pos}{f:Zb->M Bool}(h:Wu X G a f):XH X G (.BoolOp .And [a] pos) f:=by
 obtain⟨t,p,q⟩:=h;exact⟨t,ZmB p,q⟩
theorem V7 {a:Expr}{pos:Pos}{f:Zb->M Bool}(h:Wu X G a f):XH X G (.BoolOp .Or [a] pos) f:=by
 obtain⟨t,p,q⟩:=h;exact⟨t,Zoi p,q⟩
theorem BB {a b:Expr}{rest:List Expr}{pos:Pos}{f g:Zb->M Bool}(h:Wu X G a f)(h2:XH X G (.BoolOp .And (b::rest) pos) g):XH X G (.BoolOp .And (a::b::rest) pos) (XZ f g):=by
 obtain⟨t,p,q⟩:=h;obtain⟨u,p2,q2⟩:=h2;refine⟨_,Zoj p p2,fun σ Hf H ρ s c s' Q e1 e2 e3 e4 k=>?_⟩;obtain⟨b,s1,a1,a2⟩:=ZB e4;refine q σ Hf H ρ s b s1 _ e1 e2 e3 a1 fun jM H1 g1 jW=>?_
 cases b with
 | true=>exact q2 σ jM H1 ρ s1 c s' _ g1.fh (e2.ext g1.ff) jW a2 fun jX H2 g2 jV=>k jX H2 (g1.trans g2) jV
 | false=>obtain⟨rfl,rfl⟩:=ZW a2;exact k jM H1 g1 jW
theorem W2 {a b:Expr}{rest:List Expr}{pos:Pos}{f g:Zb->M Bool}(h:Wu X G a f)(h2:XH X G (.BoolOp .Or (b::rest) pos) g):XH X G (.BoolOp .Or (a::b::rest) pos) (Wk f g):=by
 obtain⟨t,p,q⟩:=h;obtain⟨u,p2,q2⟩:=h2;refine⟨_,Zpm p p2,fun σ Hf H ρ s c s' Q e1 e2 e3 e4 k=>?_⟩;obtain⟨b,s1,a1,a2⟩:=ZB e4;refine q σ Hf H ρ s b s1 _ e1 e2 e3 a1 fun jM H1 g1 jW=>?_
 cases b with
 | true=>obtain⟨rfl,rfl⟩:=ZW a2;exact k jM H1 g1 jW
 | false=>exact q2 σ jM H1 ρ s1 c s' _ g1.fh (e2.ext g1.ff) jW a2 fun jX H2 g2 jV=>k jX H2 (g1.trans g2) jV
def Ui (f g:Zb->M D):Zb->M D:=fun ρ=>Zn (f ρ) fun d=>match d with | .bl true=>g ρ | .bl false=>Zx (.bl false) | _=>ZC
def Ba (f g:Zb->M D):Zb->M D:=fun ρ=>Zn (f ρ) fun d=>match d with | .bl true=>Zx (.bl true) | .bl false=>g ρ | _=>ZC
def J7 (f:Zb->M D):Zb->M D:=fun ρ=>Zn (f ρ) fun d=>match d with | .bl b=>Zx (.bl (!b)) | _=>ZC
theorem ZhH {op}{a:Expr}{pos:Pos}{fr:Bool}{f:Zb->M D}(h:PD X G fr a f):PD X G false (.BoolOp op [a] pos) f:=by
 obtain⟨t,p,q⟩:=h.weak;exact⟨t,Zol p,q⟩
theorem ZhI {a b:Expr}{rest:List Expr}{pos:Pos}{r1 r2:Bool}{f g:Zb->M D}(h:PD X G r1 a f)(h2:PD X G r2 (.BoolOp .And (b::rest) pos) g):PD X G false (.BoolOp .And (a::b::rest) pos) (Ui f g):=by
 obtain⟨t,p,q⟩:=h.drop;obtain⟨u,p2,q2⟩:=h2.drop;refine⟨_,Zom p p2,fun σ Hf H ρ s c s' Q e1 e2 e3 e4 k=>?_⟩;obtain⟨d,s1,a1,a2⟩:=ZB e4;refine q σ Hf H ρ s d s1 _ e1 e2 e3 a1 fun v jM H1 g1 jW r1=>?_
 cases d with
 | bl b=>
  cases b with
  | true=>exact⟨true,jd.mp r1,UM (q2 σ jM H1 ρ s1 c s' _ g1.fh (e2.ext g1.ff) jW a2 fun v jX H2 g2 jV r2=>k v jX H2 (g1.trans g2) jV r2 (fun z=>by cases z))⟩
  | false=>obtain⟨rfl,rfl⟩:=ZW a2;exact⟨false,jd.mp r1,UL (k _ jM H1 g1 jW (jd.mpr rfl) (fun z=>by cases z))⟩
 | _=>cases a2
theorem ZpF {a b:Expr}{rest:List Expr}{pos:Pos}{r1 r2:Bool}{f g:Zb->M D}(h:PD X G r1 a f)(h2:PD X G r2 (.BoolOp .Or (b::rest) pos) g):PD X G false (.BoolOp .Or (a::b::rest) pos) (Ba f g):=by
 obtain⟨t,p,q⟩:=h.drop;obtain⟨u,p2,q2⟩:=h2.drop;refine⟨_,Zpp p p2,fun σ Hf H ρ s c s' Q e1 e2 e3 e4 k=>?_⟩;obtain⟨d,s1,a1,a2⟩:=ZB e4;refine q σ Hf H ρ s d s1 _ e1 e2 e3 a1 fun v jM H1 g1 jW r1=>?_
 cases d with
 | bl b=>
  cases b with
  | false=>exact⟨false,jd.mp r1,UL (q2 σ jM H1 ρ s1 c s' _ g1.fh (e2.ext g1.ff) jW a2 fun v jX H2 g2 jV r2=>k v jX H2 (g1.trans g2) jV r2 (fun z=>by cases z))⟩
  | true=>obtain⟨rfl,rfl⟩:=ZW a2;exact⟨true,jd.mp r1,UM (k _ jM H1 g1 jW (jd.mpr rfl) (fun z=>by cases z))⟩
 | _=>cases a2
theorem ZkY {a:Expr}{pos:Pos}{r1:Bool}{f:Zb->M D}(h:PD X G r1 a f):PD X G true (.UnaryOp .Not a pos) (J7 f):=by
 obtain⟨t,p,q⟩:=h.drop;refine⟨_,Zon p,fun σ Hf H ρ s c s' Q e1 e2 e3 e4 k=>?_⟩;obtain⟨d,s1,a1,a2⟩:=ZB e4;refine q σ Hf H ρ s d s1 _ e1 e2 e3 a1 fun v jM H1 g1 jW r1=>?_
 cases d with
 | bl b=>obtain⟨rfl,rfl⟩:=ZW a2;exact⟨b,jd.mp r1,k _ jM H1 g1 jW (jd.mpr rfl) fun _=>.scal fun z=>z⟩
 | _=>cases a2
def B6 (c:Zb->M Bool)(f g:Zb->M D):Zb->M D:=fun ρ=>Zn (c ρ) fun b=>if b=true then f ρ else g ρ
theorem ZpG {c a b:Expr}{pos:Pos}{r1 r2:Bool}{fc:Zb->M Bool}{f g:Zb->M D}(hc:Wu X G c fc)(ha:PD X G r1 a f)(hb:PD X G r2 b g):PD X G false (.IfExp c a b pos) (B6 fc f g):=by
 obtain⟨tc,pc,qc⟩:=hc;obtain⟨ta,pa,qa⟩:=ha.drop;obtain⟨tb,pb,qb⟩:=hb.drop;refine⟨_,ZkG pc pa pb,fun σ Hf H ρ s d s' Q e1 e2 e3 e4 k=>?_⟩;obtain⟨b,s1,a1,a2⟩:=ZB e4;refine qc σ Hf H ρ s b s1 _ e1 e2 e3 a1 fun jM H1 g1 jW=>?_
 cases b with
 | true=>exact UM (qa σ jM H1 ρ s1 d s' _ g1.fh (e2.ext g1.ff) jW a2 fun v jX H2 g2 jV r2=>k v jX H2 (g1.trans g2) jV r2 (fun z=>by cases z))
 | false=>exact UL (qb σ jM H1 ρ s1 d s' _ g1.fh (e2.ext g1.ff) jW a2 fun v jX H2 g2 jV r2=>k v jX H2 (g1.trans g2) jV r2 (fun z=>by cases z))
def XO (X:Cx)(G:Gh)(f:Value)(g:List D->Option D):Prop:=
 ∃r,Y9 X f r/\∀(Hf H:Hp) (s:Pn) (xs:List V) (ds:List D) (c:D) (Q:VK),ZL G Hf H->G.st s H->Zm G Hf ds xs->g ds=some c->
  (∀v Hf' H',Gr G Hf H Hf' H'->G.st s H'->Zp G Hf' c v->YH G H Hf' c v->Q v H')->r xs H Q
def Zw (g:List D->Option D)(fs:Zb->M (List D)):Zb->M D:=fun ρ=>Zn (fs ρ) fun ds=>YF (g ds)
theorem YT {id:String}{x:Str}{p pos:Pos}{e:Expr}{es:List Expr}{g:List D->Option D}{fs:Zb->M (List D)}(hc:XO X G (.builtin id) g)(hg:Gl X x)(hm:X.mg x=none)(hv:bootBuiltins x=some (.builtin id))(ha:W7 X G (e::es) fs)
  (hn:x≠"__name__":=by decide) (hdb:(x==("__debug__" : Str))=false:=by decide)
  (he:starEach (e::es) X.env=(false,eval e X.env)::starEach es X.env:=by rfl) (hpl:(backTo pos (starEach es X.env)).any (·.1)=false:=by rfl):PD X G true (.Call (.Name x p) (e::es) [] pos) (Zw g fs):=by
 obtain⟨r,pr,qr⟩:=hc;obtain⟨t,pa,qa⟩:=ha;refine⟨_,JP pr hg hm hv pa hn hdb he hpl,fun σ Hf H ρ s d s' Q e1 e2 e3 e4 k=>?_⟩;obtain⟨ds,s1,a1,a2⟩:=ZB e4;obtain⟨a3,rfl⟩:=Wz a2;refine qa σ Hf H ρ s ds _ _ e1 e2 e3 a1 fun vs jM H1 g1 jW r1=>?_;exact qr jM H1 _ vs ds d Q g1.fh jW r1 a3 fun v jX H2 g2 jV r2 fz=>k v jX H2 (g1.trans g2) jV r2 fun _=>jn g1.hh r2.nofp fz
theorem Vb {T:String}{x:Str}{p pos:Pos}{e:Expr}{es:List Expr}{g:List D->Option D}{fs:Zb->M (List D)}(hc:XO X G (.type T) g)(hg:Gl X x)(hm:X.mg x=none)(hv:bootBuiltins x=some (.type T))(ha:W7 X G (e::es) fs)
  (hn:x≠"__name__":=by decide) (hdb:(x==("__debug__" : Str))=false:=by decide)
  (he:starEach (e::es) X.env=(false,eval e X.env)::starEach es X.env:=by rfl) (hpl:(backTo pos (starEach es X.env)).any (·.1)=false:=by rfl):PD X G true (.Call (.Name x p) (e::es) [] pos) (Zw g fs):=by
 obtain⟨r,pr,qr⟩:=hc;obtain⟨t,pa,qa⟩:=ha;refine⟨_,Zbw pr hg hm hv pa hn hdb he hpl,fun σ Hf H ρ s d s' Q e1 e2 e3 e4 k=>?_⟩;obtain⟨ds,s1,a1,a2⟩:=ZB e4;obtain⟨a3,rfl⟩:=Wz a2;refine qa σ Hf H ρ s ds _ _ e1 e2 e3 a1 fun vs jM H1 g1 jW r1=>?_;exact qr jM H1 _ vs ds d Q g1.fh jW r1 a3 fun v jX H2 g2 jV r2 fz=>k v jX H2 (g1.trans g2) jV r2 fun _=>jn g1.hh r2.nofp fz
def IxD (X:Cx)(G:Gh)(g:D->D->Option D):Prop:=
 ∃r,US X r/\∀(Hf H:Hp) (s:Pn) (x y:V) (d e c:D) (Q:VK),ZL G Hf H->G.st s H->Zp G Hf d x->Zp G Hf e y->g d e=some c->
  (∀v,Zp G Hf c v->Q v H)->r x y H Q
theorem ZO {a b:Expr}{pos:Pos}{fa fb:Zb->M D}{g:D->D->Option D}{r1 r2:Bool}(ho:IxD X G g)(ha:PD X G r1 a fa)(hb:PD X G r2 b fb)(hs:ZiK b:=by intro _ _;rfl):PD X G false (.Subscript a b pos) (Zd g fa fb):=by
 obtain⟨r,po,qo⟩:=ho;obtain⟨ta,pa,qa⟩:=ha.drop;obtain⟨tb,pb,qb⟩:=hb.drop;refine⟨_,Vh po pa pb hs,fun σ Hf H ρ s d s' Q e1 e2 e3 e4 k=>?_⟩;obtain⟨da,s1,a1,a2⟩:=ZB e4;obtain⟨db,s2,a3,a4⟩:=ZB a2;obtain⟨a5,rfl⟩:=Wz a4;refine qa σ Hf H ρ s da s1 _ e1 e2 e3 a1 fun x jM H1 g1 jW r1=>?_;refine qb σ jM H1 ρ s1 db _ _ g1.fh (e2.ext g1.ff) jW a3 fun y jX H2 g2 jV r2=>?_;exact qo jX H2 _ x y da db d Q g2.fh jV (r1.ext g2.ff) r2 a5 fun v r3=>k v jX H2 (g1.trans g2) jV r3 (fun z=>by cases z)
def Ym (n:Nat)(fr:Bool)(GG:Gh->Prop)(F:List D->M D):Sp:=fun vs H Q _=>∃(G:Gh) (Hf:Hp) (ds:List D) (s:Pn) (d:D) (s':Pn),GG G/\vs.length=n/\ZL G Hf H/\Zm G Hf ds vs/\G.st s H/\F ds s=some (d,s')/\
 ∀v Hf' H',Gr G Hf H Hf' H'->G.st s' H'->Zp G Hf' d v->(fr=true->YH G H Hf' d v)->Q v H'
def Zv (F:List D->M D)(fs:Zb->M (List D)):Zb->M D:=fun ρ=>Zn (fs ρ) F
theorem ZmU {CX:Wj}{k:Nat}{f:Addr}{fd:FuncData}{ps:List Str}{n:Nat}{fr:Bool}{GG:Gh->Prop}{F:List D->M D}{E:XK}{x:Str}{p pos:Pos}{e:Expr}{es:List Expr}{fs:Zb->M (List D)}
  (FN:FnOk X.prog X.w X.K X.mg X.base CX k f fd ps (Ym n fr GG F)) (hG:GG G) (hr:Room k X.A) (hg:Gl X x) (hm:X.mg x=some (.ref f)) (hk:z9 X.K (.ref f)=true) (hb:WF X.K fd ps []) (hx:Zff CX X E)
  (ha:W7 X G (e::es) fs) (jO:(e::es).length=n:=by rfl) (hal:∀ρ s ds s',fs ρ s=some (ds,s')->ds.length=(e::es).length)
  (hdb:(x==("__debug__" : Str))=false:=by decide) (he:starEach (e::es) X.env=(false,eval e X.env)::starEach es X.env:=by rfl) (hpl:(backTo pos (starEach es X.env)).any (·.1)=false:=by rfl) :
  PD X G fr (.Call (.Name x p) (e::es) [] pos) (Zv F fs):=by
 obtain⟨t,pa,qa⟩:=ha;refine⟨_,ZmH FN hr hg hm hk hb .nil hx pa hdb he hpl,fun σ Hf H ρ s d s' Q e1 e2 e3 e4 k=>?_⟩;obtain⟨ds,s1,a1,a2⟩:=ZB e4;refine qa σ Hf H ρ s ds _ _ e1 e2 e3 a1 fun vs jM H1 g1 jW r1=>?_;refine⟨G,jM,ds,s1,d,s',hG,by rw[zx,<-r1.length,hal _ _ _ _ a1];exact jO,g1.fh,by rw[zx];exact r1,jW,a2,fun v jX H2 g2 jV r2 fz=>?_⟩;exact k v jX H2 (g1.trans g2) jV r2 fun z=>jn g1.hh r2.nofp (fz z)
theorem Xe {f:Zb->M D}{g:Zb->M (List D)}{n:Nat}(h:∀ρ s ds s',g ρ s=some (ds,s')->ds.length=n):∀ρ s ds s',Zc f g ρ s=some (ds,s')->ds.length=n+1:=fun ρ s ds s' q=>by
 obtain⟨d,s1,a1,a2⟩:=ZB q;obtain⟨r,s2,a3,a4⟩:=ZB a2;obtain⟨rfl,rfl⟩:=ZW a4;simp[h _ _ _ _ a3]
theorem Uw:∀ρ s ds s',Zg ρ s=some (ds,s')->ds.length=0:=fun ρ s ds s' q=>by
 obtain⟨rfl,rfl⟩:=ZW q;rfl
end
mutual
def XQ:D->Bool
 | .tup ds=>JX ds
 | .lst _=>false
 | .dk _=>false
 | .dt _=>false
 | .du _=>false
 | .df _=>false
 | .clo _ _=>false
 | _=>true
def JX:List D->Bool
 | []=>true
 | d::ds=>XQ d&&JX ds
end
mutual
theorem Zp.only {G:Gh}{H H':Hp}(e:∀b vs,¬G.fp b->H b=some (.tup vs)->H' b=some (.tup vs)):∀{d:D} {v:V},XQ d=true->Zp G H d v->Zp G H' d v
 | .non,_,_,h=>h
 | .bl _,_,_,h=>h
 | .int _,_,_,h=>h
 | .str _,_,_,h=>h
 | .tup ds,v,n,h=>by
  obtain⟨a,vs,e1,nf,e2,r⟩:=jc.mp h;exact jc.mpr ⟨a,vs,e1,nf,e _ _ nf e2,Zm.only e (by simpa[XQ] using n) r⟩
 | .lst ds,v,n,h=>by simp[XQ] at n
 | .dk kvs,v,n,h=>by simp[XQ] at n
 | .dt kvs,v,n,h=>by simp[XQ] at n
 | .du kvs,v,n,h=>by simp[XQ] at n
 | .df kvs,v,n,h=>by simp[XQ] at n
 | .pen,_,_,h=>h
 | .ty _,_,_,h=>h
 | .clo _ _,v,n,h=>by simp[XQ] at n
theorem Zm.only {G:Gh}{H H':Hp}(e:∀b vs,¬G.fp b->H b=some (.tup vs)->H' b=some (.tup vs)):∀{ds:List D} {vs:List V},JX ds=true->Zm G H ds vs->Zm G H' ds vs
 | [],_,_,h=>h
 | d::ds,vs,n,h=>by
  obtain⟨v,r,e1,r1,r2⟩:=je.mp h;have n':XQ d=true/\JX ds=true:=by simpa[JX] using n
  exact je.mpr ⟨v,r,e1,Zp.only e n'.1 r1,Zm.only e n'.2 r2⟩
end
def Uc (G:Gh)(Hf H:Hp)(a:Addr):D->Prop
 | .lst ds=>∃vs,H a=some (.lst vs)/\Zm G Hf ds vs
 | .dk kvs=>H a=some (.dK kvs)
 | .dt kvs=>∃o,H a=some (.frz o (.dT kvs))
 | .du kvs=>H a=some (.dT kvs)
 | _=>False
theorem Uc.there {G:Gh}{Hf H:Hp}{a:Addr}{d:D}(h:Uc G Hf H a d):∃o,H a=some o/\∀vs,o≠.tup vs:=by
 cases d with
 | lst ds=>obtain⟨vs,e,_⟩:=h;exact⟨_,e,fun _ z=>by cases z⟩
 | dk kvs=>exact⟨_,h,fun _ z=>by cases z⟩
 | dt kvs=>obtain⟨o,h⟩:=h;exact⟨_,h,fun _ z=>by cases z⟩
 | du kvs=>exact⟨_,h,fun _ z=>by cases z⟩
 | _=>exact h.elim
theorem Uc.keep {G:Gh}{Hf H Hf' H':Hp}{a:Addr}{d:D}(h:Uc G Hf H a d)(e:ZL G Hf Hf')(ha:∀o,H a=some o->H' a=some o):Uc G Hf' H' a d:=by
 cases d with
 | lst ds=>obtain⟨vs,q,r⟩:=h;exact⟨vs,ha _ q,r.ext e⟩
 | dk kvs=>exact ha _ h
 | dt kvs=>obtain⟨o,h⟩:=h;exact⟨o,ha _ h⟩
 | du kvs=>exact ha _ h
 | _=>exact h.elim
theorem Uc.rep {G:Gh}{Hf H Hf':Hp}{a:Addr}{d:D}(h:Uc G Hf H a d)(nf:¬G.fp a)(e:ZL G Hf Hf')(ha:∀o,H a=some o->Hf' a=some o):Zp G Hf' d (.ref a):=by
 cases d with
 | lst ds=>obtain⟨vs,q,r⟩:=h;exact jb.mpr ⟨a,vs,rfl,nf,ha _ q,r.ext e⟩
 | dk kvs=>exact jj.mpr ⟨a,rfl,nf,ha _ h⟩
 | dt kvs=>obtain⟨o,h⟩:=h;exact jl.mpr ⟨a,o,rfl,nf,ha _ h⟩
 | du kvs=>exact jm.mpr ⟨a,rfl,nf,ha _ h⟩
 | _=>exact h.elim
structure Jf (G:Gh)(own:List Nat)(kn jU H0:Hp)(σ:St)(Hf H:Hp)(ρ:Zb):Prop where
 len:σ.length=ρ.length
 kn:ZL G kn Hf
 gr:Gr G jU H0 Hf H
 fz:∀(i:Nat) (d:D),i∉own->ρ[i]?=some (some d)->∃v,σ[i]?=some (some v)/\Zp G Hf d v
 ow:∀(i:Nat) (d:D),i∈own->ρ[i]?=some (some d)->∃a,σ[i]?=some (some (.ref a))/\¬G.rd a/\Hf a=none/\H0 a=none/\Uc G Hf H a d
 ne:∀(i j:Nat) (a:Addr) (di dj:D),i∈own->j∈own->i≠j->ρ[i]?=some (some di)->ρ[j]?=some (some dj)->σ[i]?=some (some (.ref a))->σ[j]?=some (some (.ref a))->False
def J (G:Gh)(own:List Nat)(kn jU H0:Hp)(σ:St)(H:Hp)(ρ:Zb):Prop:=∃Hf,Jf G own kn jU H0 σ Hf H ρ
def Ye (own:List Nat)(ρ:Zb):Zb:=ρ.mapIdx fun i o=>if i∈own then none else o
theorem Zgq (ρ:Zb):Ye [] ρ=ρ:=by
 unfold Ye;apply qat;intro i;simp
theorem ZkZ {own:List Nat}{ρ:Zb}{i:Nat}{d:D}(h:(Ye own ρ)[i]?=some (some d)):i∉own/\ρ[i]?=some (some d):=by
 unfold Ye at h;rw[List.getElem?_mapIdx] at h
 cases e:ρ[i]? with
 | none=>rw[e] at h;cases h
 | some o=>
  rw[e] at h;simp only[zR,qa5] at h;split at h
  ·cases h
  ·rename_i hn;exact⟨hn,by rw[h]⟩
section
variable {X:Cx}{G:Gh}{own:List Nat}{kn jU H0 Hf H:Hp}{σ:St}{ρ:Zb}
theorem Jf.envA (j:Jf G own kn jU H0 σ Hf H ρ):YX G Hf σ (Ye own ρ):=fun i d e=>by
 obtain⟨n,q⟩:=ZkZ e;exact j.fz i d n q
theorem ju {G:Gh}{a:Addr}(h:¬G.rd a):¬G.fp a:=fun z=>h (G.sub a z)
theorem Jf.grow {Hf' H':Hp}(j:Jf G own kn jU H0 σ Hf H ρ)(g:Gr G Hf H Hf' H'):Jf G own kn jU H0 σ Hf' H' ρ where
 len:=j.len
 kn:=j.kn.trans g.ff
 gr:=j.gr.trans g
 fz:=fun i d n e=>let ⟨v,a,b⟩:=j.fz i d n e;⟨v,a,b.ext g.ff⟩
 ow:=fun i d m e=>by
  obtain⟨a,h1,h2,h3,h4,h5⟩:=j.ow i d m e;have nf:=ju h2;refine⟨a,h1,h2,?_,h4,h5.keep g.ff fun o q=>g.hh a o nf q⟩;exact g.nw a nf h3 h5.there
 ne:=j.ne
noncomputable def VS (jU H0 H:Hp):Hp:=fun b=>open Classical in if jU b=none/\Nt (H0 b) then none else H b
theorem U8 {jU H0 H:Hp}:ZL G (VS jU H0 H) H:=fun b o _ e=>by
 unfold VS at e;split at e
 ·cases e
 ·exact e
theorem Jf.wideF (j:Jf G own kn jU H0 σ Hf H ρ):ZL G Hf (VS jU H0 H):=fun b o n e=>by
 unfold VS;split
 ·rename_i h
  rw[j.gr.nw b n h.1 h.2] at e;cases e
 ·exact j.gr.fh b o n e
theorem Jf.envB (j:Jf G own kn jU H0 σ Hf H ρ):YX G (VS jU H0 H) σ ρ:=fun i d e=>by
 by_cases m:i∈own
 ·obtain⟨a,h1,h2,h3,h4,h5⟩:=j.ow i d m e
  refine⟨_,h1,h5.rep (ju h2) j.wideF fun o q=>?_⟩;unfold VS;rw[if_neg (fun z=>z.2.no h4)];exact q
 ·obtain⟨v,h1,h2⟩:=j.fz i d m e
  exact⟨v,h1,h2.ext j.wideF⟩
theorem Jf.grW {Hf' H':Hp}(j:Jf G own kn jU H0 σ Hf H ρ)(g:Gr G (VS jU H0 H) H Hf' H'):Gr G jU H0 Hf' H' where
 hh:=j.gr.hh.trans g.hh
 ff:=fun b o n e=>g.ff b o n (j.wideF b o n (j.gr.ff b o n e))
 fh:=g.fh
 nw:=fun b n h1 h2=>g.nw b n (by unfold VS;rw[if_pos ⟨h1,h2⟩]) (let ⟨u,e,nt⟩:=h2;⟨u,j.gr.hh b u n e,nt⟩)
def Bb:D->Bool
 | .lst ds=>JX ds
 | .dk _=>true
 | .dt _=>true
 | .du _=>true
 | _=>false
theorem ZmV {d:D}(h:Bb d=true):Jj d:=by
 cases d <;> first | trivial | (simp[Bb] at h)
theorem Jf.growB {Hf' H':Hp}(j:Jf G own kn jU H0 σ Hf H ρ)(g:Gr G (VS jU H0 H) H Hf' H') :
  ∃Hf'',Jf G own kn jU H0 σ Hf'' H' ρ/\ZL G Hf Hf''/\(∀d v,XQ d=true->Zp G Hf' d v->Zp G Hf'' d v)/\∀d v,Bb d=true->YH G H Hf' d v->Zp G Hf' d v->Zp G Hf'' d v/\YH G H Hf'' d v:=by
 classical
 -- the owned addresses are left out again
 let OA:Addr->Prop:=fun b=>∃i d,i∈own/\ρ[i]?=some (some d)/\σ[i]?=some (some (.ref b))
 have oaH:∀b,OA b->Hf b=none/\¬G.rd b/\∃o,H b=some o/\∀vs,o≠.tup vs:=fun b ⟨i,d,m,e,q⟩=>by
  obtain⟨a,h1,h2,h3,h4,h5⟩:=j.ow i d m e;rw[q] at h1;cases h1;exact⟨h3,h2,h5.there⟩
 have W:=j.grW g;refine⟨fun b=>if OA b then none else Hf' b,?_⟩;have fF:ZL G Hf (fun b=>if OA b then none else Hf' b):=fun b o n e=>by
  have:¬OA b:=fun z=>by rw[(oaH b z).1] at e;cases e
  show(if OA b then none else Hf' b)=_;rw[if_neg this];exact g.ff b o n (j.wideF b o n e)
 have Fh:ZL G (fun b=>if OA b then none else Hf' b) H':=fun b o n e=>by
  have e':(if OA b then none else Hf' b)=some o:=e;split at e'
  ·cases e'
  ·exact g.fh b o n e'
 have tupK:∀b vs,¬G.fp b->Hf' b=some (.tup vs)->(if OA b then none else Hf' b)=some (.tup vs):=fun b vs nf e=>by
  have:¬OA b:=fun z=>by
   obtain⟨_,_,o,q,nt⟩:=oaH b z;have q1:=g.hh b o nf q;have q2:=g.fh b _ nf e;rw[q1] at q2;exact nt vs (zf q2)
  rw[if_neg this];exact e
 have frK:∀a,H a=none->¬OA a:=fun a e z=>by
  obtain⟨_,_,o,q,nt⟩:=oaH a z;rw[e] at q;cases q
 refine⟨⟨j.len,j.kn.trans fF,⟨W.hh,j.gr.ff.trans fF,Fh,fun b n h1 h2=>?_⟩,fun i d n e=>?_,fun i d m e=>?_,j.ne⟩,fF,fun d v n r=>Zp.only tupK n r,fun d v ok fr r=>?_⟩
 ·show(if OA b then none else Hf' b)=none
  split
  ·rfl
  ·exact W.nw b n h1 h2
 ·obtain⟨v,a,b⟩:=j.fz i d n e
  exact⟨v,a,b.ext fF⟩
 ·obtain⟨a,h1,h2,h3,h4,h5⟩:=j.ow i d m e
  refine⟨a,h1,h2,?_,h4,h5.keep fF fun o q=>g.hh a o (ju h2) q⟩;show(if OA a then none else Hf' a)=none;rw[if_pos ⟨i,d,m,e,h1⟩]
 ·cases d with
  | lst ds=>
   obtain⟨a,vs,e,n,q,r'⟩:=jb.mp r;have na:=frK a (fr a e trivial).1;have ea:(if OA a then none else Hf' a)=some (.lst vs):=by rw[if_neg na];exact q
   refine⟨jb.mpr ⟨a,vs,e,n,ea,Zm.only tupK ok r'⟩,fun b eb m=>?_⟩;rw[e] at eb;cases eb;refine⟨(fr a e trivial).1,fun ds' ed=>?_⟩
   cases ed
   refine⟨vs,fun b=>if b=a then none else if OA b then none else Hf' b,ea,if_pos rfl,fun b o nb eb=>?_,?_⟩
   ·have eb':(if b=a then none else if OA b then none else Hf' b)=some o:=eb
    split at eb'
    ·cases eb'
    ·exact eb'
   ·refine Zm.only (fun b ws nb eb=>?_) ok r'
    have hba:b≠a:=fun z=>by rw[z,q] at eb;cases eb
    show(if b=a then none else if OA b then none else Hf' b)=_;rw[if_neg hba];exact tupK b ws nb eb
  | dk ds=>
   obtain⟨a,e,n,q⟩:=jj.mp r;have na:=frK a (fr a e trivial).1;refine⟨jj.mpr ⟨a,e,n,?_⟩,fun b eb m=>⟨(fr b eb m).1,fun ds' ed=>by cases ed⟩⟩;show(if OA a then none else Hf' a)=_;rw[if_neg na];exact q
  | dt ds=>
   obtain⟨a,o,e,n,q⟩:=jl.mp r;have na:=frK a (fr a e trivial).1;refine⟨jl.mpr ⟨a,o,e,n,?_⟩,fun b eb m=>⟨(fr b eb m).1,fun ds' ed=>by cases ed⟩⟩;show(if OA a then none else Hf' a)=_;rw[if_neg na];exact q
  | du ds=>
   obtain⟨a,e,n,q⟩:=jm.mp r;have na:=frK a (fr a e trivial).1;refine⟨jm.mpr ⟨a,e,n,?_⟩,fun b eb m=>⟨(fr b eb m).1,fun ds' ed=>by cases ed⟩⟩;show(if OA a then none else Hf' a)=_;rw[if_neg na];exact q
  | _=>exact absurd (ZmV ok) (fun z=>z)
theorem Jf.set {i:Nat}{d:D}{v:V}{own':List Nat}(j:Jf G own kn jU H0 σ Hf H ρ)(ho:∀k,k∈own'->k≠i/\k∈own)(hk:∀k,k∈own->k≠i->k∈own')(r:Zp G Hf d v):Jf G own' kn jU H0 (σ.set i (some v)) Hf H (ρ.set i (some d)) where
 len:=by simp[j.len]
 kn:=j.kn
 gr:=j.gr
 fz:=fun k c n e=>by
  by_cases h:i=k
  ·subst h
   have hl:i < ρ.length:=by
    have:=(qD.mp e).1;simpa using this
   rw[zl hl] at e
   cases e
   exact⟨v,zl (by rw[j.len];exact hl),r⟩
  ·rw[qV h] at e⊢
   exact j.fz k c (fun z=>n (hk k z (zJ h))) e
 ow:=fun k c m e=>by
  have h:i≠k:=zJ (ho k m).1;rw[qV h] at e⊢;exact j.ow k c (ho k m).2 e
 ne:=fun k l a dk dl mk ml n ek el sk sl=>by
  have h:i≠k:=zJ (ho k mk).1;have h':i≠l:=zJ (ho l ml).1;rw[qV h] at ek sk;rw[qV h'] at el sl;exact j.ne k l a dk dl (ho k mk).2 (ho l ml).2 n ek el sk sl
def BJ:D->Bool
 | .lst _=>true
 | .dk _=>true
 | .dt _=>true
 | .du _=>true
 | _=>false
theorem ZhJ {d:D}(h:BJ d=true):Jj d:=by
 cases d <;> first | trivial | (simp[BJ] at h)
theorem Jf.setOwn {i:Nat}{d:D}{v:V}{Hb Hq:Hp}{s:Pn}{own':List Nat}(j0:Jf G own kn jU H0 σ Hq Hb ρ)(j:Jf G own kn jU H0 σ Hf H ρ)(ho:∀k,k∈own'↔k=i∨k∈own)(st:G.st s Hb)(hb:ZL G Hb H)(hq:ZL G Hq Hf)
  (r:Zp G Hf d v) (fr:YH G Hb Hf d v) (ok:BJ d=true):∃Hf',Jf G own' kn jU H0 (σ.set i (some v)) Hf' H (ρ.set i (some d)):=by
 classical
 have mu:=ZhJ ok;obtain⟨a,ea,nfa⟩:∃a,v=.ref a/\¬G.fp a:=by
  cases d with
  | lst ds=>obtain⟨a,vs,e,n,_⟩:=jb.mp r;exact⟨a,e,n⟩
  | dk ds=>obtain⟨a,e,n,_⟩:=jj.mp r;exact⟨a,e,n⟩
  | dt ds=>obtain⟨a,_,e,n,_⟩:=jl.mp r;exact⟨a,e,n⟩
  | du ds=>obtain⟨a,e,n,_⟩:=jm.mp r;exact⟨a,e,n⟩
  | _=>exact mu.elim
 subst ea;have fra:Hb a=none:=(fr a rfl mu).1;have hqa:Hq a=none:=by
  cases e:Hq a with
  | none=>rfl
  | some o=>rw[j0.gr.fh a o nfa e] at fra;cases fra
 have h0a:H0 a=none:=by
  cases e:H0 a with
  | none=>rfl
  | some o=>rw[j0.gr.hh a o nfa e] at fra;cases fra
 have qF:ZL G Hq (fun b=>if b=a then none else Hf b):=fun b o n e=>by
  have:b≠a:=fun z=>by rw[z,hqa] at e;cases e
  show(if b=a then none else Hf b)=_;rw[if_neg this];exact hq b o n e
 have oldA:∀k c,k∈own->ρ[k]?=some (some c)->σ[k]?≠some (some (.ref a)):=fun k c m e z=>by
  obtain⟨b,h1,_,_,_,h5⟩:=j0.ow k c m e;rw[z] at h1;cases h1;obtain⟨o,q,_⟩:=h5.there;rw[fra] at q;cases q
 refine⟨fun b=>if b=a then none else Hf b,by simp[j.len],j0.kn.trans qF,⟨j.gr.hh,j0.gr.ff.trans qF,fun b o n e=>?_,fun b n h1 h2=>?_⟩,fun k c n e=>?_,fun k c m e=>?_,fun k l b dk dl mk ml n ek el sk sl=>?_⟩
 ·have e':(if b=a then none else Hf b)=some o:=e
  split at e'
  ·cases e'
  ·exact j.gr.fh b o n e'
 ·show(if b=a then none else Hf b)=none
  split
  ·rfl
  ·exact j.gr.nw b n h1 h2
 ·have h:i≠k:=fun z=>n ((ho k).mpr (.inl z.symm))
  rw[qV h] at e⊢;obtain⟨v,q1,q2⟩:=j0.fz k c (fun z=>n ((ho k).mpr (.inr z))) e;exact⟨v,q1,q2.ext qF⟩
 ·by_cases h:i=k
  ·subst h
   have hl:i < ρ.length:=by
    have:=(qD.mp e).1;simpa using this
   rw[zl hl] at e
   cases e
   refine⟨a,zl (by rw[j.len];exact hl),jA st fra,by show(if a=a then none else Hf a)=none;rw[if_pos rfl],h0a,?_⟩
   cases d with
   | lst ds=>
    obtain⟨a',vs,e',n',q',r'⟩:=jb.mp r
    cases e'
    obtain⟨ws,Hm,f1,f2,f3,f4⟩:=(fr a rfl mu).2 ds rfl;rw[q'] at f1;cases f1;refine⟨vs,j.gr.fh a _ n' q',f4.ext fun b o nb eb=>?_⟩;have:b≠a:=fun z=>by rw[z,f2] at eb;cases eb
    show(if b=a then none else Hf b)=_;rw[if_neg this];exact f3 b o nb eb
   | dk ds=>obtain⟨a',e',n',q'⟩:=jj.mp r;cases e';exact j.gr.fh a _ n' q'
   | dt ds=>obtain⟨a',o',e',n',q'⟩:=jl.mp r;cases e';exact⟨o',j.gr.fh a _ n' q'⟩
   | du ds=>obtain⟨a',e',n',q'⟩:=jm.mp r;cases e';exact j.gr.fh a _ n' q'
   | _=>exact mu.elim
  ·have m':k∈own:=((ho k).mp m).resolve_left (zJ h)
   rw[qV h] at e⊢;obtain⟨b,h1,h2,h3,h4,h5⟩:=j0.ow k c m' e;obtain⟨b',g1,g2,g3,g4,g5⟩:=j.ow k c m' e;rw[h1] at g1;cases g1;refine⟨b,h1,h2,?_,h4,h5.keep qF fun o q=>hb b o (ju h2) q⟩;show(if b=a then none else Hf b)=none;split
   ·rfl
   ·exact g3
 ·by_cases hk:i=k
  ·subst hk
   have h':i≠l:=n;have hl:i < σ.length:=by
    have:=(qD.mp sk).1;simpa using this
   rw[zl hl] at sk
   cases sk
   rw[qV h'] at el sl;exact oldA l dl (((ho l).mp ml).resolve_left (zJ h')) el sl
  ·by_cases hl':i=l
   ·subst hl'
    have hl:i < σ.length:=by
     have:=(qD.mp sl).1;simpa using this
    rw[zl hl] at sl
    cases sl
    rw[qV hk] at ek sk;exact oldA k dk (((ho k).mp mk).resolve_left (zJ hk)) ek sk
   ·rw[qV hk] at ek sk
    rw[qV hl'] at el sl;exact j.ne k l b dk dl (((ho k).mp mk).resolve_left (zJ hk)) (((ho l).mp ml).resolve_left (zJ hl')) n ek el sk sl
theorem Jf.freeze {own':List Nat}(j:Jf G own kn jU H0 σ Hf H ρ)(ho:∀k,k∈own'->k∈own):∃Hf',Jf G own' kn jU H0 σ Hf' H ρ:=by
 classical
 let OA:Addr->Prop:=fun b=>∃i d,i∈own/\i∉own'/\ρ[i]?=some (some d)/\σ[i]?=some (some (.ref b))
 have oaH:∀b,OA b->Hf b=none/\H0 b=none:=fun b ⟨i,d,m,_,e,q⟩=>by
  obtain⟨a,h1,h2,h3,h4,h5⟩:=j.ow i d m e;rw[q] at h1;cases h1;exact⟨h3,h4⟩
 have fF:ZL G Hf (fun b=>if OA b then H b else Hf b):=fun b o n e=>by
  have:¬OA b:=fun z=>by rw[(oaH b z).1] at e;cases e
  show(if OA b then H b else Hf b)=_;rw[if_neg this];exact e
 refine⟨fun b=>if OA b then H b else Hf b,j.len,j.kn.trans fF,⟨j.gr.hh,j.gr.ff.trans fF,fun b o n e=>?_,fun b n h1 h2=>?_⟩,fun k c n e=>?_,fun k c m e=>?_,fun k l b dk dl mk ml=>j.ne k l b dk dl (ho k mk) (ho l ml)⟩
 ·have e':(if OA b then H b else Hf b)=some o:=e
  split at e'
  ·exact e'
  ·exact j.gr.fh b o n e'
 ·have:¬OA b:=fun z=>h2.no (oaH b z).2
  show(if OA b then H b else Hf b)=none;rw[if_neg this];exact j.gr.nw b n h1 h2
 ·by_cases m:k∈own
  ·obtain⟨a,h1,h2,h3,h4,h5⟩:=j.ow k c m e
   refine⟨_,h1,h5.rep (ju h2) fF fun o q=>?_⟩;show(if OA a then H a else Hf a)=_;rw[if_pos ⟨k,c,m,n,e,h1⟩];exact q
  ·obtain⟨v,h1,h2⟩:=j.fz k c m e
   exact⟨v,h1,h2.ext fF⟩
 ·obtain⟨a,h1,h2,h3,h4,h5⟩:=j.ow k c (ho k m) e
  refine⟨a,h1,h2,?_,h4,h5.keep fF fun o q=>q⟩;have:¬OA a:=fun⟨i,d,mi,ni,ei,qi⟩=>j.ne i k a d c mi (ho k m) (fun z=>ni (z▸m)) ei e qi h1;show(if OA a then H a else Hf a)=none;rw[if_neg this];exact h3
end
theorem Jf.setF {G:Gh}{own:List Nat}{kn jU H0 Hf H:Hp}{σ:St}{ρ:Zb}{i:Nat}{d:D}{v:V}(j:Jf G own kn jU H0 σ Hf H ρ)(hi:i∉own)(r:Zp G Hf d v):Jf G own kn jU H0 (σ.set i (some v)) Hf H (ρ.set i (some d)):=
 j.set (own':=own) (fun k m=>⟨fun z=>hi (by rw[<-z];exact m),m⟩) (fun k m _=>m) r
def W8 (G:Gh)(fr:Bool)(t:TE)(f:Zb->M D):Prop:=
 ∀(σ:St) (Hf H:Hp) (ρ:Zb) (s:Pn) (d:D) (s':Pn) (Q:VK),ZL G Hf H->YX G Hf σ ρ->G.st s H->f ρ s=some (d,s')->
  (∀v Hf' H',Gr G Hf H Hf' H'->G.st s' H'->Zp G Hf' d v->(fr=true->YH G H Hf' d v)->Q v H')->t σ H Q
def VT (G:Gh)(own:List Nat)(fr:Bool)(t:TE)(f:Zb->M D):Prop:=
 ∀(kn jU H0:Hp) (σ:St) (Hf H:Hp) (ρ:Zb) (s:Pn) (d:D) (s':Pn) (Q:VK),Jf G own kn jU H0 σ Hf H ρ->G.st s H->f ρ s=some (d,s')->
  (∀v Hf' H',Jf G own kn jU H0 σ Hf' H' ρ->ZL G Hf Hf'->ZL G H H'->G.st s' H'->Zp G Hf' d v->(fr=true->YH G H Hf' d v)->Q v H')->t σ H Q
section
variable {X:Cx}{G:Gh}{own:List Nat}{fr:Bool}{t:TE}{f:Zb->M D}
theorem W8.a (h:W8 G fr t f):VT G own fr t (fun ρ=>f (Ye own ρ)):=fun kn jU H0 σ Hf H ρ s d s' Q j st e k=>
 h σ Hf H (Ye own ρ) s d s' Q j.gr.fh j.envA st e fun v Hf' H' g st' r fz=>k v Hf' H' (j.grow g) g.ff g.hh st' r fz
theorem W8.n (h:W8 G fr t f):VT G [] fr t f:=fun kn jU H0 σ Hf H ρ s d s' Q j st e k=>
 h.a kn jU H0 σ Hf H ρ s d s' Q j st (by show f (Ye [] ρ) s=_;rw[Zgq];exact e) k
theorem ZjG {d:D}(h:XQ d=true):¬Jj d:=by
 cases d <;> first | exact(fun z=>z) | (simp[XQ] at h)
def WW (fr:Bool)(f:Zb->M D):Zb->M D:=fun ρ=>Zn (f ρ) fun d=>if (XQ d||(fr&&Bb d))=true then Zx d else ZC
theorem Zfi {fr:Bool}{f:Zb->M D}{ρ:Zb}{s s':Pn}{d:D}(h:f ρ s=some (d,s'))(c:(XQ d||(fr&&Bb d))=true):WW fr f ρ s=some (d,s'):=by
 unfold WW Zn;rw[h];show(if (XQ d||(fr&&Bb d))=true then Zx d else ZC) s'=_;rw[if_pos c];rfl
theorem W8.b (h:W8 G fr t f):VT G own fr t (WW fr f):=fun kn jU H0 σ Hf H ρ s d s' Q j st e k=>by
 obtain⟨d1,s1,a1,a2⟩:=ZB e;obtain⟨c,a3⟩:=Xw a2;obtain⟨rfl,rfl⟩:=ZW a3;refine h σ _ H ρ s d s' Q U8 j.envB st a1 fun v Hf' H' g st' r fz=>?_;obtain⟨F,j',fF,q1,q2⟩:=j.growB g;rcases qbR.mp c with c | c
 ·exact k v F H' j' fF g.hh st' (q1 d v c r) fun z a ea m=>absurd m (ZjG c)
 ·obtain⟨c1,c2⟩:=zZ.mp c
  obtain⟨x1,x2⟩:=q2 d v c2 (fz c1) r;exact k v F H' j' fF g.hh st' x1 fun _=>x2
inductive Out where
 | nx (ρ:Zb) | rt (d:D) | bk (ρ:Zb) | ct (ρ:Zb)
def Post (G:Gh)(ob own':List Nat)(kn jU H0:Hp)(fr:Bool)(out:Out)(s':Pn)(E:Ends):Prop:=match out with
 | .nx ρ=>∀σ H,J G own' kn jU H0 σ H ρ->G.st s' H->E.nx σ H
 | .bk ρ=>∀σ H,J G ob kn jU H0 σ H ρ->G.st s' H->E.bk σ H
 | .ct ρ=>∀σ H,J G ob kn jU H0 σ H ρ->G.st s' H->E.ct σ H
 | .rt d=>∀v Hf' H',Gr G jU H0 Hf' H'->G.st s' H'->Zp G Hf' d v->(fr=true->YH G H0 Hf' d v)->E.rt v H'
def Dos (G:Gh)(ob own own':List Nat)(fr:Bool)(t:TS)(g:Zb->M Out):Prop:=
 ∀(kn jU H0:Hp) (σ:St) (H:Hp) (ρ:Zb) (s:Pn) (out:Out) (s':Pn) (E:Ends),J G own kn jU H0 σ H ρ->G.st s H->g ρ s=some (out,s')->Post G ob own' kn jU H0 fr out s' E->t E σ H
def Xi (X:Cx)(G:Gh)(ob own own':List Nat)(fr:Bool)(st:Stmt)(g:Zb->M Out):Prop:=∃t,PS X st t/\Dos G ob own own' fr t g
def WJ (X:Cx)(G:Gh)(ob own own':List Nat)(fr:Bool)(sts:List Stmt)(g:Zb->M Out):Prop:=∃t,WU X sts t/\Dos G ob own own' fr t g
variable {ob own' own2:List Nat}
theorem Xi.frz {st:Stmt}{g:Zb->M Out}(h:Xi X G ob own2 own' fr st g)(hs:∀k,k∈own2->k∈own:=by decide):Xi X G ob own own' fr st g:=by
 obtain⟨t,p,q⟩:=h;exact⟨t,p,fun kn jU H0 σ H ρ s out s' E ⟨Hf,j⟩ st e po=>q kn jU H0 σ H ρ s out s' E (j.freeze hs) st e po⟩
def Zl:Zb->M Out:=fun ρ=>Zx (.nx ρ)
def Zh (g1 g2:Zb->M Out):Zb->M Out:=fun ρ=>Zn (g1 ρ) fun o=>match o with | .nx ρ'=>g2 ρ' | .rt d=>Zx (.rt d) | .bk ρ'=>Zx (.bk ρ') | .ct ρ'=>Zx (.ct ρ')
theorem Yd (hs:∀k,k∈own'->k∈own:=by decide):WJ X G ob own own' fr [] Zl:=⟨_,Zfc,fun kn jU H0 σ H ρ s out s' E ⟨Hf,j⟩ st e p=>by
 obtain⟨rfl,rfl⟩:=ZW e;exact p σ H (j.freeze hs) st⟩
theorem Yi {st:Stmt}{sts:List Stmt}{g1 g2:Zb->M Out}(h:Xi X G ob own own2 fr st g1)(h2:WJ X G ob own2 own' fr sts g2):WJ X G ob own own' fr (st::sts) (Zh g1 g2):=by
 obtain⟨t,p,q⟩:=h;obtain⟨u,p2,q2⟩:=h2;refine⟨_,V5 p p2,fun kn jU H0 σ H ρ s out s' E j st e po=>?_⟩;obtain⟨o,s1,a1,a2⟩:=ZB e;refine q kn jU H0 σ H ρ s o s1 _ j st a1 ?_
 cases o with
 | nx ρ1=>exact fun σ1 H1 j1 jW=>q2 kn jU H0 σ1 H1 ρ1 s1 out s' E j1 jW a2 po
 | rt d=>obtain⟨rfl,rfl⟩:=ZW a2;exact po
 | bk ρ1=>obtain⟨rfl,rfl⟩:=ZW a2;exact po
 | ct ρ1=>obtain⟨rfl,rfl⟩:=ZW a2;exact po
def ZF (f:Zb->M D):Zb->M Out:=fun ρ=>Zn (f ρ) fun d=>Zx (.rt d)
theorem Z3 {e:Expr}{pos:Pos}(h:PD X G fr e f):Xi X G ob own own' fr (.Return (some e) pos) (ZF f):=by
 obtain⟨t,p,q⟩:=h;refine⟨_,Zhv p,fun kn jU H0 σ H ρ s out s' E ⟨Hf,j⟩ st e po=>?_⟩;obtain⟨d,s1,a1,a2⟩:=ZB e;obtain⟨rfl,rfl⟩:=ZW a2;exact q σ _ H ρ s d s' _ U8 j.envB st a1 fun v Hf' H' g st' r fz=>po v Hf' H' (j.grW g) st' r fun z=>jn j.gr.hh r.nofp (fz z)
theorem ZhK {i:Nat}{x:Str}{pos pos':Pos}(hi:i∈own)(h:PE X (.Name x pos') (Y1 i)):Xi X G ob own own' true (.Return (some (.Name x pos')) pos) (ZF (Za i)):=by
 refine⟨_,Zhv h,fun kn jU H0 σ H ρ s out s' E ⟨Hf,j⟩ st e po=>?_⟩;obtain⟨d,s1,a1,a2⟩:=ZB e;obtain⟨rfl,rfl⟩:=ZW a2;obtain⟨e1,rfl⟩:=Wz a1;have e':ρ[i]?=some (some d):=by
  cases q:ρ[i]? with
  | none=>rw[q] at e1;cases e1
  | some o=>rw[q] at e1;simp at e1;rw[e1]
 obtain⟨v,h1,h2⟩:=j.envB i d e';obtain⟨a,g1,g2,g3,g4,g5⟩:=j.ow i d hi e';rw[g1] at h1;cases h1;refine⟨_,g1,po (.ref a) _ H (j.grW (.refl U8)) st h2 fun _ b eb _=>?_⟩
 cases eb
 refine⟨g4,fun ds ed=>?_⟩;subst ed;obtain⟨vs,q1,q2⟩:=g5;refine⟨vs,Hf,?_,g3,j.wideF,q2⟩;unfold VS;rw[if_neg (fun z=>z.2.no g4)];exact q1
def Yn (c:Zb->M Bool)(g1 g2:Zb->M Out):Zb->M Out:=fun ρ=>Zn (c ρ) fun b=>if b=true then g1 ρ else g2 ρ
theorem JY {c:Expr}{a b:List Stmt}{pos:Pos}{fc:Zb->M Bool}{g1 g2:Zb->M Out}(hc:Wu X G c fc)(ha:WJ X G ob own own' fr a g1)(hb:WJ X G ob own own' fr b g2):Xi X G ob own own' fr (.If c a b pos) (Yn fc g1 g2):=by
 obtain⟨tc,pc,qc⟩:=hc;obtain⟨ta,pa,qa⟩:=ha;obtain⟨tb,pb,qb⟩:=hb;refine⟨_,ZiG pc pa pb,fun kn jU H0 σ H ρ s out s' E ⟨Hf,j⟩ st e po=>?_⟩;obtain⟨b,s1,a1,a2⟩:=ZB e;refine qc σ _ H ρ s b s1 _ U8 j.envB st a1 fun Hf' H' g st'=>?_;obtain⟨F,j',fF,q1,q2⟩:=j.growB g
 cases b with
 | true=>exact UM (qa kn jU H0 σ H' ρ s1 out s' E ⟨F,j'⟩ st' a2 po)
 | false=>exact UL (qb kn jU H0 σ H' ρ s1 out s' E ⟨F,j'⟩ st' a2 po)
def J8 (X:Cx)(G:Gh)(fr:Bool)(i:Nat)(st:Stmt)(f:Zb->M D):Prop:=∃te,PS X st (fun E σ H=>te σ H fun y H1=>E.nx (σ.set i (some y)) H1)/\W8 G fr te f
theorem Yt {i:Nat}{x:Str}{e:Expr}{pos pos':Pos}(hN:X.N.Nodup)(hi:X.N[i]?=some x)(hx:VD X.env.scope x)(he:PD X G fr e f)(hs:swapsWith e (some (.Name x pos')) pos.line X.env=pure false:=by rfl)
  (hf:X.fn x=true∨X.env.scope.names.lookup x=some .local:=by first | exact .inl rfl | exact .inr rfl | assumption):J8 X G fr i (.Assign [.Name x pos'] e pos) f:=by
 obtain⟨t,p,q⟩:=he;exact⟨t,Jb hN hi hx p hs hf,q⟩
def Ya (i:Nat)(f:Zb->M D):Zb->M Out:=fun ρ=>Zn (f ρ) fun d=>Zx (.nx (ρ.set i (some d)))
theorem Zgr {i:Nat}{st:Stmt}{te:TE}(hp:PS X st (fun E σ H=>te σ H fun y H1=>E.nx (σ.set i (some y)) H1))(hy:VT G own fr te f)(hi:i∉own){fr':Bool}:Xi X G ob own own fr' st (Ya i f):=
 ⟨_,hp,fun kn jU H0 σ H ρ s out s' E ⟨Hf,j⟩ st e po=>by
  obtain⟨d,s1,a1,a2⟩:=ZB e;obtain⟨rfl,rfl⟩:=ZW a2;exact hy kn jU H0 σ Hf H ρ s d s' _ j st a1 fun v Hf' H' j' e1 e2 st' r fz=>po _ H' ⟨Hf',j'.setF hi r⟩ st'⟩
theorem YM {i:Nat}{st:Stmt}{fr':Bool}(h:J8 X G fr i st f):Xi X G ob [] [] fr' st (Ya i f):=let ⟨_,p,q⟩:=h;Zgr p q.n (by simp)
theorem ZbX {i:Nat}{st:Stmt}{fr':Bool}(h:J8 X G fr i st f)(hi:i∉own:=by decide):Xi X G ob own own fr' st (Ya i (fun ρ=>f (Ye own ρ))):=let ⟨_,p,q⟩:=h;Zgr p q.a hi
def Wr (i:Nat)(f:Zb->M D):Zb->M Out:=fun ρ=>Zn (f ρ) fun d=>if BJ d=true then Zx (.nx (ρ.set i (some d))) else ZC
theorem Zgs {i:Nat}{st:Stmt}{te:TE}(hp:PS X st (fun E σ H=>te σ H fun y H1=>E.nx (σ.set i (some y)) H1))(hy:VT G own true te f)(ho:∀k,k∈own'↔k=i∨k∈own){fr':Bool}:Xi X G ob own own' fr' st (Wr i f):=
 ⟨_,hp,fun kn jU H0 σ H ρ s out s' E ⟨Hf,j⟩ st e po=>by
  obtain⟨d,s1,a1,a2⟩:=ZB e;obtain⟨ok,a3⟩:=Xw a2;obtain⟨rfl,rfl⟩:=ZW a3;exact hy kn jU H0 σ Hf H ρ s d s' _ j st a1 fun v Hf' H' j' e1 e2 st' r fz=>po _ H' (j.setOwn j' ho st e2 e1 r (fz rfl) ok) st'⟩
theorem V6 {i:Nat}{st:Stmt}{fr':Bool}(h:J8 X G true i st f):Xi X G ob [] [i] fr' st (Wr i f):=let ⟨_,p,q⟩:=h;Zgs p q.n (by intro k;simp)
theorem Zk0 {i:Nat}{st:Stmt}{fr':Bool}(h:J8 X G true i st f)(ho:∀k,k∈own'↔k=i∨k∈own:=by intro k;simp;try omega):Xi X G ob own own' fr' st (Wr i (fun ρ=>f (Ye own ρ))):=let ⟨_,p,q⟩:=h;Zgs p q.a ho
def sPar (i j:Nat)(fs:Zb->M (List D)):Zb->M Out:=fun ρ=>Zn (fs ρ) fun ds=>match ds with | [a,b]=>if (XQ a&&XQ b)=true then Zx (.nx ((ρ.set i (some a)).set j (some b))) else ZC | _=>ZC
theorem ZmW {i j:Nat}{x y:Str}{a b:Expr}{fs:Zb->M (List D)}{px py pt pos:Pos}{kt k2 pt2}(hc:X.calm=true)(hN:X.N.Nodup)(hi:X.N[i]?=some x)(hj:X.N[j]?=some y)(hij:i≠j)(oi:i∉own)(oj:j∉own)
  (hx:X.env.scope.names.lookup x=some .local) (hy:X.env.scope.names.lookup y=some .local) (ha:W7 X G [a,b] fs)
  (hw:swappedStores [.Tuple [.Name x px,.Name y py] kt pt] (.Tuple [a,b] k2 pt2) X.env=pure (some [x,y]))
  (hs:swapsWithSole [.Tuple [.Name x px,.Name y py] kt pt] (.Tuple [a,b] k2 pt2) pos.line X.env=pure false:=by rfl) :
  Xi X G ob own own fr (.Assign [.Tuple [.Name x px,.Name y py] kt pt] (.Tuple [a,b] k2 pt2) pos) (sPar i j fs):=by
 obtain⟨t,p,q⟩:=ha;refine⟨_,Zop hc hN hi hj hij hx hy p hw hs,fun kn jU H0 σ H ρ s out s' E ⟨Hf,j'⟩ st e po=>?_⟩;obtain⟨ds,s1,a1,a2⟩:=ZB e;refine q σ _ H ρ s ds s1 _ U8 j'.envB st a1 fun vs Hf' H' g st' r=>?_
 match ds,a2,r with
 | [d1,d2],a2,r=>
  obtain⟨c,a3⟩:=Xw a2;obtain⟨rfl,rfl⟩:=ZW a3;obtain⟨c1,c2⟩:=zZ.mp c;obtain⟨v1,r1,rfl,q1,q2⟩:=je.mp r;obtain⟨v2,r2,rfl,q3,q4⟩:=je.mp q2;rw[Zm.nil_iff.mp q4];obtain⟨F,jF,fF,f1,f2⟩:=j'.growB g;exact⟨v1,v2,rfl,po _ H' ⟨F,(jF.setF oi (f1 _ _ c1 q1)).setF oj (f1 _ _ c2 q3)⟩ st'⟩
 | [],a2,_=>cases a2
 | [_],a2,_=>cases a2
 | _::_::_::_,a2,_=>cases a2
inductive Sets (G:Gh)(Hf:Hp)(ok:Nat->Prop):St->Zb->St->Zb->Prop
 | nil {σ ρ}:Sets G Hf ok σ ρ σ ρ
 | cons {σ ρ σ' ρ'} {i:Nat} {d:D} {v:V}:ok i->Zp G Hf d v->Sets G Hf ok (σ.set i (some v)) (ρ.set i (some d)) σ' ρ'->Sets G Hf ok σ ρ σ' ρ'
def Uo (X:Cx)(G:Gh)(tg:Expr)(ok:Nat->Prop)(τ:D->Zb->Option Zb):Prop:=
 ∃g,PG X tg g/\∀(x:V) (σ:St) (Hf H:Hp) (d:D) (ρ ρ':Zb) (Q:St->Hp->Prop),ZL G Hf H->Zp G Hf d x->τ d ρ=some ρ'->(∀σ',Sets G Hf ok σ ρ σ' ρ'->Q σ' H)->g x σ H Q
def ZE (i:Nat):D->Zb->Option Zb:=fun d ρ=>some (ρ.set i (some d))
theorem XJ {i:Nat}{x:Str}{pos:Pos}{ok:Nat->Prop}(hN:X.N.Nodup)(hi:X.N[i]?=some x)(hx:VD X.env.scope x)(oi:ok i)(hf:X.fn x=true∨X.env.scope.names.lookup x=some .local:=by first | exact .inl rfl | exact .inr rfl | assumption):Uo X G (.Name x pos) ok (ZE i):=
 ⟨_,Uy hN hi hx hf,fun x σ Hf H d ρ ρ' Q e r q k=>by
  cases q
  exact k _ (.cons oi r .nil)⟩
def BP (i j:Nat):D->Zb->Option Zb:=fun d ρ=>match d with | .tup [a,b]=>some ((ρ.set i (some a)).set j (some b)) | _=>none
theorem ZdB {i j:Nat}{x y:Str}{pos px py:Pos}{k:Nat}{ok:Nat->Prop}(hc:X.calm=true)(hN:X.N.Nodup)(hi:X.N[i]?=some x)(hj:X.N[j]?=some y)(hx:VD X.env.scope x)(hy:VD X.env.scope y)(oi:ok i)(oj:ok j)
  (hfx:X.fn x=true∨X.env.scope.names.lookup x=some .local:=by first | exact .inl rfl | exact .inr rfl | assumption) (hfy:X.fn y=true∨X.env.scope.names.lookup y=some .local:=by first | exact .inl rfl | exact .inr rfl | assumption)
  (hn:(assignEach [.Name x px,.Name y py] X.env).length=2:=by rfl) (hst:(assignEach [.Name x px,.Name y py] X.env).findIdx? (·.1)=none:=by rfl)
  (hp:B4 X [.Name x px,.Name y py] (ZkH (J4 i) (ZkH (J4 j) gNil))):Uo X G (.Tuple [.Name x px,.Name y py] k pos) ok (BP i j):=
 ⟨_,Zoo hc hp hn hst,fun x σ Hf H d ρ ρ' Q e r q k=>by
  match d,q,r with
  | .tup [a,b],q,r=>
   cases q
   obtain⟨ad,vs,rfl,n,h,rl⟩:=jc.mp r;obtain⟨v1,r1,rfl,q1,q2⟩:=je.mp rl;obtain⟨v2,r2,rfl,q3,q4⟩:=je.mp q2;have:=Zm.nil_iff.mp q4;subst this;exact⟨ad,_,rfl,ZT.of (e _ _ n h),rfl,v1,_,rfl,v2,_,rfl,rfl,k _ (.cons oi q1 (.cons oj q3 .nil))⟩⟩
theorem Sets.jf {kn jU H0 Hf H:Hp}{σ σ':St}{ρ ρ':Zb}(h:Sets G Hf (fun i=>i∉own) σ ρ σ' ρ'):Jf G own kn jU H0 σ Hf H ρ->Jf G own kn jU H0 σ' Hf H ρ':=by
 induction h with
 | nil=>exact fun j=>j
 | cons o r _ ih=>exact fun j=>ih (j.setF o r)
def W6 (G:Gh)(J:It)(Hf':Hp)(ds:List D):Prop:=
 ∀(i:Nat) (jX H2:Hp) (s:Pn),ZL G Hf' jX->ZL G jX H2->G.st s H2->
  (∀d,ds[i]?=some d->J.go i H2/\∀x H3,J.yld i H2 x H3->∃Hf3,Gr G jX H2 Hf3 H3/\G.st s H3/\Zp G Hf3 d x)/\(i=ds.length->J.stop i H2)
def Xn (X:Cx)(G:Gh)(tg iter:Expr)(f:Zb->M (List D)):Prop:=
 ∃wi,PI X tg iter wi/\∀(σ:St) (Hf H:Hp) (ρ:Zb) (s:Pn) (ds:List D) (s':Pn) (R:It->Hp->Prop),ZL G Hf H->YX G Hf σ ρ->G.st s H->f ρ s=some (ds,s')->
  (∀J Hf' H',Gr G Hf H Hf' H'->G.st s' H'->W6 G J Hf' ds->R J H')->wi σ H R
theorem W6.range {lo:Int}{n:Nat}{Hf:Hp}{ds:List D}(e:ds=(qp n).map fun(i:Nat)=>D.int (lo+i)):W6 G (B5 lo n) Hf ds:=fun i jX H2 s e1 e2 st=>by
 subst e;refine⟨fun d q=>?_,fun q=>by show n<=i;rw[q];simp⟩;have hi:i<n:=by
  have:=(qD.mp q).1;simpa using this
 have hd:d=.int (lo+i):=by
  rw[qy,zE hi] at q;simp at q;exact q.symm
 subst hd;refine⟨hi,fun x H3 y=>?_⟩;obtain⟨y1,y2⟩:=y;subst y1 y2;exact⟨jX,.refl e2,st,ja.mpr rfl⟩
theorem W6.list {K:qm}{a:Addr}{vs:List V}{Hf:Hp}{ds:List D}(nf:¬G.fp a)(h:Hf a=some (.lst vs))(r:Zm G Hf ds vs):W6 G (Itl K a) Hf ds:=fun i jX H2 s e1 e2 st=>by
 have h2:ZH K H2 a vs:=ZH.of (e2 _ _ nf (e1 _ _ nf h));refine⟨fun d q=>?_,fun q=>⟨vs,h2,by rw[q,r.length];exact qu _⟩⟩;obtain⟨v,q1,q2⟩:=r.get q;refine⟨⟨vs,v,h2,q1⟩,fun x H3 ⟨y1,y2⟩=>?_⟩;subst y1;have e:=y2 vs h2;rw[q1] at e;cases e;exact⟨jX,.refl e2,st,q2.ext e1⟩
theorem W6.tup {K:qm}{a:Addr}{vs:List V}{Hf:Hp}{ds:List D}(nf:¬G.fp a)(h:Hf a=some (.tup vs))(r:Zm G Hf ds vs):W6 G (Itt K a) Hf ds:=fun i jX H2 s e1 e2 st=>by
 have h2:ZT K H2 a vs:=ZT.of (e2 _ _ nf (e1 _ _ nf h));refine⟨fun d q=>?_,fun q=>⟨vs,h2,by rw[q,r.length];exact qu _⟩⟩;obtain⟨v,q1,q2⟩:=r.get q;refine⟨⟨vs,v,h2,q1⟩,fun x H3 ⟨y1,y2⟩=>?_⟩;subst y1;have e:=y2 vs h2;rw[q1] at e;cases e;exact⟨jX,.refl e2,st,q2.ext e1⟩
def Yp (lo:Int)(n:Nat):List D:=(qp n).map fun(i:Nat)=>D.int (lo+i)
def Y0 (f:Zb->M D):Zb->M (List D):=fun ρ=>Zn (f ρ) fun d=>match d with | .int j=>if -(2 ^ 62)<=j/\j<2 ^ 62 then Zx (Yp 0 j.toNat) else ZC | _=>ZC
theorem Ut {tg a:Expr}{p pos:Pos}{r1:Bool}(hg:Gl X "range")(hm:X.mg "range" = none)(ha:PD X G r1 a f)(hs:starEach [a] X.env=[(false,eval a X.env)]:=by rfl):Xn X G tg (.Call (.Name "range" p) [a] [] pos) (Y0 f):=by
 obtain⟨t,pa,qa⟩:=ha.drop;refine⟨_,Zey hg hm (Y6 pa XC (by rw[hs];rfl)) hs,fun σ Hf H ρ s ds s' R e1 e2 e3 e4 k=>?_⟩;obtain⟨d,s1,a1,a2⟩:=ZB e4
 cases d with
 | int j=>
  obtain⟨c,a3⟩:=Xw a2;obtain⟨rfl,rfl⟩:=ZW a3;refine qa σ Hf H ρ s _ _ _ e1 e2 e3 a1 fun v jM H1 g st r=>?_;rw[ja.mp r];exact⟨j,rfl,c.1,c.2,k _ jM H1 g st (.range rfl)⟩
 | _=>cases a2
def BC (f g:Zb->M D):Zb->M (List D):=fun ρ=>Zn (f ρ) fun d=>Zn (g ρ) fun e=>match d,e with | .int i,.int j=>if -(2 ^ 62)<=i/\i<2 ^ 62/\-(2 ^ 62)<=j/\j<2 ^ 62 then Zx (Yp i (j-i).toNat) else ZC | _,_=>ZC
def Yk (f:Zb->M D):Zb->M (List D):=fun ρ=>Zn (f ρ) fun d=>match d with | .lst ds=>Zx ds | _=>ZC
def XR (f:Zb->M D):Zb->M (List D):=fun ρ=>Zn (f ρ) fun d=>match d with | .tup ds=>Zx ds | _=>ZC
theorem X3 {tg l:Expr}{r1:Bool}(hl:PD X G r1 l f):Xn X G tg l (Yk f):=by
 obtain⟨t,pa,qa⟩:=hl.drop;refine⟨_,ZmD pa,fun σ Hf H ρ s ds s' R e1 e2 e3 e4 k=>?_⟩;obtain⟨d,s1,a1,a2⟩:=ZB e4
 cases d with
 | lst es=>
  obtain⟨rfl,rfl⟩:=ZW a2;refine qa σ Hf H ρ s _ _ _ e1 e2 e3 a1 fun v jM H1 g st r=>?_;obtain⟨a,vs,rfl,nf,h,rl⟩:=jb.mp r;exact⟨a,rfl,⟨vs,ZH.of (g.fh _ _ nf h)⟩,k _ jM H1 g st (.list nf h rl)⟩
 | _=>cases a2
theorem Vr {tg l:Expr}{r1:Bool}(hl:PD X G r1 l f):Xn X G tg l (XR f):=by
 obtain⟨t,pa,qa⟩:=hl.drop;refine⟨_,Zoq pa,fun σ Hf H ρ s ds s' R e1 e2 e3 e4 k=>?_⟩;obtain⟨d,s1,a1,a2⟩:=ZB e4
 cases d with
 | tup es=>
  obtain⟨rfl,rfl⟩:=ZW a2;refine qa σ Hf H ρ s _ _ _ e1 e2 e3 a1 fun v jM H1 g st r=>?_;obtain⟨a,vs,rfl,nf,h,rl⟩:=jc.mp r;exact⟨a,rfl,⟨vs,ZT.of (g.fh _ _ nf h)⟩,k _ jM H1 g st (.tup nf h rl)⟩
 | _=>cases a2
def WR (τ:D->Zb->Option Zb)(body:Zb->M Out):List D->Zb->M Out
 | [],ρ=>Zx (.nx ρ)
 | d::ds,ρ=>Zn (YF (τ d ρ)) fun ρ1=>Zn (body ρ1) fun o=>match o with | .nx ρ2=>WR τ body ds ρ2 | .ct ρ2=>WR τ body ds ρ2 | .bk ρ2=>Zx (.nx ρ2) | .rt d=>Zx (.rt d)
def Y2 (fi:Zb->M (List D))(τ:D->Zb->Option Zb)(body:Zb->M Out):Zb->M Out:=fun ρ=>Zn (fi ρ) fun ds=>WR τ body ds ρ
def BY (X:Cx)(G:Gh)(own:List Nat)(tg iter:Expr)(f:Zb->M (List D)):Prop:=
 ∃wi,PI X tg iter wi/\∀(kn jU H0:Hp) (σ:St) (Hf H:Hp) (ρ:Zb) (s:Pn) (ds:List D) (s':Pn) (R:It->Hp->Prop),Jf G own kn jU H0 σ Hf H ρ->G.st s H->f ρ s=some (ds,s')->
  (∀J Hf' H',Jf G own kn jU H0 σ Hf' H' ρ->ZL G Hf Hf'->G.st s' H'->W6 G J Hf' ds->R J H')->wi σ H R
theorem Xn.a {tg iter:Expr}{fi:Zb->M (List D)}(h:Xn X G tg iter fi):BY X G own tg iter (fun ρ=>fi (Ye own ρ)):=by
 obtain⟨wi,p,q⟩:=h;exact⟨wi,p,fun kn jU H0 σ Hf H ρ s ds s' R j st e k=>q σ Hf H _ s ds s' R j.gr.fh j.envA st e fun J Hf' H' g st' it=>k J Hf' H' (j.grow g) g.ff st' it⟩
theorem Xn.n {tg iter:Expr}{fi:Zb->M (List D)}(h:Xn X G tg iter fi):BY X G [] tg iter fi:=by
 obtain⟨wi,p,q⟩:=h.a (own:=[]);exact⟨wi,p,fun kn jU H0 σ Hf H ρ s ds s' R j st e k=>q kn jU H0 σ Hf H ρ s ds s' R j st (by show fi (Ye [] ρ) s=_;rw[Zgq];exact e) k⟩
theorem Ur {tg a:Expr}{p pos:Pos}{r1:Bool}(hg:Gl X "range")(hm:X.mg "range" = none)(ha:PD X G r1 a f)(hs:starEach [a] X.env=[(false,eval a X.env)]:=by rfl):BY X G own tg (.Call (.Name "range" p) [a] [] pos) (Y0 f):=by
 obtain⟨t,pa,qa⟩:=ha.drop;refine⟨_,Zey hg hm (Y6 pa XC (by rw[hs];rfl)) hs,fun kn jU H0 σ Hf H ρ s ds s' R j st e4 k=>?_⟩;obtain⟨d,s1,a1,a2⟩:=ZB e4
 cases d with
 | int i=>
  obtain⟨c,a3⟩:=Xw a2;obtain⟨rfl,rfl⟩:=ZW a3;refine qa σ _ H ρ s _ _ _ U8 j.envB st a1 fun v jM H1 g st r=>?_;obtain⟨F,j',fF,q1,q2⟩:=j.growB g;rw[ja.mp r];exact⟨i,rfl,c.1,c.2,k _ F H1 j' fF st (.range rfl)⟩
 | _=>cases a2
theorem ZcK {tg a b:Expr}{p pos:Pos}{r1 r2:Bool}{f2:Zb->M D}(hg:Gl X "range")(hm:X.mg "range" = none)(ha:PD X G r1 a f)(hb:PD X G r2 b f2)
  (hs:starEach [a,b] X.env=[(false,eval a X.env),(false,eval b X.env)]:=by rfl) (hs2:starEach [b] X.env=[(false,eval b X.env)]:=by rfl):BY X G own tg (.Call (.Name "range" p) [a,b] [] pos) (BC f f2):=by
 obtain⟨t,pa,qa⟩:=ha.drop;obtain⟨u,pb,qb⟩:=hb.drop;refine⟨_,Zjt hg hm (Y6 pa (Y6 pb XC (by rw[hs2];rfl)) (by rw[hs,hs2])) hs hs2,fun kn jU H0 σ Hf H ρ s ds s' R j st e4 k=>?_⟩;obtain⟨d,s1,a1,a2⟩:=ZB e4;obtain⟨d2,s2,a3,a4⟩:=ZB a2
 match d,d2,a4,a1,a3 with
 | .int i,.int l,a4,a1,a3=>
  obtain⟨c,a5⟩:=Xw a4;obtain⟨rfl,rfl⟩:=ZW a5;refine qa σ _ H ρ s _ _ _ U8 j.envB st a1 fun v jM H1 g st r=>?_;refine qb σ jM H1 ρ s1 _ _ _ g.fh (j.envB.ext g.ff) st a3 fun v2 jX H2 g2 jV r2=>?_;obtain⟨F,j',fF,q1,q2⟩:=j.growB (g.trans g2);rw[ja.mp r,ja.mp r2];exact⟨i,l,rfl,c,k _ F H2 j' fF jV (.range rfl)⟩
theorem Jf.weak {kn kn' jU H0 Hf H:Hp}{σ:St}{ρ:Zb}(j:Jf G own kn' jU H0 σ Hf H ρ)(e:ZL G kn kn'):Jf G own kn jU H0 σ Hf H ρ:=⟨j.len,e.trans j.kn,j.gr,j.fz,j.ow,j.ne⟩
theorem Xx {tg iter:Expr}{body:List Stmt}{pos:Pos}{fi:Zb->M (List D)}{τ:D->Zb->Option Zb}{g:Zb->M Out}(hp:PassesOwn (model X.prog X.w) X.A X.env X.xe)(hc:X.calm=true)(hi:BY X G own tg iter fi)(hg:Uo X G tg (fun i=>i∉own) τ)(hb:WJ X G own own own fr body g)
  (hs:∀x,foldedSetIterable iter X.env x=pure x:=by intro _;rfl):Xi X G ob own own fr (.For tg iter body [] pos) (Y2 fi τ g):=by
 obtain⟨wi,pi,qi⟩:=hi;obtain⟨gt,pg,qg⟩:=hg;obtain⟨tb,pb,qb⟩:=hb;refine⟨_,Zor hp hc pi pg pb hs,fun kn jU H0 σ H ρ s out s' E ⟨Hf,j⟩ st e po=>?_⟩;obtain⟨ds,s1,a1,a2⟩:=ZB e;refine qi kn jU H0 σ Hf H ρ s ds s1 _ j st a1 fun Jt jM H1 j1 e1 jW it=>?_;refine⟨fun i m σ2 H2=>∃ρ2 s2,J G own jM jU H0 σ2 H2 ρ2/\G.st s2 H2/\WR τ g (ds.drop i) ρ2 s2=some (out,s')/\i<=ds.length/\m=ds.length-i,⟨_,ρ,s1,⟨jM,⟨j1.len,.refl _ _,j1.gr,j1.fz,j1.ow,j1.ne⟩⟩,jW,a2,za _,rfl⟩,?_⟩;rintro i m σ2 H2 ⟨ρ2,s2,⟨jX,j2⟩,jV,eq2,hle,rfl⟩;obtain⟨i1,i2⟩:=it i jX H2 s2 j2.kn j2.gr.fh jV;by_cases hlt:i<ds.length
 ·have hd:ds.drop i=ds[i]::ds.drop (i+1):=y9 hlt
  rw[hd] at eq2;obtain⟨ρ3,s3,b1,b2⟩:=ZB eq2;obtain⟨b1',e3⟩:=Wz b1;subst e3;obtain⟨o,s4,b3,b4⟩:=ZB b2;obtain⟨go,yl⟩:=i1 ds[i] (by simp[hlt]);refine .inr ⟨go,fun σ' H'=>∃ρ5 s5,J G own jM jU H0 σ' H' ρ5/\G.st s5 H'/\WR τ g (ds.drop (i+1)) ρ5 s5=some (out,s'),fun σ' H' ⟨ρ5,s5,j5,st5,q5⟩=>⟨_,by omega,ρ5,s5,j5,st5,q5,hlt,rfl⟩,fun x H3 y3=>?_⟩;obtain⟨Hf3,g3,st3,r3⟩:=yl x H3 y3;have j3:=j2.grow g3;refine qg x σ2 Hf3 H3 ds[i] ρ2 ρ3 _ g3.fh r3 b1' fun σ3 sets=>?_;have j4:=sets.jf j3;refine qb jM jU H0 σ3 H3 ρ3 s3 o s4 _ ⟨Hf3,j4⟩ st3 b3 ?_
  cases o with
  | nx ρ5=>exact fun σ5 H5 j5 st5=>⟨ρ5,s4,j5,st5,b4⟩
  | ct ρ5=>exact fun σ5 H5 j5 st5=>⟨ρ5,s4,j5,st5,b4⟩
  | bk ρ5=>
   obtain⟨rfl,rfl⟩:=ZW b4;exact fun σ5 H5 ⟨Hf5,j5⟩ st5=>po σ5 H5 ⟨Hf5,j5.weak (j.kn.trans e1)⟩ st5
  | rt d=>
   obtain⟨rfl,rfl⟩:=ZW b4;exact po
 ·have hd:ds.drop i=[]:=qbK.mpr (by omega)
  rw[hd] at eq2;obtain⟨rfl,rfl⟩:=ZW eq2;exact .inl ⟨i2 (by omega),po σ2 H2 ⟨jX,j2.weak (j.kn.trans e1)⟩ jV⟩
end
def runB (n k:Nat)(g:Zb->M Out):List D->M D:=fun ds=>if ds.length=k then Zn (g (ds.map some++zC (n-k) none)) fun o=>match o with | .rt d=>Zx d | .nx _=>Zx .non | _=>ZC else ZC
theorem YL {P:Program}{w:World}{K:qm}{mg:Str->Option Value}{base:Heap}{x qual:Str}{st:Stmt}{f:Addr}{fd:FuncData}{N ps:List Str}{k:Nat}{own:List Nat}{fr:Bool}{GG:Gh->Prop}{g:Zb->M Out}
  (F:Fun K x qual st f fd) (S:FnScope N ps (ZD st))
  (hb:∀(cdv:Value) (A:Around) (outer:List Env) (s:Shared) (H:Hp) (E:XK),Room k (A.deeper (envOfC qual (ZD st) s.heap.objs.size f cdv))->∀G,GG G->WJ (Vn ZX P w K mg base N qual (ZD st) f cdv A outer s H E).nox G [] [] own fr (WM st) g) :
  FnOk P w K mg base ZX (k+1) f fd ps (Ym ps.length fr GG (runB N.length ps.length g)):=by
 refine F.ok S (fun vs H Q E h=>?_) fun cdv A outer s H vs Q E hr h=>?_
 ·obtain⟨G,Hf,ds,pn,d,pn',_,e,_⟩:=h
  exact e
 ·obtain⟨G,Hf,ds,pn,d,pn',hG,el,e1,r,st',eF,k'⟩:=h
  obtain⟨t,p,q⟩:=hb cdv A outer s H E hr G hG;refine⟨t,p,?_⟩;obtain⟨hl,a0⟩:=Xw eF;obtain⟨o,s1,a1,a2⟩:=ZB a0;have hpl:ps.length<=N.length:=by have:=congrArg qay S.pre;rw[zt] at this;omega
  have j0:Jf G [] Hf Hf H (L2.start N vs) Hf H (ds.map some++zC (N.length-ps.length) none):=by
   refine⟨?_,.refl _ _,.refl e1,fun i d n e=>?_,fun i d m e=>?_,fun i j a di dj mi mj n e=>?_⟩
   ·unfold L2.start;simp;omega
   ·have hi:i<ds.length:=by
     by_cases hi:i<ds.length
     ·exact hi
     ·rw[yp (by simpa using hi),yD] at e
      split at e <;> cases e
    have e':ds[i]?=some d:=by
     rw[zQ (by simpa using hi),qy] at e
     cases q:ds[i]? with
     | none=>rw[q] at e;cases e
     | some c=>rw[q] at e;simp at e;rw[e]
    obtain⟨v,h1,h2⟩:=r.get e';refine⟨v,?_,h2⟩;unfold L2.start;rw[zQ (by simp;rw[<-r.length];exact hi),qy,h1];rfl
   ·exact absurd m (by simp)
   ·exact absurd mi (by simp)
  refine q Hf Hf H (L2.start N vs) H _ pn o s1 _ ⟨Hf,j0⟩ st' a1 ?_
  cases o with
  | rt c=>
   obtain⟨rfl,rfl⟩:=ZW a2;exact fun v Hf' H' g' jV r2 fz=>k' v Hf' H' g' jV r2 fz
  | nx ρ'=>
   obtain⟨rfl,rfl⟩:=ZW a2;exact fun σ' H' ⟨Hf',j'⟩ jV=>k' .non Hf' H' j'.gr jV (ji.mpr rfl) fun _=>.scal fun z=>z
  | bk ρ'=>cases a2
  | ct ρ'=>cases a2
def tOf (G:Gh)(fr:Bool)(f:Zb->M D):TE:=fun σ H Q=>∃(Hf:Hp) (ρ:Zb) (s:Pn) (d:D) (s':Pn),ZL G Hf H/\YX G Hf σ ρ/\G.st s H/\f ρ s=some (d,s')/\
 ∀v Hf' H',Gr G Hf H Hf' H'->G.st s' H'->Zp G Hf' d v->(fr=true->YH G H Hf' d v)->Q v H'
def Jp (G:Gh)(f:Zb->M Bool):TT:=fun σ H Q=>∃(Hf:Hp) (ρ:Zb) (s:Pn) (b:Bool) (s':Pn),ZL G Hf H/\YX G Hf σ ρ/\G.st s H/\f ρ s=some (b,s')/\
 ∀Hf' H',Gr G Hf H Hf' H'->G.st s' H'->Q b H'
def gOf (G:Gh)(ok:Nat->Prop)(τ:D->Zb->Option Zb):TG:=fun x σ H Q=>∃(Hf:Hp) (d:D) (ρ ρ':Zb),ZL G Hf H/\Zp G Hf d x/\τ d ρ=some ρ'/\∀σ',Sets G Hf ok σ ρ σ' ρ'->Q σ' H
section
variable {X:Cx}{G:Gh}{own:List Nat}{fr:Bool}{f:Zb->M D}
theorem PD.canon {e:Expr}(h:PD X G fr e f):PE X e (tOf G fr f):=by
 obtain⟨t,p,q⟩:=h;exact fun jE s σ H Q I ⟨Hf,ρ,pn,d,pn',a1,a2,a3,a4,k⟩=>p jE s σ H Q I (q σ Hf H ρ pn d pn' Q a1 a2 a3 a4 k)
theorem Wu.canon {e:Expr}{f:Zb->M Bool}(h:Wu X G e f):PT X e (Jp G f):=by
 obtain⟨t,p,q⟩:=h;exact fun jE s σ H Q I ⟨Hf,ρ,pn,d,pn',a1,a2,a3,a4,k⟩=>p jE s σ H Q I (q σ Hf H ρ pn d pn' Q a1 a2 a3 a4 k)
theorem Uo.canon {tg:Expr}{ok:Nat->Prop}{τ:D->Zb->Option Zb}(h:Uo X G tg ok τ):PG X tg (gOf G ok τ):=by
 obtain⟨t,p,q⟩:=h;exact fun jE s σ H v u Q I r ⟨Hf,d,ρ,ρ',a1,a2,a3,k⟩=>p jE s σ H v u Q I r (q v σ Hf H d ρ ρ' Q a1 a2 a3 k)
def Wq (src:List (Option Nat))(ρ:Zb):Zb:=src.map fun o=>o.bind fun j=>(ρ[j]?).bind id
theorem ZhL {Hf:Hp}{σ:St}{ρ:Zb}{src:List (Option Nat)}(h:YX G Hf σ ρ):YX G Hf (VM src σ) (Wq src ρ):=fun i d e=>by
 unfold Wq at e;rw[qy] at e
 cases q:src[i]? with
 | none=>rw[q] at e;cases e
 | some o=>
  rw[q] at e
  cases o with
  | none=>simp at e
  | some j=>
   simp only[zR,qa8,qa5] at e;have hj:ρ[j]?=some (some d):=by
    cases e2:ρ[j]? with
    | none=>rw[e2] at e;cases e
    | some o2=>rw[e2] at e;simp at e;rw[e]
   obtain⟨v,h1,h2⟩:=h j d hj;refine⟨v,?_,h2⟩;unfold VM;rw[qy,q];simp[h1]
theorem Sets.len {Hf:Hp}{ok:Nat->Prop}{σ σ':St}{ρ ρ':Zb}(h:Sets G Hf ok σ ρ σ' ρ'):(σ.length=ρ.length->σ'.length=ρ'.length)/\σ'.length=σ.length:=by
 induction h with
 | nil=>exact⟨fun e=>e,rfl⟩
 | cons _ _ _ ih=>exact⟨fun e=>ih.1 (by simp[e]),ih.2.trans (by simp)⟩
theorem Sets.env {Hf:Hp}{ok:Nat->Prop}{σ σ':St}{ρ ρ':Zb}(h:Sets G Hf ok σ ρ σ' ρ'):σ.length=ρ.length->YX G Hf σ ρ->YX G Hf σ' ρ':=by
 induction h with
 | nil=>exact fun _ e=>e
 | @cons σ ρ σ' ρ' i d v o r _ ih=>
  intro hl he;refine ih (by simp[hl]) fun k c e=>?_;by_cases h:i=k
  ·subst h
   have hk:i < ρ.length:=by
    have:=(qD.mp e).1;simpa using this
   rw[zl hk] at e
   cases e
   exact⟨v,zl (by rw[hl];exact hk),r⟩
  ·rw[qV h] at e⊢
   exact he k c e
theorem Sets.envOld {Hf:Hp}{ok:Nat->Prop}{σ σ':St}{ρ ρ' ρ0:Zb}(h:Sets G Hf ok σ ρ σ' ρ')(h0:∀i d,ok i->ρ0[i]?≠some (some d)):YX G Hf σ ρ0->YX G Hf σ' ρ0:=by
 induction h with
 | nil=>exact fun e=>e
 | @cons σ ρ σ' ρ' i d v o r _ ih=>
  intro he;refine ih fun k c e=>?_;have hne:i≠k:=fun z=>h0 k c (z▸o) e;rw[qV hne];exact he k c e
def Uf (τ:D->Zb->Option Zb)(ft:Zb->M Bool)(fe:Zb->M D)(ρ:Zb):List D->M (List D)
 | []=>Zx []
 | d::ds=>Zn (YF (τ d ρ)) fun ρ1=>Zn (ft ρ1) fun b=>if b=true then Zn (fe ρ1) fun c=>Zn (Uf τ ft fe ρ ds) fun r=>Zx (c::r) else Uf τ ft fe ρ ds
def Yg (src:List (Option Nat))(fi:Zb->M (List D))(τ:D->Zb->Option Zb)(ft:Zb->M Bool)(fe:Zb->M D):Zb->M D:=fun ρ=>
 Zn (fi ρ) fun ds=>if ds.length<=sizeLine then Zn (Uf τ ft fe (Wq src ρ) ds) fun r=>Zx (.lst r) else ZC
def Yq:Zb->M Bool:=fun _=>Zx true
theorem Zgt {src:List (Option Nat)}{wi:TI}{fi:Zb->M (List D)}{τ:D->Zb->Option Zb}{ft:Zb->M Bool}{fe:Zb->M D}{r1:Bool}
  (qi:∀(σ:St) (Hf H:Hp) (ρ:Zb) (s:Pn) (ds:List D) (s':Pn) (R:It->Hp->Prop),ZL G Hf H->YX G Hf σ ρ->G.st s H->fi ρ s=some (ds,s')->
   (∀J Hf' H',Gr G Hf H Hf' H'->G.st s' H'->W6 G J Hf' ds->R J H')->wi σ H R) :
  W8 G true (ZkX src wi (gOf G (fun i=>src[i]?=some none) τ) (Jp G ft) (tOf G r1 fe)) (Yg src fi τ ft fe):=by
 intro σ Hf H ρ s d s' Q e1 e2 e3 e4 k;obtain⟨ds,s1,a1,a2⟩:=ZB e4;obtain⟨hz,a3⟩:=Xw a2;obtain⟨r,s2,a4,a5⟩:=ZB a3;obtain⟨rfl,rfl⟩:=ZW a5;refine qi σ Hf H ρ s ds s1 _ e1 e2 e3 a1 fun Jt jM H1 g1 jW it=>?_;intro p hp;have nrp:=jA jW hp;have nfp:=ju nrp;have hf1p:jM p=none:=by
  cases e:jM p with
  | none=>rfl
  | some o=>rw[g1.fh p o nfp e] at hp;cases hp
 have h0:∀(i:Nat) (d:D),src[i]?=some none->(Wq src ρ)[i]?≠some (some d):=fun i d e q=>by
  unfold Wq at q;rw[qy,e] at q;simp at q
 refine⟨fun i m σ2 H2=>∃(jX:Hp) (s2:Pn) (vs:List V) (jL rest:List D),i<=ds.length/\m=ds.length-i/\Gr G jM H1 jX H2/\YX G jX σ2 (Wq src ρ)/\σ2.length=(Wq src ρ).length/\G.st s2 H2/\jX p=none/\H2 p=some (.lst vs)/\Zm G jX jL vs/\jL.length<=i/\
  Uf τ ft fe (Wq src ρ) (ds.drop i) s2=some (rest,s')/\jL++rest=r,⟨_,jM,s1,[],[],r,za _,rfl,?_,?_,?_,Gh.grow jW hp,hf1p,Z8,Zm.nil_iff.mpr rfl,qu _,a4,rfl⟩,?_⟩
 ·refine⟨fun b o n e=>?_,.refl _ _,fun b o n e=>?_,fun b n h1 h2=>h1⟩
  ·rw[Zu (Z5 e hp)];exact e
  ·rw[Zu (Z5 e hf1p)];exact g1.fh b o n e
 ·exact ZhL (e2.ext g1.ff)
 ·unfold VM Wq;simp
 ·rintro i m σ2 H2 ⟨jX,sz,vs,jL,rest,hle,rfl,g2,env2,len2,jV,hfp2,hp2,racc,hacc,eq2,hr⟩
  obtain⟨i1,i2⟩:=it i jX H2 sz g2.ff g2.fh jV;by_cases hlt:i<ds.length
  ·have hd:ds.drop i=ds[i]::ds.drop (i+1):=y9 hlt
   rw[hd] at eq2;obtain⟨ρ3,s3,b1,b2⟩:=ZB eq2;obtain⟨b1',e3'⟩:=Wz b1;subst e3';obtain⟨bo,s4,b3,b4⟩:=ZB b2;obtain⟨go,yl⟩:=i1 ds[i] (by simp[hlt]);refine .inr ⟨go,fun x H3 y3=>?_⟩;obtain⟨Hf3,g3,st3,r3⟩:=yl x H3 y3;refine⟨Hf3,ds[i],Wq src ρ,ρ3,g3.fh,r3,b1',fun σ4 sets=>?_⟩;have env2':=env2.ext g3.ff;have env4:=sets.env len2 env2';have env4':=sets.envOld h0 env2';refine⟨Hf3,ρ3,s3,bo,s4,g3.fh,env4,st3,b3,fun Hf5 H5 g5 st5=>?_⟩;have g25:=g3.trans g5;have hfp5:Hf5 p=none:=g25.nw p nfp hfp2 ⟨_,hp2,fun _ z=>by cases z⟩;have hp5:H5 p=some (.lst vs):=g25.hh p _ nfp hp2
   cases bo with
   | false=>
    refine UL ⟨ds.length-(i+1),by omega,Hf5,s4,vs,jL,rest,hlt,rfl,g2.trans g25,env4'.ext g5.ff,by rw[<-len2];exact sets.len.2,st5,hfp5,hp5,racc.ext g25.ff,by omega,?_,hr⟩;exact b4
   | true=>
    have b4':Zn (fe ρ3) (fun c=>Zn (Uf τ ft fe (Wq src ρ) (ds.drop (i+1))) fun r=>Zx (c::r)) s4=some (rest,s'):=b4;obtain⟨c,s6,b5,b6⟩:=ZB b4';obtain⟨rr,s7,b7,b8⟩:=ZB b6;obtain⟨rfl,rfl⟩:=ZW b8;refine UM ⟨Hf5,ρ3,s4,c,s6,g5.fh,env4.ext g5.ff,st5,b5,fun v Hf6 H6 g6 st6 r6 _=>?_⟩;have hfp6:Hf6 p=none:=g6.nw p nfp hfp5 ⟨_,hp5,fun _ z=>by cases z⟩;have hp6:H6 p=some (.lst vs):=g6.hh p _ nfp hp5;have hl:vs.length<sizeLine:=by rw[<-racc.length];omega
    refine⟨vs,hp6,hl,ds.length-(i+1),by omega,Hf6,s6,vs ++ [v],jL ++ [c],rr,hlt,rfl,?_,(env4'.ext g5.ff).ext g6.ff,by rw[<-len2];exact sets.len.2,?_,hfp6,Z8,(racc.ext (g25.ff.trans g6.ff)).append (.one r6),by simp;omega,b7,by rw[<-hr];simp⟩
    ·have gg:=(g2.trans g25).trans g6
     refine⟨fun b o n e=>?_,gg.ff,fun b o n e=>?_,gg.nw⟩
     ·rw[Zu (Z5 e hp)];exact gg.hh b o n e
     ·rw[Zu (Z5 e hfp6)];exact gg.fh b o n e
    ·refine G.mono _ _ _ st6 (fun b o rb e=>?_) fun b φ e=>?_
     ·have:b≠p:=fun z=>nrp (z▸rb)
      rw[Zu this];exact e
     ·have:b≠p:=fun z=>by rw[z,hp6] at e;cases e
      rw[Zu this];exact e
  ·have hd:ds.drop i=[]:=qbK.mpr (by omega)
   rw[hd] at eq2;obtain⟨rfl,rfl⟩:=ZW eq2;refine .inl ⟨i2 (by omega),?_⟩;rw[zx] at hr;subst hr;refine k (.ref p) (Zo jX p (.lst vs)) H2 (g1.trans ⟨g2.hh,fun b o n e=>?_,fun b o n e=>?_,fun b n h1 h2=>?_⟩) jV (jb.mpr ⟨p,vs,rfl,nfp,Z8,racc.ext fun b o n e=>?_⟩) fun _ a ea _=>?_
   ·rw[Zu (Z5 (g2.ff b o n e) hfp2)];exact g2.ff b o n e
   ·by_cases hb:b=p
    ·subst hb;rw[Z8] at e;rw[hp2];exact e
    ·rw[Zu hb] at e;exact g2.fh b o n e
   ·have:b≠p:=fun z=>h2.no (z▸hp)
    rw[Zu this];exact g2.nw b n h1 h2
   ·rw[Zu (Z5 e hfp2)];exact e
   ·cases ea
    refine⟨?_,fun ds' ed=>?_⟩
    ·cases q:H p with
     | none=>rfl
     | some o=>rw[g1.hh p o nfp q] at hp;cases hp
    ·cases ed
     exact⟨vs,jX,Z8,hfp2,fun b o n e=>by rw[Zu (Z5 e hfp2)];exact e,racc⟩
theorem WG:VR X [] (Jp G Yq):=fun jE s σ H Q I ⟨Hf,ρ,pn,b,pn',a1,a2,a3,a4,k⟩=>by
 obtain⟨rfl,rfl⟩:=ZW a4;exact ZkV jE s σ H Q I (k Hf H (.refl a1) a3)
theorem VN {c:Expr}{ft:Zb->M Bool}(h:Wu X G c ft):VR X [c] (Jp G ft):=ZkW h.canon
theorem Jf.put {kn jU H0 Hf H:Hp}{σ:St}{ρ:Zb}{i:Nat}{a:Addr}{d d':D}{o':HO}(j:Jf G own kn jU H0 σ Hf H ρ)(hi:i∈own)(e:ρ[i]?=some (some d))(sa:σ[i]?=some (some (.ref a)))
  (new:Uc G Hf (Zo H a o') a d'):Jf G own kn jU H0 σ Hf (Zo H a o') (ρ.set i (some d')):=by
 obtain⟨a',h1,h2,h3,h4,h5⟩:=j.ow i d hi e;rw[sa] at h1;cases h1;have il:i < ρ.length:=(qD.mp e).1;refine⟨by simp[j.len],j.kn,⟨fun b o n q=>?_,j.gr.ff,fun b o n q=>?_,j.gr.nw⟩,fun k c n q=>?_,fun k c m q=>?_,fun k l b dk dl mk ml n ek el sk sl=>?_⟩
 ·rw[Zu (Z5 q h4)];exact j.gr.hh b o n q
 ·rw[Zu (Z5 q h3)];exact j.gr.fh b o n q
 ·have hne:i≠k:=fun z=>n (z▸hi)
  rw[qV hne] at q;exact j.fz k c n q
 ·by_cases hk:i=k
  ·subst hk
   rw[zl il] at q
   cases q
   exact⟨a,sa,h2,h3,h4,new⟩
  ·rw[qV hk] at q
   obtain⟨b,g1,g2,g3,g4,g5⟩:=j.ow k c m q;have hab:b≠a:=fun z=>j.ne i k a d c hi m hk e q sa (z▸g1);exact⟨b,g1,g2,g3,g4,g5.keep (.refl _ _) fun o z=>by rw[Zu hab];exact z⟩
 ·have ek':∃d,ρ[k]?=some (some d):=by
   by_cases hk:i=k
   ·exact⟨d,hk▸e⟩
   ·rw[qV hk] at ek;exact⟨_,ek⟩
  have el':∃d,ρ[l]?=some (some d):=by
   by_cases hl:i=l
   ·exact⟨d,hl▸e⟩
   ·rw[qV hl] at el;exact⟨_,el⟩
  obtain⟨_,ek'⟩:=ek';obtain⟨_,el'⟩:=el';exact j.ne k l b _ _ mk ml n ek' el' sk sl
theorem ZiM {kn jU H0 Hf H:Hp}{σ:St}{ρ:Zb}{i:Nat}{ds:List D}(j:Jf G own kn jU H0 σ Hf H ρ)(hi:i∈own)(e:ρ[i]?=some (some (.lst ds))) :
  ∃a vs,σ[i]?=some (some (.ref a))/\¬G.rd a/\H a=some (.lst vs)/\Zm G Hf ds vs:=by
 obtain⟨a,h1,h2,h3,h4,vs,h5,h6⟩:=j.ow i _ hi e;exact⟨a,vs,h1,h2,h5,h6⟩
theorem Zfj {ρ:Zb}{i:Nat}{d:D}(h:(ρ[i]?).bind id=some d):ρ[i]?=some (some d):=by
 cases q:ρ[i]? with
 | none=>rw[q] at h;cases h
 | some o=>rw[q] at h;simp at h;rw[h]
theorem jy {s:Pn}{H:Hp}{a:Addr}{o:HO}(st:G.st s H)(h:¬G.rd a)
  (hx:∀φ,H a≠some (.ext φ):=by intro φ z;first | (have z2:=z.symm.trans (by assumption:_=some (L2.HO.lst _));cases z2) | (have z2:=z.symm.trans (by assumption:_=some (L2.HO.dK _));cases z2) | (have z2:=z.symm.trans (by assumption:_=some (L2.HO.dT _));cases z2)):G.st s (Zo H a o):=G.mono _ _ _ st (fun b u rb e=>by
 have:b≠a:=fun z=>h (z▸rb);rw[Zu this];exact e) fun b φ e=>by
 have:b≠a:=fun z=>hx φ (z▸e);rw[Zu this];exact e
def VU (i:Nat)(f:Zb->M D):Zb->M Out:=fun ρ=>Zn (f ρ) fun d=>match (ρ[i]?).bind id with
 | some (.lst ds)=>if ds.length<sizeLine then Zx (.nx (ρ.set i (some (.lst (ds ++ [d]))))) else ZC
 | _=>ZC
theorem ZmX {i:Nat}{ob:List Nat}{te:TE}{r1:Bool}(hi:i∈own)(hy:VT G own r1 te f) :
  Dos G ob own own fr (ZiF (tBM X.K "list" Zdh (Y1 i) (UE te UK))) (VU i f):=fun kn jU H0 σ H ρ s out s' E ⟨Hf,j⟩ st e po=>by
 obtain⟨d,s1,a1,a2⟩:=ZB e
 cases hb:(ρ[i]?).bind id with
 | none=>rw[hb] at a2;cases a2
 | some c=>
  rw[hb] at a2
  cases c with
  | lst ds=>
   have a2':(if ds.length<sizeLine then Zx (.nx (ρ.set i (some (.lst (ds ++ [d]))))) else ZC) s1=some (out,s'):=a2;obtain⟨c2,a3⟩:=Xw a2';obtain⟨rfl,rfl⟩:=ZW a3;have ei:=Zfj hb;obtain⟨a,vs,h1,h2,h3,h4⟩:=ZiM j hi ei;refine⟨_,h1,.inl ⟨rfl,vs,ZH.of h3⟩,?_⟩;refine hy kn jU H0 σ Hf H ρ s d s' _ j st a1 fun v Hf' H' j' e1 e2 st' r fz=>?_;obtain⟨a',vs',h1',h2',h3',h4'⟩:=ZiM j' hi ei;rw[h1] at h1';cases h1';refine⟨a,vs',v,rfl,rfl,h3',by rw[<-h4'.length];exact c2,?_⟩;exact po σ _ ⟨Hf',j'.put hi ei h1 ⟨vs' ++ [v],Z8,h4'.append (.one r)⟩⟩ (jy st' h2)
  | _=>cases a2
theorem Bs {i:Nat}{x:Str}{e:Expr}{pos p1 p2 p3:Pos}{te:TE}(hv:PE X (.Name x p1) (Y1 i))(p:PE X e te)
  (hbase:attributeBase (.Name x p1) "append" X.env (eval (.Name x p1) X.env)=eval (.Name x p1) X.env:=by rfl)
  (hfew:((backTo p3 (starEach [e] X.env)).all (fun x=>!x.1)&&(backToKw p3 (keywordEach [] X.env)).all (fun x=>x.1.isSome)
   && decide ([e].length+([]:List Keyword).length+(if ([]:List Keyword).isEmpty then 0 else 1)<30))=true:=by rfl)
  (hline:(p2.endLine==p3.line)=true:=by rfl) (hs:starEach [e] X.env=(false,eval e X.env)::starEach [] X.env:=by rfl)
  (hsw:swapsWith (.Call (.Attribute (.Name x p1) "append" p2) [e] [] p3) none pos.line X.env=pure false:=by rfl) :
  PS X (.Expr (.Call (.Attribute (.Name x p1) "append" p2) [e] [] p3) pos) (ZiF (tBM X.K "list" Zdh (Y1 i) (UE te UK))):=
 ZmC (ZnM qbl PySem.F.slot_list_append PySem.F.type_list_append ZeD hv (Y6 p XC hs) hbase hfew hline hs rfl) hsw
section
variable {i:Nat}{x:Str}{e:Expr}{pos p1 p2 p3:Pos}{r1:Bool}{ob:List Nat}{st:Stmt}
theorem By (hi:i∈own)(he:PD X G r1 e f)(hp:∀te,PE X e te->PS X st (ZiF (tBM X.K "list" Zdh (Y1 i) (UE te UK)))):Xi X G ob own own fr st (VU i (fun ρ=>f (Ye own ρ))):=by
 obtain⟨t,p,q⟩:=he;exact⟨_,hp t p,ZmX hi (W8.a q)⟩
end
end
section
variable {X:Cx}{G:Gh}
def dI (C:Int->Int->Bool)(g:Int->Int->D):D->D->Option D
 | .int i,.int j=>if C i j=true then some (g i j) else none
 | _,_=>none
theorem Zfk {C:Int->Int->Bool}{g:Int->Int->D}{d e c:D}(h:dI C g d e=some c):∃i j,d=.int i/\e=.int j/\C i j=true/\c=g i j:=by
 match d,e,h with
 | .int i,.int j,h=>
  have h':(if C i j=true then some (g i j) else none)=some c:=h;split at h'
  ·rename_i hc;cases h';exact⟨i,j,rfl,rfl,hc,rfl⟩
  ·cases h'
theorem Zk1 {f:Value->Value->Sem Value}{C:Int->Int->Prop}{Cb:Int->Int->Bool}{g:Int->Int->Int}(h:YC X f (rI C fun i j=>.int (g i j)))(hc:∀i j,Cb i j=true->C i j):Xv X G f (dI Cb fun i j=>.int (g i j)):=
 ⟨_,h,fun Hf H s x y d e c Q e1 st rx ry q k=>by
  obtain⟨i,j,rfl,rfl,hcb,rfl⟩:=Zfk q;exact⟨i,j,ja.mp rx,ja.mp ry,hc i j hcb,k _ Hf H (.refl e1) st (ja.mpr rfl) (.scal fun z=>z)⟩⟩
theorem ZoJ {f:Value->Value->Sem Value}{g:Int->Int->Int}(h:YC X f (VE fun i j=>.int (g i j))):Xv X G f (dI (fun _ _=>true) fun i j=>.int (g i j)):=
 ⟨_,h,fun Hf H s x y d e c Q e1 st rx ry q k=>by
  obtain⟨i,j,rfl,rfl,hcb,rfl⟩:=Zfk q;exact⟨i,j,ja.mp rx,ja.mp ry,k _ Hf H (.refl e1) st (ja.mpr rfl) (.scal fun z=>z)⟩⟩
theorem ZhM {f:Value->Value->Sem Value}{g:Int->Int->Bool}(h:YC X f (VE fun i j=>.bl (g i j))):Xv X G f (dI (fun _ _=>true) fun i j=>.bl (g i j)):=
 ⟨_,h,fun Hf H s x y d e c Q e1 st rx ry q k=>by
  obtain⟨i,j,rfl,rfl,hcb,rfl⟩:=Zfk q;exact⟨i,j,ja.mp rx,ja.mp ry,k _ Hf H (.refl e1) st (jd.mpr rfl) (.scal fun z=>z)⟩⟩
def We:=dI (fun _ _=>true) fun i j=>.int (i-j)
def J5 (i j:Int):Bool:=(decide (-(2 ^ 64)<i)&&decide (i<2 ^ 64))||(decide (-(2 ^ 64)<j)&&decide (j<2 ^ 64))
def Uj:=dI J5 fun i j=>.int (i*j)
def UN:=dI (fun _ j=>decide (0<j)) fun i j=>.int (i % j)
def Jq:=dI (fun i j=>decide (0<=j)&&decide (j<=1000000)&&decide (i.natAbs<2 ^ 64)) fun i j=>.int (i ^ j.toNat)
theorem JT:Xv X G (binaryOp .Sub) We:=ZoJ Zos
theorem U9:Xv X G (binaryOp .Mult) Uj:=Zk1 ZhB fun i j h=>by
 simp only[J5,Bool.or_eq_true,qL,decide_eq_true_eq] at h;exact h
theorem Zdj:Xv X G (binaryOp .Mod) UN:=Zk1 Zfe fun i j h=>by simpa using h
theorem ZiN:Xv X G (binaryOp .Pow) Jq:=Zk1 Zot fun i j h=>by
 simp only[qL,decide_eq_true_eq] at h;exact⟨h.1.1,h.1.2,h.2⟩
def XS:=dI (fun _ _=>true) fun i j=>.bl (decide (i<=j))
def B7:=dI (fun _ _=>true) fun i j=>.bl (decide (j<i))
def VY:=dI (fun _ _=>true) fun i j=>.bl (decide (j<=i))
theorem VI:Xv X G (compareOp .LtE) XS:=ZhM Zpv
theorem Zk2:Xv X G (compareOp .Gt) B7:=ZhM ZnK
theorem Zk3:Xv X G (compareOp .GtE) VY:=ZhM Zpw
def ZM:List D->Option (List Int)
 | []=>some []
 | .int i::ds=>(ZM ds).map (i :: ·)
 | _::_=>none
theorem Wo:∀{ds:List D} {ns:List Int},ZM ds=some ns->ds=ns.map D.int
 | [],ns,h=>by simp[ZM] at h;subst h;rfl
 | .int i::ds,ns,h=>by
  cases e:ZM ds with
  | none=>simp[ZM,e] at h
  | some ms=>simp[ZM,e] at h;subst h;simp[Wo e]
 | .non::_,_,h=>by simp[ZM] at h
 | .bl _::_,_,h=>by simp[ZM] at h
 | .str _::_,_,h=>by simp[ZM] at h
 | .tup _::_,_,h=>by simp[ZM] at h
 | .lst _::_,_,h=>by simp[ZM] at h
 | .dk _::_,_,h=>by simp[ZM] at h
 | .dt _::_,_,h=>by simp[ZM] at h
 | .du _::_,_,h=>by simp[ZM] at h
 | .df _::_,_,h=>by simp[ZM] at h
 | .pen::_,_,h=>by simp[ZM] at h
 | .ty _::_,_,h=>by simp[ZM] at h
theorem Bo (ns:List Int):ZM (ns.map D.int)=some ns:=by
 induction ns with
 | nil=>rfl
 | cons n ns ih=>simp[ZM,ih]
theorem jk {H:Hp}:∀{ns:List Int} {vs:List V},Zm G H (ns.map D.int) vs->vs=ns.map V.int
 | [],vs,h=>Zm.nil_iff.mp h
 | n::ns,vs,h=>by
  obtain⟨v,r,rfl,h1,h2⟩:=je.mp h;rw[ja.mp h1,jk h2];rfl
def W9:D->D->Option D
 | .int i,.int j=>some (.bl (decide (i<j)))
 | .tup a,.tup b=>match ZM a,ZM b with | some ns,some ms=>some (.bl (HT.lexLt ns ms)) | _,_=>none
 | _,_=>none
theorem Zfl (hu:X.A.units<cLine):Xv X G (compareOp .Lt) W9:=
 ⟨_,ZkJ.or (ZoA hu),fun Hf H s x y d e c Q e1 st rx ry q k=>by
  match d,e,q,rx,ry with
  | .int i,.int j,q,rx,ry=>
   cases q
   exact .inl ⟨i,j,ja.mp rx,ja.mp ry,k _ Hf H (.refl e1) st (jd.mpr rfl) (.scal fun z=>z)⟩
  | .tup a,.tup b,q,rx,ry=>
   have q:(match ZM a,ZM b with | some ns,some ms=>some (D.bl (HT.lexLt ns ms)) | _,_=>none)=some c:=q
   cases ea:ZM a with
   | none=>rw[ea] at q;simp at q
   | some ns=>
    cases eb:ZM b with
    | none=>rw[ea,eb] at q;simp at q
    | some ms=>
     rw[ea,eb] at q
     cases q
     rw[Wo ea] at rx;rw[Wo eb] at ry;obtain⟨p,vs,rfl,np,hp,rp⟩:=jc.mp rx;obtain⟨p2,vs2,rfl,np2,hp2,rp2⟩:=jc.mp ry;rw[jk rp] at hp;rw[jk rp2] at hp2;exact .inr ⟨p,p2,ns,ms,rfl,rfl,ZT.of (e1 _ _ np hp),ZT.of (e1 _ _ np2 hp2),k _ Hf H (.refl e1) st (jd.mpr rfl) (.scal fun z=>z)⟩⟩
theorem ZmY:YC X (binaryOp .Add) (fun x y H Q=>∃a b ys,x=.ref a/\y=.ref b/\ZT X.K H a []/\ZT X.K H b ys/\Q (.ref b) H):=by
 intro jE s σ H x y v u Q I rx ry h;obtain⟨a,b,ys,rfl,rfl,ha,hb,q⟩:=h
 cases rx
 cases ry
 obtain⟨jG,r1,p1,_⟩:=I.tuple ha;obtain⟨jT,r2,p2,_⟩:=I.tuple hb;have e0:jG=[]:=by cases r1;rfl
 subst e0;obtain⟨⟨cls,dd,data,sl⟩,ho,hc,n,hd⟩:=id p1;obtain⟨⟨cls2,dd2,data2,sl2⟩,ho2,hc2,n2,hd2⟩:=id p2;simp only at hc hd hc2 hd2;subst hc hd hc2 hd2;exact concat_meets ⟨_,ho,rfl⟩ ⟨_,ho2,rfl⟩ noFill_tuple_add seq_tuple_add qaz qaq (qag _ _)
   (tuple_addW0 a b ([]:List Value).toArray jT.toArray n n2 dd dd2 sl sl2 rfl) ⟨ho,ho2,⟨.ref b,H,I,rfl,q⟩⟩
def Y4:D->D->Option D
 | .int i,.int j=>some (.int (i+j))
 | .tup a,.tup b=>if a.length+b.length<=sizeLine then some (.tup (a++b)) else none
 | .lst a,.lst b=>if a.length+b.length<=sizeLine then some (.lst (a++b)) else none
 | _,_=>none
theorem WB:Xv X G (binaryOp .Add) Y4:=
 ⟨_,ZhA.or (ZoD.or (ZmM.or ZmY)),fun Hf H s x y d e c Q e1 st rx ry q k=>by
  match d,e,q,rx,ry with
  | .int i,.int j,q,rx,ry=>
   cases q
   exact .inl ⟨i,j,ja.mp rx,ja.mp ry,k _ Hf H (.refl e1) st (ja.mpr rfl) (.scal fun z=>z)⟩
  | .lst a,.lst b,q,rx,ry=>
   have q:(if a.length+b.length<=sizeLine then some (D.lst (a++b)) else none)=some c:=q;split at q
   ·rename_i hz
    cases q
    obtain⟨p,vs,rfl,np,hp,rp⟩:=jb.mp rx;obtain⟨p2,vs2,rfl,np2,hp2,rp2⟩:=jb.mp ry;refine .inr (.inl ⟨p,p2,vs,vs2,rfl,rfl,e1 _ _ np hp,e1 _ _ np2 hp2,by rw[<-rp.length,<-rp2.length];exact hz,fun l hl=>?_⟩);have nf:=Gh.nofp st hl;have g2:=Gr.new (o:=.lst (vs++vs2)) e1 hl nf;have rr:=rp.append rp2;exact k (.ref l) _ _ g2 (Gh.grow st hl) (jb.mpr ⟨l,_,rfl,nf,Z8,rr.ext g2.ff⟩) (YH.mk e1 hl nf rr)
   ·cases q
  | .tup a,.tup b,q,rx,ry=>
   have q:(if a.length+b.length<=sizeLine then some (D.tup (a++b)) else none)=some c:=q;split at q
   ·rename_i hz
    cases q
    obtain⟨p,vs,rfl,np,hp,rp⟩:=jc.mp rx;obtain⟨p2,vs2,rfl,np2,hp2,rp2⟩:=jc.mp ry;by_cases hv:vs=[]
    ·subst hv
     have ea:a=[]:=qar.mp (by rw[rp.length];rfl);subst ea;exact .inr (.inr (.inr ⟨p,p2,vs2,rfl,rfl,ZT.of (e1 _ _ np hp),ZT.of (e1 _ _ np2 hp2),k _ Hf H (.refl e1) st ry (.scal fun z=>z)⟩))
    ·refine .inr (.inr (.inl ⟨p,p2,vs,vs2,rfl,rfl,ZT.of (e1 _ _ np hp),ZT.of (e1 _ _ np2 hp2),hv,by rw[<-rp.length,<-rp2.length];exact hz,fun z=>?_,fun _ l hl=>?_⟩))
     ·subst z
      have eb:b=[]:=qar.mp (by rw[rp2.length];rfl);subst eb;rw[zx] at k;exact k _ Hf H (.refl e1) st rx (.scal fun z=>z)
     ·have nf:=Gh.nofp st hl
      have g2:=Gr.new (o:=.tup (vs++vs2)) e1 hl nf;exact k (.ref l) _ _ g2 (Gh.grow st hl) (jc.mpr ⟨l,_,rfl,nf,Z8,(rp.append rp2).ext g2.ff⟩) (.scal fun z=>z)
   ·cases q⟩
def Zj:D->D->Option D
 | .lst ds,.int i=>Xu ds i
 | .tup ds,.int i=>Xu ds i
 | _,_=>none
theorem ZiO {Hf:Hp}{ds:List D}{vs:List V}{i:Int}{c:D}(r:Zm G Hf ds vs)(h:Xu ds i=some c):∃v,Xu vs i=some v/\Zp G Hf c v:=by
 unfold Xu at h⊢;rw[<-r.length]
 cases e:UR ds.length i with
 | none=>rw[e] at h;cases h
 | some j=>
  rw[e] at h;obtain⟨v,h1,h2⟩:=r.get (i:=j) (d:=c) h;exact⟨v,h1,h2⟩
theorem ZQ:IxD X G Zj:=
 ⟨_,Ve.or ZoB,fun Hf H s x y d e c Q e1 st rx ry q k=>by
  match d,e,q,rx,ry with
  | .lst ds,.int i,q,rx,ry=>
   obtain⟨p,vs,rfl,np,hp,rp⟩:=jb.mp rx;obtain⟨v,h1,h2⟩:=ZiO rp q;exact .inl ⟨p,vs,i,v,rfl,ja.mp ry,ZH.of (e1 _ _ np hp),h1,k v h2⟩
  | .tup ds,.int i,q,rx,ry=>
   obtain⟨p,vs,rfl,np,hp,rp⟩:=jc.mp rx;obtain⟨v,h1,h2⟩:=ZiO rp q;exact .inr ⟨p,vs,i,v,rfl,ja.mp ry,ZT.of (e1 _ _ np hp),h1,k v h2⟩⟩
theorem jg {H:Hp}{d:D}{xs:List V}(h:Zm G H [d] xs):∃v,xs=[v]/\Zp G H d v:=by
 obtain⟨v,r,rfl,h1,h2⟩:=je.mp h;rw[Zm.nil_iff.mp h2];exact⟨v,rfl,h1⟩
theorem jp {H:Hp}{d e:D}{xs:List V}(h:Zm G H [d,e] xs):∃v w,xs=[v,w]/\Zp G H d v/\Zp G H e w:=by
 obtain⟨v,r,rfl,h1,h2⟩:=je.mp h;obtain⟨w,rfl,h3⟩:=jg h2;exact⟨v,w,rfl,h1,h3⟩
def YR:List D->Option D
 | [.lst ds]=>some (.int ds.length)
 | [.tup ds]=>some (.int ds.length)
 | _=>none
theorem ZhN:XO X G (.builtin "len") YR:=
 ⟨_,ZaA,fun Hf H s xs ds c Q e1 st r q k=>by
  match ds,q,r with
  | [.lst es],q,r=>
   cases q
   obtain⟨v,rfl,rv⟩:=jg r;obtain⟨p,vs,rfl,np,hp,rp⟩:=jb.mp rv;exact⟨p,vs,rfl,.inl (ZH.of (e1 _ _ np hp)),k _ Hf H (.refl e1) st (ja.mpr (by rw[rp.length])) (.scal fun z=>z)⟩
  | [.tup es],q,r=>
   cases q
   obtain⟨v,rfl,rv⟩:=jg r;obtain⟨p,vs,rfl,np,hp,rp⟩:=jc.mp rv;exact⟨p,vs,rfl,.inr (ZT.of (e1 _ _ np hp)),k _ Hf H (.refl e1) st (ja.mpr (by rw[rp.length])) (.scal fun z=>z)⟩⟩
def WN:List D->Option D
 | [.lst ds]=>some (.tup ds)
 | [.tup ds]=>some (.tup ds)
 | _=>none
theorem Up:XO X G (.type "tuple") WN:=
 ⟨_,Zej,fun Hf H s xs ds c Q e1 st r q k=>by
  match ds,q,r with
  | [.lst es],q,r=>
   cases q
   obtain⟨v,rfl,rv⟩:=jg r;obtain⟨p,vs,rfl,np,hp,rp⟩:=jb.mp rv;refine⟨p,vs,rfl,.inl ⟨ZH.of (e1 _ _ np hp),fun l hl=>?_⟩⟩;have nf:=Gh.nofp st hl;have g2:=Gr.new (o:=.tup vs) e1 hl nf;exact k (.ref l) _ _ g2 (Gh.grow st hl) (jc.mpr ⟨l,_,rfl,nf,Z8,rp.ext g2.ff⟩) (.scal fun z=>z)
  | [.tup es],q,r=>
   cases q
   obtain⟨v,rfl,rv⟩:=jg r;obtain⟨p,vs,rfl,np,hp,rp⟩:=jc.mp rv;exact⟨p,vs,rfl,.inr ⟨ZT.of (e1 _ _ np hp),k _ Hf H (.refl e1) st rv (.scal fun z=>z)⟩⟩⟩
def ZnR:List D->Option D
 | [.lst ds]=>some (.lst ds)
 | [.tup ds]=>some (.lst ds)
 | _=>none
theorem Zgu:XO X G (.type "list") ZnR:=
 ⟨_,Zfh,fun Hf H s xs ds c Q e1 st r q k=>by
  match ds,q,r with
  | [.lst es],q,r=>
   cases q
   obtain⟨v,rfl,rv⟩:=jg r;obtain⟨p,vs,rfl,np,hp,rp⟩:=jb.mp rv;refine⟨p,vs,rfl,.inl (ZH.of (e1 _ _ np hp)),fun l hl=>?_⟩;have nf:=Gh.nofp st hl;have g2:=Gr.new (o:=.lst vs) e1 hl nf;exact k (.ref l) _ _ g2 (Gh.grow st hl) (jb.mpr ⟨l,_,rfl,nf,Z8,rp.ext g2.ff⟩) (YH.mk e1 hl nf rp)
  | [.tup es],q,r=>
   cases q
   obtain⟨v,rfl,rv⟩:=jg r;obtain⟨p,vs,rfl,np,hp,rp⟩:=jc.mp rv;refine⟨p,vs,rfl,.inr (ZT.of (e1 _ _ np hp)),fun l hl=>?_⟩;have nf:=Gh.nofp st hl;have g2:=Gr.new (o:=.lst vs) e1 hl nf;exact k (.ref l) _ _ g2 (Gh.grow st hl) (jb.mpr ⟨l,_,rfl,nf,Z8,rp.ext g2.ff⟩) (YH.mk e1 hl nf rp)⟩
def WP:List D->Option D
 | [.int i,.int j]=>some (.int (if j > i then j else i))
 | _=>none
def Jk:List D->Option D
 | [.int i,.int j]=>some (.int (if j<i then j else i))
 | _=>none
theorem JJ (hc:X.calm=true):XO X G (.builtin "max") WP:=
 ⟨_,Zjv hc,fun Hf H s xs ds c Q e1 st r q k=>by
  match ds,q,r with
  | [.int i,.int j],q,r=>
   cases q
   obtain⟨v,w,rfl,rv,rw'⟩:=jp r;rw[ja.mp rv,ja.mp rw'];exact⟨i,j,rfl,k _ Hf H (.refl e1) st (ja.mpr rfl) (.scal fun z=>z)⟩⟩
theorem ZdC (hc:X.calm=true):XO X G (.builtin "min") Jk:=
 ⟨_,Zjw hc,fun Hf H s xs ds c Q e1 st r q k=>by
  match ds,q,r with
  | [.int i,.int j],q,r=>
   cases q
   obtain⟨v,w,rfl,rv,rw'⟩:=jp r;rw[ja.mp rv,ja.mp rw'];exact⟨i,j,rfl,k _ Hf H (.refl e1) st (ja.mpr rfl) (.scal fun z=>z)⟩⟩
def Zk4:List D->Option D
 | [.int i]=>some (.int i)
 | [.bl b]=>some (.int (if b then 1 else 0))
 | _=>none
theorem ZhO:XO X G (.type "int") Zk4:=
 ⟨_,Zjx,fun Hf H s xs ds c Q e1 st r q k=>by
  match ds,q,r with
  | [.int i],q,r=>
   cases q
   obtain⟨v,rfl,rv⟩:=jg r;rw[ja.mp rv];exact .inl ⟨i,rfl,k _ Hf H (.refl e1) st (ja.mpr rfl) (.scal fun z=>z)⟩
  | [.bl i],q,r=>
   cases q
   obtain⟨v,rfl,rv⟩:=jg r;rw[jd.mp rv];exact .inr ⟨i,rfl,k _ Hf H (.refl e1) st (ja.mpr rfl) (.scal fun z=>z)⟩⟩
theorem Vv {x:Str}{n:String}{pos:Pos}(hg:Gl X x)(hm:X.mg x=none)(hv:bootBuiltins x=some (.type n))(hn:x≠"__name__":=by decide)(hd:(x==("__debug__" : Str))=false:=by decide):PD X G true (.Name x pos) (dC (.ty n)):=by
 refine⟨_,ZmA (v:=.ty n) hg hm hv rfl hn hd,fun σ Hf H ρ s d s' Q e1 e2 e3 e4 k=>?_⟩;obtain⟨rfl,rfl⟩:=ZW e4;exact k _ Hf H (.refl e1) e3 (js.mpr rfl) fun _=>.scal fun z=>z
def Zfm:D->Option String
 | .non=>some "NoneType"
 | .bl _=>some "bool"
 | .int _=>some "int"
 | .str _=>some "str"
 | .tup _=>some "tuple"
 | .lst _=>some "list"
 | .dk _=>some "dict"
 | .dt _=>none
 | .du _=>none
 | .df _=>none
 | _=>none
def BQ:List String:=["int","bool","str","tuple","list","dict"]
def Vo:List D->Option D
 | [d,.ty T]=>match Zfm d with
  | some n=>if BQ.contains T then some (.bl (n==T||(n == "bool" && T == "int"))) else none
  | none=>none
 | _=>none
theorem ZmZ (K:qm):∀n∈["NoneType","bool","int","str","tuple","list","dict"],∀T∈BQ,PySem.W.kitOne K (.type n) (.type T)=some (n==T||(n == "bool" && T == "int")):=by
 intro n hn T hT;simp only[BQ,qq,zd,or_false] at hn hT;rcases hn with rfl | rfl | rfl | rfl | rfl | rfl | rfl <;> rcases hT with rfl | rfl | rfl | rfl | rfl | rfl <;> rfl
theorem ZjH {Hf H:Hp}{d:D}{v:V}{n:String}(e1:ZL G Hf H)(r:Zp G Hf d v)(h:Zfm d=some n):TyOf X.K H v (.type n)/\n∈["NoneType","bool","int","str","tuple","list","dict"]:=by
 cases d with
 | non=>cases h;rw[ji.mp r];exact⟨.non,by decide⟩
 | bl b=>cases h;rw[jd.mp r];exact⟨.bl b,by decide⟩
 | int b=>cases h;rw[ja.mp r];exact⟨.int b,by decide⟩
 | str b=>cases h;rw[jh.mp r];exact⟨.str b,by decide⟩
 | tup ds=>cases h;obtain⟨p,vs,rfl,np,hp,rp⟩:=jc.mp r;exact⟨.tup (e1 _ _ np hp),by decide⟩
 | lst ds=>cases h;obtain⟨p,vs,rfl,np,hp,rp⟩:=jb.mp r;exact⟨.lst (e1 _ _ np hp),by decide⟩
 | dk ds=>cases h;obtain⟨p,rfl,np,hp⟩:=jj.mp r;exact⟨.dK (e1 _ _ np hp),by decide⟩
 | dt ds=>cases h
 | du ds=>cases h
 | df ds=>cases h
 | pen=>cases h
 | ty _=>cases h
 | clo _ _=>cases h
theorem ZjI:Y9 X (.builtin "isinstance") (fun xs H Q=>∃x n T,xs=[x,.ty T]/\TyOf X.K H x (.type n)/\n∈["NoneType","bool","int","str","tuple","list","dict"]/\T∈BQ/\Q (.bl (n==T||(n == "bool" && T == "int"))) H):=by
 intro jE s σ H xs us Q I r h;obtain⟨x,n,T,rfl,ty,hn,hT,q⟩:=h;obtain⟨u,w',rfl,ru,rw'⟩:=ZkK r
 cases (show w'=yu T from rw')
 exact Zjz I ru ty (ZmZ X.K n hn T hT) fun tk=>⟨.bl _,H,I.tok tk,rfl,q⟩
theorem Vq:XO X G (.builtin "isinstance") Vo:=
 ⟨_,ZjI,fun Hf H s xs ds c Q e1 st r q k=>by
  match ds,q,r with
  | [d,.ty T],q,r=>
   obtain⟨v,w,rfl,rv,rw'⟩:=jp r;rw[js.mp rw'];have q:(match Zfm d with | some n=>if BQ.contains T then some (D.bl (n==T||(n == "bool" && T == "int"))) else none | none=>none)=some c:=q
   cases e:Zfm d with
   | none=>rw[e] at q;cases q
   | some n=>
    rw[e] at q;simp only at q;split at q
    ·rename_i hk
     cases q
     obtain⟨t1,t2⟩:=ZjH (X:=X) e1 rv e;exact⟨v,n,T,rfl,t1,t2,by simpa using hk,k _ Hf H (.refl e1) st (jd.mpr rfl) (.scal fun z=>z)⟩
    ·cases q⟩
end
mutual
def Zr:D->Bool
 | .non=>true
 | .bl _=>true
 | .int _=>true
 | .str _=>true
 | .tup ds=>Yv ds
 | .lst ds=>Yv ds
 | _=>false
def Yv:List D->Bool
 | []=>true
 | d::ds=>Zr d&&Yv ds
end
mutual
def Z7:D->Nat
 | .tup ds=>Xb ds+1
 | .lst ds=>Xb ds+1
 | _=>0
def Xb:List D->Nat
 | []=>0
 | d::ds=>max (Z7 d) (Xb ds)
end
theorem JU:∀{ds:List D} {d:D},d∈ds->Z7 d<=Xb ds
 | e::ds,d,h=>by
  rcases qq.mp h with rfl | h
  ·simp only[Xb];omega
  ·have:=JU h
   simp only[Xb];omega
theorem U4:∀{ds:List D} {d:D},Yv ds=true->d∈ds->Zr d=true
 | e::ds,d,n,h=>by
  have n':Zr e=true/\Yv ds=true:=by simpa[Yv] using n
  rcases qq.mp h with rfl | h
  ·exact n'.1
  ·exact U4 n'.2 h
mutual
def ZR:D->D->Bool
 | .non,.non=>true
 | .bl a,.bl b=>a==b
 | .bl a,.int i=>(if a then 1 else 0)==i
 | .int i,.bl b=>i==(if b then 1 else 0)
 | .int i,.int j=>i==j
 | .str x,.str y=>x==y
 | .tup a,.tup b=>XE a b
 | .lst a,.lst b=>XE a b
 | _,_=>false
def XE:List D->List D->Bool
 | [],[]=>true
 | a::as,b::bs=>ZR a b&&XE as bs
 | _,_=>false
end
mutual
theorem ZbY:∀d:D,Zr d=true->ZR d d=true
 | .non,_=>by simp[ZR]
 | .bl _,_=>by simp[ZR]
 | .int _,_=>by simp[ZR]
 | .str _,_=>by simp[ZR]
 | .tup ds,h=>by simp only[ZR];exact Zcr ds (by simpa[Zr] using h)
 | .lst ds,h=>by simp only[ZR];exact Zcr ds (by simpa[Zr] using h)
 | .dk _,h=>by simp[Zr] at h
 | .dt _,h=>by simp[Zr] at h
 | .du _,h=>by simp[Zr] at h
 | .df _,h=>by simp[Zr] at h
 | .pen,h=>by simp[Zr] at h
 | .ty _,h=>by simp[Zr] at h
 | .clo _ _,h=>by simp[Zr] at h
theorem Zcr:∀ds:List D,Yv ds=true->XE ds ds=true
 | [],_=>by simp[XE]
 | d::ds,h=>by
  have n':Zr d=true/\Yv ds=true:=by simpa[Yv] using h
  simp only[XE,ZbY d n'.1,Zcr ds n'.2,Bool.and_self]
end
theorem ZdD:∀{a b:List D},XE a b=true->a.length=b.length
 | [],[],_=>rfl
 | a::as,b::bs,h=>by
  have:ZR a b=true/\XE as bs=true:=by simpa[XE] using h
  simp[ZdD this.2]
 | [],_::_,h=>by simp[XE] at h
 | _::_,[],h=>by simp[XE] at h
theorem ZbK:∀(a b:List D),a.length=b.length->(qp a.length).all (fun j=>ZR (a.getD j .non) (b.getD j .non))=XE a b
 | [],[],_=>rfl
 | a::as,b::bs,h=>by
  have h':as.length=bs.length:=by simpa using h
  rw[qY,qaA,List.all_cons,qb2,XE,<-ZbK as bs h'];rfl
 | [],_::_,h=>by simp at h
 | _::_,[],h=>by simp at h
theorem Zgv:∀(a b:List D),((qp (min a.length b.length)).all (fun j=>ZR (a.getD j .non) (b.getD j .non))&&a.length==b.length)=XE a b:=fun a b=>by
 by_cases h:a.length=b.length
 ·rw[<-ZbK a b h,h];simp
 ·have:XE a b=false:=by
   cases e:XE a b with
   | false=>rfl
   | true=>exact absurd (ZdD e) h
  rw[this];simp[h]
mutual
theorem Zp.inj {G:Gh}{H:Hp}:∀{d e:D} {v:V},Zr d=true->Zr e=true->Zp G H d v->Zp G H e v->d=e
 | .non,e,v,_,pe,h,h'=>by
  rw[ji.mp h] at h'
  cases e <;> first | rfl | (simp[Zr] at pe;done) | (simp[Zp] at h')
 | .bl b,e,v,_,pe,h,h'=>by
  rw[jd.mp h] at h'
  cases e <;> first | (simp[Zr] at pe;done) | (simp[Zp] at h';rw[h']) | (simp[Zp] at h')
 | .int b,e,v,_,pe,h,h'=>by
  rw[ja.mp h] at h'
  cases e <;> first | (simp[Zr] at pe;done) | (simp[Zp] at h';rw[h']) | (simp[Zp] at h')
 | .str b,e,v,_,pe,h,h'=>by
  rw[jh.mp h] at h'
  cases e <;> first | (simp[Zr] at pe;done) | (simp[Zp] at h';rw[h']) | (simp[Zp] at h')
 | .tup ds,e,v,pd,pe,h,h'=>by
  obtain⟨a,vs,rfl,n,q,r⟩:=jc.mp h
  cases e with
  | tup es=>
   obtain⟨a',vs',e',n',q',r'⟩:=jc.mp h'
   cases e'
   rw[q] at q';cases q';rw[Zm.inj (by simpa[Zr] using pd) (by simpa[Zr] using pe) r r']
  | lst es=>
   obtain⟨a',vs',e',n',q',r'⟩:=jb.mp h'
   cases e'
   rw[q] at q';cases q'
  | _=>first | (simp[Zp] at h';done) | (simp[Zr] at pe;done)
 | .lst ds,e,v,pd,pe,h,h'=>by
  obtain⟨a,vs,rfl,n,q,r⟩:=jb.mp h
  cases e with
  | lst es=>
   obtain⟨a',vs',e',n',q',r'⟩:=jb.mp h'
   cases e'
   rw[q] at q';cases q';rw[Zm.inj (by simpa[Zr] using pd) (by simpa[Zr] using pe) r r']
  | tup es=>
   obtain⟨a',vs',e',n',q',r'⟩:=jc.mp h'
   cases e'
   rw[q] at q';cases q'
  | _=>first | (simp[Zp] at h';done) | (simp[Zr] at pe;done)
 | .dk _,_,_,pd,_,_,_=>by simp[Zr] at pd
 | .dt _,_,_,pd,_,_,_=>by simp[Zr] at pd
 | .du _,_,_,pd,_,_,_=>by simp[Zr] at pd
 | .df _,_,_,pd,_,_,_=>by simp[Zr] at pd
 | .pen,_,_,pd,_,_,_=>by simp[Zr] at pd
 | .ty _,_,_,pd,_,_,_=>by simp[Zr] at pd
 | .clo _ _,_,_,pd,_,_,_=>by simp[Zr] at pd
theorem Zm.inj {G:Gh}{H:Hp}:∀{ds es:List D} {vs:List V},Yv ds=true->Yv es=true->Zm G H ds vs->Zm G H es vs->ds=es
 | [],es,vs,_,pe,h,h'=>by
  rw[Zm.nil_iff.mp h] at h'
  cases es with
  | nil=>rfl
  | cons e es=>obtain⟨v,r,e1,_⟩:=je.mp h';cases e1
 | d::ds,es,vs,pd,pe,h,h'=>by
  obtain⟨v,r,rfl,r1,r2⟩:=je.mp h;have pd':Zr d=true/\Yv ds=true:=by simpa[Yv] using pd
  cases es with
  | nil=>have:=Zm.nil_iff.mp h';cases this
  | cons e es=>
   obtain⟨v',r',e1,r1',r2'⟩:=je.mp h'
   cases e1
   have pe':Zr e=true/\Yv es=true:=by simpa[Yv] using pe
   rw[Zp.inj pd'.1 pe'.1 r1 r1',Zm.inj pd'.2 pe'.2 r2 r2']
end
section
variable {X:Cx}{G:Gh}{jE:List (Addr×Obj)}{σ:St}{Hf H:Hp}{s:Shared}
theorem Bt (A:Around):A.in1.units=A.units+1:=rfl
theorem Zdk {ds:List D}{vs:List V}{us:List Value}(r:Zm G Hf ds vs)(rv:ZI vs us){j:Nat}(h:j<us.toArray.size):∃v,Zp G Hf (ds.getD j .non) v/\ZK v us.toArray[j]/\ds.getD j .non∈ds:=by
 have hl:j<ds.length:=by rw[r.length,rv.length];simpa using h
 have e:ds[j]?=some (ds.getD j .non):=by simp[qaF,hl]
 obtain⟨v,h1,h2⟩:=r.get e;obtain⟨u,h3,h4⟩:=rv.get h1;refine⟨v,h2,?_,?_⟩
 ·have:us.toArray[j]=u:=by
   have h':j<us.length:=by simpa using h
   have q:us[j]?=some us[j]:=by simp[h']
   rw[h3] at q;simpa using(zf q).symm
  rw[this];exact h4
 ·simp[qaF,hl]
theorem Zk5 (I:Inv X jE σ H s)(e1:ZL G Hf H):∀(n:Nat) (A:Around) (d e:D) (x y:V) (u v:Value),Z7 d<=n->Z7 e<=n->A.units+n+1<cLine->Zr d=true->Zr e=true->Zp G Hf d x->Zp G Hf e y->ZK x u->ZK y v->
  yK A s u v (ZR d e)/\qbL A s u v (ZR d e)/\qa9 A s u v (!ZR d e):=by
 intro n
 induction n with
 | zero=>
  intro A d e x y u v hd he hu pd pe rd re ru rv;have hu':A.units<cLine:=by omega
  cases d with
  | tup ds=>simp[Z7] at hd
  | lst ds=>simp[Z7] at hd
  | dk _=>simp[Zr] at pd
  | dt _=>simp[Zr] at pd
  | du _=>simp[Zr] at pd
  | df _=>simp[Zr] at pd
  | pen=>simp[Zr] at pd
  | ty _=>simp[Zr] at pd
  | clo _ _=>simp[Zr] at pd
  | non=>
   rw[ji.mp rd] at ru
   cases (show u=qR from ru)
   cases e with
   | tup ds=>simp[Z7] at he
   | lst ds=>simp[Z7] at he
   | dk _=>simp[Zr] at pe
   | dt _=>simp[Zr] at pe
   | du _=>simp[Zr] at pe
   | df _=>simp[Zr] at pe
   | pen=>simp[Zr] at pe
   | ty _=>simp[Zr] at pe
   | clo _ _=>simp[Zr] at pe
   | non=>rw[ji.mp re] at rv;cases (show v=qR from rv);simp only[ZR];exact⟨.same _,.none_none,.none_none⟩
   | bl b=>rw[jd.mp re] at rv;cases (show v=yf b from rv);simp only[ZR];exact⟨.none_bool b,.none_bool b,.none_bool b⟩
   | int b=>rw[ja.mp re] at rv;obtain⟨t,rfl⟩:=rv;simp only[ZR];exact⟨.none_int b t,.none_int b t,.none_int b t⟩
   | str b=>rw[jh.mp re] at rv;obtain⟨t,rfl⟩:=rv;simp only[ZR];exact⟨.none_str b t,.none_str b t,.none_str b t⟩
  | bl a=>
   rw[jd.mp rd] at ru
   cases (show u=yf a from ru)
   cases e with
   | tup ds=>simp[Z7] at he
   | lst ds=>simp[Z7] at he
   | dk _=>simp[Zr] at pe
   | dt _=>simp[Zr] at pe
   | du _=>simp[Zr] at pe
   | df _=>simp[Zr] at pe
   | pen=>simp[Zr] at pe
   | ty _=>simp[Zr] at pe
   | clo _ _=>simp[Zr] at pe
   | non=>rw[ji.mp re] at rv;cases (show v=qR from rv);simp only[ZR];exact⟨.bool_none a,.bool_none a,.bool_none a⟩
   | bl b=>rw[jd.mp re] at rv;cases (show v=yf b from rv);simp only[ZR];exact⟨.bool_bool a b,.bool_bool a b,.bool_bool a b⟩
   | int b=>rw[ja.mp re] at rv;obtain⟨t,rfl⟩:=rv;simp only[ZR];exact⟨.bool_int a b t,.bool_int a b t,.bool_int a b t⟩
   | str b=>rw[jh.mp re] at rv;obtain⟨t,rfl⟩:=rv;simp only[ZR];exact⟨.bool_str a b t,.bool_str a b t,.bool_str a b t⟩
  | int a=>
   rw[ja.mp rd] at ru;obtain⟨ta,rfl⟩:=ru
   cases e with
   | tup ds=>simp[Z7] at he
   | lst ds=>simp[Z7] at he
   | dk _=>simp[Zr] at pe
   | dt _=>simp[Zr] at pe
   | du _=>simp[Zr] at pe
   | df _=>simp[Zr] at pe
   | pen=>simp[Zr] at pe
   | ty _=>simp[Zr] at pe
   | clo _ _=>simp[Zr] at pe
   | non=>rw[ji.mp re] at rv;cases (show v=qR from rv);simp only[ZR];exact⟨.int_none a ta,.int_none a ta,.int_none a ta⟩
   | bl b=>rw[jd.mp re] at rv;cases (show v=yf b from rv);simp only[ZR];exact⟨.int_bool a ta b,.int_bool a ta b,.int_bool a ta b⟩
   | int b=>rw[ja.mp re] at rv;obtain⟨t,rfl⟩:=rv;simp only[ZR];exact⟨.int_int a ta b t,.int_int a ta b t,.int_int a ta b t⟩
   | str b=>rw[jh.mp re] at rv;obtain⟨t,rfl⟩:=rv;simp only[ZR];exact⟨.int_str a ta b t,.int_str a ta b t,.int_str a ta b t⟩
  | str a=>
   rw[jh.mp rd] at ru;obtain⟨ta,rfl⟩:=ru
   cases e with
   | tup ds=>simp[Z7] at he
   | lst ds=>simp[Z7] at he
   | dk _=>simp[Zr] at pe
   | dt _=>simp[Zr] at pe
   | du _=>simp[Zr] at pe
   | df _=>simp[Zr] at pe
   | pen=>simp[Zr] at pe
   | ty _=>simp[Zr] at pe
   | clo _ _=>simp[Zr] at pe
   | non=>rw[ji.mp re] at rv;cases (show v=qR from rv);simp only[ZR];exact⟨.str_none a ta,.str_none a ta,.str_none a ta⟩
   | bl b=>rw[jd.mp re] at rv;cases (show v=yf b from rv);simp only[ZR];exact⟨.str_bool a ta b,.str_bool a ta b,.str_bool a ta b⟩
   | int b=>rw[ja.mp re] at rv;obtain⟨t,rfl⟩:=rv;simp only[ZR];exact⟨.str_int a ta b t,.str_int a ta b t,.str_int a ta b t⟩
   | str b=>rw[jh.mp re] at rv;obtain⟨t,rfl⟩:=rv;simp only[ZR];exact⟨.str_str a ta b t,.str_str a ta b t,.str_str a ta b t⟩
 | succ n ih=>
  intro A d e x y u v hd he hu pd pe rd re ru rv;have hu':A.units<cLine:=by omega
  by_cases hs:Z7 d<=n/\Z7 e<=n
  ·exact ih A d e x y u v hs.1 hs.2 (by omega) pd pe rd re ru rv
  -- two refs
  have same:∀{l b:Addr},x=.ref l->y=.ref b->l=b->ZR d e=true:=fun ex ey el=>by
   subst ex ey el;have:=Zp.inj pd pe rd re;subst this;exact ZbY d pd
  cases d with
  | dk _=>simp[Zr] at pd
  | dt _=>simp[Zr] at pd
  | du _=>simp[Zr] at pd
  | df _=>simp[Zr] at pd
  | pen=>simp[Zr] at pd
  | ty _=>simp[Zr] at pd
  | clo _ _=>simp[Zr] at pd
  | tup ds=>
   obtain⟨l,vs,rfl,nl,hl,rl⟩:=jc.mp rd
   cases (show u=qK l from ru)
   obtain⟨jG,rits,pits,_⟩:=I.tuple (ZT.of (K:=X.K) (e1 _ _ nl hl));have il:s.heap.IsTuple l jG.toArray:=pits
   cases e with
   | dk _=>simp[Zr] at pe
   | dt _=>simp[Zr] at pe
   | du _=>simp[Zr] at pe
   | df _=>simp[Zr] at pe
   | pen=>simp[Zr] at pe
   | ty _=>simp[Zr] at pe
   | clo _ _=>simp[Zr] at pe
   | non=>rw[ji.mp re] at rv;cases (show v=qR from rv);simp only[ZR];exact⟨.tuple_none il hu',.tuple_none il hu',.tuple_none il hu'⟩
   | bl b=>rw[jd.mp re] at rv;cases (show v=yf b from rv);simp only[ZR];exact⟨.tuple_bool b il hu',.tuple_bool b il hu',.tuple_bool b il hu'⟩
   | int b=>rw[ja.mp re] at rv;obtain⟨t,rfl⟩:=rv;simp only[ZR];exact⟨.tuple_int b t il hu',.tuple_int b t il hu',.tuple_int b t il hu'⟩
   | str b=>rw[jh.mp re] at rv;obtain⟨t,rfl⟩:=rv;simp only[ZR];exact⟨.tuple_str b t il hu',.tuple_str b t il hu',.tuple_str b t il hu'⟩
   | lst es=>
    obtain⟨b,ws,rfl,nb,hb,rb⟩:=jb.mp re
    cases (show v=qK b from rv)
    obtain⟨jT,ko,j6,_⟩:=I.list (ZH.of (K:=X.K) (e1 _ _ nb hb));simp only[ZR];exact⟨.tuple_list il j6.isList hu',.tuple_list il j6.isList hu',.tuple_list il j6.isList hu'⟩
   | tup es=>
    obtain⟨b,ws,rfl,nb,hb,rb⟩:=jc.mp re
    cases (show v=qK b from rv)
    obtain⟨jT,ko,j6,_⟩:=I.tuple (ZT.of (K:=X.K) (e1 _ _ nb hb));have ib:s.heap.IsTuple b jT.toArray:=j6;have hit:∀j (h1:j<jG.toArray.size) (h2:j<jT.toArray.size),yK A.in1 s jG.toArray[j] jT.toArray[j] ((fun j=>ZR (ds.getD j .non) (es.getD j .non)) j):=fun j h1 h2=>by
     obtain⟨v1,a1,a2,a3⟩:=Zdk rl rits h1;obtain⟨v2,b1,b2,b3⟩:=Zdk rb ko h2;exact(ih A.in1 _ _ v1 v2 _ _ (qJ (JU a3) (by simp[Z7] at hd;omega)) (qJ (JU b3) (by simp[Z7] at he;omega)) (by rw[Bt];omega)
      (U4 (by simpa[Zr] using pd) a3) (U4 (by simpa[Zr] using pe) b3) a1 b1 a2 b2).1
    have sz1:jG.toArray.size=ds.length:=by rw[rl.length,rits.length];simp
    have sz2:jT.toArray.size=es.length:=by rw[rb.length,ko.length];simp
    have rc:=qbL.tuples (e:=fun j=>ZR (ds.getD j .non) (es.getD j .non)) il ib hu' hit;have rn:=qa9.tuples (e:=fun j=>ZR (ds.getD j .non) (es.getD j .non)) il ib hu' hit;rw[sz1,sz2,Zgv] at rc rn;simp only[ZR];refine⟨?_,rc,rn⟩;by_cases hlb:l=b
    ·have q:=same rfl rfl hlb
     simp only[ZR] at q;subst hlb;rw[q];exact .same _
    ·exact .of_refs hlb rc
  | lst ds=>
   obtain⟨l,vs,rfl,nl,hl,rl⟩:=jb.mp rd
   cases (show u=qK l from ru)
   obtain⟨jG,rits,pits,_⟩:=I.list (ZH.of (K:=X.K) (e1 _ _ nl hl));have il:=pits.isList
   cases e with
   | dk _=>simp[Zr] at pe
   | dt _=>simp[Zr] at pe
   | du _=>simp[Zr] at pe
   | df _=>simp[Zr] at pe
   | pen=>simp[Zr] at pe
   | ty _=>simp[Zr] at pe
   | clo _ _=>simp[Zr] at pe
   | non=>rw[ji.mp re] at rv;cases (show v=qR from rv);simp only[ZR];exact⟨.list_none il hu',.list_none il hu',.list_none il hu'⟩
   | bl b=>rw[jd.mp re] at rv;cases (show v=yf b from rv);simp only[ZR];exact⟨.list_bool b il hu',.list_bool b il hu',.list_bool b il hu'⟩
   | int b=>rw[ja.mp re] at rv;obtain⟨t,rfl⟩:=rv;simp only[ZR];exact⟨.list_int b t il hu',.list_int b t il hu',.list_int b t il hu'⟩
   | str b=>rw[jh.mp re] at rv;obtain⟨t,rfl⟩:=rv;simp only[ZR];exact⟨.list_str b t il hu',.list_str b t il hu',.list_str b t il hu'⟩
   | tup es=>
    obtain⟨b,ws,rfl,nb,hb,rb⟩:=jc.mp re
    cases (show v=qK b from rv)
    obtain⟨jT,ko,j6,_⟩:=I.tuple (ZT.of (K:=X.K) (e1 _ _ nb hb));have ib:s.heap.IsTuple b jT.toArray:=j6;simp only[ZR];exact⟨.list_tuple il ib hu',.list_tuple il ib hu',.list_tuple il ib hu'⟩
   | lst es=>
    obtain⟨b,ws,rfl,nb,hb,rb⟩:=jb.mp re
    cases (show v=qK b from rv)
    obtain⟨jT,ko,j6,_⟩:=I.list (ZH.of (K:=X.K) (e1 _ _ nb hb));have ib:=j6.isList;have hit:∀j (h1:j<jG.toArray.size) (h2:j<jT.toArray.size),yK A.in1 s jG.toArray[j] jT.toArray[j] ((fun j=>ZR (ds.getD j .non) (es.getD j .non)) j):=fun j h1 h2=>by
     obtain⟨v1,a1,a2,a3⟩:=Zdk rl rits h1;obtain⟨v2,b1,b2,b3⟩:=Zdk rb ko h2;exact(ih A.in1 _ _ v1 v2 _ _ (qJ (JU a3) (by simp[Z7] at hd;omega)) (qJ (JU b3) (by simp[Z7] at he;omega)) (by rw[Bt];omega)
      (U4 (by simpa[Zr] using pd) a3) (U4 (by simpa[Zr] using pe) b3) a1 b1 a2 b2).1
    have sz1:jG.toArray.size=ds.length:=by rw[rl.length,rits.length];simp
    have sz2:jT.toArray.size=es.length:=by rw[rb.length,ko.length];simp
    have key:qbL A s (.ref l) (.ref b) (XE ds es)/\qa9 A s (.ref l) (.ref b) (!XE ds es):=by
     by_cases hsz:ds.length=es.length
     ·have rc:=qbL.lists (e:=fun j=>ZR (ds.getD j .non) (es.getD j .non)) il ib (by rw[sz1,sz2];exact hsz) hu' hit
      have rn:=qa9.lists (e:=fun j=>ZR (ds.getD j .non) (es.getD j .non)) il ib (by rw[sz1,sz2];exact hsz) hu' hit;rw[sz1,ZbK ds es hsz] at rc rn;exact⟨rc,rn⟩
     ·have hne:(jG.toArray.size != jT.toArray.size)=true:=by rw[sz1,sz2];simpa using hsz
      have hf:XE ds es=false:=by
       cases e:XE ds es with
       | false=>rfl
       | true=>exact absurd (ZdD e) hsz
      rw[hf];exact⟨.lists_lengths il ib hne hu',.lists_lengths il ib hne hu'⟩
    simp only[ZR];refine⟨?_,key.1,key.2⟩;by_cases hlb:l=b
    ·have q:=same rfl rfl hlb
     simp only[ZR] at q;subst hlb;rw[q];exact .same _
    ·exact .of_refs hlb key.1
  | non=>
   rw[ji.mp rd] at ru
   cases (show u=qR from ru)
   cases e with
   | tup es=>
    obtain⟨b,ws,rfl,nb,hb,rb⟩:=jc.mp re
    cases (show v=qK b from rv)
    obtain⟨jT,ko,j6,_⟩:=I.tuple (ZT.of (K:=X.K) (e1 _ _ nb hb));have ib:s.heap.IsTuple b jT.toArray:=j6;simp only[ZR];exact⟨.none_tuple ib hu',.none_tuple ib hu',.none_tuple ib hu'⟩
   | lst es=>
    obtain⟨b,ws,rfl,nb,hb,rb⟩:=jb.mp re
    cases (show v=qK b from rv)
    obtain⟨jT,ko,j6,_⟩:=I.list (ZH.of (K:=X.K) (e1 _ _ nb hb));have ib:=j6.isList;simp only[ZR];exact⟨.none_list ib hu',.none_list ib hu',.none_list ib hu'⟩
   | _=>simp[Z7] at hs
  | bl a=>
   rw[jd.mp rd] at ru
   cases (show u=yf a from ru)
   cases e with
   | tup es=>
    obtain⟨b,ws,rfl,nb,hb,rb⟩:=jc.mp re
    cases (show v=qK b from rv)
    obtain⟨jT,ko,j6,_⟩:=I.tuple (ZT.of (K:=X.K) (e1 _ _ nb hb));have ib:s.heap.IsTuple b jT.toArray:=j6;simp only[ZR];exact⟨.bool_tuple a ib hu',.bool_tuple a ib hu',.bool_tuple a ib hu'⟩
   | lst es=>
    obtain⟨b,ws,rfl,nb,hb,rb⟩:=jb.mp re
    cases (show v=qK b from rv)
    obtain⟨jT,ko,j6,_⟩:=I.list (ZH.of (K:=X.K) (e1 _ _ nb hb));have ib:=j6.isList;simp only[ZR];exact⟨.bool_list a ib hu',.bool_list a ib hu',.bool_list a ib hu'⟩
   | _=>simp[Z7] at hs
  | int a=>
   rw[ja.mp rd] at ru;obtain⟨ta,rfl⟩:=ru
   cases e with
   | tup es=>
    obtain⟨b,ws,rfl,nb,hb,rb⟩:=jc.mp re
    cases (show v=qK b from rv)
    obtain⟨jT,ko,j6,_⟩:=I.tuple (ZT.of (K:=X.K) (e1 _ _ nb hb));have ib:s.heap.IsTuple b jT.toArray:=j6;simp only[ZR];exact⟨.int_tuple a ta ib hu',.int_tuple a ta ib hu',.int_tuple a ta ib hu'⟩
   | lst es=>
    obtain⟨b,ws,rfl,nb,hb,rb⟩:=jb.mp re
    cases (show v=qK b from rv)
    obtain⟨jT,ko,j6,_⟩:=I.list (ZH.of (K:=X.K) (e1 _ _ nb hb));have ib:=j6.isList;simp only[ZR];exact⟨.int_list a ta ib hu',.int_list a ta ib hu',.int_list a ta ib hu'⟩
   | _=>simp[Z7] at hs
  | str a=>
   rw[jh.mp rd] at ru;obtain⟨ta,rfl⟩:=ru
   cases e with
   | tup es=>
    obtain⟨b,ws,rfl,nb,hb,rb⟩:=jc.mp re
    cases (show v=qK b from rv)
    obtain⟨jT,ko,j6,_⟩:=I.tuple (ZT.of (K:=X.K) (e1 _ _ nb hb));have ib:s.heap.IsTuple b jT.toArray:=j6;simp only[ZR];exact⟨.str_tuple a ta ib hu',.str_tuple a ta ib hu',.str_tuple a ta ib hu'⟩
   | lst es=>
    obtain⟨b,ws,rfl,nb,hb,rb⟩:=jb.mp re
    cases (show v=qK b from rv)
    obtain⟨jT,ko,j6,_⟩:=I.list (ZH.of (K:=X.K) (e1 _ _ nb hb));have ib:=j6.isList;simp only[ZR];exact⟨.str_list a ta ib hu',.str_list a ta ib hu',.str_list a ta ib hu'⟩
   | _=>simp[Z7] at hs
end
section
variable {X:Cx}{G:Gh}
def WS (d e:D):Bool:=Zr d&&Zr e&&decide (Z7 d<=60)&&decide (Z7 e<=60)
theorem ZeI {d e:D}(h:WS d e=true):Zr d=true/\Zr e=true/\Z7 d<=60/\Z7 e<=60:=by
 simp only[WS,qL,decide_eq_true_eq] at h;exact⟨h.1.1.1,h.1.1.2,h.1.2,h.2⟩
def Ys (d e:D):Option D:=if WS d e=true then some (.bl (ZR d e)) else none
def Xg (d e:D):Option D:=if WS d e=true then some (.bl (!ZR d e)) else none
def rEqD (G:Gh)(neg:Bool):R2:=fun x y H Q=>∃Hf d e,ZL G Hf H/\WS d e=true/\Zp G Hf d x/\Zp G Hf e y/\Q (.bl (if neg then !ZR d e else ZR d e)) H
theorem ZoK (hu:X.A.units+64<cLine):YC X (compareOp .Eq) (rEqD G false):=by
 intro jE s σ H x y v u Q I rx ry h;obtain⟨Hf,d,e,e1,ok,rd,re,q⟩:=h;obtain⟨o1,o2,o3,o4⟩:=ZeI ok;exact(Zk5 I e1 60 X.A d e x y v u o3 o4 (by omega) o1 o2 rd re rx ry).2.1 _ _ _ _ ⟨.bl (ZR d e),H,I,rfl,q⟩
theorem ZoL (hu:X.A.units+64<cLine):YC X (compareOp .NotEq) (rEqD G true):=by
 intro jE s σ H x y v u Q I rx ry h;obtain⟨Hf,d,e,e1,ok,rd,re,q⟩:=h;obtain⟨o1,o2,o3,o4⟩:=ZeI ok;exact(Zk5 I e1 60 X.A d e x y v u o3 o4 (by omega) o1 o2 rd re rx ry).2.2 _ _ _ _ ⟨.bl (!ZR d e),H,I,rfl,q⟩
theorem WO (hu:X.A.units+64<cLine):Xv X G (compareOp .Eq) Ys:=
 ⟨_,ZoK (G:=G) hu,fun Hf H s x y d e c Q e1 st rx ry q k=>by
  unfold Ys at q;split at q
  ·rename_i ok
   cases q
   exact⟨Hf,d,e,e1,ok,rx,ry,k _ Hf H (.refl e1) st (jd.mpr rfl) (.scal fun z=>z)⟩
  ·cases q⟩
theorem Vs (hu:X.A.units+64<cLine):Xv X G (compareOp .NotEq) Xg:=
 ⟨_,ZoL (G:=G) hu,fun Hf H s x y d e c Q e1 st rx ry q k=>by
  unfold Xg at q;split at q
  ·rename_i ok
   cases q
   exact⟨Hf,d,e,e1,ok,rx,ry,k _ Hf H (.refl e1) st (jd.mpr rfl) (.scal fun z=>z)⟩
  ·cases q⟩
def Wf (x:D)(ds:List D):Bool:=Zr x&&Yv ds&&decide (Z7 x<=60)&&decide (Xb ds<=60)
def Wl (x:D)(ds:List D):Bool:=ds.any fun d=>ZR d x
theorem ZjJ {x:D}{ds:List D}(h:Wf x ds=true):Zr x=true/\Yv ds=true/\Z7 x<=60/\Xb ds<=60:=by
 simp only[Wf,qL,decide_eq_true_eq] at h;exact⟨h.1.1.1,h.1.1.2,h.1.2,h.2⟩
open Classical in
noncomputable def Jr (G:Gh)(Hf:Hp)(x:D)(u:Value):Bool:=if h:∃d v,Zr d=true/\Zp G Hf d v/\ZK v u then ZR h.choose x else false
theorem ZiP {Hf:Hp}{x d:D}{v:V}{u:Value}(pd:Zr d=true)(r:Zp G Hf d v)(ru:ZK v u):Jr G Hf x u=ZR d x:=by
 have h:∃d v,Zr d=true/\Zp G Hf d v/\ZK v u:=⟨d,v,pd,r,ru⟩;unfold Jr;rw[dif_pos h];obtain⟨v',p',r',ru'⟩:=h.choose_spec;have ev:v'=v:=ZK.inj ru' ru;subst ev;rw[Zp.inj p' pd r' r]
theorem Zgw {Hf:Hp}{x:D}:∀{ds:List D} {vs:List V} {us:List Value},Yv ds=true->Zm G Hf ds vs->ZI vs us->us.any (Jr G Hf x)=Wl x ds
 | [],vs,us,_,r,rv=>by
  rw[Zm.nil_iff.mp r] at rv
  cases rv
  rfl
 | d::ds,vs,us,p,r,rv=>by
  obtain⟨v,rr,rfl,r1,r2⟩:=je.mp r;have p':Zr d=true/\Yv ds=true:=by simpa[Yv] using p
  cases rv with
  | cons a b=>
   rw[yH,ZiP p'.1 r1 a,Zgw p'.2 r2 b];rfl
theorem Zgx {Hf:Hp}:∀{ds:List D} {vs:List V} {us:List Value} {u:Value},Zm G Hf ds vs->ZI vs us->u∈us->∃d v,d∈ds/\Zp G Hf d v/\ZK v u
 | [],vs,us,u,r,rv,m=>by
  rw[Zm.nil_iff.mp r] at rv
  cases rv
  simp at m
 | d::ds,vs,us,u,r,rv,m=>by
  obtain⟨v,rr,rfl,r1,r2⟩:=je.mp r
  cases rv with
  | cons a b=>
   rcases qq.mp m with e | m
   ·subst e;exact⟨d,v,by simp,r1,a⟩
   ·obtain⟨d',v',m',h1,h2⟩:=Zgx r2 b m
    exact⟨d',v',by simp[m'],h1,h2⟩
def rInD (G:Gh)(neg:Bool):R2:=fun x y H Q=>∃Hf d ds,ZL G Hf H/\Wf d ds=true/\Zp G Hf d x/\(Zp G Hf (.lst ds) y∨Zp G Hf (.tup ds) y)/\Q (.bl (if neg then !Wl d ds else Wl d ds)) H
theorem Zdl {jE:List (Addr×Obj)}{s:Shared}{σ:St}{Hf H:Hp}{d:D}{ds:List D}{x:V}{v:Value}{vs:List V}{jG:List Value}(hu:X.A.units+64<cLine)(I:Inv X jE σ H s)(e1:ZL G Hf H)(ok:Wf d ds=true)(rd:Zp G Hf d x)(rx:ZK x v)
  (rl:Zm G Hf ds vs) (rv:ZI vs jG):(∀y,y∈jG.toArray->yK X.A.in1 s y v (Jr G Hf d y))/\jG.toArray.any (Jr G Hf d)=Wl d ds:=by
 obtain⟨o1,o2,o3,o4⟩:=ZjJ ok;refine⟨fun y hy=>?_,?_⟩
 ·obtain⟨c,w,m,h1,h2⟩:=Zgx rl rv (by simpa using hy)
  rw[ZiP (U4 o2 m) h1 h2];exact(Zk5 I e1 60 X.A.in1 c d w x y v (qJ (JU m) o4) o3 (by rw[Bt];omega) (U4 o2 m) o1 h1 rd h2 rx).1
 ·rw[show jG.toArray.any (Jr G Hf d)=jG.any (Jr G Hf d) by simp,Zgw o2 rl rv]
theorem ZoM (hu:X.A.units+64<cLine):YC X (compareOp .In) (rInD G false):=by
 intro jE s σ H x y v u Q I rx ry h;obtain⟨Hf,d,ds,e1,ok,rd,hl,q⟩:=h;rcases hl with hl | hl
 ·obtain⟨p,vs,rfl,np,hp,rp⟩:=jb.mp hl
  cases (show u=qK p from ry)
  obtain⟨jG,rv,pl,hz⟩:=I.list (ZH.of (K:=X.K) (e1 _ _ np hp));obtain⟨c1,c2⟩:=Zdl hu I e1 ok rd rx rp rv;refine SeqAt.in_listAt _ pl.isList c1 ⟨.bl _,H,I,rfl,?_⟩;rw[c2];exact q
 ·obtain⟨p,vs,rfl,np,hp,rp⟩:=jc.mp hl
  cases (show u=qK p from ry)
  obtain⟨jG,rv,pl,hz⟩:=I.tuple (ZT.of (K:=X.K) (e1 _ _ np hp));obtain⟨c1,c2⟩:=Zdl hu I e1 ok rd rx rp rv;refine SeqAt.in_tupleAt _ pl c1 ⟨.bl _,H,I,rfl,?_⟩;rw[c2];exact q
theorem ZjK (hu:X.A.units+64<cLine):YC X (compareOp .NotIn) (rInD G true):=by
 intro jE s σ H x y v u Q I rx ry h;obtain⟨Hf,d,ds,e1,ok,rd,hl,q⟩:=h;rcases hl with hl | hl
 ·obtain⟨p,vs,rfl,np,hp,rp⟩:=jb.mp hl
  cases (show u=qK p from ry)
  obtain⟨jG,rv,pl,hz⟩:=I.list (ZH.of (K:=X.K) (e1 _ _ np hp));obtain⟨c1,c2⟩:=Zdl hu I e1 ok rd rx rp rv;refine SeqAt.notIn_listAt _ pl.isList c1 ⟨.bl _,H,I,rfl,?_⟩;rw[c2];exact q
 ·obtain⟨p,vs,rfl,np,hp,rp⟩:=jc.mp hl
  cases (show u=qK p from ry)
  obtain⟨jG,rv,pl,hz⟩:=I.tuple (ZT.of (K:=X.K) (e1 _ _ np hp));obtain⟨c1,c2⟩:=Zdl hu I e1 ok rd rx rp rv;refine SeqAt.notIn_tupleAt _ pl c1 ⟨.bl _,H,I,rfl,?_⟩;rw[c2];exact q
end
theorem ZjL:typeLookup (.type "list") "keys" = pure none:=by rw[typeLookup_type,builtinLookup_eq_fast];kernel_rfl
theorem ZaH:entryFor table "dict.update.loop" = some Builtin.«dict.update.loop»:=entryFor_of_tree (by kernel_rfl)
theorem Zab:plainId "dict.update.loop" = true:=by decide +kernel
set_option maxHeartbeats 4000000 in
theorem ZbL {prog:Program}{w:World}{A:Around}{E:Value->Shared->Prop}{s:Shared}{a:Addr}{o:Obj}{xs:Array Value}{k:Nat}{Q:Option Value->Shared->Prop}
  (hx:s.heap.get? a=some o) (hc:o.cls=.type "list") (hdat:o.data=.seq xs k) (hd:o.dict=none) (hA:A.handled=none)
  (h:∀h' tk,(∀b o,s.heap.get? b=some o->h'.get? b=some o)->Q none { s with heap:=h',toks:=tk }) :
  wpAny (model prog w) A (getAttr? (.ref a) "keys") Q E s:=by
 have hmiss:=ZjL;have hname:(["__module__","__name__","__qualname__","__doc__","__annotations__"]:List Str).contains ("keys" : Str)=false:=by decide +kernel
 have hsz:("keys" : Str).length+100<=sizeLine:=by decide +kernel
 obtain⟨c,dct,dat,sl⟩:=o;simp only at hc hdat hd;subst hc hdat hd;obtain⟨hp,g,d,tk,os⟩:=s;have hT:∀tk',(⟨hp,g,d,tk',os⟩:Shared).TypeIs (.ref a) "list":=fun _=>⟨_,hx,rfl⟩;have f1:=sub_AttributeError;have f3:=qah.lookup;have f4:=qah.bind (.ref a);have f5:=am_list_getattr_none;unfold getAttr? getAttrBy?;refine wpAny_bind ?_;refine wpAny_mkText ?_;refine wpAny_bind (wpAny_attempt ?_);unfold getAttrBy
 repeat (any_goals (first | assumption | exact hT _ | ((with_reducible show wpAny _ _ (call (Value.builtin "list.__getattribute__") _ _) _ _ _);refine call_meets qah (hT _) am_entry_list_getattribute (F.args_list_getattribute_2 _ _) (meets_getattribute_miss_list a xs k sl "keys" _ hmiss hname hsz) ⟨hx,hA,fun h' tk' e hx'=>?_⟩) | wp_step))
 obtain⟨t',u',he⟩:=hx'.there;have hTe:∀tk',(⟨h',g,d,tk',os⟩:Shared).TypeIs (.ref e) "AttributeError":=fun _=>⟨_,he,rfl⟩;have fin:∀tk',wpAny (model prog w) A (do
   let b<-isInstance (.ref e) (.type "AttributeError")
   if b=true then pure none else throw (.ref e)) Q E ⟨h',g,d,tk',os⟩:=fun tk'=>by
  refine wpAny_bind (wpAny_isInstance (hTe _) f1 ?_);simp only[if_true];exact wpAny_pure (h h' tk' hx'.of.keeps)
 show wpAny _ _ (getattributeRaised _ _ _ _ _ _ _) _ _ _;unfold getattributeRaised
 repeat (any_goals (first | assumption | exact fin _ | wp_step))
section
variable {X:Cx}{jE:List (Addr×Obj)}{σ:St}{H:Hp}{s:Shared}{A:Around}{E:Value->Shared->Prop}{a:Addr}{y v:V}{u r:Value}
theorem ZjM {H':Hp}{Q:Unit->Shared->Prop}(hu:A.units<cLine)(I:Inv X jE σ H s)(g:W5 H a y v H')(ry:ZK y u)(rv:ZK v r)(h:∀s',Inv X jE σ H' s'->Q () s') :
  wpAny (model X.prog X.w) A (dictSet a u r) Q E s:=by
 rcases g with⟨kvs,k,e,ey,l,eH⟩ | ⟨kvs,k,b,e,ey,eb,l,eH⟩
 ·subst ey eH
  obtain⟨z,hd,vs,rel,dd⟩:=ZnO I.hok e;have hz:vs.length<=sizeLine:=by rw[<-rel.length];exact z
  have hl:(Yo kvs k v).length<=sizeLine:=by have:=UX kvs k v;omega
  refine wpAny_dictSet_pairs (hsz:=hz) (Jh ry) dd fun h' dd' hs=>h _ ?_;have he:∃q,h'.get? a=some q:=let ⟨q,_,_,hq,_⟩:=dd';⟨q,hq⟩;exact Zdi I (by rw[e];exact ym) hs he (ZkQ hl hd (rel.put k rv) dd')
 ·subst ey eH
  cases (show u=qK b from ry)
  obtain⟨z,hd,xs,rel,dd⟩:=ZnP I.hok e;have hz:xs.length<=sizeLine:=by rw[<-yG rel];exact z
  have hl:(Yo kvs k v).length<=sizeLine:=by have:=UX kvs k v;omega
  refine wpAny_dictSet_heap (hsz:=hz) (knd:=tupleKind (XT X.prog X.w)) hu (Jc I.hok eb) dd fun h' dd' hs=>h _ ?_;obtain⟨q,es,ep,hq,h2,h3,h4,_,h5⟩:=dd';refine Zdi I (by rw[e];exact ym) hs ⟨q,hq⟩ ⟨hl,hd,_,(rel.put k eb rv).keeps fun c ys ec=>?_,q,es,ep,hq,h2,h3,h4,h5⟩;rw[Zu (ZnJ ec e (fun z=>nomatch z))];exact ec
end
section
variable {X:Cx}{jE:List (Addr×Obj)}{σ:St}
inductive Puts (d:Addr):Hp->List V->Hp->Prop
 | nil {H:Hp}:Puts d H [] H
 | cons {H H1 H2:Hp} {b:Addr} {k v:V} {r:List V}:H b=some (.tup [k,v])->W5 H d k v H1->Puts d H1 r H2->Puts d H (.ref b::r) H2
theorem Zk6 {d l it:Addr}{vs:List V}{E:Value->Shared->Prop}{Q:Shared->Prop}{H':Hp}{A:Around}(hA:A.handled=none)(hu:A.units+1<cLine)
  (hQ:∀s',Inv X jE σ H' s'->Q s') (hfp:∀Hx:Hp,Hx it=none->WI X jE Hx it) :
  ∀(k i:Nat) (s:Shared) (H:Hp),vs.length-i=k->i<=vs.length->Inv X jE σ H s->H it=none->s.heap.IsListIter it l i->H l=some (.lst vs)->l≠d->(∀Hx Hy y v,W5 Hx d y v Hy->Hx l=some (.lst vs)->Hy l=some (.lst vs))->Puts d H (vs.drop i) H'->
   codeAny (model X.prog X.w) A (.builtin "dict.update.loop" ⟨[.ref d,.ref it,rawInt i,.none],[]⟩) (wants (fun r s₂=>r=.none/\Q s₂) E) s:=by
 intro k
 induction k with
 | zero=>
  intro i s H hk hi I hit st hl hne hkeep hp;have hil:i=vs.length:=by omega
  obtain⟨jG,rv,pl,hz⟩:=I.list (ZH.of (K:=X.K) hl);refine codeAny_builtin ZaH ?_;rw[yY Zab _];show wpAny _ A.in1 (pyNext (.ref it) >>= _) _ _ s;obtain⟨f0,f1,f2,f3,f4,f5⟩:=hfp H hit;have jO:=rv.length;refine wpAny_bind (wpAny_pyNext_list_end (A:=A.in1) hA st pl.isList (by simp;omega) fun h' eb=>?_);have I2:Inv X jE σ H { s with heap:=h' }:=I.turned (t':=s.toks) (fun b o hb e=>eb b o hb e) f0 f1 f3 f4 f5;have e0:vs.drop i=[]:=by rw[hil];simp
  rw[e0] at hp
  cases hp
  show wpAny _ _ (Builtin.Dict.addKeywords d [] >>= _) _ _ _;refine wpAny_bind (wpAny_pure ?_);exact wpAny_pure ⟨rfl,hQ _ I2⟩
 | succ k ih=>
  intro i s H hk hi I hit st hl hne hkeep hp;have hlt:i<vs.length:=by omega
  obtain⟨jG,rv,pl,hz⟩:=I.list (ZH.of (K:=X.K) hl);have jO:=rv.length;refine codeAny_builtin ZaH ?_;rw[yY Zab _];show wpAny _ A.in1 (pyNext (.ref it) >>= _) _ _ s;obtain⟨f0,f1,f2,f3,f4,f5⟩:=hfp H hit;have hd:vs.drop i=vs[i]::vs.drop (i+1):=y9 hlt;rw[hd] at hp;generalize hvi:vs[i]=x at hp;generalize hrest:vs.drop (i+1)=rest at hp
  cases hp with
  | @cons _ H1 _ b k0 v0 _ hb hput hrec=>
   have gx:vs[i]?=some (.ref b):=by rw[qk hlt,hvi]
   obtain⟨u,hu1,ru⟩:=rv.get gx
   cases (show u=qK b from ru)
   refine wpAny_bind (wpAny_pyNext_list_item (A:=A.in1) st pl.isList (x:=.ref b) (by simpa using hu1) fun h' st' sb=>?_);have I1:Inv X jE σ H { s with heap:=h' }:=I.turned (t':=s.toks) (fun c o hc e=>(sb.2 c hc).trans e) f0 f1 f3 f4 f5;obtain⟨jT,rv2,pt,_⟩:=I1.tuple (ZT.of (K:=X.K) hb);obtain⟨ku,vu,e2,rk,rvv⟩:=rv2.two;subst e2;obtain⟨o,ho,hoc,n,hod⟩:=id pt;show wpAny _ _ (holding [qK b] _ >>= _) _ _ _;refine wpAny_bind (wpAny_holding ?_);refine wpAny_bind (wpAny_tryCatch ?_);unfold Builtin.Dict.pairItems;refine wpAny_bind (wpAny_typeOf (T:="tuple") ⟨o,ho,hoc⟩ ?_);rw[if_pos (by decide)];refine wpAny_bind (wpAny_seqItems ho hod ?_);refine wpAny_pure ?_;show wpAny _ _ (holding [ku,vu] (dictSet d ku vu)) _ _ _;refine wpAny_holding ?_;obtain⟨oi,hoi,ci,di⟩:=id st';have Ip:=I1.pinned (fp:=[it]) (fun c hc=>by
    have e:c=it:=by simpa using hc
    subst e;exact hfp H hit) (fun c hc=>by
    have e:c=it:=by simpa using hc
    subst e;exact⟨oi,hoi,fun w z=>by rw[di] at z;cases z⟩)
   refine ZjM (by rw[Bt];exact hu) Ip hput rk rvv fun s2 I2=>?_;have pit:=I2.pin (it,oi) (qw _ (qw _ (JI (by simp) hoi)));have ec:((i:Int)+1)=((i+1:Nat):Int):=by push_cast;rfl
   show wpAny _ _ (again (.builtin "dict.update.loop" ⟨[.ref d,.ref it,rawInt ((i:Int)+1),.none],[]⟩)) _ _ _;rw[ec];refine wpAny_pure ⟨plainId_quiet Zab _,?_⟩;refine ih (i+1) s2 H1 (by omega) hlt I2.unpinned pit.2.1 ⟨oi,pit.1,ci,di⟩ (hkeep _ _ _ _ hput hl) hne hkeep ?_;rw[hrest];exact hrec
theorem ZdE (hc:X.calm=true)(hu:X.A.units+64<cLine)(tk:Bool):Y9 X (.type "dict") (fun xs H Q=>∃l vs,xs=[.ref l]/\H l=some (.lst vs)/\∀p,H p=none->∃H',Puts p (Zo H p (if tk then .dT [] else .dK [])) vs H'/\Q (.ref p) H'):=by
 intro jE s σ H xs us Q I r h;obtain⟨l,vs,rfl,hl,q⟩:=h;obtain⟨u,rfl,ru⟩:=Xl r
 cases (show u=qK l from ru)
 obtain⟨H',puts,q'⟩:=q s.heap.objs.size (I.hok.fresh (qu _));have hA:=I.ok.hd hc;refine callType_codes (Q₁:=fun obj s₁=>obj=.ref s.heap.objs.size/\s₁ = { s with heap:=s.heap.push { cls:=.type "dict",data:=.dict #[] } }) F.kt_called_dict (F.kt_typeCall_dict_1 _) F.entry_dict_init (kt_code_dict_new _ ⟨rfl,rfl⟩) ?_;rintro obj s₁ ⟨rfl,rfl⟩;have hbig:=I.big;have I1:Inv X jE σ (Zo H s.heap.objs.size (if tk then .dT [] else .dK [])) { s with heap:=s.heap.push { cls:=.type "dict",data:=.dict #[] } }:=
  I.laid (t':=s.toks) (fun b o e=>qf _ e) (qu _) (by
   cases tk
   ·exact Zgm s.heap hbig
   ·exact Zgn s.heap hbig)
 have hnew:(s.heap.push { cls:=.type "dict",data:=.dict #[] }).get? s.heap.objs.size=some { cls:=.type "dict",data:=.dict #[] }:=qz _ rfl;have hTd:({ s with heap:=s.heap.push { cls:=.type "dict",data:=.dict #[] } }:Shared).TypeIs (.ref s.heap.objs.size) "dict":=⟨_,hnew,rfl⟩;have hld:l≠s.heap.objs.size:=Z5 hl (I.hok.fresh (qu _));have hl1:(Zo H s.heap.objs.size (if tk then HO.dT [] else HO.dK [])) l=some (.lst vs):=by rw[Zu hld];exact hl
 obtain⟨zz,jG,n,rits,hlo⟩:=(show YI X.prog X.w _ _ l (.lst vs) from I1.hok l _ hl1);refine⟨hTd,F.args_dict_init_2 _ _,?_⟩;unfold Builtin.«dict.__init__»;refine wpAny_bind ?_;unfold Builtin.Dict.selfAndRest;refine wpAny_bind (wpAny_notOrdered_dict hTd ?_);show wpAny _ _ (pure (s.heap.objs.size,[qK l])) _ _ _;refine wpAny_pure ?_;show wpAny _ _ (qbm "dict.__init__" s.heap.objs.size (.ref l) [] .none) _ _ _;unfold qbm;have hTl:({ s with heap:=s.heap.push { cls:=.type "dict",data:=.dict #[] } }:Shared).TypeIs (.ref l) "list":=⟨_,hlo,rfl⟩;refine wpAny_bind (wpAny_typeOf hTl ?_);rw[if_pos (by decide)];refine wpAny_bind (ZbL hlo rfl rfl rfl hA fun h2 tk2 kp2=>?_);simp only[Option.isNone_none,if_true];refine wpAny_bind (wpAny_rule ?_);have I2:Inv X jE σ (Zo H s.heap.objs.size (if tk then .dT [] else .dK [])) { s with heap:=h2,toks:=tk2 }:=I1.kept kp2;obtain⟨its',rv',pl',hz'⟩:=I2.list (ZH.of (K:=X.K) hl1);refine wpAny_bind (wpAny_pyIter_list pl'.isList ?_);refine wpAny_pure ⟨plainId_quiet Zab _,?_⟩;have I3:Inv X jE σ (Zo H s.heap.objs.size (if tk then .dT [] else .dK [])) { s with heap:=h2.push { cls:=.type "list_iterator",data:=.fields #[.ref l,.int 0 0] },toks:=tk2 }:=I2.kept (t':=tk2) fun b o e=>qf _ e;have hfresh:(Zo H s.heap.objs.size (if tk then HO.dT [] else HO.dK [])) h2.objs.size=none:=I2.hok.fresh (qu _);have hst:(h2.push { cls:=.type "list_iterator",data:=.fields #[.ref l,.int 0 0] }).IsListIter h2.objs.size l 0:=⟨_,qz _ rfl,rfl,rfl⟩;refine Zk6 (l:=l) (vs:=vs) (H':=H') (A:=X.A.in1) (jE:=jE) (σ:=σ) hA (by rw[Bt];omega) (fun s' I'=>⟨.ref s.heap.objs.size,H',I',rfl,q'⟩) (fun Hx hn=>I2.fpOk (qu _) hn) vs.length 0 _ _ rfl (za _) I3 hfresh hst hl1 hld ?_ puts;intro Hx Hy y v hput hxl;rcases hput with⟨kvs,k,e,ey,l',eH⟩ | ⟨kvs,k,b,e,ey,eb,l',eH⟩
 ·subst eH;rw[Zu hld];exact hxl
 ·subst eH;rw[Zu hld];exact hxl
end
section
variable {X:Cx}{G:Gh}
def Xs:D->Option Zy
 | .int i=>some (.inl i)
 | .str x=>some (.inr x)
 | _=>none
def Xp:List D->Option (List Zy)
 | []=>some []
 | d::ds=>match Xs d,Xp ds with | some k,some ks=>some (k::ks) | _,_=>none
def Wc:D->Option V
 | .int i=>some (.int i)
 | .bl b=>some (.bl b)
 | .str x=>some (.str x)
 | .non=>some .non
 | _=>none
theorem U5 {H:Hp}{d:D}{v:V}{k:Zy}(h:Xs d=some k)(r:Zp G H d v):v=kV k:=by
 cases d with
 | int i=>cases h;rw[ja.mp r];rfl
 | str i=>cases h;rw[jh.mp r];rfl
 | _=>cases h
theorem U0 {H:Hp}:∀{ds:List D} {vs:List V} {ks:List Zy},Xp ds=some ks->Zm G H ds vs->vs=ks.map kV
 | [],vs,ks,h,r=>by cases h;exact Zm.nil_iff.mp r
 | d::ds,vs,ks,h,r=>by
  obtain⟨v,rr,rfl,r1,r2⟩:=je.mp r;unfold Xp at h
  cases e1:Xs d with
  | none=>rw[e1] at h;cases h
  | some k=>
   cases e2:Xp ds with
   | none=>rw[e1,e2] at h;cases h
   | some ks'=>
    rw[e1,e2] at h
    cases h
    rw[U5 e1 r1,U0 e2 r2];rfl
theorem Zbx {H:Hp}{d:D}{v w:V}(h:Wc d=some w)(r:Zp G H d v):v=w:=by
 cases d with
 | int i=>cases h;exact ja.mp r
 | str i=>cases h;exact jh.mp r
 | bl i=>cases h;exact jd.mp r
 | non=>cases h;exact ji.mp r
 | _=>cases h
def ZiQ:D->Option (List Zy×V)
 | .tup [.tup ks,v]=>match Xp ks,Wc v with | some k,some w=>some (k,w) | _,_=>none
 | _=>none
def Zk7:D->Option (Zy×V)
 | .tup [k,v]=>match Xs k,Wc v with | some k,some w=>some (k,w) | _,_=>none
 | _=>none
def Vw:List (List Zy×V)->List D->Option (List (List Zy×V))
 | jL,[]=>some jL
 | jL,d::ds=>match ZiQ d with | some (k,v)=>Vw (Yo jL k v) ds | none=>none
def Vi:List (Zy×V)->List D->Option (List (Zy×V))
 | jL,[]=>some jL
 | jL,d::ds=>match Zk7 d with | some (k,v)=>Vi (Yo jL k v) ds | none=>none
theorem ZhP {d:D}{k:List Zy}{v:V}(h:ZiQ d=some (k,v)):∃ks w,d=.tup [.tup ks,w]/\Xp ks=some k/\Wc w=some v:=by
 match d,h with
 | .tup [.tup ks,w],h=>
  have h':(match Xp ks,Wc w with | some k,some w=>some (k,w) | _,_=>none)=some (k,v):=h
  cases e1:Xp ks with
  | none=>rw[e1] at h';cases h'
  | some k'=>
   cases e2:Wc w with
   | none=>rw[e1,e2] at h';cases h'
   | some w'=>rw[e1,e2] at h';cases h';exact⟨ks,w,rfl,e1,e2⟩
theorem ZhQ {d:D}{k:Zy}{v:V}(h:Zk7 d=some (k,v)):∃ks w,d=.tup [ks,w]/\Xs ks=some k/\Wc w=some v:=by
 match d,h with
 | .tup [ks,w],h=>
  have h':(match Xs ks,Wc w with | some k,some w=>some (k,w) | _,_=>none)=some (k,v):=h
  cases e1:Xs ks with
  | none=>rw[e1] at h';cases h'
  | some k'=>
   cases e2:Wc w with
   | none=>rw[e1,e2] at h';cases h'
   | some w'=>rw[e1,e2] at h';cases h';exact⟨ks,w,rfl,e1,e2⟩
theorem Zk8 {Hf H:Hp}{p:Addr}(e1:ZL G Hf H)(hp:H p=none):∀{ds:List D} {vs:List V} {jL res:List (List Zy×V)},Zm G Hf ds vs->Vw jL ds=some res->jL.length+ds.length<=sizeLine->Puts p (Zo H p (.dT jL)) vs (Zo H p (.dT res))
 | [],vs,jL,res,r,h,_=>by
  rw[Zm.nil_iff.mp r]
  cases h
  exact .nil
 | d::ds,vs,jL,res,r,h,hl=>by
  obtain⟨v,rr,rfl,r1,r2⟩:=je.mp r;unfold Vw at h
  cases e:ZiQ d with
  | none=>rw[e] at h;cases h
  | some kv=>
   obtain⟨k,w⟩:=kv;rw[e] at h;have h:Vw (Yo jL k w) ds=some res:=h;obtain⟨ks,wd,rfl,q1,q2⟩:=ZhP e;obtain⟨b,ws,rfl,nb,hb,rb⟩:=jc.mp r1;obtain⟨v1,v2,rfl,rk,rv⟩:=jp rb;obtain⟨c,cs,rfl,nc,hcx,rc⟩:=jc.mp rk;have ec:=U0 q1 rc;subst ec;have ev:=Zbx q2 rv;subst ev;have hb':=e1 _ _ nb hb;have hc':=e1 _ _ nc hcx;have ll:=UX jL k v2;have hl':jL.length+(ds.length+1)<=sizeLine:=by simpa using hl
   refine .cons (by rw[Zu (Z5 hb' hp)];exact hb') (W5.t (k:=k) Z8 (by rw[Zu (Z5 hc' hp)];exact hc') (by omega)) ?_;rw[Zfb];exact Zk8 e1 hp r2 h (by omega)
theorem Zk9 {Hf H:Hp}{p:Addr}(e1:ZL G Hf H)(hp:H p=none):∀{ds:List D} {vs:List V} {jL res:List (Zy×V)},Zm G Hf ds vs->Vi jL ds=some res->jL.length+ds.length<=sizeLine->Puts p (Zo H p (.dK jL)) vs (Zo H p (.dK res))
 | [],vs,jL,res,r,h,_=>by
  rw[Zm.nil_iff.mp r]
  cases h
  exact .nil
 | d::ds,vs,jL,res,r,h,hl=>by
  obtain⟨v,rr,rfl,r1,r2⟩:=je.mp r;unfold Vi at h
  cases e:Zk7 d with
  | none=>rw[e] at h;cases h
  | some kv=>
   obtain⟨k,w⟩:=kv;rw[e] at h;have h:Vi (Yo jL k w) ds=some res:=h;obtain⟨ks,wd,rfl,q1,q2⟩:=ZhQ e;obtain⟨b,ws,rfl,nb,hb,rb⟩:=jc.mp r1;obtain⟨v1,v2,rfl,rk,rv⟩:=jp rb;have ek:=U5 q1 rk;subst ek;have ev:=Zbx q2 rv;subst ev;have hb':=e1 _ _ nb hb;have ll:=UX jL k v2;have hl':jL.length+(ds.length+1)<=sizeLine:=by simpa using hl
   refine .cons (by rw[Zu (Z5 hb' hp)];exact hb') (W5.k (k:=k) Z8 (by omega)) ?_;rw[Zfb];exact Zk9 e1 hp r2 h (by omega)
def Zla:List D->Option D
 | [.lst ds]=>if ds.length<=sizeLine then (Vw [] ds).map .dt else none
 | _=>none
def Zfn:List D->Option D
 | [.lst ds]=>if ds.length<=sizeLine then (Vi [] ds).map .dk else none
 | _=>none
theorem ZhR (hc:X.calm=true)(hu:X.A.units+64<cLine):Y9 X (.type "dict") (fun xs H Q=>∃l vs,xs=[.ref l]/\H l=some (.lst vs)/\∀p,H p=none->∃kvs,Puts p (Zo H p (.dT [])) vs (Zo H p (.dT kvs))/\∀o,Q (.ref p) (Zo H p (.frz o (.dT kvs)))):=by
 intro jE s σ H xs us Q I r h;obtain⟨l,vs,ex,hl,hp⟩:=h;refine ZJ (ZdE hc hu true jE s σ H xs us (fun v H'=>∃p kvs,v=.ref p/\H'=Zo H p (.dT kvs)/\∀o,Q (.ref p) (Zo H p (.frz o (.dT kvs)))) I r ⟨l,vs,ex,hl,fun p hn=>?_⟩) fun u s1 ⟨v,H1,I1,r1,p,kvs,ev,eH,q⟩=>?_
 ·obtain⟨kvs,pu,q⟩:=hp p hn
  exact⟨_,pu,p,kvs,rfl,rfl,q⟩
 ·subst ev eH
  have ok:=I1.hok p (.dT kvs) Z8;obtain⟨_,_,xs',_,o,es,ep,h1,_⟩:=(show YI X.prog X.w _ s1.heap p (.dT kvs) from ok);have I2:=I1.write (x:=p) (e:=p) (o:=.frz o (.dT kvs)) (h':=s1.heap) (t':=s1.toks) (by rw[Z8];trivial) (.inl rfl) (fun _ _ _ e=>e) ⟨o,h1⟩ ⟨h1,ok.stay (fun _ _ _ e=>e) (fun b e=>?_) fun b xs e=>?_⟩
  ·rw[Zfb] at I2
   exact⟨.ref p,_,I2,r1,q o⟩
  ·have:b≠p:=fun z=>by rw[z,Z8] at e;cases e
   rw[Zu this];exact e
  ·have:b≠p:=fun z=>by rw[z,Z8] at e;cases e
   rw[Zu this];exact e
theorem ZhS (hc:X.calm=true)(hu:X.A.units+64<cLine):XO X G (.type "dict") Zla:=
 ⟨_,ZhR hc hu,fun Hf H s xs ds c Q e1 st r q k=>by
  match ds,q,r with
  | [.lst es],q,r=>
   have q:(if es.length<=sizeLine then (Vw [] es).map D.dt else none)=some c:=q;split at q
   ·rename_i hz
    cases e:Vw [] es with
    | none=>rw[e] at q;cases q
    | some res=>
     rw[e] at q
     cases q
     obtain⟨v,rfl,rv⟩:=jg r;obtain⟨l,vs,rfl,nl,hl,rl⟩:=jb.mp rv;refine⟨l,vs,rfl,e1 _ _ nl hl,fun p hp=>⟨_,Zk8 e1 hp rl e (by simpa using hz),fun o=>?_⟩⟩;have nf:=Gh.nofp st hp;have g2:=Gr.new (o:=.frz o (.dT res)) e1 hp nf;exact k (.ref p) _ _ g2 (Gh.grow st hp) (jl.mpr ⟨p,o,rfl,nf,Z8⟩) fun a ea _=>by cases ea;exact⟨hp,fun ds ed=>by cases ed⟩
   ·cases q⟩
theorem ZhT (hc:X.calm=true)(hu:X.A.units+64<cLine):XO X G (.type "dict") Zfn:=
 ⟨_,ZdE hc hu false,fun Hf H s xs ds c Q e1 st r q k=>by
  match ds,q,r with
  | [.lst es],q,r=>
   have q:(if es.length<=sizeLine then (Vi [] es).map D.dk else none)=some c:=q;split at q
   ·rename_i hz
    cases e:Vi [] es with
    | none=>rw[e] at q;cases q
    | some res=>
     rw[e] at q
     cases q
     obtain⟨v,rfl,rv⟩:=jg r;obtain⟨l,vs,rfl,nl,hl,rl⟩:=jb.mp rv;refine⟨l,vs,rfl,e1 _ _ nl hl,fun p hp=>⟨_,Zk9 e1 hp rl e (by simpa using hz),?_⟩⟩;have nf:=Gh.nofp st hp;have g2:=Gr.new (o:=.dK res) e1 hp nf;exact k (.ref p) _ _ g2 (Gh.grow st hp) (jj.mpr ⟨p,rfl,nf,Z8⟩) fun a ea _=>by cases ea;exact⟨hp,fun ds ed=>by cases ed⟩
   ·cases q⟩
theorem ZoN (hu:X.A.units+1<cLine):YC X (compareOp .In) (fun x y H Q=>∃a o,y=.ref a/\X6 H a x o/\Q (.bl o.isSome) H):=by
 intro jE s σ H x y v u Q I rx ry h;obtain⟨a,o,rfl,g,q⟩:=h
 cases (show u=qK a from ry)
 exact d_in hu I g rx fun s' I'=>⟨.bl _,H,I',rfl,q⟩
theorem ZjN (hu:X.A.units+1<cLine):YC X (compareOp .NotIn) (fun x y H Q=>∃a o,y=.ref a/\X6 H a x o/\Q (.bl (!o.isSome)) H):=by
 intro jE s σ H x y v u Q I rx ry h;obtain⟨a,o,rfl,g,q⟩:=h
 cases (show u=qK a from ry)
 exact ZmO hu I g rx fun s' I'=>⟨.bl _,H,I',rfl,q⟩
def Uk:D->D->Option Bool
 | x,.lst ds=>if Wf x ds=true then some (Wl x ds) else none
 | x,.tup ds=>if Wf x ds=true then some (Wl x ds) else none
 | .tup ks,.dt kvs=>(Xp ks).map fun k=>(Z6 kvs k).isSome
 | .tup ks,.du kvs=>(Xp ks).map fun k=>(Z6 kvs k).isSome
 | x,.dk kvs=>(Xs x).map fun k=>(Z6 kvs k).isSome
 | _,_=>none
def YZ (x y:D):Option D:=(Uk x y).map .bl
def W3 (x y:D):Option D:=(Uk x y).map fun b=>.bl (!b)
theorem ZeJ {Hf H:Hp}{x y:V}{d e:D}{b:Bool}(e1:ZL G Hf H)(rx:Zp G Hf d x)(ry:Zp G Hf e y)(h:Uk d e=some b) :
  (∃ds,Wf d ds=true/\(Zp G Hf (.lst ds) y∨Zp G Hf (.tup ds) y)/\b=Wl d ds)∨∃a o,y=.ref a/\X6 H a x o/\b=o.isSome:=by
 cases e with
 | lst ds=>
  have h:(if Wf d ds=true then some (Wl d ds) else none)=some b:=by cases d <;> exact h
  split at h
  ·rename_i ok;cases h;exact .inl ⟨ds,ok,.inl ry,rfl⟩
  ·cases h
 | tup ds=>
  have h:(if Wf d ds=true then some (Wl d ds) else none)=some b:=by cases d <;> exact h
  split at h
  ·rename_i ok;cases h;exact .inl ⟨ds,ok,.inr ry,rfl⟩
  ·cases h
 | dt kvs=>
  obtain⟨a,o,rfl,na,ha⟩:=jl.mp ry
  cases d with
  | tup ks=>
   have h:(Xp ks).map (fun k=>(Z6 kvs k).isSome)=some b:=h
   cases q:Xp ks with
   | none=>rw[q] at h;cases h
   | some k=>
    rw[q] at h;cases h;obtain⟨c,cs,rfl,nc,hcx,rc⟩:=jc.mp rx;have ec:=U0 q rc;subst ec;exact .inr ⟨a,_,rfl,.inr ⟨kvs,k,c,.inr ⟨o,e1 _ _ na ha⟩,rfl,e1 _ _ nc hcx,rfl⟩,rfl⟩
  | _=>cases h
 | du kvs=>
  obtain⟨a,rfl,na,ha⟩:=jm.mp ry
  cases d with
  | tup ks=>
   have h:(Xp ks).map (fun k=>(Z6 kvs k).isSome)=some b:=h
   cases q:Xp ks with
   | none=>rw[q] at h;cases h
   | some k=>
    rw[q] at h;cases h;obtain⟨c,cs,rfl,nc,hcx,rc⟩:=jc.mp rx;have ec:=U0 q rc;subst ec;exact .inr ⟨a,_,rfl,X6.t (e1 _ _ na ha) (e1 _ _ nc hcx),rfl⟩
  | _=>cases h
 | dk kvs=>
  obtain⟨a,rfl,na,ha⟩:=jj.mp ry;have h:(Xs d).map (fun k=>(Z6 kvs k).isSome)=some b:=by cases d <;> exact h
  cases q:Xs d with
  | none=>rw[q] at h;cases h
  | some k=>
   rw[q] at h;cases h;have ek:=U5 q rx;subst ek;exact .inr ⟨a,_,rfl,X6.k (e1 _ _ na ha),rfl⟩
 | _=>cases d <;> cases h
theorem Jd (hu:X.A.units+64<cLine):Xv X G (compareOp .In) YZ:=
 ⟨_,(ZoM (G:=G) hu).or (ZoN (by omega)),fun Hf H s x y d e c Q e1 st rx ry q k=>by
  unfold YZ at q
  cases h:Uk d e with
  | none=>rw[h] at q;cases q
  | some b=>
   rw[h] at q;cases q;have kk:=k (.bl b) Hf H (.refl e1) st (jd.mpr rfl) (.scal fun z=>z);rcases ZeJ e1 rx ry h with⟨ds,ok,hl,rfl⟩ | ⟨a,o,ey,g,rfl⟩
   ·exact .inl ⟨Hf,d,ds,e1,ok,rx,hl,kk⟩
   ·exact .inr ⟨a,o,ey,g,kk⟩⟩
theorem Zcs (hu:X.A.units+64<cLine):Xv X G (compareOp .NotIn) W3:=
 ⟨_,(ZjK (G:=G) hu).or (ZjN (by omega)),fun Hf H s x y d e c Q e1 st rx ry q k=>by
  unfold W3 at q
  cases h:Uk d e with
  | none=>rw[h] at q;cases q
  | some b=>
   rw[h] at q;cases q;have kk:=k (.bl (!b)) Hf H (.refl e1) st (jd.mpr rfl) (.scal fun z=>z);rcases ZeJ e1 rx ry h with⟨ds,ok,hl,rfl⟩ | ⟨a,o,ey,g,rfl⟩
   ·exact .inl ⟨Hf,d,ds,e1,ok,rx,hl,kk⟩
   ·exact .inr ⟨a,o,ey,g,kk⟩⟩
end
section
variable {X:Cx}{G:Gh}{own ob:List Nat}{fr:Bool}{f:Zb->M D}
def Zm0 (ta:TA):TE:=fun σ H Q=>ta σ H fun vs H1=>∃j:Int,vs=[.int j]/\∀p,H1 p=none->Q (.ref p) (Zo H1 p (.rng 0 j))
theorem ZeK {a:Expr}{ta:TA}{p pos:Pos}(hg:Gl X "range")(hm:X.mg "range" = none)(ha:PA X [a] ta)(hs:starEach [a] X.env=[(false,eval a X.env)]:=by rfl):PE X (.Call (.Name "range" p) [a] [] pos) (Zm0 ta):=by
 intro jE s σ H Q I h;refine Call_ (Ub I hg hm boot_range (zM (ZJ (ha pos jE s σ H _ I h) fun us s1 ⟨vs,H1,I1,r1,q1⟩=>?_) hs rfl));obtain⟨j,e,q⟩:=q1;subst e
 cases r1 with
 | cons r rr=>
  cases rr
  obtain⟨t,rfl⟩:=r;refine call_range_1 ⟨.ref s1.heap.objs.size,Zo H1 s1.heap.objs.size (.rng 0 j),I1.laid (t':=s1.toks+1+1) (fun b o e=>qf _ e) (qu _) ?_,rfl,q _ (I1.hok.fresh (qu _))⟩;exact⟨_,_,_,qz _ rfl⟩
theorem ZbM:∀(ys:List Value) (lo:Int),(∀(j:Nat) v,ys[j]?=some v->∃t,v=.int (lo+j) t)->ZI ((qp ys.length).map fun(i:Nat)=>V.int (lo+i)) ys
 | [],lo,_=>.nil
 | y::ys,lo,h=>by
  obtain⟨t,e⟩:=h 0 y rfl;rw[qY,qaA,qW,qH];refine .cons ⟨t,by rw[e]⟩ ?_;have q:=ZbM ys (lo+1) fun j v hv=>by
   obtain⟨t,e⟩:=h (j+1) v (by simpa using hv);exact⟨t,by rw[e];congr 1;push_cast;omega⟩
  have ee:((fun(i:Nat)=>V.int (lo+i))∘Nat.succ)=fun(i:Nat)=>V.int (lo+1+i):=by
   funext i;show V.int (lo+(Nat.succ i:Nat))=V.int (lo+1+i);congr 1;push_cast;omega
  rw[ee];exact q
theorem Zfo (hc:X.calm=true):Y9 X (.type "list") (fun xs H Q=>∃r j,xs=[.ref r]/\H r=some (.rng 0 j)/\-(2 ^ 62)<=j/\j<=2 ^ 24/\∀l,H l=none->Q (.ref l) (Zo H l (.lst ((qp j.toNat).map fun(i:Nat)=>V.int (0+i))))):=by
 intro jE s σ H xs us Q I r h;obtain⟨rr,j,rfl,hr,h1,h2,q⟩:=h;obtain⟨u,rfl,ru⟩:=Xl r
 cases (show u=qK rr from ru)
 obtain⟨t,u',v',hro⟩:=(show YI X.prog X.w H s.heap rr (.rng 0 j) from I.hok rr _ hr);have hn:yC 0 j 1=((j.toNat:Nat):Int):=by rw[rangeSize_one];split <;> omega
 refine call_list_range (I.ok.hd hc) (show IsRange s.heap rr 0 j 1 t u' v' from hro) (small_one (by omega) (by omega) h1 (by omega)) hn (by omega) fun h' tk acc' c' hk hS hacc=>?_;obtain⟨sz,hit⟩:=hacc;have rv:=ZbM acc'.toList 0 fun i v hv=>by
  obtain⟨t,e⟩:=hit i v (by simpa using hv);exact⟨t,by rw[e];simp⟩
 have el:acc'.toList.length=j.toNat:=by simpa using sz
 rw[el] at rv;refine⟨.ref s.heap.objs.size,Zo H s.heap.objs.size (.lst ((qp j.toNat).map fun(i:Nat)=>V.int (0+i))),I.laid hk (qu _) ?_,rfl,q _ (I.hok.fresh (qu _))⟩;refine⟨?_,acc'.toList,c',rv,?_⟩
 ·rw[qd,qO]
  show j.toNat<=2 ^ 24;omega
 ·rw[qbM]
  exact hS
def V4 (f:Zb->M D):Zb->M D:=fun ρ=>Zn (f ρ) fun d=>match d with | .int j=>if -(2 ^ 62)<=j/\j<=2 ^ 24 then Zx (.lst (Yp 0 j.toNat)) else ZC | _=>ZC
theorem ZdF {Hf:Hp}(lo:Int):∀(l:List Nat),Zm G Hf (l.map fun(i:Nat)=>D.int (lo+i)) (l.map fun(i:Nat)=>V.int (lo+i))
 | []=>Zm.nil_iff.mpr rfl
 | i::l=>Zm.cons (ja.mpr rfl) (ZdF lo l)
theorem Za0 {a:Expr}{p1 p2 pos1 pos:Pos}{r1:Bool}(hc:X.calm=true)(hg:Gl X "range")(hm:X.mg "range" = none)(hg2:Gl X "list")(hm2:X.mg "list" = none)(hv2:bootBuiltins "list" = some (.type "list"))(ha:PD X G r1 a f)
  (hs:starEach [a] X.env=[(false,eval a X.env)]:=by rfl)
  (he:starEach [.Call (.Name "range" p1) [a] [] pos1] X.env=(false,eval (.Call (.Name "range" p1) [a] [] pos1) X.env)::starEach [] X.env:=by rfl):PD X G true (.Call (.Name "list" p2) [.Call (.Name "range" p1) [a] [] pos1] [] pos) (V4 f):=by
 obtain⟨t,pa,qa⟩:=ha.drop;refine⟨_,Zbw (Zfo hc) hg2 hm2 hv2 (Y6 (ZeK hg hm (Y6 pa XC (by rw[hs];rfl)) hs) XC he) (by decide) (by decide) he rfl,fun σ Hf H ρ s d s' Q e1 e2 e3 e4 k=>?_⟩;obtain⟨dj,s1,a1,a2⟩:=ZB e4
 cases dj with
 | int j=>
  obtain⟨c,a3⟩:=Xw a2;obtain⟨rfl,rfl⟩:=ZW a3;refine qa σ Hf H ρ s _ _ _ e1 e2 e3 a1 fun v jM H1 g st r=>?_;rw[ja.mp r];refine⟨j,rfl,fun p hp=>⟨p,j,rfl,Z8,c.1,c.2,fun l hl=>?_⟩⟩;have hlp:l≠p:=fun z=>by rw[z,Z8] at hl;cases hl
  have hl1:H1 l=none:=by rw[Zu hlp] at hl;exact hl
  have jV:G.st s' (Zo H1 p (.rng 0 j)):=Gh.grow st hp;have nf:=Gh.nofp jV hl;have fp:jM p=none:=by
   cases q:jM p with
   | none=>rfl
   | some o=>rw[g.fh p o (Gh.nofp st hp) q] at hp;cases hp
  have gA:Gr G jM H1 jM (Zo H1 p (.rng 0 j)):=⟨fun b o n q=>by rw[Zu (Z5 q hp)];exact q,.refl _ _,fun b o n q=>by rw[Zu (Z5 q fp)];exact g.fh b o n q,fun b n h1 h2=>h1⟩;have gB:=Gr.new (o:=.lst ((qp j.toNat).map fun(i:Nat)=>V.int (0+i))) gA.fh hl nf;have rr:Zm G jM (Yp 0 j.toNat) ((qp j.toNat).map fun(i:Nat)=>V.int (0+i)):=ZdF 0 _;refine k (.ref l) _ _ ((g.trans gA).trans gB) (Gh.grow jV hl) (jb.mpr ⟨l,_,rfl,nf,Z8,rr.ext gB.ff⟩) fun _=>?_;exact jn (g.trans gA).hh (fun a ea _=>by cases ea;exact nf) (YH.mk gA.fh hl nf rr)
 | _=>cases a2
end
structure BlkS (X:Cx)(XN:List Str)(NS:List (Str×NameKind))(N':List Str)(src:List (Option Nat))(scope:Scope):Prop where
 xn:X.N=XN
 ns:X.env.scope.names=NS
 nocell:∀y∈scope.names,y.2≠.cell
 kind:scope.kind=.function
 names:∀y∈scope.names,y.2=.local->scope.names.lookup y.1=some .local
 len:src.length=N'.length
 free:∀y∈scope.names,y.2=.free->NS.lookup y.1=some .cell∨NS.lookup y.1=some .free
 from_:(src.zip N').all (fun p=>match p.1 with | some j=>decide (XN[j]?=some p.2)&&(decide (NS.lookup p.2=some .cell)||decide (NS.lookup p.2=some .free))&&decide (scope.names.lookup p.2=some .free) | none=>true)=true
theorem Zaw {env:Env}:∀{names:List (Str×NameKind)} {x:Str},names.lookup x=some .free->
  (names.map fun(n,k)=>if (k==zI&&env.scope.kind == .function&&env.kindOf n==some .cell) then (n,y4) else (n,k)).lookup x=some .cell∨
  (names.map fun(n,k)=>if (k==zI&&env.scope.kind == .function&&env.kindOf n==some .cell) then (n,y4) else (n,k)).lookup x=some .free
 | [],_,h=>by simp at h
 | (n,k)::r,x,h=>by
  have ih:=@Zaw env r x;show qb5 x ((if (k==zI&&env.scope.kind == .function&&env.kindOf n==some .cell)=true then (n,y4) else (n,k))::_)=_∨qb5 x ((if (k==zI&&env.scope.kind == .function&&env.kindOf n==some .cell)=true then (n,y4) else (n,k))::_)=_
  cases hx:x==n with
  | true=>
   simp only[ze,hx] at h
   cases h
   by_cases hc:(zI==zI&&env.scope.kind == .function&&env.kindOf n==some .cell)=true
   ·rw[if_pos hc];left;simp[ze,hx]
   ·rw[if_neg hc];right;simp[ze,hx]
  | false=>
   simp only[ze,hx] at h;by_cases hc:(k==zI&&env.scope.kind == .function&&env.kindOf n==some .cell)=true
   ·rw[if_pos hc];simp only[ze,hx];exact ih h
   ·rw[if_neg hc];simp only[ze,hx];exact ih h
theorem Zae {env:Env}:∀{names:List (Str×NameKind)} {x:Str} {k':NameKind},(∀y∈names,y.2≠.cell)->(k'=.cell∨k'=.free)->
  (names.map fun(n,k)=>if (k==zI&&env.scope.kind == .function&&env.kindOf n==some .cell) then (n,y4) else (n,k)).lookup x=some k'->names.lookup x=some .free
 | [],_,_,_,_,h=>by simp at h
 | (n,k)::r,x,k',nc,hk,h=>by
  have ih:=@Zae env r x k' (fun y hy=>nc y (qU _ hy)) hk;have h:qb5 x ((if (k==zI&&env.scope.kind == .function&&env.kindOf n==some .cell)=true then (n,y4) else (n,k))::_)=_:=h
  cases hx:x==n with
  | true=>
   by_cases hc:(k==zI&&env.scope.kind == .function&&env.kindOf n==some .cell)=true
   ·have:k=.free:=by
     simp only[qL,beq_iff_eq] at hc;exact hc.1.1
    subst this;simp[ze,hx]
   ·rw[if_neg hc] at h
    simp only[ze,hx] at h⊢
    cases h
    rcases hk with rfl | rfl
    ·exact absurd rfl (nc _ zS)
    ·rfl
  | false=>
   by_cases hc:(k==zI&&env.scope.kind == .function&&env.kindOf n==some .cell)=true
   ·rw[if_pos hc] at h;simp only[ze,hx] at h⊢;exact ih h
   ·rw[if_neg hc] at h;simp only[ze,hx] at h⊢;exact ih h
theorem ZaB {env:Env}:∀(names:List (Str×NameKind)) (jL:List (Str×Addr)),(∀y∈names,y.2=.free->∃c,env.cells.lookup y.1=some c)->
  (∀x c,jL.lookup x=some c->env.cells.lookup x=some c)->
  ∃cl,(forIn names jL fun(p:Str×NameKind) (cs:List (Str×Addr))=>(if (p.2==zI)=true then do let a<-cellOf env p.1;pure (yM ((p.1,a)::cs)) else pure (yM cs):Sem (ForInStep (List (Str×Addr)))))=pure cl/\
   (∀x c,cl.lookup x=some c->env.cells.lookup x=some c)/\(∀x c,jL.lookup x=some c->∃c',cl.lookup x=some c')/\∀y∈names,y.2=.free->∃c,cl.lookup y.1=some c
 | [],jL,_,h2=>⟨jL,by simp,h2,fun x c h=>⟨c,h⟩,fun y hy=>by simp at hy⟩
 | (n,k)::r,jL,h1,h2=>by
  by_cases hk:k=.free
  ·subst hk
   obtain⟨c,hc⟩:=h1 (n,.free) zS rfl;have hcell:cellOf env n=pure c:=by unfold cellOf;rw[hc]
   obtain⟨cl,q1,q2,q3,q4⟩:=ZaB (env:=env) r ((n,c)::jL) (fun y hy=>h1 y (qU _ hy)) fun x c' h=>by
    cases hx:x==n with
    | true=>
     simp only[ze,hx] at h
     cases h
     have:x=n:=by simpa using hx
     rw[this];exact hc
    | false=>simp only[ze,hx] at h;exact h2 x c' h
   refine⟨cl,?_,q2,fun x c' h=>?_,fun y hy hf=>?_⟩
   ·rw[qaa]
    simp only[beq_self_eq_true,if_true,hcell,pure_bind];exact q1
   ·cases hx:x==n with
    | true=>exact q3 x c (by simp[ze,hx])
    | false=>exact q3 x c' (by simp only[ze,hx];exact h)
   ·rcases qq.mp hy with e | hy
    ·subst e;exact q3 n c (by simp[ze])
    ·exact q4 y hy hf
  ·obtain⟨cl,q1,q2,q3,q4⟩:=ZaB (env:=env) r jL (fun y hy=>h1 y (qU _ hy)) h2
   refine⟨cl,?_,q2,q3,fun y hy hf=>?_⟩
   ·rw[qaa]
    have:(k==zI)=false:=by simpa using hk
    simp only[this,zU,if_false,pure_bind];exact q1
   ·rcases qq.mp hy with e | hy
    ·subst e;exact absurd hf hk
    ·exact q4 y hy hf
theorem BlkS.ok {X:Cx}{XN:List Str}{NS:List (Str×NameKind)}{N':List Str}{src:List (Option Nat)}{scope:Scope}(B:BlkS X XN NS N' src scope)(ok:X.Ok):∃cl,BlkOk X N' src scope cl:=by
 have hcells:∀y∈scope.names,y.2=.free->∃c,X.env.cells.lookup y.1=some c:=fun y hy hf=>ok.has y.1 (by
  have:=B.free y hy hf;rw[<-B.ns] at this;exact this)
 obtain⟨cl,q1,q2,q3,q4⟩:=ZaB (env:=X.env) scope.names [] hcells (fun x c h=>by simp at h);refine⟨cl,?_,B.nocell,B.kind,B.names,B.len,q2,fun x hx=>?_,fun i j x e1 e2=>?_⟩
 ·unfold closureFor
  show(forIn scope.names [] _ >>= _)=_;rw[show(forIn scope.names ([]:List (Str×Addr)) fun(x:Str×NameKind) (r:List (Str×Addr))=>_)=_ from q1];rfl
 ·have hf:scope.names.lookup x=some .free:=by
   rcases hx with h | h
   ·exact Zae B.nocell (.inl rfl) h
   ·exact Zae B.nocell (.inr rfl) h
  exact q4 (x,.free) (zy hf) rfl
 ·have hm:(some j,x)∈src.zip N':=by
   have:(src.zip N')[i]?=some (some j,x):=by
    rw[qab];exact⟨e1,e2⟩
   exact zm this
  have q:=zo.mp B.from_ _ hm;simp only[qL,Bool.or_eq_true,decide_eq_true_eq] at q;obtain⟨⟨p1,p2⟩,p3⟩:=q;refine⟨by rw[B.xn];exact p1,?_,Zaw p3⟩;show X.env.scope.names.lookup x=_∨X.env.scope.names.lookup x=_;rw[B.ns];exact p2
section
variable {X:Cx}{G:Gh}{elt tg iter:Expr}{ifs:List Expr}{scope:Scope}{pos pos' spos:Pos}{XN:List Str}{NS:List (Str×NameKind)}{N':List Str}{src:List (Option Nat)}{fi:Zb->M (List D)}{τ:D->Zb->Option Zb}{ft:Zb->M Bool}{fe:Zb->M D}{r1:Bool}{i:Nat}{x:Str}
theorem Zlb (hc:X.calm=true)(B:BlkS X XN NS N' src scope)(hi:Xn X G tg iter fi)
  (hg:∀cl jE C s H fp,Uo (YU X jE N' scope cl C s H fp) G tg (fun i=>src[i]?=some none) τ) (ht:∀cl jE C s H fp,VR (YU X jE N' scope cl C s H fp) ifs (Jp G ft)) (he:∀cl jE C s H fp,PD (YU X jE N' scope cl C s H fp) G r1 elt fe)
  (hs:∀x,foldedSetIterable iter X.env x=pure x:=by intro _;rfl):PD X G true (.ListComp elt [⟨tg,iter,ifs,0⟩] scope pos) (Yg src fi τ ft fe):=by
 obtain⟨wi,pi,qi⟩:=hi;refine⟨_,fun jE s σ H Q I h=>?_,Zgt (r1:=r1) qi⟩;obtain⟨cl,B'⟩:=B.ok I.ok;exact ZmS hc B' pi (fun jE C s H fp=>(hg cl jE C s H fp).canon) (ht cl) (fun jE C s H fp=>(he cl jE C s H fp).canon) hs jE s σ H Q I h
theorem JK (hN:X.N.Nodup)(hi':X.N[i]?=some x)(hx:VD X.env.scope x)
  (hc:X.calm=true) (B:BlkS X XN NS N' src scope) (hi:Xn X G tg iter fi)
  (hg:∀cl jE C s H fp,Uo (YU X jE N' scope cl C s H fp) G tg (fun i=>src[i]?=some none) τ) (ht:∀cl jE C s H fp,VR (YU X jE N' scope cl C s H fp) ifs (Jp G ft)) (he:∀cl jE C s H fp,PD (YU X jE N' scope cl C s H fp) G r1 elt fe)
  (hsw:swapsWith (.ListComp elt [⟨tg,iter,ifs,0⟩] scope pos) (some (.Name x pos')) spos.line X.env=pure true:=by rfl)
  (hs:∀x,foldedSetIterable iter X.env x=pure x:=by intro _;rfl)
  (hf:X.fn x=true∨X.env.scope.names.lookup x=some .local:=by first | exact .inl rfl | exact .inr rfl | assumption) :
  J8 X G true i (.Assign [.Name x pos'] (.ListComp elt [⟨tg,iter,ifs,0⟩] scope pos) spos) (Yg src fi τ ft fe):=by
 obtain⟨wi,pi,qi⟩:=hi;refine⟨_,fun jE s σ H D I h=>?_,Zgt (r1:=r1) qi⟩;obtain⟨cl,B'⟩:=B.ok I.ok;exact ZmT hN hi' hx hc B' pi (fun jE C s H fp=>(hg cl jE C s H fp).canon) (ht cl) (fun jE C s H fp=>(he cl jE C s H fp).canon) hsw hs hf jE s σ H D I h
end
def ZN (P:Program)(w:World)(K:qm)(mg:Str->Option Value)(base:Heap)(k:Nat)(x:Str)(n:Nat)(fr:Bool)(GG:Gh->Prop)(F:List D->M D):Prop:=
 ∃f fd ps,FnOk P w K mg base ZX k f fd ps (Ym n fr GG F)/\mg x=some (.ref f)/\z9 K (.ref f)=true/\WF K fd ps []
theorem ZN.mono {P:Program}{w:World}{K:qm}{mg:Str->Option Value}{base:Heap}{j k:Nat}{x:Str}{n:Nat}{fr:Bool}{GG:Gh->Prop}{F:List D->M D}(c:ZN P w K mg base j x n fr GG F)(h:j<=k:=by decide):ZN P w K mg base k x n fr GG F:=
 let ⟨f,fd,ps,a,b,c,d⟩:=c
 ⟨f,fd,ps,a.mono h,b,c,d⟩
theorem Zlc {X:Cx}{G:Gh}{k:Nat}{x:Str}{n:Nat}{fr:Bool}{GG:Gh->Prop}{F:List D->M D}{p pos:Pos}{e:Expr}{es:List Expr}{fs:Zb->M (List D)}(c:ZN X.prog X.w X.K X.mg X.base k x n fr GG F)(hG:GG G)(hr:Room k X.A)(hg:Gl X x)
  (ha:W7 X G (e::es) fs) (hal:∀ρ s ds s',fs ρ s=some (ds,s')->ds.length=(e::es).length) (jO:(e::es).length=n:=by rfl)
  (hdb:(x==("__debug__" : Str))=false:=by decide) (he:starEach (e::es) X.env=(false,eval e X.env)::starEach es X.env:=by rfl) (hpl:(backTo pos (starEach es X.env)).any (·.1)=false:=by rfl) :
  PD X G fr (.Call (.Name x p) (e::es) [] pos) (Zv F fs):=by
 obtain⟨f,fd,ps,a,b,c,d⟩:=c;exact ZmU a hG hr hg b c d ZnQ ha jO hal hdb he hpl
def VA (h base:Heap)(as:List Addr):Heap:=PySem.W.hideAll h ((qp h.objs.size).filter fun a=>!((base.get? a).isSome||decide (a∈as)))
theorem ZjO {h base:Heap}{as:List Addr}:(VA h base as).objs.size=h.objs.size:=qbF _ _
theorem Zgy {h base:Heap}{as:List Addr}{b:Addr}{o:Obj}(e:h.get? b=some o)(n:(∃u,base.get? b=some u)∨b∈as):(VA h base as).get? b=some o:=
 qbQ _ e fun hm=>by
  have q:=(qB.mp hm).2;rcases n with⟨u,n⟩ | n
  ·simp[n] at q
  ·simp[n] at q
theorem ZiR {h base:Heap}{as:List Addr}{b:Addr}{o:Obj}(e:(VA h base as).get? b=some o):h.get? b=some o/\((∃u,base.get? b=some u)∨b∈as):=by
 have e':h.get? b=some o:=PySem.W.of_hideAll _ e;refine⟨e',?_⟩;by_cases c:((base.get? b).isSome||decide (b∈as))=true
 ·rcases qbR.mp c with c | c
  ·exact .inl (zT.mp c)
  ·exact .inr (of_decide_eq_true c)
 ·have z:(VA h base as).get? b=none:=qbG _ (qB.mpr ⟨qP.mpr (qG e'),by simpa using c⟩)
  rw[z] at e;cases e
theorem jB {P:Program}{w:World}{K:qm}{mg:Str->Option Value}{base:Heap}{A:Around}{outer:List Env}{s:Shared}{H:Hp}{as:List Addr}(e:Env0 P w K mg base A outer s H)(ha:∀b∈as,H b=none)(hf:∀b∈as,b∉Wi outer) :
  Env0 P w K mg (VA s.heap base as) A outer s H:=by
 have up:∀b o,base.get? b=some o->(VA s.heap base as).get? b=some o:=fun b o q=>Zgy (e.bs b o q).1 (.inl ⟨o,q⟩);refine⟨e.frames,⟨e.mod.kin.keeps up,e.mod.glob.keeps up,let ⟨mb,h1,h2⟩:=e.mod.blt;⟨mb,h1.keeps up,h2⟩,e.mod.nolimit.keeps up⟩,fun b o q=>?_,qb3 ZjO,?_,e.frf,e.hok,e.bare⟩
 ·obtain⟨q1,q2⟩:=ZiR q
  refine⟨q1,?_⟩;rcases q2 with⟨u,q2⟩ | q2
  ·exact(e.bs b u q2).2
  ·exact ha b q2
 ·have all:∀l:List Env,(∀b∈Wi l,b∈Wi outer)->s.heap.FunFrames base l->s.heap.FunFrames (VA s.heap base as) l:=by
   intro l
   induction l with
   | nil=>intro _ _;trivial
   | cons env r ih=>
    intro hs hl;obtain⟨hk,⟨L,o,hf',hn,ho,hd⟩,hr⟩:=hl;have hL:L∈Wi outer:=hs L (by unfold Wi;rw[yA,hf'];exact zS);refine⟨hk,⟨L,o,hf',?_,ho,hd⟩,ih (fun b hb=>hs b (by unfold Wi;rw[yA,hf'];exact qU _ hb)) hr⟩
    cases q:(VA s.heap base as).get? L with
    | none=>rfl
    | some u=>
     rcases (ZiR q).2 with⟨u',q'⟩ | q'
     ·rw[hn] at q';cases q'
     ·exact absurd hL (hf L q')
  exact all outer (fun _ h=>h) e.funs
def fnφ (p:Addr)(fd:FuncData):Heap->Prop:=fun h=>∃oc od sl,h.get? p=some ⟨oc,od,.func fd,sl⟩
def codeφ (c:Addr)(q:Str):Heap->Prop:=fun h=>h.CodeRec (.ref c) q
theorem fnφ_at {P:Program}{w:World}{H:Hp}{h:Heap}{p:Addr}{fd:FuncData}(ok:YJ P w H h)(e:H p=some (.ext (fnφ p fd))):fnφ p fd h:=(ok p _ e).1
theorem codeφ_at {P:Program}{w:World}{H:Hp}{h:Heap}{c:Addr}{q:Str}(ok:YJ P w H h)(e:H c=some (.ext (codeφ c q))):h.CodeRec (.ref c) q:=(ok c _ e).1
structure CloScope (N ps:List Str)(sc:Scope):Prop where
 kind:sc.kind=.function
 co:sc.isCoroutine=false
 gen:sc.isGenerator=false
 nd:N.Nodup
 pre:N.take ps.length=ps
 par:∀x∈ps,sc.names.lookup x=some .local
 nocell:∀y∈sc.names,y.2≠.cell
def Jz (CX:Wj)(P:Program)(w:World)(K:qm)(mg:Str->Option Value)(base:Heap)(N:List Str)(qual:Str)(scope:Scope)(f:Addr)(cd:Value)(cl:List (Str×Addr))(A:Around)(outer:List Env)(s:Shared)(H:Hp)(E:XK):Cx where
 prog:=P
 w:=w
 K:=K
 mg:=mg
 base:=base
 A:=A.deeper (z6 qual scope s.heap.objs.size f cd cl)
 N:=N
 s₀:=s
 H₀:=H
 env:=z6 qual scope s.heap.objs.size f cd cl
 outer:=outer
 stack:=z6 qual scope s.heap.objs.size f cd cl::outer
 ex:=[]
 calm:=true
 fn:=fun _=>false
 pn:=[]
 xe:=fun e s'=>wpAny (model P w) (A.deeper (z6 qual scope s.heap.objs.size f cd cl)) (leaving (z6 qual scope s.heap.objs.size f cd cl) e) (fun _ s''=>CX outer H s E e s'') (fun e' s''=>CX outer H s E e' s'') s'
structure CloAt (base:Heap)(cl:List (Str×Addr))(sc:Scope)(N ps:List Str)(cvs:List V):Prop where
 inj:∀x y c,cl.lookup x=some c->cl.lookup y=some c->x=y
 cell:∀x c,cl.lookup x=some c->∃v,base.IsCell c v
 has:∀x,sc.names.lookup x=some .free->∃c,cl.lookup x=some c
 cap:∀(i:Nat) (x:Str) (v:V),N[ps.length+i]?=some x->cvs[i]?=some v->sc.names.lookup x=some .free/\∃c u,cl.lookup x=some c/\base.IsCell c (some u)/\ZK v u
 len:N.length=ps.length+cvs.length
theorem ZbZ {α:Type}:∀{l:List (Str×α)} {x:Str} {u:α},(l.map (·.1)).Nodup->(x,u)∈l->l.lookup x=some u
 | [],_,_,_,h=>by simp at h
 | (y,w)::l,x,u,nd,h=>by
  rw[qW,zD] at nd;rcases qq.mp h with e | hm
  ·cases e;simp[ze]
  ·have hne:(x==y)=false:=by
    simp only[beq_eq_false_iff_ne];rintro rfl;exact nd.1 (yB (f:=(·.1)) hm)
   rw[ze,hne];exact ZbZ nd.2 hm
theorem ZcL:∀(ps:List Str) (us:List Value),((ps.zip us).map (·.1)).Sublist ps
 | [],_=>by simp
 | _::_,[]=>by simp
 | p::ps,u::us=>by simpa using ZcL ps us
theorem ZdG {ps:List Str}{us:List Value}{i:Nat}{x:Str}{u:Value}(nd:ps.Nodup)(h1:ps[i]?=some x)(h2:us[i]?=some u):(ps.zip us).reverse.lookup x=some u:=by
 refine ZbZ ?_ ?_
 ·rw[List.map_reverse]
  refine List.pairwise_reverse.mpr ?_;exact(nd.sublist (ZcL _ _)).imp zJ
 ·rw[qba]
  exact zm (i:=i) (qab.mpr ⟨h1,h2⟩)
theorem Zm1 {CX:Wj}{P:Program}{w:World}{K:qm}{mg:Str->Option Value}{base:Heap}{N ps:List Str}{qual:Str}{scope:Scope}{f:Addr}{cd:Value}{cl:List (Str×Addr)}{A:Around}{outer:List Env}{s:Shared}{H:Hp}{E:XK}{us:List Value}{vs cvs:List V}{h':Heap}{tk:Nat}
  (S:CloScope N ps scope) (C:CloAt base cl scope N ps cvs) (hd:A.handled=none) (e0:Env0 P w K mg base A outer s H) (hl:vs.length=ps.length) (r:ZI vs us)
  (hns:h'.Ns s.heap.objs.size (fun x=>(ps.zip us).reverse.lookup x)) (hk:∀b o,s.heap.get? b=some o->h'.get? b=some o) :
  Inv (Jz CX P w K mg base N qual scope f cd cl A outer s H E) [] (vs.map some++cvs.map some) H { s with heap:=h',toks:=tk }:=by
 have noA:∀b:Addr,b∉(Jz CX P w K mg base N qual scope f cd cl A outer s H E).ex:=fun b z=>absurd (show b∈([]:List Addr) from z) (by simp);have up:∀b o,base.get? b=some o->h'.get? b=some o:=fun b o q=>hk b o (e0.bs b o q).1;have cellAt:∀x c,cl.lookup x=some c->∃v,base.IsCell c v:=C.cell;refine⟨⟨e0.mod,S.kind,rfl,rfl,qu _,fun y z c h1 h2=>C.inj y z c h1 h2,fun y hy=>?_,fun y c z _=>(by cases z),fun _=>hd,qbI e0.frames,.inr ⟨rfl,rfl⟩,fun b z=>absurd z (noA b),e0.bs,e0.bsz,fun b _ _=>noA b,fun b z=>absurd z (noA b),e0.funs,e0.frf⟩,
  rfl,e0.bare,Un.kept hk,⟨_,hns,fun i y v h1 h2 h3=>?_⟩,fun y c h=>?_,e0.hok.fresh (qu _),fun y c h=>?_,fun p hp=>absurd (show p∈([]:List (Addr×Obj)) from hp) (by simp),e0.hok.kept hk,?_⟩
 ·have hy:scope.names.lookup y=some .cell∨scope.names.lookup y=some .free:=hy
  rcases hy with hy | hy
  ·exact absurd rfl (S.nocell _ (zy hy))
  ·exact C.has y hy
 ·have h1:N[i]?=some y:=h1
  by_cases hi:i<vs.length
  ·have ha:vs[i]?=some v:=by
    rw[zQ (by simpa using hi),qy] at h2
    cases e:vs[i]? with
    | none=>rw[e] at h2;cases h2
    | some a=>rw[e] at h2;cases h2;rfl
   obtain⟨u,hu,rv⟩:=r.get ha;have hp:ps[i]?=some y:=by
    rw[<-S.pre,qaf (by omega)];exact h1
   have ndP:ps.Nodup:=by rw[<-S.pre];exact S.nd.sublist (yR _ _)
   exact⟨u,rv,.inl ⟨S.par y (zm hp),ZdG ndP hp hu⟩⟩
  ·rw[yp (by simpa using hi),qy,qd] at h2
   have hc:cvs[i-vs.length]?=some v:=by
    cases e:cvs[i-vs.length]? with
    | none=>rw[e] at h2;cases h2
    | some a=>rw[e] at h2;cases h2;rfl
   obtain⟨q1,c,u,q2,q3,q4⟩:=C.cap (i-vs.length) y v (by rw[show ps.length+(i-vs.length)=i by omega];exact h1) hc;exact⟨u,q4,.inr ⟨.inr q1,c,q2,q3.keeps up⟩⟩
 ·obtain⟨v,q⟩:=C.cell y c h
  exact⟨v,q.keeps up⟩
 ·obtain⟨v,o,q,_⟩:=C.cell y c h
  exact(e0.bs c o q).2
 ·show _=N.length
  rw[C.len];simp[hl]
theorem Zm2 {CX:Wj}{P:Program}{w:World}{K:qm}{mg:Str->Option Value}{base:Heap}{k:Nat}{f:Addr}{name qual:Str}{params:Arguments}{body:Expr}{scope:Scope}{cl:List (Str×Addr)}{pm ct:Value}{c':Addr}{N ps:List Str}{cvs:List V}{sp:Sp}
  (S:CloScope N ps scope) (C:CloAt base cl scope N ps cvs) (len:∀vs H Q E,sp vs H Q E->vs.length=ps.length)
  (at_:∀vs H Q E,sp vs H Q E->H f=some (.ext (fnφ f (zq name qual params body scope cl pm (.ref c') ct)))/\H c'=some (.ext (codeφ c' qual)))
  (hbody:∀(A:Around) (outer:List Env) (s:Shared) (H:Hp) (vs:List V) (Q:VK) (E:XK),Room k (A.deeper (z6 qual scope s.heap.objs.size f (.ref c') cl))->sp vs H Q E->
   ∃t,PE (Jz CX P w K mg base N qual scope f (.ref c') cl A outer s H E) body t/\t (vs.map some++cvs.map some) H Q) :
  FnOk P w K mg base CX (k+1) f (zq name qual params body scope cl pm (.ref c') ct) ps sp:=by
 refine⟨len,fun A outer s H args us vs Q E hr e0 hb r hsp=>?_⟩;have hl:=len _ _ _ _ hsp;obtain⟨a1,a2⟩:=at_ _ _ _ _ hsp;obtain⟨oc,od,sl,ho⟩:=fnφ_at e0.hok a1;have lim:s.heap.NoLimit:=e0.mod.nolimit.keeps fun b o e=>(e0.bs b o e).1;have hkind:∀y∈ps.zip us,scope.names.lookup y.1=some .local:=fun⟨n,v⟩ hy=>S.par n (qaH hy).1;refine PySem.W.kla_callFunE hr.depth ho rfl S.co S.gen rfl (codeφ_at e0.hok a2) (hb _ _ _ _ ?_);refine wpAny_newFunctionEnv S.nocell hkind (fun h' hns hsb=>?_) S.kind;have hk:∀b o,s.heap.get? b=some o->h'.get? b=some o:=fun b o e=>hsb.extBut b o (qN (qG e)) (qf _ e);refine⟨lim.keeps hk,?_⟩;show codeAny _ _ (.expr body (z6 qual scope s.heap.objs.size f (.ref c') cl)) _ _;obtain⟨t,ht,hq⟩:=hbody A outer s H vs Q E (hr.deeper _) hsp;refine PySem.W.kla_codeExpr (wpAny_mono (ht [] _ _ H Q (Zm1 S C hr.hd e0 hl r hns hk) hq) (fun u s' hs=>?_) fun e s' hs=>hs);obtain⟨v,H',J,rv,q⟩:=hs;exact⟨v,H',J.os,J.bare,J.base,J.hok,rv,q⟩
structure Mk0 (X:Cx)(c P:Addr):Prop where
 code:X.env.code=.ref c
 hd:zK X.base c P
 bm:∃bm o,X.mg "__builtins__" = some (.ref bm)/\bm≠builtinsNs/\bm≠mainGlobals/\X.base.get? bm=some o/\o.cls=.type "module"/\o.dict=some builtinsNs/\o.data=.plain
def Slot (P:Addr)(q:Str)(lpos:Pos)(ps:Array Value)(H Hm:Hp)(c':Addr):Prop:=
 (Hm=H/\codeAmong lpos ps.toList=some (.ref c')/\H c'=some (.ext (codeφ c' q)))∨(codeAmong lpos ps.toList=none/\H c'=none/\c'≠P/\Hm=Zo (Zo H P (.tbl (ps ++ #[rawInt lpos.line,rawInt lpos.col,.ref c']))) c' (.ext (codeφ c' q)))
def ZnS (P:Addr)(q:Str)(lpos:Pos)(isFd:FuncData->Addr->Prop)(H:Hp)(R:Addr->Addr->FuncData->Hp->Prop):Prop:=
 ∃ps,H P=some (.tbl ps)/\TriplesOk ps.toList/\(∀cv,codeAmong lpos ps.toList=some cv->∃c',cv=.ref c'/\H c'=some (.ext (codeφ c' q)))/\
  ∀p c' fd Hm,isFd fd c'->Slot P q lpos ps H Hm c'->Hm p=none->R p c' fd (Zo Hm p (.ext (fnφ p fd)))
section
variable {X:Cx}{jE:List (Addr×Obj)}{σ:St}{H:Hp}{s:Shared}{c P:Addr}{ps:Array Value}
theorem Mk0.bat (M:Mk0 X c P)(I:Inv X jE σ H s)(hP:H P=some (.tbl ps)):s.heap.BuiltinsAt X.mg P:=by
 obtain⟨bm,o,e1,e2,e3,e4,e5⟩:=M.bm;refine⟨bm,o,e1,e2,e3,fun z=>?_,I.bk _ _ e4,e5⟩;have:=(I.bs _ _ e4).2;rw[z,hP] at this;cases this
theorem gne (I:Inv X jE σ H s)(hP:H P=some (.tbl ps)):mainGlobals≠P:=fun z=>by
 obtain⟨o,es,ep,e,_⟩:=I.mod.glob;have:=(I.bs _ _ e).2;rw[z,hP] at this;cases this
theorem ZhU {P0:Program}{w:World}{H':Hp}{h:Heap}{a:Addr}{φ:Heap->Prop}(h1:φ h)(h2:∃o,h.get? a=some o)(h3:∀h1 h2:Heap,φ h1->(∀o,h1.get? a=some o->h2.get? a=some o)->φ h2):YI P0 w H' h a (.ext φ):=⟨h1,h2,h3⟩
theorem fnφ_keep {p:Addr}{fd:FuncData}:∀h1 h2:Heap,fnφ p fd h1->(∀o,h1.get? p=some o->h2.get? p=some o)->fnφ p fd h2:=fun h1 h2 ⟨oc,od,sl,e⟩ k=>⟨oc,od,sl,k _ e⟩
theorem codeφ_keep {p:Addr}{q:Str}:∀h1 h2:Heap,codeφ p q h1->(∀o,h1.get? p=some o->h2.get? p=some o)->codeφ p q h2:=fun h1 h2 ⟨a,o,vs,t,e,e1,r⟩ k=>by
 cases e
 exact⟨p,o,vs,t,rfl,k _ e1,r⟩
theorem codeφ_there {p:Addr}{q:Str}{h:Heap}(x:codeφ p q h):∃o,h.get? p=some o:=by
 obtain⟨a,o,vs,t,e,e1,r⟩:=x
 cases e
 exact⟨o,e1⟩
theorem Zm3 {h':Heap}{tk:Nat}{c':Addr}{more:Array Value}{q:Str}(I:Inv X jE σ H s)(hP:H P=some (.tbl ps))(hx:Heap.ExtBut P s.heap h')(hge:s.heap.objs.size<=c')(hc:h'.CodeRec (.ref c') q)(ht:h'.get? P=some (qap (ps++more))) :
  Inv X jE σ (Zo (Zo H P (.tbl (ps++more))) c' (.ext (codeφ c' q))) { s with heap:=h',toks:=tk }/\H c'=none/\c'≠P:=by
 have hc0:H c'=none:=I.hok.fresh hge;have hcP:c'≠P:=fun z=>by rw[z,hP] at hc0;cases hc0
 have old:∀{b:Addr} {u:HO},H b=some u->b≠c':=fun e z=>by rw[z,hc0] at e;cases e
 have get:∀{b:Addr} {u:HO},H b=some u->b≠P->Zo (Zo H P (.tbl (ps++more))) c' (.ext (codeφ c' q)) b=some u:=fun {b u} e n=>by rw[Zu (old e),Zu n];exact e
 refine⟨I.call (g':=s.gens) (d':=s.drawn) (ch:=[]) ?_ ?_ I.bare (fun b hb=>absurd hb (by simp)),hc0,hcP⟩
 ·refine⟨fun b o e n _ _=>hx b o (fun z=>by rw[z,hP] at n;cases n) e,fun b o e n _ _=>⟨o.slots,hx b o (fun z=>by rw[z,hP] at n;cases n) e⟩,fun b o e n _=>?_,fun b o e _=>?_,fun b xs e=>get e (fun z=>by rw[z,hP] at e;cases e),fun b o u e=>get e (fun z=>by rw[z,hP] at e;cases e),fun b ps' e=>?_⟩
  ·rw[Zu (qN (qT (qG e) hge)),Zu (fun z=>by rw[z,hP] at n;cases n)];exact n
  ·by_cases hb:b=P
   ·exact⟨_,hb▸ht⟩
   ·exact⟨o,hx b o hb e⟩
  ·by_cases hb:b=P
   ·subst hb
    rw[hP] at e;cases e;exact⟨more,by rw[Zu (old hP),Z8]⟩
   ·exact⟨#[],by rw[get e hb];simp⟩
 ·intro a o e
  by_cases ha:a=c'
  ·subst ha
   rw[Z8] at e;cases e;exact ZhU hc (codeφ_there hc) codeφ_keep
  ·rw[Zu ha] at e
   by_cases hb:a=P
   ·subst hb
    rw[Z8] at e;cases e;exact ht
   ·rw[Zu hb] at e
    refine(I.hok a o e).stay (fun b u hb' r=>hx b u ?_ r) (fun b r=>get r (fun z=>by rw[z,hP] at r;cases r)) fun b xs r=>get r (fun z=>by rw[z,hP] at r;cases r);rcases hb' with rfl | hb'
    ·exact hb
    ·intro z;rw[z,hP] at hb';cases hb'
structure CloOf (X:Cx)(scope:Scope)(cl:List (Str×Addr)):Prop where
 of:∀x c,cl.lookup x=some c->X.env.cells.lookup x=some c
 has:∀y∈scope.names,y.2=.free->∃c,cl.lookup y.1=some c
theorem Zm4 {scope:Scope}(ok:X.Ok)(hfree:∀y∈scope.names,y.2=.free->X.env.kindOf y.1=some .cell∨X.env.kindOf y.1=some .free):∃cl,closureFor scope X.env=pure cl/\CloOf X scope cl:=by
 obtain⟨cl,q1,q2,q3,q4⟩:=ZaB (env:=X.env) scope.names [] (fun y hy hf=>ok.has y.1 (hfree y hy hf)) (fun x c h=>by simp at h);refine⟨cl,?_,q2,q4⟩;unfold closureFor;show(forIn scope.names [] _ >>= _)=_;rw[show(forIn scope.names ([]:List (Str×Addr)) fun(x:Str×NameKind) (r:List (Str×Addr))=>_)=_ from q1];rfl
theorem Zld {params:Arguments}{body:Expr}{scope:Scope}{lpos:Pos}{q:Str}(M:Mk0 X c P)(hq:X.env.qual ++ "<lambda>" = q)(hfree:∀y∈scope.names,y.2=.free->X.env.kindOf y.1=some .cell∨X.env.kindOf y.1=some .free)(hdef:defaultsOf params X.env=([],[]):=by rfl) :
  PE X (.Lambda params body scope lpos) (fun σ H Q=>ZnS P q lpos (fun fd c'=>∃cl pm ctv,CloOf X scope cl/\fd=zq "<lambda>" q params body scope cl pm (.ref c') ctv) H fun p _ _ H'=>Q (.ref p) H'):=by
 intro jE s σ H Q I ⟨ps,hP,ht,hhit,h⟩;obtain⟨cl,hcl,co⟩:=Zm4 I.ok hfree;have hP':s.heap.get? P=some (qap ps):=I.hok P _ hP;have hg:s.heap.Ns mainGlobals X.mg:=I.mod.glob.keeps I.bk;have hb:=M.bat I hP;refine PySem.W.kla_eval hdef ?_;rw[hq]
 cases hc:codeAmong lpos ps.toList with
 | some cv=>
  obtain⟨c',rfl,hc'⟩:=hhit cv hc;refine PySem.W.kla_makeFunctionHit hcl I.ok.glob hg M.code (M.hd.keeps I.bk) hP' ht hc hb fun ctv h' tk hk hsz=>?_;refine⟨.ref h'.objs.size,Zo H h'.objs.size (.ext (fnφ _ _)),I.laid (t':=tk) (fun b u e=>qf _ (hk b u e)) hsz (ZhU ⟨_,_,_,qz _ rfl⟩ ⟨_,qz _ rfl⟩ fnφ_keep),rfl,h _ c' _ H ⟨cl,_,_,co,rfl⟩ (.inl ⟨rfl,hc,hc'⟩) (I.hok.fresh hsz)⟩
 | none=>
  refine PySem.W.kla_makeFunction hcl I.ok.glob hg M.code (M.hd.keeps I.bk) hP' ht hc (gne I hP) hb fun c' ctv h' tk hx hge hlt hrec htb=>?_;obtain⟨I1,hc0,hcP⟩:=Zm3 (tk:=tk) I hP hx hge hrec htb;refine⟨.ref h'.objs.size,Zo _ h'.objs.size (.ext (fnφ _ _)),I1.laid (t':=tk) (fun b u e=>qf _ e) (qu _) (ZhU ⟨_,_,_,qz _ rfl⟩ ⟨_,qz _ rfl⟩ fnφ_keep),rfl,h _ c' _ _ ⟨cl,_,_,co,rfl⟩ (.inr ⟨hc,hc0,hcP,rfl⟩) (I1.hok.fresh (qu _))⟩
end
structure Cells (X:Cx)(σ:St)(base':Heap):Prop where
 inj:∀x y c,X.env.cells.lookup x=some c->X.env.cells.lookup y=some c->x=y
 cell:∀x c,X.env.cells.lookup x=some c->∃v,base'.IsCell c v
 has:∀x,(X.env.kindOf x=some .cell∨X.env.kindOf x=some .free)->∃c,X.env.cells.lookup x=some c
 val:∀(i:Nat) (x:Str) (v:V),X.N[i]?=some x->σ[i]?=some (some v)->X.env.kindOf x=some .cell->∃c u,X.env.cells.lookup x=some c/\base'.IsCell c (some u)/\ZK v u
section
variable {X:Cx}{jE:List (Addr×Obj)}{σ:St}{H:Hp}{s:Shared}
def BR (X:Cx):List Addr:=X.env.cells.filterMap fun p=>X.env.cells.lookup p.1
theorem ZjP {x:Str}{c:Addr}(e:X.env.cells.lookup x=some c):c∈BR X:=qae.mpr ⟨(x,c),zy e,e⟩
theorem Zgz {c:Addr}(h:c∈BR X):∃x,X.env.cells.lookup x=some c:=by
 obtain⟨p,_,e⟩:=qae.mp h;exact⟨p.1,e⟩
theorem ZeL (I:Inv X jE σ H s)(hfn:∀x,X.fn x=true):Env0 X.prog X.w X.K X.mg (VA s.heap X.base (BR X)) X.A X.stack s H/\Cells X σ (VA s.heap X.base (BR X)):=by
 have cellK:∀x c v,X.env.cells.lookup x=some c->s.heap.IsCell c v->(VA s.heap X.base (BR X)).IsCell c v:=fun x c v e ⟨o,ho,hd⟩=>⟨o,Zgy ho (.inr (ZjP e)),hd⟩;refine⟨jB I.env0 (fun b hb=>?_) fun b hb hf=>?_,⟨I.ok.inj,fun x c e=>?_,I.ok.has,fun i x v h1 h2 h3=>?_⟩⟩
 ·obtain⟨x,e⟩:=Zgz hb
  exact I.freeC x b e
 ·obtain⟨x,e⟩:=Zgz hb
  rcases qq.mp (I.stkSub b hf) with z | z
  ·exact I.cne x b e z
  ·obtain⟨_,o,ho,_⟩:=I.ok.funs.mem z
   exact absurd (qT (qG ho) (I.ok.cab x b (hfn x) e)) (zY _)
 ·obtain⟨v,q⟩:=I.cell x c e
  exact⟨v,cellK x c v e q⟩
 ·obtain⟨m,_,hl⟩:=I.loc
  obtain⟨u,r,l⟩:=hl i x v h1 h2 (.inr (.inl h3));rcases l with⟨hk,_⟩ | ⟨_,c,hc,hcell⟩
  ·rw[h3] at hk;cases hk
  ·exact⟨c,u,hc,cellK x c _ hc hcell,r⟩
theorem Zle {x:Str}{p pos:Pos}{e:Expr}{es:List Expr}{t:TA}{k:Nat}{f:Addr}{fd:FuncData}{ps:List Str}{sp:Heap->Sp}(F:∀base,FnOk X.prog X.w X.K X.mg base ZX k f fd ps (sp base))(hfn:∀x,X.fn x=true)(hr:Room k X.A)(hg:Gl X x)(hm:X.mg x=some (.ref f))(hk:z9 X.K (.ref f)=true)(hb:WF X.K fd ps [])
  (ha:PA X (e::es) t) (hdb:(x==("__debug__" : Str))=false:=by decide) (he:starEach (e::es) X.env=(false,eval e X.env)::starEach es X.env:=by rfl) (hpl:(backTo pos (starEach es X.env)).any (·.1)=false:=by rfl) :
  PE X (.Call (.Name x p) (e::es) [] pos) (fun σ H Q=>t σ H fun vs H1=>∀base',Cells X σ base'->sp base' vs H1 Q E0):=by
 intro jE s σ H Q I h;refine wpAny_Call_Name_kw (ZiE I hg hm ?_ hdb);refine PySem.W.callWith_K (h₀:=X.base) I.ok.mod.kin hk (ZJ (ha pos jE s σ H _ I h) fun us s1 ⟨vs,H1,I1,r,q⟩=>⟨I1.kIn,?_⟩) he hpl;obtain⟨e0,cs⟩:=ZeL I1 hfn;have q':=q _ cs;have hl:(us ++ []).length=ps.length:=by rw[zx,<-r.length];exact(F _).len _ _ _ _ q'
 refine wpAny_call (codeAny_mono ((F _).run X.A X.stack s1 H1 ⟨us,[]⟩ us vs Q E0 hr e0 (by have:=hb s1 us I1.kIn hl;rw[zx] at this;exact this) r q') fun r s' hq=>?_)
 cases r with
 | error e=>exact hq.elim
 | ok fl=>
  cases fl with
  | ret u=>exact I1.after hq
  | next=>exact zG hq
  | brk=>exact zG hq
  | cont=>exact zG hq
theorem Zlf {x:Str}{p pos:Pos}{e:Expr}{es:List Expr}{t:TA}{k i:Nat}(hf:PE X (.Name x p) (Y1 i))(hr:Room k X.A)(ha:PA X (e::es) t)
  (he:starEach (e::es) X.env=(false,eval e X.env)::starEach es X.env:=by rfl) (hpl:(backTo pos (starEach es X.env)).any (·.1)=false:=by rfl) :
  PE X (.Call (.Name x p) (e::es) [] pos) (fun σ H Q=>∃f fd ps sp,σ[i]?=some (some (.ref f))/\WF X.K fd ps []/\FnOk X.prog X.w X.K X.mg X.base ZX k f fd ps sp/\(∀h:Heap,YJ X.prog X.w H h->X.K.In h->fnφ f fd h)/\
   t σ H fun vs H1=>(∀h:Heap,YJ X.prog X.w H1 h->X.K.In h->fnφ f fd h)/\sp vs H1 Q E0):=by
 intro jE s σ H Q I ⟨f,fd,ps,sp,e,hb,F,h0,h⟩;refine wpAny_Call_Name_kw (ZJ (hf jE s σ H (fun v H'=>v=.ref f/\H'=H) I ⟨_,e,rfl,rfl⟩) fun u s1 ⟨v,H1,I1,rv,ev,eH⟩=>?_);subst ev eH
 cases (show u=qK f from rv)
 have at1:∀{jE σ H s},Inv X jE σ H s->(∀h:Heap,YJ X.prog X.w H h->X.K.In h->fnφ f fd h)->PySem.W.FnAt f s.heap:=fun I z=>by
  obtain⟨oc,od,sl,q⟩:=z _ I.hok I.kIn;exact⟨oc,od,fd,sl,q⟩
 refine PySem.W.callWith_F (at1 I1 h0) (ZJ (ha pos jE s1 σ _ _ I1 h) fun us s2 ⟨vs,H2,I2,r,h2,q⟩=>⟨at1 I2 h2,?_⟩) he hpl;exact ZkL F hr hb .nil ZnQ I2 r (by rw[zx];exact q)
end
mutual
def YQ:D->Bool
 | .tup ds=>Xq ds
 | .lst ds=>Xq ds
 | .clo _ _=>false
 | _=>true
def Xq:List D->Bool
 | []=>true
 | d::ds=>YQ d&&Xq ds
end
mutual
theorem Zp.re {G G':Gh}{H:Hp}(hf:G'.fp=G.fp)(hp:G'.pen=G.pen):∀{d:D} {v:V},YQ d=true->Zp G H d v->Zp G' H d v
 | .non,_,_,h=>ji.mpr (ji.mp h)
 | .bl _,_,_,h=>jd.mpr (jd.mp h)
 | .int _,_,_,h=>ja.mpr (ja.mp h)
 | .str _,_,_,h=>jh.mpr (jh.mp h)
 | .tup ds,v,n,h=>by
  obtain⟨a,vs,e1,nf,e2,r⟩:=jc.mp h;exact jc.mpr ⟨a,vs,e1,by rw[hf];exact nf,e2,Zm.re hf hp (by simpa[YQ] using n) r⟩
 | .lst ds,v,n,h=>by
  obtain⟨a,vs,e1,nf,e2,r⟩:=jb.mp h;exact jb.mpr ⟨a,vs,e1,by rw[hf];exact nf,e2,Zm.re hf hp (by simpa[YQ] using n) r⟩
 | .dk _,_,_,h=>by
  obtain⟨a,e1,nf,e2⟩:=jj.mp h;exact jj.mpr ⟨a,e1,by rw[hf];exact nf,e2⟩
 | .dt _,_,_,h=>by
  obtain⟨a,o,e1,nf,e2⟩:=jl.mp h;exact jl.mpr ⟨a,o,e1,by rw[hf];exact nf,e2⟩
 | .du _,_,_,h=>by
  obtain⟨a,e1,nf,e2⟩:=jm.mp h;exact jm.mpr ⟨a,e1,by rw[hf];exact nf,e2⟩
 | .df _,_,_,h=>by
  obtain⟨a,o,e1,nf,e2⟩:=jt.mp h;exact jt.mpr ⟨a,o,e1,by rw[hf];exact nf,e2⟩
 | .pen,_,_,h=>jq.mpr ((jq.mp h).trans hp.symm)
 | .ty _,_,_,h=>js.mpr (js.mp h)
 | .clo _ _,_,n,_=>by simp[YQ] at n
theorem Zm.re {G G':Gh}{H:Hp}(hf:G'.fp=G.fp)(hp:G'.pen=G.pen):∀{ds:List D} {vs:List V},Xq ds=true->Zm G H ds vs->Zm G' H ds vs
 | [],_,_,h=>Zm.nil_iff.mpr (Zm.nil_iff.mp h)
 | d::ds,vs,n,h=>by
  obtain⟨v,r,e,h1,h2⟩:=je.mp h;have n':YQ d=true/\Xq ds=true:=by simpa[Xq] using n
  exact je.mpr ⟨v,r,e,Zp.re hf hp n'.1 h1,Zm.re hf hp n'.2 h2⟩
end
theorem Gr.re {G G':Gh}{Hf H Hf' H':Hp}(hf:G'.fp=G.fp)(g:Gr G Hf H Hf' H'):Gr G' Hf H Hf' H':=
 ⟨fun b o n=>g.hh b o (by rw[<-hf];exact n),fun b o n=>g.ff b o (by rw[<-hf];exact n),fun b o n=>g.fh b o (by rw[<-hf];exact n),fun b n=>g.nw b (by rw[<-hf];exact n)⟩
theorem ZL.re {G G':Gh}{H H':Hp}(hf:G'.fp=G.fp)(g:ZL G H H'):ZL G' H H':=fun b o n=>g b o (by rw[<-hf];exact n)
theorem YH.re {G G':Gh}{H Hf':Hp}{d:D}{v:V}(hf:G'.fp=G.fp)(hp:G'.pen=G.pen)(n:YQ d=true)(h:YH G H Hf' d v):YH G' H Hf' d v:=fun a e m=>by
 obtain⟨h1,h2⟩:=h a e m;refine⟨h1,fun ds ed=>?_⟩;obtain⟨vs,Hm,q1,q2,q3,q4⟩:=h2 ds ed;subst ed;exact⟨vs,Hm,q1,q2,q3.re hf,q4.re hf hp (by simpa[YQ] using n)⟩
def B8 (n:Nat)(G:Gh)(cvs:List V)(F:List D->M D):Sp:=fun us H Q _=>∃(Hf:Hp) (ds cds:List D) (s:Pn) (d:D) (s':Pn),us.length=n/\ZL G Hf H/\Zm G Hf ds us/\Zm G Hf cds cvs/\G.st s H/\F (ds++cds) s=some (d,s')/\
 ∀v Hf' H',Gr G Hf H Hf' H'->G.st s' H'->Zp G Hf' d v->Q v H'
def Js (P:Program)(w:World)(K:qm)(mg:Str->Option Value)(k n:Nat)(T:Nat->List D->M D)(base:Heap)(G:Gh):Prop:=
 ∀t v cvs,G.clo t v cvs->∃f fd ps,v=.ref f/\ps.length=n/\WF K fd ps []/\(∀s H,G.st s H->∀h:Heap,YJ P w H h->K.In h->fnφ f fd h)/\FnOk P w K mg base ZX k f fd ps (B8 n G cvs (T t))
def BZ (T:Nat->List D->M D)(i:Nat)(fs:Zb->M (List D)):Zb->M D:=fun ρ=>Zn (Za i ρ) fun c=>Zn (fs ρ) fun ds=>match c with | .clo t cds=>T t (ds++cds) | _=>ZC
theorem ZjQ {i:Nat}{ρ:Zb}{s s':Pn}{d:D}(h:Za i ρ s=some (d,s')):ρ[i]?=some (some d)/\s'=s:=by
 obtain⟨e,rfl⟩:=Wz h;refine⟨?_,rfl⟩
 cases q:ρ[i]? with
 | none=>rw[q] at e;cases e
 | some o=>rw[q] at e;simp at e;rw[e]
section
variable {X:Cx}{G:Gh}
theorem Zlg {T:Nat->List D->M D}{k n i:Nat}{x:Str}{p pos:Pos}{e:Expr}{es:List Expr}{fs:Zb->M (List D)}(hG:Js X.prog X.w X.K X.mg k n T X.base G)(hr:Room k X.A)(hf:PE X (.Name x p) (Y1 i))(ha:W7 X G (e::es) fs)
  (hal:∀ρ s ds s',fs ρ s=some (ds,s')->ds.length=(e::es).length) (jO:(e::es).length=n:=by rfl)
  (he:starEach (e::es) X.env=(false,eval e X.env)::starEach es X.env:=by rfl) (hpl:(backTo pos (starEach es X.env)).any (·.1)=false:=by rfl) :
  PD X G false (.Call (.Name x p) (e::es) [] pos) (BZ T i fs):=by
 obtain⟨t,pa,qa⟩:=ha;refine⟨_,Zlf hf hr pa he hpl,fun σ Hf H ρ s d s' Q e1 e2 e3 e4 k=>?_⟩;obtain⟨c,s0,b0,b1⟩:=ZB e4;obtain⟨a0,rfl⟩:=ZjQ b0;obtain⟨ds,s1,a1,a2⟩:=ZB b1
 cases c with
 | clo t cds=>
  obtain⟨v,hσ,r⟩:=e2 i _ a0;obtain⟨cvs,hc,rc⟩:=jx.mp r;obtain⟨f,fd,ps,rfl,hl,hb,hat,F⟩:=hG t v cvs hc;refine⟨f,fd,ps,_,hσ,hb,F,hat _ H e3,qa σ Hf H ρ _ ds s1 _ e1 e2 e3 a1 fun vs jM H1 g1 jW r1=>⟨hat _ H1 jW,jM,ds,cds,s1,d,s',?_,g1.fh,r1,rc.ext g1.ff,jW,a2,fun v jX H2 g2 jV r2=>k v jX H2 (g1.trans g2) jV r2 (fun z=>by cases z)⟩⟩;rw[<-r1.length,hal _ _ _ _ a1];exact jO
 | _=>cases a2
end
def WK (n:Nat)(f:Zb->M D):List D->M D:=fun ds=>if ds.length=n then f (ds.map some) else ZC
theorem Zm5 {G:Gh}{Hf:Hp}{ds:List D}{vs:List V}(r:Zm G Hf ds vs):YX G Hf (vs.map some) (ds.map some):=fun i d e=>by
 rw[qy] at e
 cases q:ds[i]? with
 | none=>rw[q] at e;cases e
 | some d'=>
  rw[q] at e;cases e;obtain⟨v,h1,h2⟩:=r.get q;exact⟨v,by rw[qy,h1];rfl,h2⟩
theorem fnKE {P:Program}{w:World}{K:qm}{mg:Str->Option Value}{base:Heap}{k:Nat}{f:Addr}{name qual:Str}{params:Arguments}{body:Expr}{scope:Scope}{cl:List (Str×Addr)}{pm ct:Value}{c':Addr}{N ps:List Str}{cvs:List V}{G:Gh}{fr:Bool}{fe:Zb->M D}
  (S:CloScope N ps scope) (C:CloAt base cl scope N ps cvs) (hG:∀s H,G.st s H->H f=some (.ext (fnφ f (zq name qual params body scope cl pm (.ref c') ct)))/\H c'=some (.ext (codeφ c' qual)))
  (hb:∀(A:Around) (outer:List Env) (s:Shared) (H:Hp) (E:XK),Room k (A.deeper (z6 qual scope s.heap.objs.size f (.ref c') cl))->PD (Jz ZX P w K mg base N qual scope f (.ref c') cl A outer s H E).nox G fr body fe) :
  FnOk P w K mg base ZX (k+1) f (zq name qual params body scope cl pm (.ref c') ct) ps (B8 ps.length G cvs (WK N.length fe)):=by
 refine Zm2 (cvs:=cvs) S C (fun vs H Q E ⟨_,_,_,_,_,_,h,_⟩=>h) (fun vs H Q E ⟨_,_,_,s,_,_,_,_,_,_,st,_⟩=>hG s H st) fun A outer s H vs Q E hr h=>?_;obtain⟨Hf,ds,cds,pn,d,pn',el,e1,r1,r2,st,eF,k'⟩:=h;obtain⟨t,p,q⟩:=hb A outer s H E hr;refine⟨t,p.nox,?_⟩;obtain⟨hl,a0⟩:=Xw eF;have env:=Zm5 (r1.append r2);rw[zj] at env;exact q _ Hf H _ pn d pn' Q e1 env st a0 fun v Hf' H' g st' r _=>k' v Hf' H' g st' r
structure TabG (P:Addr)(q:Str)(G:Gh):Prop where
 get:∀s H,G.st s H->∃ps,H P=some (.tbl ps)/\TriplesOk ps.toList/\∀pos cv,codeAmong pos ps.toList=some cv->∃c',cv=.ref c'/\H c'=some (.ext (codeφ c' q))/\¬G.fp c'
 fp:G.fp P
 put:∀s H ps (pos:Pos) c',G.st s H->H P=some (.tbl ps)->H c'=none->codeAmong pos ps.toList=none->G.st s (Zo (Zo H P (.tbl (ps ++ #[rawInt pos.line,rawInt pos.col,.ref c']))) c' (.ext (codeφ c' q)))
def Ws (G:Gh)(t:Nat)(p c':Addr)(fd:FuncData)(q:Str)(cvs:List V):Gh where
 fp:=G.fp
 rd:=G.rd
 pen:=G.pen
 st:=fun s H=>G.st s H/\H p=some (.ext (fnφ p fd))/\H c'=some (.ext (codeφ c' q))
 mono:=fun s H H' ⟨h1,h2,h3⟩ k1 k2=>⟨G.mono s H H' h1 k1 k2,k2 _ _ h2,k2 _ _ h3⟩
 sub:=G.sub
 dom:=fun s H b h=>G.dom s H b h.1
 ntp:=fun s H b vs h=>G.ntp s H b vs h.1
 clo:=fun t' v cs=>t'=t/\v=.ref p/\cs=cvs
def Ju (P:Program)(w:World)(K:qm)(mg:Str->Option Value)(k:Nat)(x:Str)(n:Nat)(fr:Bool)(GG:Heap->Gh->Prop)(F:List D->M D):Prop:=
 ∃f fd ps,(∀base,FnOk P w K mg base ZX k f fd ps (Ym n fr (GG base) F))/\mg x=some (.ref f)/\z9 K (.ref f)=true/\WF K fd ps []
theorem Ju.mono {P:Program}{w:World}{K:qm}{mg:Str->Option Value}{j k:Nat}{x:Str}{n:Nat}{fr:Bool}{GG:Heap->Gh->Prop}{F:List D->M D}(c:Ju P w K mg j x n fr GG F)(h:j<=k:=by decide):Ju P w K mg k x n fr GG F:=
 let ⟨f,fd,ps,a,b,c,d⟩:=c
 ⟨f,fd,ps,fun base=>(a base).mono h,b,c,d⟩
structure CapS (X:Cx)(XN:List Str)(NS:List (Str×NameKind))(N ps:List Str)(cix:List Nat)(scope:Scope):Prop where
 xn:X.N=XN
 ns:X.env.scope.names=NS
 len:N.length=ps.length+cix.length
 at_:(cix.zip (N.drop ps.length)).all (fun p=>decide (XN[p.1]?=some p.2)&&decide (NS.lookup p.2=some .cell)&&decide (scope.names.lookup p.2=some .free))=true
 free:∀y∈scope.names,y.2=.free->NS.lookup y.1=some .cell∨NS.lookup y.1=some .free
theorem CapS.hfree {X:Cx}{XN:List Str}{NS:List (Str×NameKind)}{N ps:List Str}{cix:List Nat}{scope:Scope}(B:CapS X XN NS N ps cix scope):∀y∈scope.names,y.2=.free->X.env.kindOf y.1=some .cell∨X.env.kindOf y.1=some .free:=fun y hy hf=>by
 have:=B.free y hy hf;rw[<-B.ns] at this;exact this
theorem CapS.cloAt {X:Cx}{XN:List Str}{NS:List (Str×NameKind)}{N ps:List Str}{cix:List Nat}{scope:Scope}{σ:St}{base':Heap}{cl:List (Str×Addr)}{cvs:List V}(B:CapS X XN NS N ps cix scope)(cs:Cells X σ base')(co:CloOf X scope cl)(hl:cvs.length=cix.length)
  (hv:∀(i j:Nat) (v:V),cix[i]?=some j->cvs[i]?=some v->σ[j]?=some (some v)):CloAt base' cl scope N ps cvs:=by
 refine⟨fun x y c h1 h2=>cs.inj x y c (co.of x c h1) (co.of y c h2),fun x c h=>cs.cell x c (co.of x c h),fun x h=>co.has (x,.free) (zy h) rfl,fun i x v h1 h2=>?_,by rw[B.len,hl]⟩;have hi:i<cix.length:=by rw[<-hl];exact(qD.mp h2).1
 have hj:cix[i]?=some cix[i]:=qk hi;have hx:(N.drop ps.length)[i]?=some x:=by rw[List.getElem?_drop];exact h1
 have q:=zo.mp B.at_ (cix[i],x) (zm (i:=i) (qab.mpr ⟨hj,hx⟩));simp only[qL,decide_eq_true_eq] at q;obtain⟨⟨q1,q2⟩,q3⟩:=q;refine⟨q3,?_⟩;obtain⟨c,u,e1,e2,e3⟩:=cs.val cix[i] x v (by rw[B.xn];exact q1) (hv i _ v hj h2) (by show X.env.scope.names.lookup x=_;rw[B.ns];exact q2);obtain⟨c2,e4⟩:=co.has (x,.free) (zy q3) rfl;have e5:=co.of x c2 e4;rw[e1] at e5;cases e5;exact⟨c,u,e4,e2,e3⟩
def UF (ρ:Zb):List Nat->Option (List D)
 | []=>some []
 | i::r=>((ρ[i]?).bind id).bind fun d=>(UF ρ r).map (d :: ·)
theorem ZdH {G:Gh}{Hf:Hp}{σ:St}{ρ:Zb}(e:YX G Hf σ ρ):∀{cix:List Nat} {cds:List D},UF ρ cix=some cds->∃cvs,cvs.length=cix.length/\Zm G Hf cds cvs/\∀(i j:Nat) (v:V),cix[i]?=some j->cvs[i]?=some v->σ[j]?=some (some v)
 | [],cds,h=>by cases h;exact⟨[],rfl,Zm.nil_iff.mpr rfl,fun i j v h1=>by simp at h1⟩
 | a::r,cds,h=>by
  unfold UF at h
  cases q:(ρ[a]?).bind id with
  | none=>rw[q] at h;cases h
  | some d=>
   rw[q] at h
   cases q2:UF ρ r with
   | none=>rw[q2] at h;cases h
   | some ds=>
    rw[q2] at h;cases h;obtain⟨v,h1,h2⟩:=e a d (by
     cases q3:ρ[a]? with
     | none=>rw[q3] at q;cases q
     | some o=>rw[q3] at q;simp at q;rw[q])
    obtain⟨cvs,l1,l2,l3⟩:=ZdH e q2;refine⟨v::cvs,by simp[l1],Zm.cons h2 l2,fun i j u e1 e2=>?_⟩
    cases i with
    | zero=>simp at e1 e2;subst e1;subst e2;exact h1
    | succ i=>exact l3 i j u (by simpa using e1) (by simpa using e2)
def B0 (F:List D->M D)(t:Nat)(cix:List Nat)(f:Zb->M D):Zb->M D:=fun ρ=>Zn (f ρ) fun d=>Zn (YF (UF ρ cix)) fun cds=>if (YQ d&&Xq cds)=true then Zn (F [d,.clo t cds]) fun c=>if YQ c=true then Zx c else ZC else ZC
section
variable {X:Cx}{G:Gh}{P c:Addr}{q:Str}
theorem ZiS {lpos:Pos}{ps:Array Value}{H Hm:Hp}{c':Addr}{s:Pn}(TG:TabG P q G)(st:G.st s H)(hP:H P=some (.tbl ps))(sl:Slot P q lpos ps H Hm c'):G.st s Hm/\Hm c'=some (.ext (codeφ c' q))/\ZL G H Hm:=by
 rcases sl with⟨rfl,h1,h2⟩ | ⟨h1,h2,h3,rfl⟩
 ·exact⟨st,h2,.refl _ _⟩
 ·refine⟨TG.put s H ps lpos c' st hP h2 h1,Z8,fun b o n e=>?_⟩
  rw[Zu (Z5 e h2),Zu (fun z=>n (by rw[z];exact TG.fp))];exact e
theorem ZiT {Hf H Hm:Hp}{p:Addr}{o:HO}(e1:ZL G Hf H)(ex:ZL G H Hm)(hp:Hm p=none):Gr G Hf H Hf (Zo Hm p o):=by
 have hh:ZL G H (Zo Hm p o):=fun b u n e=>by
  have:=ex b u n e;rw[Zu (Z5 this hp)];exact this
 exact⟨hh,.refl _ _,e1.trans hh,fun _ _ h _=>h⟩
theorem ZoO {base':Heap}{k:Nat}{T:Nat->List D->M D}{t:Nat}{p c':Addr}{fd:FuncData}{cvs:List V}{ps:List Str}{F:List D->M D}(hb:WF X.K fd ps [])(hF:FnOk X.prog X.w X.K X.mg base' ZX k p fd ps (B8 ps.length (Ws G t p c' fd q cvs) cvs F))(hT:T t=F) :
  Js X.prog X.w X.K X.mg k ps.length T base' (Ws G t p c' fd q cvs):=by
 rintro t' v cs ⟨rfl,rfl,rfl⟩;exact⟨p,fd,ps,rfl,rfl,hb,fun s H st h ok _=>fnφ_at ok st.2.1,by rw[hT];exact hF⟩
variable {k kl:Nat}{x:Str}{fr frb:Bool}{F:List D->M D}{T:Nat->List D->M D}{t:Nat}{e1:Expr}{f1:Zb->M D}{r1:Bool}{params:Arguments}{scope:Scope}{lpos ppos pos:Pos}{XN N ps:List Str}{NS:List (Str×NameKind)}{cix:List Nat}
theorem ofC {t:Nat}{p c':Addr}{fd:FuncData}{cvs:List V}{H:Hp}{d:D}{v:V}(n:YQ d=true)(r:Zp (Ws G t p c' fd q cvs) H d v):Zp G H d v:=Zp.re (G:=Ws G t p c' fd q cvs) (G':=G) rfl rfl n r
theorem toC {t:Nat}{p c':Addr}{fd:FuncData}{cvs:List V}{H:Hp}{d:D}{v:V}(n:YQ d=true)(r:Zp G H d v):Zp (Ws G t p c' fd q cvs) H d v:=Zp.re (G:=G) (G':=Ws G t p c' fd q cvs) rfl rfl n r
theorem toCL {t:Nat}{p c':Addr}{fd:FuncData}{cvs:List V}{H:Hp}{d:List D}{v:List V}(n:Xq d=true)(r:Zm G H d v):Zm (Ws G t p c' fd q cvs) H d v:=Zm.re (G:=G) (G':=Ws G t p c' fd q cvs) rfl rfl n r
theorem grC {t:Nat}{p c':Addr}{fd:FuncData}{cvs:List V}{Hf H Hf' H':Hp}(g:Gr (Ws G t p c' fd q cvs) Hf H Hf' H'):Gr G Hf H Hf' H':=Gr.re (G:=Ws G t p c' fd q cvs) (G':=G) rfl g
theorem frC {t:Nat}{p c':Addr}{fd:FuncData}{cvs:List V}{H Hf':Hp}{d:D}{v:V}(n:YQ d=true)(h:YH (Ws G t p c' fd q cvs) H Hf' d v):YH G H Hf' d v:=YH.re (G:=Ws G t p c' fd q cvs) (G':=G) rfl rfl n h
theorem ZdI {body:Expr}{fe:Zb->M D}(M:Mk0 X c P)(TG:TabG P q G)(hW:Ju X.prog X.w X.K X.mg k x 2 fr (Js X.prog X.w X.K X.mg (kl+1) ps.length T) F)(hfn:∀x,X.fn x=true)(hr:Room k X.A)(hg:Gl X x)(h1:PD X G r1 e1 f1)
  (hq:X.env.qual ++ "<lambda>" = q) (S:CloScope N ps scope) (B:CapS X XN NS N ps cix scope) (hT:T t=WK N.length fe)
  (hbind:∀(cl:List (Str×Addr)) (pm cd ct:Value) (us:List Value),us.length=ps.length->bindArgs (zq "<lambda>" q params body scope cl pm cd ct) ⟨us,[]⟩=pure (ps.zip us))
  (hb:∀(base:Heap) (f c':Addr) (cl:List (Str×Addr)) (G:Gh) (A:Around) (outer:List Env) (s:Shared) (H:Hp) (E:XK),Room kl (A.deeper (z6 q scope s.heap.objs.size f (.ref c') cl))->PD (Jz ZX X.prog X.w X.K X.mg base N q scope f (.ref c') cl A outer s H E).nox G frb body fe)
  (hdef:defaultsOf params X.env=([],[]):=by rfl) (hdb:(x==("__debug__" : Str))=false:=by decide)
  (he:starEach [e1,.Lambda params body scope lpos] X.env=(false,eval e1 X.env)::starEach [.Lambda params body scope lpos] X.env:=by rfl) (he2:starEach [Expr.Lambda params body scope lpos] X.env=(false,eval (.Lambda params body scope lpos) X.env)::starEach [] X.env:=by rfl)
  (hpl:(backTo pos (starEach [Expr.Lambda params body scope lpos] X.env)).any (·.1)=false:=by rfl) :
  PD X G fr (.Call (.Name x ppos) [e1,.Lambda params body scope lpos] [] pos) (B0 F t cix f1):=by
 obtain⟨t1,p1,q1⟩:=h1.drop;obtain⟨f,fd0,ps0,FN,hm,hk,hbd⟩:=hW;refine⟨_,Zle FN hfn hr hg hm hk hbd (Y6 p1 (Y6 (Zld M hq B.hfree hdef) XC he2) he) hdb he hpl,fun σ Hf H ρ s d s' Q x1 x2 x3 x4 k=>?_⟩;obtain⟨d1,s1,a1,a2⟩:=ZB x4;obtain⟨cds,s2,b3,a4⟩:=ZB a2;obtain⟨a3,rfl⟩:=Wz b3;obtain⟨hn,a5⟩:=Xw a4;obtain⟨cc,s3,a6,a7⟩:=ZB a5;obtain⟨hn2,a8⟩:=Xw a7;obtain⟨rfl,rfl⟩:=ZW a8;obtain⟨hn0,hn1⟩:=zZ.mp hn;refine q1 σ Hf H ρ s d1 _ _ x1 x2 x3 a1 fun v1 jM H1 g1 jW rv1=>?_;obtain⟨tp,hP,htr,hhit⟩:=TG.get _ H1 jW;refine⟨tp,hP,htr,fun cv h=>let ⟨c',z1,z2,_⟩:=hhit lpos cv h;⟨c',z1,z2⟩,fun p c' fd Hm ⟨cl,pm,ctv,co,efd⟩ sl hp=>?_⟩;subst efd;obtain⟨stm,hc',ex⟩:=ZiS TG jW hP sl;have gr:=ZiT (o:=.ext (fnφ p (zq "<lambda>" q params body scope cl pm (.ref c') ctv))) g1.fh ex hp;have hcp:c'≠p:=fun z=>by rw[z,hp] at hc';cases hc'
 obtain⟨cvs,l1,l2,l3⟩:=ZdH (x2.ext g1.ff) a3;intro base' cs;have C:CloAt base' cl scope N ps cvs:=B.cloAt cs co l1 l3;refine⟨Ws G t p c' (zq "<lambda>" q params body scope cl pm (.ref c') ctv) q cvs,jM,[d1,.clo t cds],_,d,_,ZoO (X:=X) (.all (hbind cl pm (.ref c') ctv)) (fnKE S C (fun s H st=>st.2) fun A outer s H E hr=>hb base' p c' cl _ A outer s H E hr) hT,rfl,gr.fh,?_,⟨Gh.grow stm hp,Z8,by rw[Zu hcp];exact hc'⟩,a6,fun v Hf3 H3 g3 st3 r3 fz=>?_⟩
 ·refine .cons (toC hn0 rv1) (.one (jx.mpr ⟨cvs,⟨rfl,rfl,rfl⟩,toCL hn1 l2⟩))
 ·have g3':Gr G jM _ Hf3 H3:=grC g3
  have gg:=(g1.trans gr).trans g3';have rr:Zp G Hf3 d v:=ofC hn2 r3;refine k v Hf3 H3 gg st3.1 rr fun z=>?_;exact jn (g1.hh.trans gr.hh) rr.nofp (frC hn2 (fz z))
end
theorem boot_len:bootBuiltins "len" = some (.builtin "len"):=by decide +kernel
theorem boot_isinstance:bootBuiltins "isinstance" = some (.builtin "isinstance"):=by decide +kernel
theorem boot_max:bootBuiltins "max" = some (.builtin "max"):=by decide +kernel
theorem boot_min:bootBuiltins "min" = some (.builtin "min"):=by decide +kernel
theorem boot_set:bootBuiltins "set" = some (.type "set"):=by decide +kernel
theorem boot_sorted:bootBuiltins "sorted" = some (.builtin "sorted"):=by decide +kernel
theorem boot_tuple:bootBuiltins "tuple" = some (.type "tuple"):=by decide +kernel
theorem boot_list:bootBuiltins "list" = some (.type "list"):=by decide +kernel
theorem boot_int:bootBuiltins "int" = some (.type "int"):=by decide +kernel
theorem boot_bool:bootBuiltins "bool" = some (.type "bool"):=by decide +kernel
theorem boot_str:bootBuiltins "str" = some (.type "str"):=by decide +kernel
theorem boot_dict:bootBuiltins "dict" = some (.type "dict"):=by decide +kernel
abbrev ZU:Gh->Prop:=fun _=>True
def B9 (K:qm)(p sa:Addr)(tr:Bool)(s:Pn)(H:Hp):Prop:=
 ∃a h,s.1=[a,h]/\H p=some (.lst [.ref sa,.int a,.int h])/\sa≠p/\ZH K H sa (s.2.map V.int)/\(tr=true->∃o,H sa=some o)/\(tr=false->∀H':Hp,ZH K H' sa (s.2.map V.int))
def UO (K:qm)(p sa:Addr)(tr:Bool):Gh where
 fp:=fun b=>b=p
 rd:=fun b=>b=p∨(tr=true/\b=sa)
 pen:=.ref p
 st:=B9 K p sa tr
 mono:=fun s H H' ⟨a,h,e0,e1,ne,sq,t1,t2⟩ k _=>by
  refine⟨a,h,e0,k p _ (.inl rfl) e1,ne,?_,fun ht=>?_,t2⟩
  ·cases tr with
   | false=>exact t2 rfl H'
   | true=>
    rcases sq with(q | ⟨o,q⟩) | q
    ·exact .inl (.inl (k sa _ (.inr ⟨rfl,rfl⟩) q))
    ·exact .inl (.inr ⟨o,k sa _ (.inr ⟨rfl,rfl⟩) q⟩)
    ·exact .inr q
  ·obtain⟨o,q⟩:=t1 ht
   exact⟨o,k sa o (.inr ⟨ht,rfl⟩) q⟩
 sub:=fun b h=>.inl h
 dom:=fun s H b ⟨a,h,e0,e1,ne,sq,t1,t2⟩ hb=>by
  rcases hb with rfl | ⟨ht,rfl⟩
  ·exact⟨_,e1⟩
  ·exact t1 ht
 ntp:=fun s H b vs ⟨a,h,e0,e1,ne,sq,t1,t2⟩ hb z=>by
  rw[hb,e1] at z;cases z
def Wt (K:qm):Gh->Prop:=fun G=>∃p sa tr,G=UO K p sa tr
def BS (ns:List Int)(a:Int):Int:=if a<ns.length then ns.getD a.toNat 0 else if 0<ns.length then ns.getD (a*7 % ns.length).toNat 0 % 1000003+a*1000003 else 0
def Vx (c a:Int):Int:=
 if 10 ^ 18<=c then c else
  let x:=(c % 2147483647*48271+a*69621+11) % 2147483629
  let y:=(x*x+48271*x+a) % 2147483587
  y*2147483579+(y*y+69621*a) % 2147483579
def X4 (m a h:Int)(ns:List Int):Int×Int:=if h<m then (a+1,Vx (BS ns a) a) else (a,h)
def Xt:List D->M D:=fun ds s=>match ds,s with
 | [.pen,.int m],([a,h],ns)=>if 0<m/\m<1073741824/\0<=a then some (.int ((X4 m a h ns).2 % m),([(X4 m a h ns).1,(X4 m a h ns).2 / m],ns)) else none
 | _,_=>none
def X7 (s:Pn):Prop:=∃a h,s.1=[a,h]/\0<=a/\0<=h
theorem Zlh (c a:Int)(ha:0<=a):0<=Vx c a:=by
 unfold Vx;split
 ·have:(0:Int)<=10 ^ 18:=by decide
  omega
 ·dsimp only
  have h2:=yN (((c % 2147483647*48271+a*69621+11) % 2147483629)*((c % 2147483647*48271+a*69621+11) % 2147483629)+48271*((c % 2147483647*48271+a*69621+11) % 2147483629)+a) (show(2147483587:Int)≠0 by decide);generalize hy:(((c % 2147483647*48271+a*69621+11) % 2147483629)*((c % 2147483647*48271+a*69621+11) % 2147483629)+48271*((c % 2147483647*48271+a*69621+11) % 2147483629)+a) % 2147483587=y at h2⊢;have h3:=yN (y*y+69621*a) (show(2147483579:Int)≠0 by decide);omega
theorem Zm6 {m:Int}{s:Pn}(ok:X7 s)(h1:0<m)(h2:m<1073741824):∃r s',Xt [.pen,.int m] s=some (.int r,s')/\0<=r/\r<m/\X7 s':=by
 obtain⟨a,h,e,ha,hh⟩:=ok;obtain⟨l,ns⟩:=s;simp only at e;subst e;refine⟨(X4 m a h ns).2 % m,([(X4 m a h ns).1,(X4 m a h ns).2 / m],ns),?_,yN _ (by omega),qai _ h1,⟨_,_,rfl,?_,?_⟩⟩
 ·show(if 0<m/\m<1073741824/\0<=a then _ else _)=_
  rw[if_pos ⟨h1,h2,ha⟩]
 ·unfold X4
  split
  ·show 0<=a+1
   omega
  ·exact ha
 ·have:0<=(X4 m a h ns).2:=by
   unfold X4;split
   ·exact Zlh _ _ ha
   ·exact hh
  exact Int.ediv_nonneg this (by omega)
def Zli (G:Gh)(ob own own':List Nat)(fr:Bool)(g:Zb->M Out):TS:=fun E σ H=>∃kn jU H0 ρ s out s',J G own kn jU H0 σ H ρ/\G.st s H/\g ρ s=some (out,s')/\Post G ob own' kn jU H0 fr out s' E
def ZpH (K:qm)(t:TA):TE:=fun σ H Q=>t σ H fun xs H1=>xs.length<=sizeLine/\∀p,H1 p=none->K.lookup p=none->Q (.ref p) (Zo H1 p (.lst xs))
theorem Zm7 {X:Cx}{es:List Expr}{t:TA}{pos:Pos}(h:PA X es t):PE X (.List es pos) (ZpH X.K t):=by
 intro jE s σ H Q I hq;refine wpAny_List_spliced (ZJ (h pos jE s σ H _ I hq) fun us s1 ⟨xs,H1,I1,r,z,q⟩=>⟨by rw[<-r.length];exact z,?_⟩);have hf:H1 s1.heap.objs.size=none:=I1.hok.fresh (qu _);have hk:X.K.lookup s1.heap.objs.size=none:=by
  cases e:X.K.lookup s1.heap.objs.size with
  | none=>rfl
  | some o=>
   have:=I1.kIn _ _ e;rw[qbH (qu _)] at this;cases this
 refine⟨.ref s1.heap.objs.size,Zo H1 s1.heap.objs.size (.lst xs),I1.laid (t':=s1.toks) (fun b u e=>qf _ e) (qu _) ?_,rfl,q _ hf hk⟩;exact⟨z,us,0,r,qz _ rfl⟩
end TF
namespace TF
open L2
def Ok {α:Type}(m:M α)(s:Pn)(Q:α->Pn->Prop):Prop:=∃a s',m s=some (a,s')/\Q a s'
theorem Ok.bind {α β:Type}{m:M α}{k:α->M β}{s:Pn}{Q:β->Pn->Prop}(h:Ok m s fun a s1=>Ok (k a) s1 Q):Ok (Zn m k) s Q:=by
 obtain⟨a,s1,e,b,s2,e2,q⟩:=h;exact⟨b,s2,by unfold Zn;rw[e];exact e2,q⟩
theorem Ok.ret {α:Type}{a:α}{s:Pn}{Q:α->Pn->Prop}(h:Q a s):Ok (Zx a) s Q:=⟨a,s,rfl,h⟩
theorem Ok.eq {α:Type}{m:M α}{s s':Pn}{a:α}{Q:α->Pn->Prop}(e:m s=some (a,s'))(h:Q a s'):Ok m s Q:=⟨a,s',e,h⟩
theorem Ok.mono {α:Type}{m:M α}{s:Pn}{Q Q':α->Pn->Prop}(h:Ok m s Q)(k:∀a s',Q a s'->Q' a s'):Ok m s Q':=let ⟨a,s',e,q⟩:=h;⟨a,s',e,k a s' q⟩
theorem Ok.of {α:Type}{o:Option α}{a:α}{s:Pn}{Q:α->Pn->Prop}(e:o=some a)(h:Q a s):Ok (YF o) s Q:=⟨a,s,by unfold YF;rw[e],h⟩
theorem Ok.ite {α:Type}{c:Prop}[Decidable c]{m:M α}{s:Pn}{Q:α->Pn->Prop}(hc:c)(h:Ok m s Q):Ok (if c then m else ZC) s Q:=by rw[if_pos hc];exact h
section
variable {ρ:Zb}{s:Pn}{Q:Out->Pn->Prop}{f:Zb->M D}{g1 g2:Zb->M Out}
theorem Ok.seq (h:Ok (g1 ρ) s fun o s1=>match o with | .nx ρ'=>Ok (g2 ρ') s1 Q | .rt d=>Q (.rt d) s1 | .bk ρ'=>Q (.bk ρ') s1 | .ct ρ'=>Q (.ct ρ') s1):Ok (Zh g1 g2 ρ) s Q:=by
 refine Ok.bind (h.mono fun o s1 q=>?_)
 cases o with
 | nx ρ'=>exact q
 | rt d=>exact .ret q
 | bk ρ'=>exact .ret q
 | ct ρ'=>exact .ret q
theorem Ok.next (h:Q (.nx ρ) s):Ok (Zl ρ) s Q:=.ret h
theorem Ok.sset {i:Nat}(h:Ok (f ρ) s fun d s1=>Q (.nx (ρ.set i (some d))) s1):Ok (Ya i f ρ) s Q:=.bind (h.mono fun _ _ q=>.ret q)
theorem Ok.sown {i:Nat}(h:Ok (f ρ) s fun d s1=>BJ d=true/\Q (.nx (ρ.set i (some d))) s1):Ok (Wr i f ρ) s Q:=.bind (h.mono fun _ _ q=>.ite q.1 (.ret q.2))
theorem Ok.sret (h:Ok (f ρ) s fun d s1=>Q (.rt d) s1):Ok (ZF f ρ) s Q:=.bind (h.mono fun _ _ q=>.ret q)
theorem Ok.sif {c:Zb->M Bool}(h:Ok (c ρ) s fun b s1=>if b=true then Ok (g1 ρ) s1 Q else Ok (g2 ρ) s1 Q):Ok (Yn c g1 g2 ρ) s Q:=by
 refine .bind (h.mono fun b s1 q=>?_)
 cases b with
 | true=>simpa using q
 | false=>simpa using q
theorem Ok.sapp {i:Nat}{ds:List D}(hi:(ρ[i]?).bind id=some (.lst ds))(hl:ds.length<sizeLine)(h:Ok (f ρ) s fun d s1=>Q (.nx (ρ.set i (some (.lst (ds ++ [d]))))) s1):Ok (VU i f ρ) s Q:=by
 refine .bind (h.mono fun d s1 q=>?_);simp only[hi];exact .ite hl (.ret q)
theorem Ok.spar {i j:Nat}{fs:Zb->M (List D)}(h:Ok (fs ρ) s fun ds s1=>∃a b,ds=[a,b]/\XQ a=true/\XQ b=true/\Q (.nx ((ρ.set i (some a)).set j (some b))) s1):Ok (sPar i j fs ρ) s Q:=by
 refine .bind (h.mono fun d s1 q=>?_);obtain⟨a,b,rfl,n1,n2,q⟩:=q;exact .ite (by simp[n1,n2]) (.ret q)
theorem Ok.loop {τ:D->Zb->Option Zb}{body:Zb->M Out}(I:Nat->Zb->Pn->Prop):∀(ds:List D) (k:Nat) (ρ:Zb) (s:Pn),I k ρ s->
  (∀i d ρ s,ds[i]?=some d->I (k+i) ρ s->∃ρ1,τ d ρ=some ρ1/\Ok (body ρ1) s fun o s'=>∃ρ',o=.nx ρ'/\I (k+i+1) ρ' s')->Ok (WR τ body ds ρ) s fun o s'=>∃ρ',o=.nx ρ'/\I (k+ds.length) ρ' s'
 | [],k,ρ,s,h0,_=>.ret ⟨ρ,rfl,h0⟩
 | d::ds,k,ρ,s,h0,h=>by
  obtain⟨ρ1,e1,ok⟩:=h 0 d ρ s rfl h0;refine Ok.bind (.of e1 (.bind (ok.mono fun o s' q=>?_)));obtain⟨ρ',rfl,q⟩:=q;refine(Ok.loop I ds (k+1) ρ' s' q fun i d' ρ2 s2 e2 q2=>?_).mono fun o s2 q2=>?_
  ·have:=h (i+1) d' ρ2 s2 (by simpa using e2) (by rw[show k+(i+1)=k+1+i by omega];exact q2)
   rw[show k+(i+1)+1=k+1+i+1 by omega] at this;exact this
  ·rw[show k+(d::ds).length=k+1+ds.length by simp;omega]
   exact q2
theorem Ok.sfor {fi:Zb->M (List D)}{τ:D->Zb->Option Zb}{body:Zb->M Out}(I:Nat->Zb->Pn->Prop)(h:Ok (fi ρ) s fun ds s1=>I 0 ρ s1/\(∀i d ρ s,ds[i]?=some d->I i ρ s->∃ρ1,τ d ρ=some ρ1/\Ok (body ρ1) s fun o s'=>∃ρ',o=.nx ρ'/\I (i+1) ρ' s')/\
  ∀ρ' s',I ds.length ρ' s'->Q (.nx ρ') s'):Ok (Y2 fi τ body ρ) s Q:=by
 refine .bind (h.mono fun ds s1 q=>?_);obtain⟨q0,q1,q2⟩:=q;refine(Ok.loop I ds 0 ρ s1 q0 fun i d ρ s e=>?_).mono fun o s' q=>?_
 ·rw[qbb];exact q1 i d ρ s e
 ·obtain⟨ρ',rfl,q⟩:=q
  rw[qbb] at q;exact q2 ρ' s' q
end
section
variable {ρ ρ':Zb}{s s1 s2:Pn}{f f2:Zb->M D}{g1 g2:Zb->M Out}{d e c:D}{r:Option (Out×Pn)}
theorem Y7 {n k:Nat}{g:Zb->M Out}{ds:List D}(hl:ds.length=k)(h:g (ds.map some++zC (n-k) none) s=some (.rt d,s1)):runB n k g ds s=some (d,s1):=by
 unfold runB;rw[if_pos hl];unfold Zn;rw[h];rfl
theorem Y8 (h:f ρ s=some (d,s1)):ZF f ρ s=some (.rt d,s1):=by unfold ZF Zn;rw[h];rfl
theorem YW (h:g1 ρ s=some (.rt d,s1)):Zh g1 g2 ρ s=some (.rt d,s1):=by unfold Zh Zn;rw[h];rfl
theorem XV (h:g1 ρ s=some (.nx ρ',s1))(h2:g2 ρ' s1=r):Zh g1 g2 ρ s=r:=by unfold Zh Zn;rw[h];exact h2
theorem WC {i:Nat}(h:f ρ s=some (d,s1)):Ya i f ρ s=some (.nx (ρ.set i (some d)),s1):=by unfold Ya Zn;rw[h];rfl
theorem Zq {g:D->D->Option D}(h1:f ρ s=some (d,s1))(h2:f2 ρ s1=some (e,s2))(h:g d e=some c):Zd g f f2 ρ s=some (c,s2):=by
 unfold Zd Zn;rw[h1];simp only;rw[h2];simp only;unfold YF;rw[h]
theorem Z1 {g:List D->Option D}{fs:Zb->M (List D)}{ds:List D}(h1:fs ρ s=some (ds,s1))(h:g ds=some c):Zw g fs ρ s=some (c,s1):=by
 unfold Zw Zn;rw[h1];simp only;unfold YF;rw[h]
theorem Z4 {F:List D->M D}{fs:Zb->M (List D)}{ds:List D}{q:Option (D×Pn)}(h1:fs ρ s=some (ds,s1))(h:F ds s1=q):Zv F fs ρ s=q:=by
 unfold Zv Zn;rw[h1];exact h
theorem Ze {fs:Zb->M (List D)}{ds:List D}(h1:f ρ s=some (d,s1))(h2:fs ρ s1=some (ds,s2)):Zc f fs ρ s=some (d::ds,s2):=by
 unfold Zc Zn;rw[h1];simp only;rw[h2];rfl
theorem Xz {fs:Zb->M (List D)}{ds:List D}(h1:fs ρ s=some (ds,s1))(hl:ds.length<=sizeLine):Yr fs ρ s=some (.tup ds,s1):=by
 unfold Yr Zn;rw[h1];simp only;rw[if_pos hl];rfl
theorem Ud {fs:Zb->M (List D)}{ds:List D}(h1:fs ρ s=some (ds,s1))(hl:ds.length<=sizeLine):Xf fs ρ s=some (.lst ds,s1):=by
 unfold Xf Zn;rw[h1];simp only;rw[if_pos hl];rfl
theorem ZV {b:Bool}(h:f ρ s=some (.bl b,s1)):Zz f ρ s=some (b,s1):=by unfold Zz Zn;rw[h];rfl
theorem XM {fb:Zb->M Bool}{b:Bool}(h:fb ρ s=some (b,s1)):XY fb ρ s=some (!b,s1):=by unfold XY Zn;rw[h];rfl
end
theorem ZeM {τ:D->Zb->Option Zb}{ft:Zb->M Bool}{fe:Zb->M D}{ρ:Zb}{s:Pn}(r:D->Zb)(b:D->Bool)(c:D->D):∀(ds:List D),(∀d∈ds,τ d ρ=some (r d)/\ft (r d) s=some (b d,s)/\(b d=true->fe (r d) s=some (c d,s)))->
  Uf τ ft fe ρ ds s=some ((ds.filter b).map c,s)
 | [],_=>rfl
 | d::ds,h=>by
  obtain⟨h1,h2,h3⟩:=h d (by simp);have ih:=ZeM r b c ds fun d' m=>h d' (by simp[m]);unfold Uf;simp only[Zn,YF,h1,h2]
  cases hb:b d with
  | true=>simp[Zn,h3 hb,ih,hb,Zx]
  | false=>simp[ih,hb]
theorem ZdJ {τ:D->Zb->Option Zb}{fe:Zb->M D}{ρ:Zb}(P:D->Prop)(I:Pn->Prop):∀(ds:List D) (s:Pn),I s->(∀d∈ds,∀s,I s->∃ρ1,τ d ρ=some ρ1/\Ok (fe ρ1) s fun c s'=>P c/\I s')->
  Ok (Uf τ Yq fe ρ ds) s fun r s'=>r.length=ds.length/\(∀c∈r,P c)/\I s'
 | [],s,hs,_=>.ret ⟨rfl,by simp,hs⟩
 | d::ds,s,hs,h=>by
  obtain⟨ρ1,e1,ok⟩:=h d (by simp) s hs;unfold Uf;refine .bind (.of e1 (.bind (.ret ?_)));refine .bind (ok.mono fun c s1 q=>.bind ((ZdJ P I ds s1 q.2 fun d' m=>h d' (by simp[m])).mono fun r s2 q2=>.ret ⟨by simp[q2.1],?_,q2.2.2⟩));intro x hx;rcases qq.mp hx with e | hx
  ·subst e;exact q.1
  ·exact q2.2.1 x hx
end TF
namespace TP
open L2 TF
def ZhV:Zb->M Out:=(Zh (Wr 1 (Xf Zg))
 (Zh (Y2 (Y0 (Zw YR (Zc (Za 0) Zg))) (ZE 2)
 (Zh (Y2 (BC (Zd Y4 (Za 2) (dC (.int 1))) (Zw YR (Zc (Za 0) Zg))) (ZE 3)
 (Zh (VU 1 (fun ρ=>(Yr (Zc (Zd Zj (Za 0) (Za 2)) (Zc (Zd Zj (Za 0) (Za 3)) Zg))) (Ye [1] ρ)))
 Zl))
 Zl))
 (Zh (ZF (Za 1))
 Zl)))
def Bp:List D->M D:=runB 4 1 ZhV
def ZbN:Zb->M Out:=(Zh (ZF (Zd YZ (Yr (Zc (Zw Jk (Zc (Za 1) (Zc (Za 2) Zg))) (Zc (Zw WP (Zc (Za 1) (Zc (Za 2) Zg))) Zg))) (Za 0)))
 Zl)
def Wy:List D->M D:=runB 3 3 ZbN
def ZoP:Zb->M Out:=(Zh (ZF (Yg [none,some 0,some 1] (Y0 (Zd Zj (Za 0) (dC (.int 0)))) (ZE 0) (Zz (Zv Wy (Zc (Zd Zj (Za 1) (dC (.int 1))) (Zc (Za 2) (Zc (Za 0) Zg))))) (Za 0)))
 Zl)
def VJ:List D->M D:=runB 2 2 ZoP
def Zek:Zb->M Out:=(Zh (ZF (Zw Zla (Zc (Yg [none] (XR (Zd Zj (Za 0) (dC (.int 1)))) (ZE 0) Yq (Yr (Zc (Za 0) (Zc (dC (.bl true)) Zg)))) Zg)))
 Zl)
def V2:List D->M D:=runB 1 1 Zek
def Zbg:Zb->M Out:=(Zh (Yn (Zz (Zd VY (Za 0) (Zd Jq (dC (.int 10)) (dC (.int 18)))))
 (Zh (ZF (Za 0))
 Zl)
 Zl)
 (Zh (Ya 2 (Zd UN (Zd Y4 (Zd Y4 (Zd Uj (Zd UN (Za 0) (dC (.int 2147483647))) (dC (.int 48271))) (Zd Uj (Za 1) (dC (.int 69621)))) (dC (.int 11))) (dC (.int 2147483629))))
 (Zh (Ya 2 (Zd UN (Zd Y4 (Zd Y4 (Zd Uj (Za 2) (Za 2)) (Zd Uj (dC (.int 48271)) (Za 2))) (Za 1)) (dC (.int 2147483587))))
 (Zh (ZF (Zd Y4 (Zd Uj (Za 2) (dC (.int 2147483579))) (Zd UN (Zd Y4 (Zd Uj (Za 2) (Za 2)) (Zd Uj (dC (.int 69621)) (Za 1))) (dC (.int 2147483579)))))
 Zl))))
def UY:List D->M D:=runB 3 2 Zbg
def ZhW:Zb->M Out:=(Zh (Ya 2 (Zv Xt (Zc (Za 0) (Zc (Zd Y4 (Za 1) (dC (.int 1))) Zg))))
 (Zh (sPar 3 4 (Zc (Zv Xt (Zc (Za 0) (Zc (dC (.int 4)) Zg))) (Zc (Zd Y4 (dC (.int 1)) (Zv Xt (Zc (Za 0) (Zc (dC (.int 3)) Zg)))) Zg)))
 (Zh (Ya 5 (Yg [none,some 0] (Y0 (Za 2)) (ZE 0) Yq (Zv Xt (Zc (Za 1) (Zc (dC (.int 2)) Zg)))))
 (Zh (Wr 6 (Xf Zg))
 (Zh (Y2 (Y0 (Za 2)) (ZE 7)
 (Zh (Y2 (BC (Zd Y4 (Za 7) (dC (.int 1))) (Za 2)) (ZE 8)
 (Zh (Ya 9 (fun ρ=>(Zd W9 (Zv Xt (Zc (Za 0) (Zc (dC (.int 4)) Zg))) (Za 4)) (Ye [6] ρ)))
 (Zh (Yn (XZ (Zz (Zd Ys (Za 3) (dC (.int 0)))) (XZ (Zz (Zd Ys (Zd Zj (Za 5) (Za 7)) (dC (.int 1)))) (Zz (Zd Ys (Zd Zj (Za 5) (Za 8)) (dC (.int 1))))))
 (Zh (Ya 9 (fun ρ=>(dC (.bl true)) (Ye [6] ρ)))
 Zl)
 Zl)
 (Zh (Yn (Zz (Zd Ys (Za 3) (dC (.int 1))))
 (Zh (Ya 9 (fun ρ=>(Ba (Zd Ys (Zd We (Za 8) (Za 7)) (dC (.int 1))) (Zd Ys (Zd We (Za 8) (Za 7)) (Zd We (Za 2) (dC (.int 1))))) (Ye [6] ρ)))
 Zl)
 Zl)
 (Zh (Yn (Zz (Za 9))
 (Zh (VU 6 (fun ρ=>(Yr (Zc (Za 7) (Zc (Za 8) Zg))) (Ye [6] ρ)))
 Zl)
 Zl)
 Zl)))))
 Zl))
 (Zh (ZF (Yr (Zc (Za 2) (Zc (Zw WN (Zc (Za 6) Zg)) Zg))))
 Zl))))))
def Bq:List D->M D:=runB 10 2 ZhW
def ZcM:Zb->M Out:=(Zh (ZF (Zd YZ (Yr (Zc (Zw Jk (Zc (Za 1) (Zc (Za 2) Zg))) (Zc (Zw WP (Zc (Za 1) (Zc (Za 2) Zg))) Zg))) (Zd Zj (Za 0) (dC (.int 1)))))
 Zl)
def Us:List D->M D:=runB 3 3 ZcM
end TP
namespace TP
open L2 TF
local macro_rules | `(tactic| walk_at "ev")=>`(tactic| simp[runB,Zh,ZF,Ya,Zl,Yn,Zz,Zd,Zw,Zc,Zg,Yr,Xf,Za,dC,Zv,Zn,Zx,YF,Y4,We,dI,Ye,Wq,Ba,Ui,J7,XZ,Wk,XY])
def ZP (p:Nat×Nat):D:=.tup [.int p.1,.int p.2]
def Zt (n:Nat)(jD:List (Nat×Nat)):D:=.tup [.int n,.tup (jD.map ZP)]
def tied (jD:List (Nat×Nat))(a b:Nat):Bool:=decide ((min a b,max a b)∈jD)
theorem Zlj (p q:Nat×Nat):ZR (ZP p) (ZP q)=decide (p=q):=by
 obtain⟨a,b⟩:=p;obtain⟨c,d⟩:=q;simp only[ZP,ZR,XE,qa1];by_cases h1:a=c
 ·by_cases h2:b=d
  ·subst h1 h2;simp
  ·have:((b:Int)==(d:Int))=false:=by simp;omega
   simp[this,h2]
 ·have:((a:Int)==(c:Int))=false:=by simp;omega
  simp[this,h1]
theorem ZjR (p:Nat×Nat)(jD:List (Nat×Nat)):Wl (ZP p) (jD.map ZP)=decide (p∈jD):=by
 unfold Wl
 induction jD with
 | nil=>simp
 | cons t ts ih=>
  rw[qW,yH,ih,Zlj];by_cases h:t=p
  ·subst h;simp
  ·have:¬p=t:=fun z=>h z.symm
   simp[h,this]
theorem ZcN:∀jD:List (Nat×Nat),Yv (jD.map ZP)=true
 | []=>by simp[Yv]
 | t::ts=>by simp[Yv,ZP,Zr,ZcN ts]
theorem ZdK:∀jD:List (Nat×Nat),Xb (jD.map ZP)<=1
 | []=>by simp[Xb]
 | t::ts=>by
  have:=ZdK ts;simp only[qW,Xb,ZP,Z7];omega
theorem Zlk (p:Nat×Nat):Z7 (ZP p)=1:=by simp[ZP,Z7,Xb]
theorem ZhX (p:Nat×Nat):Zr (ZP p)=true:=by simp[ZP,Zr,Yv]
theorem ZhY (p:Nat×Nat)(jD:List (Nat×Nat)):Wf (ZP p) (jD.map ZP)=true:=by
 have:=ZdK jD;simp[Wf,ZhX,ZcN,Zlk];omega
theorem ZeN (p:Nat×Nat)(jD:List (Nat×Nat)):YZ (ZP p) (.tup (jD.map ZP))=some (.bl (decide (p∈jD))):=by
 have:Uk (ZP p) (.tup (jD.map ZP))=some (decide (p∈jD)):=by
  show(if Wf (ZP p) (jD.map ZP)=true then some (Wl (ZP p) (jD.map ZP)) else none)=_;rw[if_pos (ZhY p jD),ZjR]
 unfold YZ;rw[this];rfl
theorem ZoQ (a b:Nat):(if (b:Int) > a then (b:Int) else a)=((max a b:Nat):Int):=by split <;> omega
theorem Wd {α:Type}(x:α)(xs:List α):Xu (x::xs) 0=some x:=WL (j:=0) rfl
theorem WH {α:Type}(x y:α)(xs:List α):Xu (x::y::xs) 1=some y:=WL (j:=1) rfl
theorem two_le:2<=sizeLine:=by decide
theorem ZbO (a b:Nat):D.tup [.int (if b<a then (b:Int) else a),.int (if a<b then (b:Int) else a)]=ZP (min a b,max a b):=by
 unfold ZP;congr 2
 ·congr 1;split <;> omega
 ·congr 2;split <;> omega
theorem ZgA (jD:List (Nat×Nat))(a b:Nat)(s:Pn):Wy [.tup (jD.map ZP),.int a,.int b] s=some (.bl (tied jD a b),s):=by
 simp[Wy,ZbN,runB,Zh,ZF,Zl,Zd,Zw,Zc,Zg,Yr,Za,Zn,Zx,YF,Jk,WP,two_le,ZbO,ZeN,tied]
theorem ZcO (n:Nat)(jD:List (Nat×Nat))(a b:Nat)(s:Pn):Us [Zt n jD,.int a,.int b] s=some (.bl (tied jD a b),s):=by
 simp[Us,ZcM,runB,Zh,ZF,Zl,Zd,Zw,Zc,Zg,Yr,Za,dC,Zn,Zx,YF,Jk,WP,two_le,ZbO,Zt,Zj,WH,ZeN,tied]
theorem Xk {src:List (Option Nat)}{fi:Zb->M (List D)}{τ:D->Zb->Option Zb}{ft:Zb->M Bool}{fe:Zb->M D}{ρ:Zb}{s:Pn}{ds:List D}(r:D->Zb)(b:D->Bool)(c:D->D)(hi:fi ρ s=some (ds,s))(hl:ds.length<=sizeLine)
  (h:∀d∈ds,τ d (Wq src ρ)=some (r d)/\ft (r d) s=some (b d,s)/\(b d=true->fe (r d) s=some (c d,s))):Yg src fi τ ft fe ρ s=some (.lst ((ds.filter b).map c),s):=by
 unfold Yg;simp only[Zn,hi,hl,if_true,ZeM r b c ds h,Zx]
theorem ZjS (n:Nat)(h:n<=100000):-(2 ^ 62)<=(n:Int)/\(n:Int)<2 ^ 62:=by omega
theorem YG:sizeLine=16777216:=by decide
theorem Wp {f:Zb->M D}{ρ:Zb}{s:Pn}{n:Nat}(h:f ρ s=some (.int n,s))(hn:n<=100000):Y0 f ρ s=some (Yp 0 n,s):=by
 unfold Y0;simp only[Zn,h];show(if -(2 ^ 62)<=(n:Int)/\(n:Int)<2 ^ 62 then Zx (Yp 0 (n:Int).toNat) else ZC) s=_;rw[if_pos (ZjS n hn)];rfl
theorem ZeO {f g:Zb->M D}{ρ:Zb}{s:Pn}{a n:Nat}(h:f ρ s=some (.int a,s))(h2:g ρ s=some (.int n,s))(ha:a<=100000)(hn:n<=100000):BC f g ρ s=some (Yp a (n-a),s):=by
 unfold BC;simp only[Zn,h,h2];show(if -(2 ^ 62)<=(a:Int)/\(a:Int)<2 ^ 62/\-(2 ^ 62)<=(n:Int)/\(n:Int)<2 ^ 62 then Zx (Yp a ((n:Int)-a).toNat) else ZC) s=_;rw[if_pos (by omega),show((n:Int)-(a:Int)).toNat=n-a by omega];rfl
theorem X2 (lo:Int)(n:Nat):(Yp lo n).length=n:=by simp[Yp]
theorem Za1 {lo n i:Nat}{d:D}(h:(Yp lo n)[i]?=some d):i<n/\d=.int ((lo+i:Nat):Int):=by
 have hi:i<n:=by
  have:=(qD.mp h).1;simpa[Yp] using this
 refine⟨hi,?_⟩;unfold Yp at h;rw[qy,zE hi] at h;simp at h;rw[<-h];simp
theorem U1 {n:Nat}{d:D}(h:d∈Yp 0 n):∃i:Nat,i<n/\d=.int (i:Int):=by
 unfold Yp at h;obtain⟨i,hi,e⟩:=qC.mp h;exact⟨i,by simpa using hi,by rw[<-e];simp⟩
theorem V8 (n:Nat):Yp 0 n=(qp n).map fun(i:Nat)=>D.int (i:Int):=by
 unfold Yp;simp
def Yc:D->Nat
 | .int i=>i.toNat
 | _=>0
theorem Zbh (n:Nat)(p:Nat->Bool):((Yp 0 n).filter fun d=>p (Yc d)).map (fun d=>d)=((qp n).filter p).map fun(i:Nat)=>D.int (i:Int):=by
 rw[V8,yi];simp only[List.map_id'];congr 1
end TP
namespace TP
open L2 TF
theorem jo {α:Type}{m:M α}{s s':Pn}{a:α}(h:Ok m s fun b t=>b=a/\t=s'):m s=some (a,s'):=by
 obtain⟨b,t,e,rfl,rfl⟩:=h;exact e
theorem Zdm {n:Nat}(hn:n<=100000):(Yp 0 n).length<=sizeLine:=by rw[X2,YG];omega
theorem ZoR (n:Nat)(jD:List (Nat×Nat))(p:Nat)(s:Pn)(hn:n<=100000):Yg [none,some 0,some 1] (Y0 (Zd Zj (Za 0) (dC (.int 0)))) (ZE 0) (Zz (Zv Wy (Zc (Zd Zj (Za 1) (dC (.int 1))) (Zc (Za 2) (Zc (Za 0) Zg))))) (Za 0) [some (Zt n jD),some (.int p)] s
   = some (.lst (((qp n).filter fun o=>tied jD p o).map fun(i:Nat)=>D.int (i:Int)),s):=by
 rw[<-Zbh];refine Xk (ds:=Yp 0 n) (fun d=>[some d,some (Zt n jD),some (.int p)]) (fun d=>tied jD p (Yc d)) (fun d=>d) (Wp (Zq (d:=Zt n jD) (e:=.int 0) rfl rfl (by unfold Zt;exact Wd _ _)) hn) (Zdm hn) ?_;intro d hd;obtain⟨i,hi,rfl⟩:=U1 hd;refine⟨rfl,ZV (Z4 (Ze (Zq (d:=Zt n jD) (e:=.int 1) rfl rfl (by unfold Zt;exact WH _ _ _)) (Ze rfl (Ze rfl rfl))) ?_),fun _=>rfl⟩;exact ZgA jD p i s
theorem Zm8 (n:Nat)(jD:List (Nat×Nat))(p:Nat)(s:Pn)(hn:n<=100000):VJ [Zt n jD,.int p] s=some (.lst (((qp n).filter fun o=>tied jD p o).map fun(i:Nat)=>D.int (i:Int)),s):=
 Y7 rfl (YW (Y8 (ZoR n jD p s hn)))
def J9 (row:D)(ds:List D):Prop:=row=.lst ds∨row=.tup ds
theorem J9.len {row:D}{ds:List D}(h:J9 row ds):YR [row]=some (.int ds.length):=by
 rcases h with rfl | rfl <;> rfl
theorem J9.ix {row:D}{ds:List D}(h:J9 row ds){i:Nat}(hi:i<ds.length):Zj row (.int (i:Int))=some (ds.getD i .non):=by
 have e:ds[i]?=some (ds.getD i .non):=by simp[qaF,hi]
 rcases h with rfl | rfl <;> exact WL e
def XF (n i:Nat):List (Nat×Nat):=(qp i).flatMap fun a=>(qp (n-(a+1))).map fun k=>(a,a+1+k)
def XG (n:Nat):List (Nat×Nat):=XF n n
theorem Bu (n i:Nat):XF n (i+1)=XF n i++(qp (n-(i+1))).map fun k=>(i,i+1+k):=by
 unfold XF;rw[qac,List.flatMap_append];simp
theorem Zb0 (n:Nat):∀i,(XF n i).length<=i*n
 | 0=>by simp[XF]
 | i+1=>by
  have:=Zb0 n i;rw[Bu,zp,qd,qO];have e:(i+1)*n=i*n+n:=Nat.succ_mul i n;omega
def UT (ds:List D)(p:Nat×Nat):D:=.tup [ds.getD p.1 .non,ds.getD p.2 .non]
theorem ZiU (n i j:Nat)(hn:n<=1000)(hi:i<n)(hj:j<=n):(XF n i).length+j<sizeLine:=by
 have h1:=Zb0 n i;have h2:i*n<=1000*1000:=qbC (by omega) hn;rw[YG];omega
theorem ZgB (row:D)(ds:List D)(h:J9 row ds)(hn:ds.length<=1000)(s:Pn):Bp [row] s=some (.lst ((XG ds.length).map (UT ds)),s):=by
 refine Y7 rfl (jo ?_);refine Ok.seq (.sown (.eq (a:=.lst []) rfl ⟨rfl,?_⟩));show Ok _ s _;refine Ok.seq (.sfor (fun i ρ s'=>s=s'/\∃o2 o3,ρ=[some row,some (.lst ((XF ds.length i).map (UT ds))),o2,o3]) (.eq (Wp (Z1 (Ze rfl rfl) h.len) (by omega)) ⟨⟨rfl,none,none,rfl⟩,fun i d ρ s' hd hI=>?_,fun ρ' s' hI=>?_⟩))
 ·obtain⟨rfl,o2,o3,rfl⟩:=hI
  obtain⟨hi,rfl⟩:=Za1 hd;refine⟨_,rfl,?_⟩;refine Ok.seq (.sfor (fun j ρ s'=>s=s'/\∃o3,ρ=[some row,some (.lst ((XF ds.length i).map (UT ds)++(qp j).map fun k=>UT ds (i,i+1+k))),some (.int ((0+i:Nat):Int)),o3]) (.eq (ZeO (a:=i+1) (Zq (d:=.int ((0+i:Nat):Int)) (e:=.int 1) (c:=.int ((i+1:Nat):Int)) rfl rfl (by simp[Y4])) (Z1 (Ze rfl rfl) h.len) (by omega) (by omega)) ⟨⟨rfl,o3,by simp⟩,fun j d ρ s' hd hJ=>?_,fun ρ' s' hJ=>?_⟩))
  ·obtain⟨rfl,o3,rfl⟩:=hJ
   obtain⟨hj,rfl⟩:=Za1 hd;refine⟨_,rfl,?_⟩;refine Ok.seq (.sapp (ds:=(XF ds.length i).map (UT ds)++(qp j).map fun k=>UT ds (i,i+1+k)) rfl (by simp only[zp,qd,qO];exact ZiU _ _ _ hn hi (by omega)) (.eq (Xz (Ze (Zq (d:=row) (e:=.int ((0+i:Nat):Int)) rfl rfl (by rw[qbb];exact h.ix hi)) (Ze (Zq (d:=row) (e:=.int ((i+1+j:Nat):Int)) rfl rfl (h.ix (by omega))) rfl)) two_le) ?_));refine Ok.next ⟨_,rfl,rfl,some (.int ((i+1+j:Nat):Int)),?_⟩;rw[qac,zj,<-qau];rfl
  ·obtain⟨rfl,o3',rfl⟩:=hJ
   refine Ok.next ⟨_,rfl,rfl,some (.int ((0+i:Nat):Int)),o3',?_⟩;rw[Bu,zj,qH,X2];rfl
 ·obtain⟨rfl,o2,o3,rfl⟩:=hI
  refine Ok.seq (.sret (.eq rfl ⟨?_,rfl⟩));rw[X2];rfl
end TP
namespace TP
open L2 TF
def Wg (p:Nat×Nat):List Zy:=[.inl (p.1:Int),.inl (p.2:Int)]
theorem Zll {p q:Nat×Nat}(h:Wg p=Wg q):p=q:=by
 simp only[Wg,qaK,qZ.injEq,and_true] at h;obtain⟨a,b⟩:=p;obtain⟨c,d⟩:=q;simp only at h;have h1:a=c:=by omega
 have h2:b=d:=by omega
 rw[h1,h2]
def YV (jL:List (List Zy×V))(jD:List (Nat×Nat)):List (List Zy×V):=jD.foldl (fun jL p=>Yo jL (Wg p) (.bl true)) jL
theorem Zm9 (p:Nat×Nat):ZiQ (.tup [ZP p,.bl true])=some (Wg p,.bl true):=rfl
theorem ZeP:∀(jD:List (Nat×Nat)) (jL:List (List Zy×V)),Vw jL (jD.map fun p=>D.tup [ZP p,.bl true])=some (YV jL jD)
 | [],jL=>rfl
 | t::ts,jL=>by
  rw[qW];unfold Vw;rw[Zm9];exact ZeP ts _
theorem ZgC (p:Nat×Nat):∀(jD:List (Nat×Nat)) (jL:List (List Zy×V)),(Z6 (YV jL jD) (Wg p)).isSome=(decide (p∈jD)||(Z6 jL (Wg p)).isSome)
 | [],jL=>by simp[YV]
 | t::ts,jL=>by
  have ih:=ZgC p ts (Yo jL (Wg t) (.bl true));have e:YV jL (t::ts)=YV (Yo jL (Wg t) (.bl true)) ts:=rfl;rw[e,ih,Zgj];by_cases h:p=t
  ·subst h;simp
  ·have hk:¬Wg p=Wg t:=fun z=>h (Zll z)
   rw[if_neg hk];simp[h]
theorem Zct (n:Nat)(jD:List (Nat×Nat))(s:Pn)(hl:jD.length<=100000):V2 [Zt n jD] s=some (.dt (YV [] jD),s):=by
 have hc:Yg [none] (XR (Zd Zj (Za 0) (dC (.int 1)))) (ZE 0) Yq (Yr (Zc (Za 0) (Zc (dC (.bl true)) Zg))) [some (Zt n jD)] s=some (.lst ((jD.map ZP).map fun d=>D.tup [d,.bl true]),s):=by
  have q:=Xk (src:=[none]) (fi:=XR (Zd Zj (Za 0) (dC (.int 1)))) (τ:=ZE 0) (ft:=Yq) (fe:=Yr (Zc (Za 0) (Zc (dC (.bl true)) Zg))) (ρ:=[some (Zt n jD)]) (s:=s) (ds:=jD.map ZP) (fun d=>[some d]) (fun _=>true) (fun d=>D.tup [d,.bl true])
   (by unfold XR Zn;rw[Zq (d:=Zt n jD) (e:=.int 1) (c:=.tup (jD.map ZP)) rfl rfl (by unfold Zt;exact WH _ _ _)];rfl) (by rw[qd,YG];omega)
   (fun d hd=>⟨rfl,rfl,fun _=>Xz (Ze rfl (Ze rfl rfl)) two_le⟩)
  have q2:(jD.map ZP).filter (fun _=>true)=jD.map ZP:=qbS.mpr (by simp);rw[q,q2]
 refine Y7 rfl (YW (Y8 (Z1 (Ze hc rfl) ?_)));rw[qH];show(if ((jD.map ((fun d=>D.tup [d,.bl true])∘ZP)).length<=sizeLine) then (Vw [] _).map D.dt else none)=_;rw[if_pos (by rw[qd,YG];omega)];have e:=ZeP jD [];show(Vw [] (jD.map fun p=>D.tup [ZP p,.bl true])).map D.dt=_;rw[e];rfl
theorem Zb1 {n i:Nat}{p:Nat×Nat}(h:p∈XF n i):p.1<i/\p.1<p.2/\p.2<n:=by
 unfold XF at h;obtain⟨a,ha,h⟩:=List.mem_flatMap.mp h;obtain⟨k,hk,rfl⟩:=qC.mp h;simp at ha hk;exact⟨ha,by simp;omega,by simp;omega⟩
theorem ZjT {n:Nat}{p:Nat×Nat}(h:p∈XG n):UT (Yp 0 n) p=ZP p:=by
 obtain⟨h1,h2,h3⟩:=Zb1 h;have g:∀i,i<n->(Yp 0 n).getD i .non=.int (i:Int):=fun i hi=>by
  rw[V8];simp[qaF,hi]
 unfold UT ZP;rw[g _ h1,g _ h3]
theorem ZgD {n:Nat}(s:Pn)(hn:n<=1000):Bp [.lst (Yp 0 n)] s=some (.lst ((XG n).map ZP),s):=by
 rw[ZgB _ _ (.inl rfl) (by rw[X2];exact hn) s,X2];congr 3;exact zF fun p hp=>ZjT hp
theorem Zb2 {f:Zb->M D}{ρ:Zb}{s:Pn}{n:Nat}(h:f ρ s=some (.int n,s))(hn:n<=1000):V4 f ρ s=some (.lst (Yp 0 n),s):=by
 unfold V4 Zn;rw[h];show(if -(2 ^ 62)<=(n:Int)/\(n:Int)<=2 ^ 24 then Zx (D.lst (Yp 0 (n:Int).toNat)) else ZC) s=_;rw[if_pos (by omega)];rfl
theorem Zlm (n:Nat)(hn:n<=1000):(XG n).length<=1000000:=by
 have h1:=Zb0 n n;have h2:n*n<=1000*1000:=qbC hn hn;unfold XG;omega
theorem Zfp (l:List (Nat×Nat))(b:D->Bool)(q:Nat×Nat->Bool)(h:∀p,b (ZP p)=q p):((l.map ZP).filter b).map (fun d=>d)=(l.filter q).map ZP:=by
 rw[yi,List.map_id'];congr 1;exact List.filter_congr fun p _=>h p
def nat2:D->Nat×Nat
 | .tup [a,b]=>(Yc a,Yc b)
 | _=>(0,0)
theorem ZjU (p:Nat×Nat):nat2 (ZP p)=p:=rfl
end TP
namespace TF
open L2
theorem ZiV {n:Nat}:∀(l:List D),(∀d∈l,Z7 d<=n)->Xb l<=n
 | [],_=>by simp[Xb]
 | d::l,h=>by
  have:=h d (by simp);have:=ZiV l fun x m=>h x (by simp[m]);simp only[Xb];omega
theorem Ok.runB {n k:Nat}{g:Zb->M Out}{ds:List D}{s:Pn}{Q:D->Pn->Prop}(hl:ds.length=k)(h:Ok (g (ds.map some++zC (n-k) none)) s fun o s'=>match o with | .rt d=>Q d s' | .nx _=>Q .non s' | _=>False):Ok (runB n k g ds) s Q:=by
 unfold TF.runB;rw[if_pos hl];refine .bind (h.mono fun o s' q=>?_)
 cases o with
 | rt d=>exact .ret q
 | nx ρ=>exact .ret q
 | bk ρ=>exact q.elim
 | ct ρ=>exact q.elim
theorem Ok.band {f g:Zb->M Bool}{ρ:Zb}{s:Pn}{Q:Bool->Pn->Prop}(h:Ok (f ρ) s fun b s1=>if b=true then Ok (g ρ) s1 Q else Q false s1):Ok (XZ f g ρ) s Q:=by
 refine .bind (h.mono fun b s1 q=>?_)
 cases b with
 | true=>simpa using q
 | false=>exact .ret (by simpa using q)
theorem Ok.fn {F:List D->M D}{fs:Zb->M (List D)}{ρ:Zb}{s s1:Pn}{ds:List D}{Q:D->Pn->Prop}(h1:fs ρ s=some (ds,s1))(h:Ok (F ds) s1 Q):Ok (Zv F fs ρ) s Q:=by
 obtain⟨a,s',e,q⟩:=h;exact⟨a,s',Z4 h1 e,q⟩
theorem Ok.draw {fs:Zb->M (List D)}{ρ:Zb}{s:Pn}{m:Nat}{Q:D->Pn->Prop}(ok:X7 s)(h1:fs ρ s=some ([.pen,.int (m:Int)],s))(hm:0<m)(hm2:m<1073741824)(h:∀(r:Nat) s',r<m->X7 s'->Q (.int (r:Int)) s'):Ok (Zv Xt fs ρ) s Q:=by
 obtain⟨r,s1,e,r0,r1,ok1⟩:=Zm6 ok (show 0<(m:Int) by omega) (show(m:Int)<1073741824 by omega);obtain⟨n,rfl⟩:=Int.eq_ofNat_of_zero_le r0;exact .fn h1 (.eq e (h n s1 (by omega) ok1))
theorem Ok.op {g:D->D->Option D}{f f2:Zb->M D}{ρ:Zb}{s:Pn}{Q:D->Pn->Prop}(h:Ok (f ρ) s fun d s1=>Ok (f2 ρ) s1 fun e s2=>∃c,g d e=some c/\Q c s2):Ok (Zd g f f2 ρ) s Q:=
 .bind (h.mono fun d s1 q=>.bind (q.mono fun e s2 q=>let ⟨c,e1,q⟩:=q;.of e1 q))
theorem Ok.cons {f:Zb->M D}{fs:Zb->M (List D)}{ρ:Zb}{s:Pn}{Q:List D->Pn->Prop}(h:Ok (f ρ) s fun d s1=>Ok (fs ρ) s1 fun ds s2=>Q (d::ds) s2):Ok (Zc f fs ρ) s Q:=
 .bind (h.mono fun d s1 q=>.bind (q.mono fun e s2 q=>.ret q))
theorem Ok.nil {ρ:Zb}{s:Pn}{Q:List D->Pn->Prop}(h:Q [] s):Ok (Zg ρ) s Q:=.ret h
theorem Ok.comp {src:List (Option Nat)}{fi:Zb->M (List D)}{τ:D->Zb->Option Zb}{fe:Zb->M D}{ρ:Zb}{s:Pn}{ds:List D}{Q:D->Pn->Prop}(P:D->Prop)(I:Pn->Prop)(hi:fi ρ s=some (ds,s))(hl:ds.length<=sizeLine)(h0:I s)
  (hb:∀d∈ds,∀s,I s->∃ρ1,τ d (Wq src ρ)=some ρ1/\Ok (fe ρ1) s fun c s'=>P c/\I s') (hq:∀r s',r.length=ds.length->(∀c∈r,P c)->I s'->Q (.lst r) s'):Ok (Yg src fi τ Yq fe ρ) s Q:=by
 unfold Yg;refine .bind (.eq hi ?_);exact .ite hl (.bind ((ZdJ P I ds s h0 hb).mono fun r s' q=>.ret (hq r s' q.1 q.2.1 q.2.2)))
end TF
namespace TP
open L2 TF
theorem ZdL (n:Nat):∀i,(XF n i).Nodup
 | 0=>by simp[XF]
 | i+1=>by
  rw[Bu,qav];refine⟨ZdL n i,?_,?_⟩
  ·refine zO.mpr (yI.imp ?_ zV)
   intro a b h e;have:=congrArg Prod.snd e;simp at this;exact h this
  ·intro a ha b hb e
   have h1:=(Zb1 ha).1;obtain⟨k,_,rfl⟩:=qC.mp hb;rw[e] at h1;simp at h1
theorem ZbP (n:Nat):(XG n).Nodup:=ZdL n n
theorem Ux {n:Nat}{p:Nat×Nat}:p∈XG n↔p.1<p.2/\p.2<n:=by
 constructor
 ·intro h;exact(Zb1 h).2
 ·intro ⟨h1,h2⟩
  unfold XG XF;refine List.mem_flatMap.mpr ⟨p.1,by simp;omega,qC.mpr ⟨p.2-(p.1+1),by simp;omega,?_⟩⟩;obtain⟨a,b⟩:=p;simp only at h1 h2⊢;rw[show a+1+(b-(a+1))=b by omega]
theorem JH {n i:Nat}{d:D}(h:(Yp 0 n)[i]?=some d):i<n/\d=.int (i:Int):=by
 have:=Za1 (lo:=0) h;rw[qbb] at this;exact this
def IsWeb (n:Nat)(jD:List (Nat×Nat)):Prop:=jD.Sublist (XG n)
theorem IsWeb.mem {n:Nat}{jD:List (Nat×Nat)}(h:IsWeb n jD){p:Nat×Nat}(hp:p∈jD):p.1<p.2/\p.2<n:=Ux.mp (h.subset hp)
theorem IsWeb.len {n:Nat}{jD:List (Nat×Nat)}(h:IsWeb n jD)(hn:n<=24):jD.length<=576:=by
 have h1:=h.length_le;have h2:=Zb0 n n;have h3:n*n<=24*24:=qbC hn hn;unfold XG at h1;omega
theorem IsWeb.filter {n:Nat}(f:Nat×Nat->Bool):IsWeb n ((XG n).filter f):=zh
theorem Uz {jD:List (Nat×Nat)}{a b:Nat}(h:a<b):tied jD a b=decide ((a,b)∈jD):=by
 unfold tied;rw[show min a b=a by omega,show max a b=b by omega]
theorem Uv (jD:List (Nat×Nat))(a b:Nat):tied jD a b=tied jD b a:=by
 unfold tied;rw[show min a b=min b a by omega,show max a b=max b a by omega]
theorem WT {n:Nat}{jD:List (Nat×Nat)}:Zj (Zt n jD) (.int 0)=some (.int n):=by unfold Zt;exact Wd _ _
theorem web1 {n:Nat}{jD:List (Nat×Nat)}:Zj (Zt n jD) (.int 1)=some (.tup (jD.map ZP)):=by unfold Zt;exact WH _ _ _
theorem ZgE (way rate n i j:Nat)(somes:List D)(hi:i<somes.length)(hj:j<somes.length)(hs:∀c∈somes,∃k:Int,c=.int k)(x0 x1 x6:Option D)(s:Pn)(o9:Bool){g:Zb->M Out}{Q:Out->Pn->Prop}
  (hg:∀b,Ok (g [x0,x1,some (.int n),some (.int way),some (.int rate),some (.lst somes),x6,some (.int i),some (.int j),some (.bl b)]) s Q) :
  Ok ((Zh (Yn (XZ (Zz (Zd Ys (Za 3) (dC (.int 0)))) (XZ (Zz (Zd Ys (Zd Zj (Za 5) (Za 7)) (dC (.int 1)))) (Zz (Zd Ys (Zd Zj (Za 5) (Za 8)) (dC (.int 1))))))
 (Zh (Ya 9 (fun ρ=>(dC (.bl true)) (Ye [6] ρ)))
 Zl)
 Zl)
 (Zh (Yn (Zz (Zd Ys (Za 3) (dC (.int 1))))
 (Zh (Ya 9 (fun ρ=>(Ba (Zd Ys (Zd We (Za 8) (Za 7)) (dC (.int 1))) (Zd Ys (Zd We (Za 8) (Za 7)) (Zd We (Za 2) (dC (.int 1))))) (Ye [6] ρ)))
 Zl)
 Zl) g)) [x0,x1,some (.int n),some (.int way),some (.int rate),some (.lst somes),x6,some (.int i),some (.int j),some (.bl o9)]) s Q:=by
 have Va:∀a b:Int,Ys (.int a) (.int b)=some (.bl (a==b)):=fun a b=>by
  unfold Ys;rw[if_pos (by simp[WS,Zr,Z7])];simp[ZR]
 have ixs:∀k,k<somes.length->∃v:Int,Zj (.lst somes) (.int (k:Int))=some (.int v):=fun k hk=>by
  obtain⟨v,hv⟩:=hs (somes[k]) (zu hk);exact⟨v,by rw[<-hv];exact WL (by simp[hk])⟩
 obtain⟨v1,e1⟩:=ixs i hi;obtain⟨v2,e2⟩:=ixs j hj;have last:∀b,Ok ((Zh (Yn (Zz (Zd Ys (Za 3) (dC (.int 1))))
 (Zh (Ya 9 (fun ρ=>(Ba (Zd Ys (Zd We (Za 8) (Za 7)) (dC (.int 1))) (Zd Ys (Zd We (Za 8) (Za 7)) (Zd We (Za 2) (dC (.int 1))))) (Ye [6] ρ)))
 Zl)
 Zl) g) [x0,x1,some (.int n),some (.int way),some (.int rate),some (.lst somes),x6,some (.int i),some (.int j),some (.bl b)]) s Q:=by
  intro b;refine .seq (.sif (.eq (ZV (Zq (d:=.int (way:Int)) (e:=.int 1) rfl rfl (Va _ _))) ?_));split
  ·refine .seq (.sset ?_)
   refine .bind (.eq (Zq (d:=.int ((j:Int)-i)) (e:=.int 1) (Zq (d:=.int (j:Int)) (e:=.int (i:Int)) rfl rfl rfl) rfl (Va _ _)) ?_);generalize ((j:Int)-i==1)=c
   cases c with
   | true=>
    refine .ret (.next ?_);exact hg true
   | false=>
    refine .eq (Zq (d:=.int ((j:Int)-i)) (e:=.int ((n:Int)-1)) (Zq (d:=.int (j:Int)) (e:=.int (i:Int)) rfl rfl rfl) (Zq (d:=.int (n:Int)) (e:=.int 1) rfl rfl rfl) (Va _ _)) (.next ?_);exact hg _
  ·refine .next ?_
   exact hg b
 refine .seq (.sif (.band (.eq (ZV (Zq (d:=.int (way:Int)) (e:=.int 0) rfl rfl (Va _ _))) ?_)));split
 ·refine .band (.eq (ZV (Zq (d:=.int v1) (e:=.int 1) (Zq (d:=.lst somes) (e:=.int (i:Int)) rfl rfl e1) rfl (Va _ _))) ?_)
  split
  ·refine .eq (ZV (Zq (d:=.int v2) (e:=.int 1) (Zq (d:=.lst somes) (e:=.int (j:Int)) rfl rfl e2) rfl (Va _ _))) ?_
   split
   ·refine .seq (.sset (.eq (a:=.bl true) rfl ?_))
    refine .next ?_;exact last true
   ·refine .next ?_
    exact last o9
  ·refine .next ?_
   exact last o9
 ·refine .next ?_
  exact last o9
end TP
namespace TP
open L2 TF
theorem Zna {n i j:Nat}{l:List (Nat×Nat)}(h:l.Sublist (XF n i++(qp j).map fun k=>(i,i+1+k)))(hn:n<=1000)(hi:i<n)(hj:j<=n):(l.map ZP).length<sizeLine:=by
 have h1:=h.length_le;rw[zp,qd,qO] at h1;have h2:=ZiU n i j hn hi hj;rw[qd];omega
theorem ZoS {s:Pn}(ok:X7 s)(most:Nat)(hm:most<=24):Ok (Bq [.pen,.int (most:Int)]) s fun d s'=>X7 s'/\∃n jD,d=Zt n jD/\n<=most/\IsWeb n jD:=by
 refine Ok.runB rfl ?_;refine Ok.seq (.sset (.draw (m:=most+1) ok (Ze rfl (Ze (Zq (d:=.int (most:Int)) (e:=.int 1) rfl rfl rfl) rfl)) (by omega) (by omega) fun n s1 hn ok1=>?_));refine Ok.seq (.spar (.cons (.draw (m:=4) ok1 (Ze rfl (Ze rfl rfl)) (by omega) (by omega) fun way s2 hw ok2=>.cons (.op (.eq (a:=.int 1) rfl (.draw (m:=3) ok2 (Ze rfl (Ze rfl rfl)) (by omega) (by omega) fun r s3 hr ok3=>⟨.int ((1+r:Nat):Int),by simp[Y4],.nil ⟨_,_,rfl,rfl,rfl,?_⟩⟩))))));refine Ok.seq (.sset (.comp (ds:=Yp 0 n) (fun c=>∃k:Int,c=.int k) X7 (Wp rfl (by omega)) (Zdm (by omega)) ok3 (fun d hd s ok=>⟨_,rfl,.draw (m:=2) ok (Ze rfl (Ze rfl rfl)) (by omega) (by omega) fun r s' _ ok'=>⟨⟨_,rfl⟩,ok'⟩⟩) fun somes s4 hl hs ok4=>?_));rw[X2] at hl;refine Ok.seq (.sown (.eq (a:=.lst []) rfl ⟨rfl,?_⟩));refine Ok.seq (.sfor (fun i ρ s'=>X7 s'/\∃(jD:List (Nat×Nat)) (o7 o8 o9:Option D),jD.Sublist (XF n i)/\ρ=[some .pen,some (.int (most:Int)),some (.int (n:Int)),some (.int (way:Int)),some (.int ((1+r:Nat):Int)),some (.lst somes),some (.lst (jD.map ZP)),o7,o8,o9]) (.eq (Wp rfl (by omega)) ⟨⟨ok4,[],none,none,none,List.nil_sublist _,rfl⟩,fun i d ρ s' hd hI=>?_,fun ρ' s' hI=>?_⟩))
 ·obtain⟨ok5,jD,o7,o8,o9,hsub,rfl⟩:=hI
  obtain⟨hi,rfl⟩:=JH hd;refine⟨_,rfl,?_⟩;refine Ok.seq (.sfor (fun j ρ s'=>X7 s'/\∃(jD:List (Nat×Nat)) (o8 o9:Option D),jD.Sublist (XF n i++(qp j).map fun k=>(i,i+1+k))/\ρ=[some .pen,some (.int (most:Int)),some (.int (n:Int)),some (.int (way:Int)),some (.int ((1+r:Nat):Int)),some (.lst somes),some (.lst (jD.map ZP)),some (.int (i:Int)),o8,o9]) (.eq (ZeO (a:=i+1) (n:=n) (Zq (d:=.int (i:Int)) (e:=.int 1) (c:=.int ((i+1:Nat):Int)) rfl rfl (by simp[Y4])) rfl (by omega) (by omega)) ⟨⟨ok5,jD,o8,o9,by simpa using hsub,rfl⟩,fun j d ρ s' hd hJ=>?_,fun ρ' s' hJ=>?_⟩))
  ·obtain⟨ok6,jD,o8,o9,hsub,rfl⟩:=hJ
   obtain⟨hj,rfl⟩:=Za1 hd;refine⟨_,rfl,?_⟩;refine Ok.seq (.sset (.op (.draw (m:=4) ok6 (Ze rfl (Ze rfl rfl)) (by omega) (by omega) fun v s7 hv ok7=>.eq (a:=.int ((1+r:Nat):Int)) rfl ⟨_,rfl,?_⟩)));have fin:∀b,Ok (Zh (Yn (Zz (Za 9)) (Zh (VU 6 (fun ρ=>(Yr (Zc (Za 7) (Zc (Za 8) Zg))) (Ye [6] ρ))) Zl) Zl) Zl [some .pen,some (.int (most:Int)),some (.int (n:Int)),some (.int (way:Int)),some (.int ((1+r:Nat):Int)),some (.lst somes),some (.lst (jD.map ZP)),some (.int (i:Int)),some (.int ((i+1+j:Nat):Int)),some (.bl b)]) s7
     fun o s'=>∃ρ',o=.nx ρ'/\X7 s'/\∃(jD:List (Nat×Nat)) (o8 o9:Option D),jD.Sublist (XF n i++(qp (j+1)).map fun k=>(i,i+1+k))/\ρ'=[some .pen,some (.int (most:Int)),some (.int (n:Int)),some (.int (way:Int)),some (.int ((1+r:Nat):Int)),some (.lst somes),some (.lst (jD.map ZP)),some (.int (i:Int)),o8,o9]:=by
    intro b;refine Ok.seq (.sif (.eq (ZV rfl) ?_))
    cases b with
    | true=>
     refine .seq (.sapp (ds:=jD.map ZP) rfl (Zna hsub (by omega) hi (by omega)) (.eq (Xz (Ze rfl (Ze rfl rfl)) two_le) ?_));refine .next (.next ⟨_,rfl,ok7,jD ++ [(i,i+1+j)],some (.int ((i+1+j:Nat):Int)),some (.bl true),?_,?_⟩)
     ·rw[qac,zj,<-qau]
      exact qb4.append hsub (qb4.refl _)
     ·rw[zj];rfl
    | false=>
     refine .next (.next ⟨_,rfl,ok7,jD,some (.int ((i+1+j:Nat):Int)),some (.bl false),?_,rfl⟩);rw[qac,zj,<-qau];exact hsub.trans (List.sublist_append_left _ _)
   exact ZgE way (1+r) n i (i+1+j) somes (by omega) (by omega) hs (some .pen) (some (.int (most:Int))) (some (.lst (jD.map ZP))) s7 (decide ((v:Int)<((1+r:Nat):Int))) fin
  ·obtain⟨ok6,jD,o8',o9',hsub,rfl⟩:=hJ
   refine Ok.next ⟨_,rfl,ok6,jD,some (.int (i:Int)),o8',o9',?_,rfl⟩;rw[Bu]
   rwa[X2] at hsub
 ·obtain⟨ok5,jD,o7,o8,o9,hsub,rfl⟩:=hI
  rw[X2] at hsub;exact Ok.seq (.sret (.eq (Xz (Ze rfl (Ze (Z1 (Ze rfl rfl) rfl) rfl)) two_le) ⟨ok5,n,jD,rfl,by omega,hsub⟩))
end TP
namespace HT
section
variable {prog:Program}{w:World}{A:Around}{E:Value->Shared->Prop}{s:Shared}
theorem getItem_tuple_whole {t sl:Addr}{items:Array Value}{vl vu:Value}{lo hi:Option Int}{Q:Value->Shared->Prop}(ht:IsTup s.heap t items)(hs:s.heap.IsSliceOf sl vl vu .none)(pl:IsPart vl lo)(pu:IsPart vu hi)
  (hw:sIx items.size 0 lo=0/\sIx items.size items.size hi=items.size)
  (h:Q (.ref t) s)
  (hsz:items.size<=sizeLine):wpAny (model prog w) A (getItem (.ref t) (.ref sl)) Q E s:=by
 obtain⟨os,hos,hcs,hds⟩:=id hs;have hTs:s.TypeIs (.ref sl) "slice":=⟨os,hos,hcs⟩;unfold getItem
 try with_reducible refine wpAny_holding ?_
 first | refine wpAny_bind (wpAny_pure ?_) | skip
 refine wpAny_bind (wpAny_sequenceKey ht.typeIs (by decide) ?_);refine wpAny_bind (wpAny_callSpecial?_slot (name:=qA "__getitem__") ht.typeIs zB
  (wpAny_call_entry zB ht.typeIs entry_tuple_getitem ?_ (args_tuple_getitem _ _)))
 show wpAny _ _ (qa0 (.ref t) >>= _) _ _ s;refine wpAny_bind (tupleItemsOf_ ht ?_);refine wpAny_bind (wpAny_typeOf hTs ?_);rw[if_pos (by decide)];refine wpAny_bind (ZaS hs pl pu ?_);have hyes:((((sIx items.size 0 lo:Nat):Int)==0&&(1:Int)==1&&(sIx items.size items.size hi-sIx items.size 0 lo)==items.size)=true):=by
  rw[hw.1,hw.2];simp
 show wpAny _ _ (if (((sIx items.size 0 lo:Nat):Int)==0&&(1:Int)==1&&(sIx items.size items.size hi-sIx items.size 0 lo)==items.size)=true then _ else _) _ _ s;rw[if_pos hyes];unfold Builtin.Tuple.tupleIsExact;refine wpAny_bind (wpAny_bind (wpAny_typeOf ht.typeIs ?_));refine wpAny_pure ?_;rw[if_pos (by decide)];refine wpAny_bind (wpAny_rule ?_)
 first
  | exact wpAny_bind (wpAny_pure ⟨_,rfl,wpAny_pure h⟩)
  | exact wpAny_bind (wpAny_pure (wpAny_pure ⟨_,rfl,wpAny_pure h⟩))
end
end HT
namespace TF
open L2
def ZpI (K:qm):V->Option Int->Option Int->Hp->VK->Prop:=fun x lo hi H Q=>∃a xs,x=.ref a/\ZT K H a xs/\
 (HT.sIx xs.length 0 lo=0/\HT.sIx xs.length xs.length hi=xs.length)/\Q (.ref a) H
section
variable {X:Cx}{G:Gh}
theorem Znb:UQ X (ZpI X.K):=by
 intro jE s σ H x v vl vu lo hi sl Q I rx hs pl pu h;obtain⟨a,xs,rfl,hx,hw,q⟩:=h
 cases rx
 obtain⟨jG,r,ht,hz⟩:=I.tuple hx;have jO:jG.toArray.size=xs.length:=by rw[qE];exact r.length.symm
 refine⟨"tuple",_,zB.lookup,ht.typeIs,?_⟩;exact HT.getItem_tuple_whole ht hs pl pu (by rw[jO];exact hw) ⟨.ref a,H,I,rfl,q⟩ (by rw[jO];exact hz)
def UP (ds:List D)(lo hi:Option Int):List D:=(ds.drop (HT.sIx ds.length 0 lo)).take (HT.sIx ds.length ds.length hi-HT.sIx ds.length 0 lo)
def POD (X:Cx)(G:Gh)(e:Option Expr)(f:Zb->M (Option Int)):Prop:=
 ∃t,PO X e t/\∀(σ:St) (Hf H:Hp) (ρ:Zb) (s:Pn) (o:Option Int) (s':Pn) (Q:Option Int->Hp->Prop),ZL G Hf H->YX G Hf σ ρ->G.st s H->f ρ s=some (o,s')->
  (∀Hf' H',Gr G Hf H Hf' H'->G.st s' H'->Q o H')->t σ H Q
def ZnT:Zb->M (Option Int):=fun _=>Zx none
def ZnU (f:Zb->M D):Zb->M (Option Int):=fun ρ=>Zn (f ρ) fun d=>match d with | .int i=>Zx (some i) | _=>ZC
theorem Zln:POD X G none ZnT:=⟨_,ZmK,fun σ Hf H ρ s o s' Q e1 e2 e3 e4 k=>by
 obtain⟨rfl,rfl⟩:=ZW e4;exact k Hf H (.refl e1) e3⟩
theorem Zlo {e:Expr}{f:Zb->M D}{r1:Bool}(h:PD X G r1 e f):POD X G (some e) (ZnU f):=by
 obtain⟨t,p,q⟩:=h.drop;refine⟨_,ZmL p,fun σ Hf H ρ s o s' Q e1 e2 e3 e4 k=>?_⟩;obtain⟨d,s1,a1,a2⟩:=ZB e4;refine q σ Hf H ρ s d s1 _ e1 e2 e3 a1 fun v jM H1 g1 jW r1=>?_
 match d,a2,r1 with
 | .int i,a2,r1=>
  obtain⟨rfl,rfl⟩:=ZW a2;exact⟨i,ja.mp r1,k jM H1 g1 jW⟩
def Zlp (f:Zb->M D)(fl fh:Zb->M (Option Int)):Zb->M D:=fun ρ=>Zn (f ρ) fun d=>Zn (fl ρ) fun lo=>Zn (fh ρ) fun hi=>match d with
 | .tup ds=>Zx (.tup (UP ds lo hi))
 | .lst ds=>Zx (.lst (UP ds lo hi))
 | _=>ZC
theorem ZiW {Hf:Hp}{ds:List D}{vs:List V}(r:Zm G Hf ds vs)(lo hi:Option Int):Zm G Hf (UP ds lo hi) (VQ vs lo hi):=by
 unfold UP VQ;rw[r.length];exact(r.drop _).take _
theorem ZhZ {ds:List D}{lo hi:Option Int}(h:HT.sIx ds.length 0 lo=0/\HT.sIx ds.length ds.length hi=ds.length):UP ds lo hi=ds:=by
 unfold UP;rw[h.1,h.2];simp
theorem Zlq {e:Expr}{lo hi:Option Expr}{p2 pos:Pos}{f:Zb->M D}{fl fh:Zb->M (Option Int)}{r1:Bool}(he:PD X G r1 e f)(hl:POD X G lo fl)(hh:POD X G hi fh):PD X G true (.Subscript e (.Slice lo hi none p2) pos) (Zlp f fl fh):=by
 obtain⟨t,p,q⟩:=he.drop;obtain⟨tl,pl,ql⟩:=hl;obtain⟨th,ph,qh⟩:=hh;refine⟨_,ZkP (ZmN.or (Zoz.or Znb)) p pl ph,fun σ Hf H ρ s d s' Q e1 e2 e3 e4 k=>?_⟩;obtain⟨d0,s1,a1,a2⟩:=ZB e4;obtain⟨lo',s2,a3,a4⟩:=ZB a2;obtain⟨hi',s3,a5,a6⟩:=ZB a4;refine q σ Hf H ρ s d0 s1 _ e1 e2 e3 a1 fun v jM H1 g1 jW r1=>?_;refine ql σ jM H1 ρ s1 lo' s2 _ g1.fh (e2.ext g1.ff) jW a3 fun jX H2 g2 jV=>?_;refine qh σ jX H2 ρ s2 hi' s3 _ g2.fh ((e2.ext g1.ff).ext g2.ff) jV a5 fun Hf3 H3 g3 st3=>?_;have rr:=(r1.ext g2.ff).ext g3.ff;have g:=(g1.trans g2).trans g3
 match d0,a6,rr with
 | .lst ds,a6,rr=>
  obtain⟨rfl,rfl⟩:=ZW a6;obtain⟨a,vs,rfl,na,ha,ra⟩:=jb.mp rr;refine .inl ⟨a,vs,rfl,ZH.of (g.fh _ _ na ha),fun l hl=>?_⟩;have nf:=Gh.nofp st3 hl;have g2:=Gr.new (o:=.lst (VQ vs lo' hi')) g.fh hl nf;have rr:=ZiW ra lo' hi';exact k (.ref l) _ _ (g.trans g2) (Gh.grow st3 hl) (jb.mpr ⟨l,_,rfl,nf,Z8,rr.ext g2.ff⟩) fun _=>jn g.hh (fun a ea _=>by cases ea;exact nf) (YH.mk g.fh hl nf rr)
 | .tup ds,a6,rr=>
  obtain⟨rfl,rfl⟩:=ZW a6;obtain⟨a,vs,rfl,na,ha,ra⟩:=jc.mp rr;by_cases hw:HT.sIx vs.length 0 lo'=0/\HT.sIx vs.length vs.length hi'=vs.length
  ·refine .inr (.inr ⟨a,vs,rfl,ZT.of (g.fh _ _ na ha),hw,?_⟩)
   rw[<-ra.length] at hw;exact k (.ref a) _ _ g st3 (by rw[ZhZ hw];exact rr) fun _=>.scal fun z=>z
  ·refine .inr (.inl ⟨a,vs,rfl,ZT.of (g.fh _ _ na ha),hw,fun l hl=>?_⟩)
   have nf:=Gh.nofp st3 hl;have g2:=Gr.new (o:=.tup (VQ vs lo' hi')) g.fh hl nf;exact k (.ref l) _ _ (g.trans g2) (Gh.grow st3 hl) (jc.mpr ⟨l,_,rfl,nf,Z8,(ZiW ra lo' hi').ext g2.ff⟩) fun _=>.scal fun z=>z
def PCh (X:Cx)(ops:List CmpOp)(rs:List Expr)(t:V->TT):Prop:=
 ∀(pos:Pos) (jE:List (Addr×Obj)) (s:Shared) (σ:St) (H:Hp) (y:V) (v:Value) (Q:Bool->Hp->Prop),Inv X jE σ H s->ZK y v->t y σ H Q->wpAny (model X.prog X.w) X.A (testChain pos v ops (evalEach rs X.env)) (TP X jE σ Q) X.xe s
theorem Znc {op:CmpOp}{r:R2}{c:Expr}{tc:TE}(ho:YC X (compareOp op) r)(hc:PE X c tc):PCh X [op] [c] (fun y σ H Q=>tc σ H fun z H1=>r y z H1 fun w H2=>∃k,w=.bl k/\Q k H2):=by
 intro pos jE s σ H y v Q I r1 h;refine test_last (ZJ (hc jE s σ H _ I h) fun u s2 ⟨z,H2,I2,r2,q2⟩=>ZJ (ho jE s2 σ H2 y z v u _ I2 r1 r2 q2) fun d s3 ⟨z',H3,I3,r3,k,e,q3⟩=>?_);subst e
 cases r3
 exact wpAny_truthy_bool ⟨H3,I3,q3⟩
theorem Zlr {op op':CmpOp}{ops:List CmpOp}{r:R2}{b c:Expr}{rs:List Expr}{tb:TE}{t:V->TT}(ho:YC X (compareOp op) r)(hb:PE X b tb)(hr:PCh X (op'::ops) (c::rs) t) :
  PCh X (op::op'::ops) (b::c::rs) (fun y σ H Q=>tb σ H fun z H1=>r y z H1 fun w H2=>∃k,w=.bl k/\(if k=true then t z σ H2 Q else Q false H2)):=by
 intro pos jE s σ H y v Q I r1 h;refine test_link (ZJ (hb jE s σ H _ I h) fun u s2 ⟨z,H2,I2,r2,q2⟩=>ZJ (ho jE s2 σ H2 y z v u _ I2 r1 r2 q2) fun d s3 ⟨z',H3,I3,r3,k,e,q3⟩=>?_);subst e
 cases r3
 refine wpAny_truthy_bool ?_
 cases k with
 | false=>exact ite_ff ⟨H3,I3,q3⟩
 | true=>exact ite_tt (hr pos jE s3 σ H3 z u Q I3 r2 q3)
theorem ZjV {op op':CmpOp}{ops:List CmpOp}{a b c:Expr}{rs:List Expr}{pos:Pos}{ta:TE}{t:V->TT}(ha:PE X a ta)(hr:PCh X (op::op'::ops) (b::c::rs) t)
  (hm:lastMarks (op::op'::ops) (b::c::rs)=false:=by with_unfolding_all rfl):PT X (.Compare a (op::op'::ops) (b::c::rs) pos) (fun σ H Q=>ta σ H fun y H1=>t y σ H1 Q):=by
 intro jE s σ H Q I h;exact isTrue_chain (ZJ (ha jE s σ H _ I h) fun v s1 ⟨y,H1,I1,r1,q1⟩=>hr pos jE s1 σ H1 y v Q I1 r1 q1) hm
def PDCh (X:Cx)(G:Gh)(ops:List CmpOp)(rs:List Expr)(f:D->Zb->M Bool):Prop:=
 ∃t,PCh X ops rs t/\∀(y:V) (σ:St) (Hf H:Hp) (d:D) (ρ:Zb) (s:Pn) (b:Bool) (s':Pn) (Q:Bool->Hp->Prop),ZL G Hf H->Zp G Hf d y->YX G Hf σ ρ->G.st s H->f d ρ s=some (b,s')->
  (∀Hf' H',Gr G Hf H Hf' H'->G.st s' H'->Q b H')->t y σ H Q
def VZ (o:Option D):M Bool:=match o with | some (.bl k)=>Zx k | _=>ZC
theorem Zb3 {o:Option D}{s s':Pn}{b:Bool}(h:VZ o s=some (b,s')):o=some (.bl b)/\s'=s:=by
 unfold VZ at h;split at h
 ·obtain⟨rfl,rfl⟩:=ZW h
  exact⟨rfl,rfl⟩
 ·cases h
def Jl (g:D->D->Option D)(fc:Zb->M D):D->Zb->M Bool:=fun d ρ=>Zn (fc ρ) fun e=>VZ (g d e)
def Jm (g:D->D->Option D)(fb:Zb->M D)(f:D->Zb->M Bool):D->Zb->M Bool:=fun d ρ=>Zn (fb ρ) fun e=>Zn (VZ (g d e)) fun k=>if k=true then f e ρ else Zx false
def Je (fa:Zb->M D)(f:D->Zb->M Bool):Zb->M Bool:=fun ρ=>Zn (fa ρ) fun d=>f d ρ
theorem ZgF {op:CmpOp}{g:D->D->Option D}{c:Expr}{fc:Zb->M D}{r1:Bool}(ho:Xv X G (compareOp op) g)(hc:PD X G r1 c fc):PDCh X G [op] [c] (Jl g fc):=by
 obtain⟨r,po,qo⟩:=ho;obtain⟨tc,pc,qc⟩:=hc.drop;refine⟨_,Znc po pc,fun y σ Hf H d ρ s b s' Q e1 ry e2 e3 e4 k=>?_⟩;obtain⟨e,s1,a1,a2⟩:=ZB e4;obtain⟨a3,rfl⟩:=Zb3 a2;refine qc σ Hf H ρ s e _ _ e1 e2 e3 a1 fun z jM H1 g1 jW r1=>?_;exact qo jM H1 _ y z d e _ _ g1.fh jW (ry.ext g1.ff) r1 a3 fun v jX H2 g2 jV r2 _=>⟨b,jd.mp r2,k jX H2 (g1.trans g2) jV⟩
theorem ZeQ {op op':CmpOp}{ops:List CmpOp}{g:D->D->Option D}{b c:Expr}{rs:List Expr}{fb:Zb->M D}{f:D->Zb->M Bool}{r1:Bool}(ho:Xv X G (compareOp op) g)(hb:PD X G r1 b fb)(hr:PDCh X G (op'::ops) (c::rs) f) :
  PDCh X G (op::op'::ops) (b::c::rs) (Jm g fb f):=by
 obtain⟨r,po,qo⟩:=ho;obtain⟨tb,pb,qb⟩:=hb.drop;obtain⟨t,pt,qt⟩:=hr;refine⟨_,Zlr po pb pt,fun y σ Hf H d ρ s b' s' Q e1 ry e2 e3 e4 k=>?_⟩;obtain⟨e,s1,a1,a2⟩:=ZB e4;obtain⟨k1,s2,a3',a4⟩:=ZB a2;obtain⟨a3,rfl⟩:=Zb3 a3';refine qb σ Hf H ρ s e _ _ e1 e2 e3 a1 fun z jM H1 g1 jW r1=>?_;refine qo jM H1 _ y z d e _ _ g1.fh jW (ry.ext g1.ff) r1 a3 fun v jX H2 g2 jV r2 _=>⟨k1,jd.mp r2,?_⟩
 cases k1 with
 | false=>
  obtain⟨rfl,rfl⟩:=ZW a4;rw[if_neg (by decide)];exact k jX H2 (g1.trans g2) jV
 | true=>
  rw[if_pos rfl] at a4⊢;exact qt z σ jX H2 e ρ _ _ _ Q (g1.trans g2).fh (r1.ext g2.ff) ((e2.ext g1.ff).ext g2.ff) jV a4 fun Hf3 H3 g3 st3=>k Hf3 H3 ((g1.trans g2).trans g3) st3
theorem ZeR {op op':CmpOp}{ops:List CmpOp}{a b c:Expr}{rs:List Expr}{pos:Pos}{fa:Zb->M D}{f:D->Zb->M Bool}{r1:Bool}(ha:PD X G r1 a fa)(hr:PDCh X G (op::op'::ops) (b::c::rs) f)
  (hm:lastMarks (op::op'::ops) (b::c::rs)=false:=by with_unfolding_all rfl):Wu X G (.Compare a (op::op'::ops) (b::c::rs) pos) (Je fa f):=by
 obtain⟨ta,pa,qa⟩:=ha.drop;obtain⟨t,pt,qt⟩:=hr;refine⟨_,ZjV pa pt hm,fun σ Hf H ρ s b s' Q e1 e2 e3 e4 k=>?_⟩;obtain⟨d,s1,a1,a2⟩:=ZB e4;refine qa σ Hf H ρ s d _ _ e1 e2 e3 a1 fun y jM H1 g1 jW r1=>?_;exact qt y σ jM H1 d ρ s1 b s' Q g1.fh r1 (e2.ext g1.ff) jW a2 fun jX H2 g2 jV=>k jX H2 (g1.trans g2) jV
theorem ZN.none {P:Program}{w:World}{K:qm}{mg:Str->Option Value}{base:Heap}{k:Nat}{x:Str}{n:Nat}{fr:Bool}{GG:Gh->Prop}{f:Addr}{fd:FuncData}{ps:List Str}(hm:mg x=some (.ref f))(hk:z9 K (.ref f)=true)(hb:WF K fd ps []) :
  ZN P w K mg base k x n fr GG (fun _=>ZC):=by
 refine⟨f,fd,ps,⟨fun vs H Q E h=>?_,fun A outer s H args us vs Q E _ _ _ _ h=>?_⟩,hm,hk,hb⟩
 ·obtain⟨G,Hf,ds,s,d,s',_,_,_,_,_,h,_⟩:=h
  cases h
 ·obtain⟨G,Hf,ds,s,d,s',_,_,_,_,_,h,_⟩:=h
  cases h
end
end TF
namespace TF
open L2 PySem.SeqAt
open AutoSeq1 (wpAny_loadPart')
section
variable {X:Cx}{G:Gh}
end
end TF
namespace TF
open L2
section
variable {X:Cx}{G:Gh}
end
end TF
namespace TF
open L2
section
variable {f g:Zb->M D}{ρ:Zb}{s s1:Pn}{a b:Bool}{r:Option (D×Pn)}
theorem Zh0 (h:f ρ s=some (.bl true,s1))(h2:g ρ s1=r):Ui f g ρ s=r:=by unfold Ui Zn;rw[h];exact h2
theorem ZiX (h:f ρ s=some (.bl a,s1)):J7 f ρ s=some (.bl (!a),s1):=by unfold J7 Zn;rw[h];rfl
end
section
variable {f g:Zb->M Bool}{ρ:Zb}{s s1:Pn}{a b:Bool}{r:Option (Bool×Pn)}
theorem Zls (h:f ρ s=some (false,s1)):XZ f g ρ s=some (false,s1):=by unfold XZ Zn;rw[h];rfl
theorem Zlt (h:f ρ s=some (true,s1))(h2:g ρ s1=r):XZ f g ρ s=r:=by unfold XZ Zn;rw[h];exact h2
theorem X5 (h:f ρ s=some (false,s1))(h2:g ρ s1=r):Wk f g ρ s=r:=by unfold Wk Zn;rw[h];exact h2
theorem ZiY (h:f ρ s=some (a,s))(h2:a=true->g ρ s=some (b,s)):XZ f g ρ s=some (a&&b,s):=by
 cases a with
 | false=>exact Zls h
 | true=>rw[yq];exact Zlt h (h2 rfl)
end
section
variable {c:Zb->M Bool}{g1 g2:Zb->M Out}{ρ:Zb}{s s1:Pn}{r:Option (Out×Pn)}
theorem Zlu (h:c ρ s=some (true,s1))(h2:g1 ρ s1=r):Yn c g1 g2 ρ s=r:=by unfold Yn Zn;rw[h];exact h2
theorem Zlv (h:c ρ s=some (false,s1))(h2:g2 ρ s1=r):Yn c g1 g2 ρ s=r:=by unfold Yn Zn;rw[h];exact h2
end
section
variable {fa fb:Zb->M D}{f:D->Zb->M Bool}{g:D->D->Option D}{ρ:Zb}{s s1 s2:Pn}{d e:D}{k:Bool}{r:Option (Bool×Pn)}
theorem ZeS (h:fa ρ s=some (d,s1))(h2:f d ρ s1=r):Je fa f ρ s=r:=by unfold Je Zn;rw[h];exact h2
theorem ZgG (h:fb ρ s=some (e,s1))(h2:g d e=some (.bl k)):Jl g fb d ρ s=some (k,s1):=by unfold Jl Zn;rw[h];show VZ (g d e) s1=_;rw[h2];rfl
theorem ZgH (h:fb ρ s=some (e,s))(h2:g d e=some (.bl k)){b:Bool}(h3:k=true->f e ρ s=some (b,s)):Jm g fb f d ρ s=some (k&&b,s):=by
 unfold Jm Zn;simp only[h,h2,VZ,Zx]
 cases k with
 | false=>rfl
 | true=>simp[h3 rfl]
end
theorem Va (a b:Int):Ys (.int a) (.int b)=some (.bl (a==b)):=by
 unfold Ys;rw[if_pos (by simp[WS,Zr,Z7])];simp[ZR]
theorem nei (a b:Int):Xg (.int a) (.int b)=some (.bl (!(a==b))):=by
 unfold Xg;rw[if_pos (by simp[WS,Zr,Z7])];simp[ZR]
theorem Zb4 {τ:D->Zb->Option Zb}{body:Zb->M Out}{d:D}{ds:List D}{ρ ρ1 ρ2:Zb}{s s1:Pn}{r:Option (Out×Pn)}(h:τ d ρ=some ρ1)(hb:body ρ1 s=some (.nx ρ2,s1))(h2:WR τ body ds ρ2 s1=r):WR τ body (d::ds) ρ s=r:=by
 unfold WR Zn YF;simp only[h,hb];exact h2
theorem Zfq {τ:D->Zb->Option Zb}{body:Zb->M Out}{d e:D}{ds:List D}{ρ ρ1:Zb}{s s1:Pn}(h:τ d ρ=some ρ1)(hb:body ρ1 s=some (.rt e,s1)):WR τ body (d::ds) ρ s=some (.rt e,s1):=by
 unfold WR Zn YF;simp only[h,hb];rfl
theorem ZiZ {fi:Zb->M (List D)}{τ:D->Zb->Option Zb}{body:Zb->M Out}{ds:List D}{ρ:Zb}{s s1:Pn}{r:Option (Out×Pn)}(h:fi ρ s=some (ds,s1))(h2:WR τ body ds ρ s1=r):Y2 fi τ body ρ s=r:=by
 unfold Y2 Zn;rw[h];exact h2
theorem V9 {f:Zb->M D}{ρ:Zb}{s s1:Pn}{ds:List D}(h:f ρ s=some (.tup ds,s1)):XR f ρ s=some (ds,s1):=by unfold XR Zn;rw[h];rfl
theorem X9 {f:Zb->M D}{ρ:Zb}{s s1:Pn}{ds:List D}(h:f ρ s=some (.lst ds,s1)):Yk f ρ s=some (ds,s1):=by unfold Yk Zn;rw[h];rfl
end TF
namespace TP
open L2 TF
def ZnV:D->Bool
 | .non=>true | .bl _=>true | .int _=>true | .str _=>true | .tup _=>true | .lst _=>true | _=>false
def Zlw (n:Int):D->Bool | .int i=>decide (0<=i)&&decide (i<n) | _=>false
theorem WY {α:Type}(l:List α):l.filter (fun _=>true)=l:=qbS.mpr (by simp)
end TP
namespace TF
open L2
section
variable {f:Zb->M D}{fs:Zb->M (List D)}{ρ:Zb}{s:Pn}
theorem Ok.lst {Q:D->Pn->Prop}(h:Ok (fs ρ) s fun ds s1=>ds.length<=sizeLine/\Q (.lst ds) s1):Ok (Xf fs ρ) s Q:=.bind (h.mono fun _ _ q=>.ite q.1 (.ret q.2))
theorem Ok.call {g:List D->Option D}{Q:D->Pn->Prop}(h:Ok (fs ρ) s fun ds s1=>∃c,g ds=some c/\Q c s1):Ok (Zw g fs ρ) s Q:=.bind (h.mono fun _ _ q=>let ⟨c,e,q⟩:=q;.of e q)
end
theorem Znd {f:Zb->M D}{ρ:Zb}{s:Pn}{x:D}(h1:f ρ s=some (x,s)):Yr (Zc f Zg) ρ s=some (.tup [x],s):=Xz (Ze h1 rfl) (by show 1<=sizeLine;decide)
theorem Zne {f g:Zb->M D}{ρ:Zb}{s:Pn}{x y:D}(h1:f ρ s=some (x,s))(h2:g ρ s=some (y,s)):Yr (Zc f (Zc g Zg)) ρ s=some (.tup [x,y],s):=Xz (Ze h1 (Ze h2 rfl)) TP.two_le
theorem Znf {f:Zb->M D}{ρ:Zb}{s:Pn}{x:D}(h1:f ρ s=some (x,s)):Xf (Zc f Zg) ρ s=some (.lst [x],s):=Ud (Ze h1 rfl) (by show 1<=sizeLine;decide)
end TF
namespace TF
open L2
theorem Zlx {X:Cx}{GG:Gh->Prop}{ob own own':List Nat}{fr:Bool}{sts:List Stmt}{g:Zb->M Out}(h:∀G,GG G->WJ X G ob own own' fr sts g):WU X sts (fun E σ H=>∃G,GG G/\Zli G ob own own' fr g E σ H):=by
 intro jE s σ H D I ⟨G,hG,kn,jU,H0,ρ,pn,out,pn',j,st,e,po⟩;obtain⟨t,p,q⟩:=h G hG;exact p jE s σ H D I (q kn jU H0 σ H ρ pn out pn' D j st e po)
theorem ZoT {K:qm}{H:Hp}{a p:Addr}{xs:List V}{o:HO}(sq:ZH K H a xs)(hp:H p=none):ZH K (Zo H p o) a xs:=by
 have hne:∀u,H a=some u->a≠p:=fun u e z=>by rw[z,hp] at e;cases e
 rcases sq with(q | ⟨o',q⟩) | q
 ·exact .inl (.inl (by rw[Zu (hne _ q)];exact q))
 ·exact .inl (.inr ⟨o',by rw[Zu (hne _ q)];exact q⟩)
 ·exact .inr q
def X0 (L:List (Addr×Str))(b:Addr):Prop:=∃q,(b,q)∈L
def ZnW (G0:Gh)(L:List (Addr×Str))(P:Addr)(q:Str)(H:Hp):Prop:=∃ps,H P=some (.tbl ps)/\TriplesOk ps.toList/\∀pos cv,codeAmong pos ps.toList=some cv->∃c',cv=.ref c'/\H c'=some (.ext (codeφ c' q))/\¬G0.fp c'/\¬X0 L c'
def Jn (G0:Gh)(L:List (Addr×Str)):Gh where
 fp:=fun b=>G0.fp b∨X0 L b
 rd:=fun b=>G0.rd b∨X0 L b
 pen:=G0.pen
 st:=fun s H=>G0.st s H/\∀P q,(P,q)∈L->ZnW G0 L P q H
 mono:=fun s H H' ⟨h1,h2⟩ k1 k2=>⟨G0.mono s H H' h1 (fun b o r=>k1 b o (.inl r)) k2,fun P q m=>by
  obtain⟨ps,e,t,h⟩:=h2 P q m;refine⟨ps,k1 P _ (.inr ⟨q,m⟩) e,t,fun pos cv hc=>?_⟩;obtain⟨c',z1,z2,z3⟩:=h pos cv hc;exact⟨c',z1,k2 _ _ z2,z3⟩⟩
 sub:=fun b h=>h.elim (fun z=>.inl (G0.sub b z)) .inr
 dom:=fun s H b ⟨h1,h2⟩ hb=>by
  rcases hb with z | ⟨q,m⟩
  ·exact G0.dom s H b h1 z
  ·obtain⟨ps,e,_⟩:=h2 b q m
   exact⟨_,e⟩
 ntp:=fun s H b vs ⟨h1,h2⟩ hb=>by
  rcases hb with z | ⟨q,m⟩
  ·exact G0.ntp s H b vs h1 z
  ·obtain⟨ps,e,_⟩:=h2 b q m
   rw[e];intro z;cases z
theorem Zel {pos pos':Pos}{c:Value}(l:List Value)(h:TriplesOk l){cv:Value}(hc:codeAmong pos' (l ++ [rawInt pos.line,rawInt pos.col,c])=some cv):codeAmong pos' l=some cv∨cv=c:=by
 fun_induction TriplesOk l with
 | case1=>
  simp only[List.nil_append,rawInt,codeAmong] at hc;split at hc
  ·exact .inr (zf hc).symm
  ·cases hc
 | case2 a b d e f rest ih=>
  simp only[qa7,codeAmong] at hc⊢;split at hc
  ·rename_i h1;rw[if_pos h1];exact .inl hc
  ·rename_i h1;rw[if_neg h1];exact ih h hc
 | case3=>cases h
theorem ZgI {pos:Pos}{c:Value}(l:List Value)(h:TriplesOk l):TriplesOk (l ++ [rawInt pos.line,rawInt pos.col,c]):=by
 fun_induction TriplesOk l with
 | case1=>simp[TriplesOk,rawInt]
 | case2 a b d e f rest ih=>simp only[qa7,TriplesOk];exact ih h
 | case3=>cases h
def Wm (L:List (Addr×Str)):Prop:=∀P q q',(P,q)∈L->(P,q')∈L->q=q'
def X8 (GG0:Gh->Prop)(L:List (Addr×Str))(G:Gh):Prop:=∃G0,GG0 G0/\(∀b,X0 L b->¬G0.rd b)/\G=Jn G0 L
theorem Zng {G0:Gh}{L:List (Addr×Str)}{P:Addr}{q:Str}(lo:Wm L)(hrd:∀b,X0 L b->¬G0.rd b)(m:(P,q)∈L):TabG P q (Jn G0 L):=by
 refine⟨fun s H st=>?_,.inr ⟨q,m⟩,fun s H ps pos c' st hP hc hn=>?_⟩
 ·obtain⟨ps,e,t,h⟩:=st.2 P q m
  refine⟨ps,e,t,fun pos cv hc=>?_⟩;obtain⟨c',z1,z2,z3,z4⟩:=h pos cv hc;exact⟨c',z1,z2,fun z=>z.elim z3 z4⟩
 ·have hcP:c'≠P:=fun z=>by rw[z,hP] at hc;cases hc
  have notL:¬X0 L c':=fun⟨q',m'⟩=>by
   obtain⟨_,e,_⟩:=st.2 c' q' m';rw[hc] at e;cases e
  have k2:∀b φ,H b=some (.ext φ)->Zo (Zo H P (.tbl (ps ++ #[rawInt pos.line,rawInt pos.col,.ref c']))) c' (.ext (codeφ c' q)) b=some (.ext φ):=fun b φ e=>by
   rw[Zu (Z5 e hc),Zu (fun z=>by rw[z,hP] at e;cases e)];exact e
  refine⟨G0.mono s H _ st.1 (fun b o r e=>?_) k2,fun P' q' m'=>?_⟩
  ·rw[Zu (Z5 e hc),Zu (fun z=>hrd P ⟨q,m⟩ (by rw[<-z];exact r))];exact e
  ·by_cases hb:P'=P
   ·subst hb
    have:=lo P' q q' m m';subst this;obtain⟨ps',e,t,h⟩:=st.2 P' q m;rw[hP] at e;cases e;refine⟨_,by rw[Zu (zJ hcP),Z8],?_,fun pos' cv hcv=>?_⟩
    ·rw[qbT];exact ZgI _ t
    ·rw[qbT] at hcv
     rcases Zel (pos:=pos) _ t hcv with z | z
     ·obtain⟨c2,z1,z2,z3⟩:=h pos' cv z
      exact⟨c2,z1,k2 _ _ z2,z3⟩
     ·exact⟨c',z,Z8,Gh.nofp st.1 hc,notL⟩
   ·obtain⟨ps',e,t,h⟩:=st.2 P' q' m'
    refine⟨ps',by rw[Zu (Z5 e hc),Zu hb];exact e,t,fun pos' cv hcv=>?_⟩;obtain⟨c2,z1,z2,z3⟩:=h pos' cv hcv;exact⟨c2,z1,k2 _ _ z2,z3⟩
def YK (L:List (Addr×Str))(G:Gh):Prop:=∀P q,(P,q)∈L->TabG P q G
theorem jw {GG0:Gh->Prop}{L:List (Addr×Str)}{G:Gh}(lo:Wm L)(h:X8 GG0 L G):YK L G:=by
 obtain⟨G0,_,hrd,rfl⟩:=h;exact fun P q m=>Zng lo hrd m
mutual
theorem Zp.tr {G G':Gh}{H H':Hp}(h:∀a o,¬G.fp a->H a=some o->(∀ps,o≠.tbl ps)->¬G'.fp a/\H' a=some o)(hp:G'.pen=G.pen):∀{d:D} {v:V},YQ d=true->Zp G H d v->Zp G' H' d v
 | .non,_,_,r=>ji.mpr (ji.mp r)
 | .bl _,_,_,r=>jd.mpr (jd.mp r)
 | .int _,_,_,r=>ja.mpr (ja.mp r)
 | .str _,_,_,r=>jh.mpr (jh.mp r)
 | .tup ds,v,n,r=>by
  obtain⟨a,vs,e1,nf,e2,r⟩:=jc.mp r;obtain⟨z1,z2⟩:=h a _ nf e2 (fun _ z=>by cases z);exact jc.mpr ⟨a,vs,e1,z1,z2,Zm.tr h hp (by simpa[YQ] using n) r⟩
 | .lst ds,v,n,r=>by
  obtain⟨a,vs,e1,nf,e2,r⟩:=jb.mp r;obtain⟨z1,z2⟩:=h a _ nf e2 (fun _ z=>by cases z);exact jb.mpr ⟨a,vs,e1,z1,z2,Zm.tr h hp (by simpa[YQ] using n) r⟩
 | .dk _,_,_,r=>by
  obtain⟨a,e1,nf,e2⟩:=jj.mp r;obtain⟨z1,z2⟩:=h a _ nf e2 (fun _ z=>by cases z);exact jj.mpr ⟨a,e1,z1,z2⟩
 | .dt _,_,_,r=>by
  obtain⟨a,o,e1,nf,e2⟩:=jl.mp r;obtain⟨z1,z2⟩:=h a _ nf e2 (fun _ z=>by cases z);exact jl.mpr ⟨a,o,e1,z1,z2⟩
 | .du _,_,_,r=>by
  obtain⟨a,e1,nf,e2⟩:=jm.mp r;obtain⟨z1,z2⟩:=h a _ nf e2 (fun _ z=>by cases z);exact jm.mpr ⟨a,e1,z1,z2⟩
 | .df _,_,_,r=>by
  obtain⟨a,o,e1,nf,e2⟩:=jt.mp r;obtain⟨z1,z2⟩:=h a _ nf e2 (fun _ z=>by cases z);exact jt.mpr ⟨a,o,e1,z1,z2⟩
 | .pen,_,_,r=>jq.mpr ((jq.mp r).trans hp.symm)
 | .ty _,_,_,r=>js.mpr (js.mp r)
 | .clo _ _,_,n,_=>by simp[YQ] at n
theorem Zm.tr {G G':Gh}{H H':Hp}(h:∀a o,¬G.fp a->H a=some o->(∀ps,o≠.tbl ps)->¬G'.fp a/\H' a=some o)(hp:G'.pen=G.pen):∀{ds:List D} {vs:List V},Xq ds=true->Zm G H ds vs->Zm G' H' ds vs
 | [],_,_,r=>Zm.nil_iff.mpr (Zm.nil_iff.mp r)
 | d::ds,vs,n,r=>by
  obtain⟨v,rr,e,h1,h2⟩:=je.mp r;have n':YQ d=true/\Xq ds=true:=by simpa[Xq] using n
  exact je.mpr ⟨v,rr,e,Zp.tr h hp n'.1 h1,Zm.tr h hp n'.2 h2⟩
end
open Classical in
noncomputable def Ul (L:List (Addr×Str))(H H2:Hp):Hp:=fun b=>if X0 L b then H2 b else H b
theorem Znh {L:List (Addr×Str)}{H H2:Hp}{b:Addr}(h:X0 L b):Ul L H H2 b=H2 b:=by unfold Ul;rw[if_pos h]
theorem Vd {L:List (Addr×Str)}{H H2:Hp}{b:Addr}(h:¬X0 L b):Ul L H H2 b=H b:=by unfold Ul;rw[if_neg h]
theorem Zni {P:Program}{w:World}{K:qm}{mg:Str->Option Value}{base:Heap}{k:Nat}{f:Addr}{fd:FuncData}{ps:List Str}{n:Nat}{fr:Bool}{GG0:Gh->Prop}{L:List (Addr×Str)}{F:List D->M D}(FN:FnOk P w K mg base ZX k f fd ps (Ym n fr GG0 F))
  (hF:∀ds s d s',F ds s=some (d,s')->Xq ds=true/\YQ d=true):FnOk P w K mg base ZX k f fd ps (Ym n fr (X8 GG0 L) F):=by
 refine FN.imp fun vs H Q E h=>?_;obtain⟨G,Hf,ds,s,d,s',⟨G0,hG0,hrd,rfl⟩,hl,e1,r,st,eF,k⟩:=h;obtain⟨n1,n2⟩:=hF _ _ _ _ eF;have nfp:∀b,X0 L b->¬G0.fp b:=fun b m z=>hrd b m (G0.sub b z);have e1':ZL G0 (Ul L Hf fun _=>none) H:=fun b o nb q=>by
  by_cases m:X0 L b
  ·rw[Znh m] at q;cases q
  ·rw[Vd m] at q;exact e1 b o (fun z=>z.elim nb m) q
 refine⟨G0,Ul L Hf fun _=>none,ds,s,d,s',hG0,hl,e1',Zm.tr (G:=Jn G0 L) (G':=G0) (fun a o na q _=>?_) rfl n1 r,st.1,eF,fun v Hf' H' g st' r' fz=>?_⟩
 ·have m:¬X0 L a:=fun z=>na (.inr z)
  exact⟨fun z=>na (.inl z),by rw[Vd m];exact q⟩
 ·have tab:∀b,X0 L b->∃ps,H' b=some (.tbl ps):=fun b ⟨q,m⟩=>by
   obtain⟨ps,e,_⟩:=st.2 b q m;exact⟨ps,g.hh b _ (nfp b ⟨q,m⟩) e⟩
  have out:∀a o,¬G0.fp a->Hf' a=some o->(∀ps,o≠.tbl ps)->¬X0 L a:=fun a o na q no m=>by
   obtain⟨ps,e⟩:=tab a m;rw[g.fh a o na q] at e;exact no ps (zf e)
  have tr:∀a o,¬G0.fp a->Hf' a=some o->(∀ps,o≠.tbl ps)->¬(Jn G0 L).fp a/\Ul L Hf' Hf a=some o:=fun a o na q no=>by
   have m:=out a o na q no;exact⟨fun z=>z.elim na m,by rw[Vd m];exact q⟩
  refine k v (Ul L Hf' Hf) H' ⟨fun b o nb q=>g.hh b o (fun z=>nb (.inl z)) q,fun b o nb q=>?_,fun b o nb q=>?_,fun b nb q1 q2=>?_⟩ ⟨st',fun P q m=>?_⟩ (Zp.tr (G:=G0) (G':=Jn G0 L) tr rfl n2 r') fun z a ea mu=>?_
  ·have m:¬X0 L b:=fun z=>nb (.inr z)
   rw[Vd m];exact g.ff b o (fun z=>nb (.inl z)) (by rw[Vd m];exact q)
  ·have m:¬X0 L b:=fun z=>nb (.inr z)
   rw[Vd m] at q;exact g.fh b o (fun z=>nb (.inl z)) q
  ·have m:¬X0 L b:=fun z=>nb (.inr z)
   rw[Vd m];exact g.nw b (fun z=>nb (.inl z)) (by rw[Vd m];exact q1) q2
  ·obtain⟨ps,e,t,h⟩:=st.2 P q m
   refine⟨ps,g.hh P _ (nfp P ⟨q,m⟩) e,t,fun pos cv hc=>?_⟩;obtain⟨c',z1,z2,z3,z4⟩:=h pos cv hc;exact⟨c',z1,g.hh c' _ z3 z2,z3,z4⟩
  ·obtain⟨h1,h2⟩:=fz z a ea mu
   refine⟨h1,fun xs ed=>?_⟩;obtain⟨us,Hm,q1,q2,q3,q4⟩:=h2 xs ed;have na:¬X0 L a:=fun m=>by
    obtain⟨q,m⟩:=m;obtain⟨ps,e,_⟩:=st.2 a q m;rw[h1] at e;cases e
   refine⟨us,Ul L Hm fun _=>none,by rw[Vd na];exact q1,by rw[Vd na];exact q2,fun b o nb q=>?_,?_⟩
   ·have m:¬X0 L b:=fun z=>nb (.inr z)
    rw[Vd m] at q⊢;exact q3 b o (fun z=>nb (.inl z)) q
   ·subst ed
    refine Zm.tr (G:=G0) (G':=Jn G0 L) (fun b o nb q no=>?_) rfl (by simpa[YQ] using n2) q4;have m:=out b o nb (q3 b o nb q) no;exact⟨fun z=>z.elim nb m,by rw[Vd m];exact q⟩
theorem Zly {P:Program}{w:World}{K:qm}{mg:Str->Option Value}{base:Heap}{k:Nat}{x:Str}{n:Nat}{fr:Bool}{GG0:Gh->Prop}{L:List (Addr×Str)}{F:List D->M D}(c:ZN P w K mg base k x n fr GG0 F)(hF:∀ds s d s',F ds s=some (d,s')->Xq ds=true/\YQ d=true):ZN P w K mg base k x n fr (X8 GG0 L) F:=
 let ⟨f,fd,ps,a,b,c,d⟩:=c
 ⟨f,fd,ps,Zni a hF,b,c,d⟩
theorem Zlz {N ps:List Str}{own:List Nat}{fr:Bool}{G:Gh}{t:TS}{g:Zb->M Out}{vs:List V}{ds:List D}{Hf H:Hp}{pn pn':Pn}{d:D}{Q:VK}(hpl:ps.length<=N.length)(q:Dos G [] [] own fr t g)(e1:ZL G Hf H)(r:Zm G Hf ds vs)(st':G.st pn H)(eF:runB N.length ps.length g ds pn=some (d,pn'))
  (k':∀v Hf' H',Gr G Hf H Hf' H'->G.st pn' H'->Zp G Hf' d v->(fr=true->YH G H Hf' d v)->Q v H'):t { nx:=fun _ H'=>Q .non H',rt:=Q } (L2.start N vs) H:=by
 obtain⟨hl,a0⟩:=Xw eF;obtain⟨o,s1,a1,a2⟩:=ZB a0;have j0:Jf G [] Hf Hf H (L2.start N vs) Hf H (ds.map some++zC (N.length-ps.length) none):=by
  refine⟨?_,.refl _ _,.refl e1,fun i d n e=>?_,fun i d m e=>absurd m (by simp),fun i j a di dj mi mj n e=>absurd mi (by simp)⟩
  ·have:=r.length
   unfold L2.start;simp;omega
  ·have hi:i<ds.length:=by
    by_cases hi:i<ds.length
    ·exact hi
    ·rw[yp (by simpa using hi),yD] at e
     split at e <;> cases e
   have e':ds[i]?=some d:=by
    rw[zQ (by simpa using hi),qy] at e
    cases q:ds[i]? with
    | none=>rw[q] at e;cases e
    | some c=>rw[q] at e;simp at e;rw[e]
   obtain⟨v,h1,h2⟩:=r.get e';refine⟨v,?_,h2⟩;unfold L2.start;rw[zQ (by simp;rw[<-r.length];exact hi),qy,h1];rfl
 refine q Hf Hf H (L2.start N vs) H _ pn o s1 _ ⟨Hf,j0⟩ st' a1 ?_
 cases o with
 | rt c=>
  obtain⟨rfl,rfl⟩:=ZW a2;exact fun v Hf' H' g' jV r2 fz=>k' v Hf' H' g' jV r2 fz
 | nx ρ'=>
  obtain⟨rfl,rfl⟩:=ZW a2;exact fun σ' H' ⟨Hf',j'⟩ jV=>k' .non Hf' H' j'.gr jV (ji.mpr rfl) fun _=>.scal fun z=>z
 | bk ρ'=>cases a2
 | ct ρ'=>cases a2
theorem fnDC {P:Program}{w:World}{K:qm}{mg:Str->Option Value}{base:Heap}{x qual:Str}{st:Stmt}{f:Addr}{fd:FuncData}{N ps:List Str}{k:Nat}{own:List Nat}{fr:Bool}{GG:Gh->Prop}{g:Zb->M Out}
  (F:Fun K x qual st f fd) (S:FnScope N ps (ZD st))
  (hb:∀(A:Around) (outer:List Env) (s:Shared) (H:Hp) (E:XK),Room k (A.deeper (envOfC qual (ZD st) s.heap.objs.size f fd.code))->∀G,GG G->WJ (Vn ZX P w K mg base N qual (ZD st) f fd.code A outer s H E).nox G [] [] own fr (WM st) g) :
  FnOk P w K mg base ZX (k+1) f fd ps (Ym ps.length fr GG (runB N.length ps.length g)):=by
 obtain⟨oc,od,kV,doc,pm,an,cdv,ct,osl,rfl,lk,hcd⟩:=F.ex;refine ZnL lk hcd S (fun vs H Q E ⟨_,_,_,_,_,_,_,e,_⟩=>e) fun A outer s H vs Q E hr h=>?_;obtain⟨G,Hf,ds,pn,d,pn',hG,el,e1,r,st',eF,k'⟩:=h;obtain⟨t,p,q⟩:=hb A outer s H E hr G hG;exact⟨t,p.nox,Zlz (by have:=congrArg qay S.pre;rw[zt] at this;omega) q e1 r st' eF k'⟩
section
variable {X:Cx}{G:Gh}{P c:Addr}{q:Str}{k kl n:Nat}{x:Str}{fr frb:Bool}{F:List D->M D}{T:Nat->List D->M D}{t:Nat}{e1:Expr}{f1:Zb->M D}{r1:Bool}{params:Arguments}{scope:Scope}{lpos ppos pos:Pos}{XN N ps:List Str}{NS:List (Str×NameKind)}{cix:List Nat}
end
def UU (mg:Str->Option Value)(h:Heap):Prop:=∃bm o,mg "__builtins__" = some (.ref bm)/\bm≠builtinsNs/\bm≠mainGlobals/\h.get? bm=some o/\o.cls=.type "module"/\o.dict=some builtinsNs/\o.data=.plain
theorem ZjW {P:Program}{w:World}{K:qm}{mg mb:Str->Option Value}{CX:Wj}{k:Nat}{fa a:Addr}{fd:FuncData}{x:Str}{sp:Sp}{s₁:Shared}{vs:List Value}{ns:List Int}{tb:List (Addr×Addr)}
  (KX:K.In s₁.heap) (hns:s₁.heap.Ns mainGlobals mg) (hb:s₁.heap.Ns builtinsNs mb) (hbb:∀x:Str,x≠"__name__"->mb x=bootBuiltins x) (hlim:s₁.heap.NoLimit) (hg:s₁.gens = #[])
  (hT:∀e∈tb,zK s₁.heap e.1 e.2/\s₁.heap.get? e.2=some (qap #[])) (hKt:PySem.W.noTabs K=true) (hbm:UU mg s₁.heap)
  (ha:s₁.heap.get? a=some { cls:=.type "list",data:=.seq vs.toArray }) (hi:IntsAre vs ns) (hl:ns.length<=sizeLine) (hr:Room k callerA)
  (F:∀base:Heap,K.In base->base.Ns mainGlobals mg->(∀e∈tb,zK base e.1 e.2)->UU mg base->FnOk P w K mg base CX k fa fd [x] sp) (hbind:∀(s:Shared) (u:Value),BindsTo s fd ⟨[u],[]⟩ [(x,u)])
  (hsp:∀H:Hp,ZH K H a (ns.map V.int)->(∀e∈tb,H e.2=some (.tbl #[]))->sp [.ref a] H (fun v _=>v=.bl true) fun _ _ _=>False)
  (hCX:∀H e s',CX [] H s₁ (fun _ _ _=>False) e s'->False) :
  codeAny (model P w) callerA (.call (.ref fa) ⟨[.ref a],[]⟩) (fun r s'=>r=.ok (.ret (.bool true))/\OldK s₁.heap s'.heap/\s'.os=s₁.os/\AllBare s'.gens) s₁:=by
 have rv:=ZeG hi;have lenV:=hi.length;have tabne:∀e∈tb,e.2≠a:=fun e he z=>by
  have:=(hT e he).2;rw[z,ha] at this;cases this
 have noK:∀e∈tb,K.lookup e.2=none:=fun e he=>by
  cases q:K.lookup e.2 with
  | none=>rfl
  | some o=>
   have h2:=zo.mp hKt (e.2,o) (PySem.W.mem_of_lookupK q);have e1:=KX _ _ q;rw[(hT e he).2] at e1
   cases e1
   exact absurd (show false=true from h2) z8
 have core:∀H:Hp,(∀b u,H b=some u->(b=a/\u=.frz { cls:=.type "list",data:=.seq vs.toArray } (.lst (ns.map V.int))/\K.lookup a=none)∨(u=.tbl #[]/\∃e∈tb,e.2=b))->ZH K H a (ns.map V.int)->(∀e∈tb,H e.2=some (.tbl #[]))->
   codeAny (model P w) callerA (.call (.ref fa) ⟨[.ref a],[]⟩) (fun r s'=>r=.ok (.ret (.bool true))/\OldK s₁.heap s'.heap/\s'.os=s₁.os/\AllBare s'.gens) s₁:=by
  intro H hO hS hTb;have hok:YJ P w H s₁.heap:=fun b u e=>by
   rcases hO b u e with⟨rfl,rfl,_⟩ | ⟨rfl,e',he,rfl⟩
   ·exact⟨ha,by rw[qd];exact hl,vs,_,rv,ha⟩
   ·exact(hT e' he).2
  have base_of:∀{b:Addr} {o:Obj},s₁.heap.get? b=some o->H b=none->(Vz s₁.heap H).get? b=some o:=fun e n=>ZkF e n;have noA:∀{b:Addr} {o:Obj},s₁.heap.get? b=some o->(∀vs n,o.data≠.seq vs n)->(∀vs,o.data≠.fields vs∨o.cls≠.none)->H b=none:=fun {b o} e d1 d2=>by
   cases q:H b with
   | none=>rfl
   | some u=>
    rcases hO b u q with⟨rfl,_,_⟩ | ⟨_,e',he,rfl⟩
    ·rw[ha] at e;cases e;exact absurd rfl (d1 _ _)
    ·rw[(hT e' he).2] at e;cases e
     rcases d2 #[] with z | z
     ·exact absurd rfl z
     ·exact absurd rfl z
  have nsK:∀{b:Addr} {m:Str->Option Value},s₁.heap.Ns b m->(Vz s₁.heap H).Ns b m:=fun {b m} ⟨o,es,ep,e,d,r⟩=>⟨o,es,ep,base_of e (noA e (fun _ _ z=>by rw[d] at z;cases z) fun _=>.inl fun z=>by rw[d] at z;cases z),d,r⟩;have hKb:K.In (Vz s₁.heap H):=fun b o e=>base_of (KX b o e) (by
   cases q:H b with
   | none=>rfl
   | some u=>
    rcases hO b u q with⟨rfl,_,z⟩ | ⟨_,e',he,rfl⟩
    ·rw[z] at e;cases e
    ·rw[noK e' he] at e;cases e)
  have hM:Mod K mg (Vz s₁.heap H):=⟨hKb,nsK hns,⟨mb,nsK hb,hbb⟩,let ⟨mc,h1,h2⟩:=hlim;⟨mc,nsK h1,h2⟩⟩;have e0:Env0 P w K mg (Vz s₁.heap H) callerA [] s₁ H:=⟨rfl,hM,fun b o e=>Zmz e,qb3 (Zjq _ _),trivial,fun b hb=>absurd (show b∈([]:List Addr) from hb) (by simp),hok,.of_eq hg⟩;have hCd:∀e∈tb,zK (Vz s₁.heap H) e.1 e.2:=fun e he=>by
   obtain⟨o,vs',file,tf,flags,tg,inF,text,tt,e1,r1,r2,r3⟩:=(hT e he).1;exact⟨o,vs',file,tf,flags,tg,inF,text,tt,base_of e1 (noA e1 (fun _ _ z=>by rw[r2] at z;cases z) fun _=>.inr (by rw[r1];nofun)),r1,r2,r3⟩
  have hBm:UU mg (Vz s₁.heap H):=by
   obtain⟨bm,o,e1,e2,e3,e4,e5,e6,e7⟩:=hbm;exact⟨bm,o,e1,e2,e3,base_of e4 (noA e4 (fun _ _ z=>by rw[e7] at z;cases z) fun _=>.inl fun z=>by rw[e7] at z;cases z),e5,e6,e7⟩
  refine codeAny_mono ((F _ hKb (nsK hns) hCd hBm).run callerA [] s₁ H ⟨[.ref a],[]⟩ [.ref a] [.ref a] _ _ hr e0 (hbind s₁ (.ref a)) (.cons rfl .nil) (hsp H hS hTb)) fun r s' h=>?_
  cases r with
  | error e=>exact(hCX H e s' h).elim
  | ok fl=>
   cases fl with
   | next=>exact zG h
   | brk=>exact zG h
   | cont=>exact zG h
   | ret u=>
    obtain⟨v,H',os,bare,un,hok',r',q⟩:=h;have q':v=.bl true:=q;subst q';obtain rfl:u=yf true:=r';refine⟨rfl,⟨fun b o e=>?_,fun b o e=>un.there b o e (by simp)⟩,os,bare⟩
    cases q:H b with
    | none=>exact .inl (un.keep b o e q (by intro z;exact absurd (show b∈([]:List Addr) from z) (by simp)) (by simp))
    | some u=>
     rcases hO b u q with⟨rfl,rfl,_⟩ | ⟨rfl,e',he,rfl⟩
     ·have z2:=un.frzs b _ _ q
      obtain⟨e1,_⟩:=hok b _ q;obtain⟨e2,_⟩:=hok' b _ z2;rw[e] at e1;cases e1;exact .inl e2
     ·obtain⟨more,z⟩:=un.tbls _ _ q
      have z2:s'.heap.get? e'.2=some (qap (#[]++more)):=hok' _ _ z;have e1:=(hT e' he).2;rw[e] at e1;cases e1;exact .inr (.inl ⟨((hT e' he).1.tab (hT e' he).2).isCodeTable,rfl,#[],more,rfl,z2⟩)
 cases hk:K.lookup a with
 | some o=>
  have e:=KX a o hk;rw[ha] at e
  cases e
  refine core (fun b=>open Classical in if ∃e∈tb,e.2=b then some (.tbl #[]) else none) (fun b u z=>?_) (.inr ⟨_,vs.toArray,_,hk,rfl,rfl,rfl,by rw[qE,lenV];exact hl,by simpa using rv⟩) (fun e he=>if_pos ⟨e,he,rfl⟩);by_cases h:∃e∈tb,e.2=b
  ·rw[if_pos h] at z;cases z;exact .inr ⟨rfl,h⟩
  ·rw[if_neg h] at z;cases z
 | none=>
  refine core (fun b=>open Classical in if ∃e∈tb,e.2=b then some (.tbl #[]) else if b=a then some (.frz { cls:=.type "list",data:=.seq vs.toArray } (.lst (ns.map V.int))) else none) (fun b u z=>?_) (.inl (.inr ⟨{ cls:=.type "list",data:=.seq vs.toArray },?_⟩)) (fun e he=>if_pos ⟨e,he,rfl⟩)
  ·by_cases h:∃e∈tb,e.2=b
   ·rw[if_pos h] at z;cases z;exact .inr ⟨rfl,h⟩
   ·rw[if_neg h] at z
    by_cases hb:b=a
    ·rw[if_pos hb] at z;cases z;exact .inl ⟨hb,rfl,hk⟩
    ·rw[if_neg hb] at z;cases z
  ·show(if ∃e∈tb,e.2=a then _ else _)=_
   rw[if_neg (fun⟨e,he,z⟩=>tabne e he z),if_pos rfl]
theorem ZlA {l : PySem.W.OpenLaw}{n k : Nat}{q : Program}{loose : List Str}{XP : (Str -> Option Value) -> Heap -> Prop}{YP : World -> Heap -> Prop}{d : DefRec}{K : Params -> qm}{CX : World -> Wj}{sp : World -> Sp}{x : Str}{tb : List (Str × Addr × Addr)}
    (hn : l.most = some n) (hn2 : n <= sizeLine) (hdf : d.params.defaults = []) (hr : Room k callerA)
    (hY : ∀ (w : World) (h : Heap), YP w h -> (K w.params).In h)
    (hrec : ∀ e ∈ tb, ∃ d, (recsOf q).find? (fun r => r.name == e.1) = some d) (htab : ∀ w : World, ∀ e ∈ tb, PySem.W.tabIn (K w.params) e.1 = some e.2) (hno : ∀ w : World, PySem.W.noTabs (K w.params) = true)
    (F : ∀ (w : World) (mg : Str -> Option Value) (fa : Addr) (h : Heap), (K w.params).In h -> h.Ns mainGlobals mg -> mg d.name = some (.ref fa) ->
      ∃ fd : FuncData, (∀ (s : Shared) (u : Value), BindsTo s fd ⟨[u], []⟩ [(x, u)]) /\
        ∀ base : Heap, (K w.params).In base -> base.Ns mainGlobals mg -> (∀ e ∈ tb, zK base e.2.1 e.2.2) -> UU mg base -> FnOk l.prog w (K w.params) mg base (CX w) k fa fd [x] (sp w))
    (hsp : ∀ (w : World) (H : Hp) (a : Addr) (ns : List Int), ns.length <= n -> ZH (K w.params) H a (ns.map V.int) -> (∀ e ∈ tb, H e.2.2 = some (.tbl #[])) -> sp w [.ref a] H (fun v _ => v = .bl true) fun _ _ _ => False)
    (hCX : ∀ (w : World) (H : Hp) (s : Shared) (e : Value) (s' : Shared), CX w [] H s (fun _ _ _ => False) e s' -> False) :
    qbP q loose XP YP l.row.toRowW d [] (fun f vs => qbJ f vs) := by
  refine Att.attach_call hn hdf fun w s₀ s₁ mg mb fa o pm cd doc a vs ns G Y ho hd hcd hmg hobj hints jO hg => ?_;have KX := hY w _ Y;obtain⟨fd, hb, hF⟩ := F w mg fa _ KX G.T.g hmg;have hT : ∀ e ∈ tb.map (·.2), zK s₁.heap e.1 e.2 /\ s₁.heap.get? e.2 = some (qap #[]) := fun e he => by
    obtain⟨e', he', rfl⟩ := qC.mp he;obtain⟨d', hd'⟩ := hrec e' he';exact PySem.W.tab_of G.T KX hd' (htab w e' he')
  exact ZjW (tb := tb.map (·.2)) KX G.T.g G.T.b G.T.builtins G.T.nolimit hg hT (hno w) (let ⟨bm, ob, a, b, c, d, e, f⟩ := G.T.bmain; ⟨bm, ob, a, b, (fun z => by
      obtain⟨o, es, ep, e', hd', _⟩ := G.T.g;rw[z, e'] at c; cases c; rw[hd'] at f; cases f), c, d, e, f⟩) hobj hints (qJ jO hn2) hr
    (fun base h1 h2 h3 h4 => hF base h1 h2 (fun e he => h3 e.2 (yB (f := (·.2)) he)) h4) hb (fun H hS hTb => hsp w H a ns jO hS fun e he => hTb e.2 (yB (f := (·.2)) he)) fun H e s' => hCX w H s₁ e s'
end TF
namespace L2
section
variable {X:Cx}{jE:List (Addr×Obj)}{σ:St}{H:Hp}{s:Shared}{h':Heap}
theorem Inv.turnedN {t':Nat}{fp:List Addr}(I:Inv X jE σ H s)(k:∀b o,b∉fp->s.heap.get? b=some o->h'.get? b=some o)(hf:∀b∈fp,WI X jE H b):Inv X jE σ H { s with heap:=h',toks:=t' }:=by
 have nit:∀b u,H b=some u->b∉fp:=fun b u e z=>by rw[(hf b z).1] at e;cases e
 refine I.step (g':=s.gens) (d':=s.drawn) (ch:=fp) (fun b hb=>?_) (fun b o _ _ hc e _=>k b o hc e) (fun b o _ _ hc e _=>⟨o.slots,k b o hc e⟩) (fun _ _ _ _ n=>n)
  (fun b o hc e=>⟨o,k b o hc e⟩) (fun _ _ e=>e) (fun _ _ _ e=>e) (fun b ps e=>⟨#[],by rw[e];simp⟩) (fun m hm=>?_) (fun b u e=>?_) I.bare
 ·obtain⟨f0,f1,f2,f3,f4,f5⟩:=hf b hb
  exact⟨f3,f1,f4,f5⟩
 ·obtain⟨o,es,ep,ho,r⟩:=hm
  exact⟨o,es,ep,k _ o (fun z=>(hf _ z).2.1 rfl) ho,r⟩
 ·refine(I.hok b u e).stay (fun c v hc q=>k c v ?_ q) (fun _ q=>q) fun _ _ q=>q
  rcases hc with z | z
  ·rw[z];exact nit b u e
  ·exact nit c _ z
theorem Inv.turnedT {t':Nat}{fp:List Addr}{T:Addr}{o:HO}(I:Inv X jE σ H s)(k:∀b o,b∉fp->s.heap.get? b=some o->h'.get? b=some o)(hf:∀b∈fp,WI X jE H b)(hT:s.heap.objs.size<=T)(new:YI X.prog X.w (Zo H T o) h' T o):Inv X jE σ (Zo H T o) { s with heap:=h',toks:=t' }:=by
 have hn:=I.hok.fresh hT;have nit:∀b u,H b=some u->b∉fp:=fun b u e z=>by rw[(hf b z).1] at e;cases e
 refine I.step (g':=s.gens) (d':=s.drawn) (ch:=fp) (fun b hb=>?_) (fun b o _ _ hc e _=>k b o hc e) (fun b o _ _ hc e _=>⟨o.slots,k b o hc e⟩) (fun b u _ q n=>by rw[Zu (qN (qT (qG q) hT))];exact n)
  (fun b o hc e=>⟨o,k b o hc e⟩) (fun b xs q=>by rw[Zu (Z5 q hn)];exact q) (fun b u xs q=>by rw[Zu (Z5 q hn)];exact q) (fun b ps q=>⟨#[],by rw[Zu (Z5 q hn),q];simp⟩) (fun m hm=>?_) (fun b u e=>?_) I.bare
 ·obtain⟨f0,f1,f2,f3,f4,f5⟩:=hf b hb
  exact⟨f3,f1,f4,f5⟩
 ·obtain⟨o,es,ep,ho,r⟩:=hm
  exact⟨o,es,ep,k _ o (fun z=>(hf _ z).2.1 rfl) ho,r⟩
 ·by_cases hb:b=T
  ·subst hb;rw[Z8] at e;cases e;exact new
  ·rw[Zu hb] at e
   refine(I.hok b u e).stay (fun c v hc q=>k c v ?_ q) (fun c q=>by rw[Zu (Z5 q hn)];exact q) fun c xs q=>by rw[Zu (Z5 q hn)];exact q
   rcases hc with z | z
   ·rw[z];exact nit b u e
   ·exact nit c _ z
end
def Itz (K:qm)(a b:Addr):It where
 go:=fun i H=>∃xs ys x y,ZH K H a xs/\ZH K H b ys/\xs[i]?=some x/\ys[i]?=some y
 yld:=fun i H v H'=>∃T x y,H T=none/\v=.ref T/\H'=Zo H T (.tup [x,y])/\(∀xs,ZH K H a xs->xs[i]?=some x)/\(∀ys,ZH K H b ys->ys[i]?=some y)
 stop:=fun i H=>∃xs ys,ZH K H a xs/\ZH K H b ys/\i=min xs.length ys.length
structure ZDist (z TI TO i1 i2:Addr):Prop where
 TIz:TI≠z
 TOz:TO≠z
 i1z:i1≠z
 i2z:i2≠z
 TITO:TI≠TO
 TIi1:TI≠i1
 TIi2:TI≠i2
 TOi1:TO≠i1
 TOi2:TO≠i2
 i12:i1≠i2
theorem ZnX (n:Nat):ZDist (n+4) (n+2) (n+3) n (n+1):=by
 have h:∀a b:Nat,a≠b->(a:Addr)≠(b:Addr):=fun _ _ h=>h;exact⟨h _ _ (by omega),h _ _ (by omega),h _ _ (by omega),h _ _ (by omega),h _ _ (by omega),h _ _ (by omega),h _ _ (by omega),h _ _ (by omega),h _ _ (by omega),h _ _ (by omega)⟩
def ZnY (z TI TO i1 i2 a b:Addr)(i:Nat)(h:Heap):Prop:=IsZip h z TI TO .none/\IsPair h TI (.ref i1) (.ref i2)/\(∃x y,IsPair h TO x y)/\h.IsListIter i1 a i/\h.IsListIter i2 b i
theorem UA {h:Heap}{a b:Addr}{o:Obj}{T:String}(ha:∃oa,h.get? a=some oa/\oa.cls=.type "list")(hb:h.get? b=some o)(hc:o.cls=.type T)(hT:T≠"list"):a≠b:=fun z=>by
 obtain⟨oa,e,c⟩:=ha;rw[z,hb] at e
 cases e
 rw[hc] at c;exact hT (qaT c)
theorem ZeT {h:Heap}{z TI TO i1 i2 a b:Addr}{i:Nat}{xs ys:Array Value}(D:ZDist z TI TO i1 i2)(st:ZnY z TI TO i1 i2 a b i h)(ha:h.IsList a xs)(hb:h.IsList b ys):ZipApart z TI TO i1 i2 a b:=by
 obtain⟨hz,hTI,⟨x,y,hTO⟩,h1,h2⟩:=st;obtain⟨o1,e1,c1,d1⟩:=h1;obtain⟨o2,e2,c2,d2⟩:=h2;have la:∃oa,h.get? a=some oa/\oa.cls=.type "list":=let ⟨o,e,c,_⟩:=ha;⟨o,e,c⟩;have lb:∃oa,h.get? b=some oa/\oa.cls=.type "list":=let ⟨o,e,c,_⟩:=hb;⟨o,e,c⟩;exact⟨D.TIz,D.TOz,D.i1z,D.i2z,D.TITO,D.TIi1,D.TIi2,D.TOi1,D.TOi2,D.i12,UA la hz rfl (by decide),UA la hTO rfl (by decide),UA la e1 c1 (by decide),UA la e2 c2 (by decide),UA lb hz rfl (by decide),UA lb hTO rfl (by decide),UA lb e1 c1 (by decide),UA lb e2 c2 (by decide)⟩
theorem ZlB {P:Program}{w:World}{K:qm}{elts:List Expr}{k:Nat}{pos:Pos}(a b z TI TO i1 i2:Addr)(D:ZDist z TI TO i1 i2):Turn P w K (.Tuple elts k pos) (Itz K a b) [z,TI,TO,i1,i2] z (ZnY z TI TO i1 i2 a b) where
 mem:=by simp
 obj:=fun i h st c hc=>by
  obtain⟨hz,hTI,⟨x,y,hTO⟩,⟨o1,e1,c1,d1⟩,⟨o2,e2,c2,d2⟩⟩:=st;simp only[qq,zd,or_false] at hc;rcases hc with rfl | rfl | rfl | rfl | rfl
  ·exact⟨_,hz,fun v q=>by cases q⟩
  ·exact⟨_,hTI,fun v q=>by cases q⟩
  ·exact⟨_,hTO,fun v q=>by cases q⟩
  ·exact⟨_,e1,fun v q=>by rw[d1] at q;cases q⟩
  ·exact⟨_,e2,fun v q=>by rw[d2] at q;cases q⟩
 keep:=fun i h h' st kk=>by
  obtain⟨hz,hTI,⟨x,y,hTO⟩,h1,h2⟩:=st;exact⟨kk z (by simp) _ hz,kk TI (by simp) _ hTI,⟨x,y,kk TO (by simp) _ hTO⟩,h1.at fun o e=>kk i1 (by simp) o e,h2.at fun o e=>kk i2 (by simp) o e⟩
 item:=by
  intro X hP hw hK hc i jE s σ H E I hf st hg;subst hP hw hK;obtain⟨xs,ys,x,y,hq,hq2,hx,hy⟩:=hg;obtain⟨jG,rv,p,hz⟩:=I.list hq;obtain⟨jT,rv2,p2,hz2⟩:=I.list hq2;obtain⟨u,hu,ru⟩:=rv.get hx;obtain⟨u2,hu2,ru2⟩:=rv2.get hy;have A:=ZeT D st p.isList p2.isList;have W:=WalksT.zip2 (prog:=X.prog) (w:=X.w) (I.ok.hd hc) z TI TO i1 i2 a b A jG.toArray jT.toArray;obtain⟨t1,t2,t3,t4,t5⟩:=st;have hl1:i<jG.length:=(qD.mp hu).1;have hl2:i<jT.length:=(qD.mp hu2).1;obtain⟨xa,ya,t3⟩:=t3;refine wpAny_pyNext_zip_item A t1 t2 t3 t4 t5 p.isList p2.isList (x:=u) (y:=u2) (by simpa using hu) (by simpa using hu2) fun h1 a1 a2 a3 a4 a5 a6 hk=>⟨_,rfl,?_⟩;have lt:∀{c o},s.heap.get? c=some o->s.heap.objs.size≠c:=fun e=>yU (qG e);have hT:=qu s.heap.objs.size;have hM:=yO a1 (yO (hk _ _ A.TIz A.TITO A.TIi1 A.TIi2 t2) (yO (⟨_,_,a2⟩:∃x y,IsPair h1 TO x y) (yO a3 (yO a4 (yO (p.isList.at fun o e=>hk _ o A.l1z A.l1TO A.l1i1 A.l1i2 e) (yO (p2.isList.at fun o e=>hk _ o A.l2z A.l2TO A.l2i1 A.l2i2 e) (yO (lt t1) (yO (lt t3) (yO (let ⟨_,e,_⟩:=t4;lt e) (let ⟨_,e,_⟩:=t5;lt e))))))))));have kk:∀c o,c∉[z,TO,i1,i2]->s.heap.get? c=some o->h1.get? c=some o:=fun c o hc e=>hk c o (fun q=>hc (by simp[q])) (fun q=>hc (by simp[q])) (fun q=>hc (by simp[q])) (fun q=>hc (by simp[q])) e;have hap:=W.apart i _ h1 hM;refine W.go elts k pos i _ { s with heap:=h1 } _ _ hM fun h2 hS kk2=>?_;have hI2:Uh h2 s.heap.objs.size #[u,u2]:=⟨_,kk2 _ _ hap a5,⟨rfl,_,rfl⟩,rfl⟩;have hfw:∀c,c∉[z,TI,TO,i1,i2]->c∉[z,TO,i1,i2]:=fun c hc hm=>hc (by
   simp only[qq,zd,or_false] at hm⊢;rcases hm with r | r | r | r <;> simp[r])
  have I1:Inv X jE σ (Zo H s.heap.objs.size (.tup [x,y])) { s with heap:=h2 }:=I.turnedT (t':=s.toks) (fp:=[z,TI,TO,i1,i2]) (fun c o hc e=>kk2 c o (hfw c hc) (kk c o (hfw c hc) e)) hf hT ⟨by show 2<=sizeLine;decide,[u,u2],.cons ru (.cons ru2 .nil),hI2⟩;have hTn:H s.heap.objs.size=none:=I.hok.fresh hT;refine⟨.ref s.heap.objs.size,_,I1,rfl,⟨s.heap.objs.size,x,y,hTn,rfl,rfl,fun xs' h=>by rw[I.list_inj h hq];exact hx,fun ys' h=>by rw[I.list_inj h hq2];exact hy⟩,⟨hS.1,hS.2.1,hS.2.2.1,hS.2.2.2.1,hS.2.2.2.2.1⟩,fun c hc=>?_⟩;rw[Zu ?_]
  ·exact(hf c hc).1
  ·intro zc
   have old:∃o,s.heap.get? c=some o:=by
    obtain⟨o1,e1,_⟩:=t4;obtain⟨o2,e2,_⟩:=t5;simp only[qq,zd,or_false] at hc;rcases hc with r | r | r | r | r
    ·rw[r];exact⟨_,t1⟩
    ·rw[r];exact⟨_,t2⟩
    ·rw[r];exact⟨_,t3⟩
    ·rw[r];exact⟨_,e1⟩
    ·rw[r];exact⟨_,e2⟩
   obtain⟨o,e⟩:=old;exact absurd (qG e) (Nat.not_lt.mpr (by rw[zc];exact qu _))
 done:=by
  intro X hP hw hK hc i jE s σ H E I hf st hg;subst hP hw hK;obtain⟨xs,ys,hq,hq2,rfl⟩:=hg;obtain⟨jG,rv,p,hz⟩:=I.list hq;obtain⟨jT,rv2,p2,hz2⟩:=I.list hq2;have A:=ZeT D st p.isList p2.isList;have W:=WalksT.zip2 (prog:=X.prog) (w:=X.w) (I.ok.hd hc) z TI TO i1 i2 a b A jG.toArray jT.toArray;obtain⟨t1,t2,t3,t4,t5⟩:=st;have e:min jG.toArray.size jT.toArray.size=min xs.length ys.length:=by rw[qE,qE,rv.length,rv2.length]
  refine W.done s _ _ (by rw[e];exact⟨t1,t2,t3,t4,t5,p.isList,p2.isList⟩) fun h1 tk kk=>⟨rfl,?_⟩;exact I.turnedN (fp:=[z,TI,TO,i1,i2]) (fun c o hc e=>kk c o (fun hm=>hc (by
   simp only[qq,zd,or_false] at hm⊢;rcases hm with r | r | r | r <;> simp[r])) e) hf
 self:=fun A i s Q E st h=>wpAny_pyIter_zip st.1 h
def iZip (K:qm)(ta:TA):TI:=fun σ H R=>ta σ H fun vs H1=>∃a b,vs=[.ref a,.ref b]/\(∃xs,ZH K H1 a xs)/\(∃ys,ZH K H1 b ys)/\R (Itz K a b) H1
theorem ZgJ:bootBuiltins "zip" = some (.type "zip"):=by decide +kernel
theorem ZoU {X:Cx}{elts:List Expr}{k:Nat}{tp:Pos}{a b:Expr}{ta:TA}{p pos:Pos}(hg:Gl X "zip")(hm:X.mg "zip" = none)(ha:PA X [a,b] ta)(hs:starEach [a,b] X.env=[(false,eval a X.env),(false,eval b X.env)]:=by rfl)(hs2:starEach [b] X.env=[(false,eval b X.env)]:=by rfl) :
  PI X (.Tuple elts k tp) (.Call (.Name "zip" p) [a,b] [] pos) (iZip X.K ta):=by
 intro jE s σ H R I h;refine Call_ (Ub I hg hm ZgJ (zM (ZJ (ha pos jE s σ H _ I h) fun us s1 ⟨vs,H1,I1,r1,q1⟩=>?_) (by rw[hs,hs2]) (by rw[hs2];rfl)));obtain⟨a',b',e,⟨xs,hq⟩,⟨ys,hq2⟩,q⟩:=q1;subst e
 cases r1 with
 | cons r rr=>
  cases rr with
  | cons r' rr=>
   cases rr
   cases r
   cases r'
   obtain⟨jG,rv,p1,hz⟩:=I1.list hq;obtain⟨jT,rv2,p2,hz2⟩:=I1.list hq2;refine call_zip_2 p1.isList p2.isList fun h' g1 g2 g3 g4 g5 g6 g7=>?_;refine wpAny_pyIter_zip g1 ?_;have I2:Inv X jE σ H1 { s1 with heap:=h' }:=I1.kept (t':=s1.toks) g7;refine⟨s1.heap.objs.size+4,[s1.heap.objs.size+4,s1.heap.objs.size+2,s1.heap.objs.size+3,s1.heap.objs.size,s1.heap.objs.size+1],_,_,H1,rfl,I2,ZlB a' b' (s1.heap.objs.size+4) (s1.heap.objs.size+2) (s1.heap.objs.size+3) s1.heap.objs.size (s1.heap.objs.size+1) (ZnX _),⟨g1,g2,⟨_,_,g3⟩,g4,g5⟩,fun c hc=>?_,q⟩;simp only[qq,zd,or_false] at hc;have hle:s1.heap.objs.size<=c:=by rcases hc with r | r | r | r | r <;> rw[r] <;> first | exact qu _ | exact qbc _ _
   exact I1.fpOk hle (I1.hok.fresh hle)
end L2
namespace TF
open L2
section
variable {X:Cx}{G:Gh}
def VB (xs ys:List D):List D:=List.zipWith (fun x y=>D.tup [x,y]) xs ys
theorem W6.zip {K:qm}{a b:Addr}{vs us:List V}{Hf:Hp}{ds es:List D}(na:¬G.fp a)(h:Hf a=some (.lst vs))(r:Zm G Hf ds vs)(nb:¬G.fp b)(h':Hf b=some (.lst us))(r':Zm G Hf es us):W6 G (Itz K a b) Hf (VB ds es):=fun i jX H2 s e1 e2 st=>by
 have h2:ZH K H2 a vs:=ZH.of (e2 _ _ na (e1 _ _ na h));have h3:ZH K H2 b us:=ZH.of (e2 _ _ nb (e1 _ _ nb h'));refine⟨fun d q=>?_,fun q=>⟨vs,us,h2,h3,by rw[q];unfold VB;rw[qbU,r.length,r'.length]⟩⟩;unfold VB at q;rw[qaG] at q
 cases qa:ds[i]? with
 | none=>rw[qa] at q;simp at q
 | some x=>
  cases qb:es[i]? with
  | none=>rw[qa,qb] at q;simp at q
  | some y=>
   rw[qa,qb] at q;simp at q;subst q;obtain⟨v,q1,q2⟩:=r.get qa;obtain⟨u,q3,q4⟩:=r'.get qb;refine⟨⟨vs,us,v,u,h2,h3,q1,q3⟩,fun z H3 ⟨T,v',u',hT,y0,y1,y2,y3⟩=>?_⟩;have ev:=y2 vs h2;have eu:=y3 us h3;rw[q1] at ev;cases ev;rw[q3] at eu;cases eu;subst y0 y1;have nf:=Gh.nofp st hT;have g2:=Gr.new (o:=.tup [v,u]) e2 hT nf;refine⟨Zo jX T (.tup [v,u]),g2,Gh.grow st hT,jc.mpr ⟨T,_,rfl,nf,Z8,?_⟩⟩;exact .cons ((q2.ext e1).ext g2.ff) (.one ((q4.ext e1).ext g2.ff))
end
section
variable {X:Cx}{G:Gh}
def Xh (n:Int)(r:List Int):Int:=r.foldl max n
theorem Znj (r:List Int):∀n,n<=Xh n r/\∀a∈r,a<=Xh n r:=by
 induction r with
 | nil=>intro n;exact⟨qb6 _,by simp⟩
 | cons b r ih=>
  intro n;obtain⟨h1,h2⟩:=ih (max n b);refine⟨?_,fun a ha=>?_⟩
  ·show n<=Xh (max n b) r;omega
  ·show a<=Xh (max n b) r
   rcases qq.mp ha with rfl | ha
   ·omega
   ·exact h2 a ha
theorem ZlC (r:List Int):∀n,Xh n r∈n::r:=by
 induction r with
 | nil=>intro n;simp[Xh]
 | cons b r ih=>
  intro n;have h:=ih (max n b);show Xh (max n b) r∈n::b::r;rcases qq.mp h with h | h
  ·rw[h]
   rcases Int.le_total n b with z | z
   ·rw[Int.max_eq_right z];simp
   ·rw[Int.max_eq_left z];simp
  ·exact qU _ (qU _ h)
theorem ZgK {n M:Int}{r:List Int}(h1:M∈n::r)(h2:∀a∈n::r,a<=M):M=Xh n r:=by
 obtain⟨g1,g2⟩:=Znj r n;have g3:=h2 _ (ZlC r n);have g4:M<=Xh n r:=by
  rcases qq.mp h1 with h | h
  ·rw[h];exact g1
  ·exact g2 M h
 omega
def Zi0:List D->Option D
 | [.lst ds]=>match ZM ds with | some (n::r)=>some (.int (Xh n r)) | _=>none
 | _=>none
theorem ZjX (hc:X.calm=true):Y9 X (.builtin "max") (fun xs H Q=>∃p n r,xs=[.ref p]/\ZH X.K H p ((n::r).map V.int)/\Q (.int (Xh n r)) H):=by
 intro jE s σ H xs us Q I r h;obtain⟨p,n,rr,rfl,hp,q⟩:=h;obtain⟨u,rfl,ru⟩:=Xl r
 cases ru
 obtain⟨jG,rv,pl,hz⟩:=I.list hp;have hi:IntsAre jG (n::rr):=Wx rv;obtain⟨xs,e⟩:=hi.allInts.items;have hns:n::rr=xs.toList.map (·.1):=by rw[<-hi.numsOf,<-nums_intItems,<-e]
 have hl:=pl.isList;rw[e] at hl;have hsz:0<xs.size:=by
  have h3:0<(n::rr).length:=by simp
  rw[hns,qd,zb] at h3;exact h3
 refine max_intList (I.ok.hd hc) hl hsz fun v h' tk hv hk=>?_;obtain⟨t,rfl⟩:=intItems_at hv;obtain⟨h1,h2⟩:=argBest_gt (numAt xs) (xs.size-1);have e2:numAt xs (argBest (fun i j=>decide (numAt xs i > numAt xs j)) (xs.size-1))=Xh n rr:=by
  refine ZgK ?_ fun a ha=>?_
  ·rw[hns,numAt_eq];exact getD_mem (by rw[qd,zb];omega)
  ·rw[hns] at ha
   obtain⟨j,hj,rfl⟩:=mem_getD ha;rw[qd,zb] at hj;rw[<-numAt_eq];exact h2 j (by omega)
 rw[e2];exact⟨.int (Xh n rr),H,I.kept (t':=tk) hk,⟨_,rfl⟩,q⟩
theorem Zh1 (hc:X.calm=true):XO X G (.builtin "max") Zi0:=
 ⟨_,ZjX hc,fun Hf H s xs ds c Q e1 st r q k=>by
  match ds,q,r with
  | [.lst es],q,r=>
   have q:(match ZM es with | some (n::r)=>some (D.int (Xh n r)) | _=>none)=some c:=q
   cases he:ZM es with
   | none=>rw[he] at q;cases q
   | some ns=>
    cases ns with
    | nil=>rw[he] at q;cases q
    | cons n rr=>
     rw[he] at q
     cases q
     obtain⟨v,rfl,rv⟩:=jg r;obtain⟨p,vs,rfl,np,hp,rp⟩:=jb.mp rv;rw[Wo he] at rp;rw[jk rp] at hp;exact⟨p,n,rr,rfl,ZH.of (e1 _ _ np hp),k _ Hf H (.refl e1) st (ja.mpr rfl) (.scal fun z=>z)⟩⟩
end
theorem Zbi:∀{a b:List Int},a.Perm b->a.Pairwise (·<=·)->b.Pairwise (·<=·)->a=b
 | [],b,p,_,_=>(List.nil_perm.mp p).symm
 | x::a,[],p,_,_=>absurd p.length_eq (by simp)
 | x::a,y::b,p,ha,hb=>by
  have ha':=yc.mp ha;have hb':=yc.mp hb;have e:x=y:=by
   have h1:x∈y::b:=p.mem_iff.mp (by simp);have h2:y∈x::a:=p.mem_iff.mpr (by simp);rcases qq.mp h1 with h1 | h1
   ·exact h1
   ·rcases qq.mp h2 with h2 | h2
    ·exact h2.symm
    ·have:=hb'.1 x h1
     have:=ha'.1 y h2;omega
  subst e;rw[Zbi (List.Perm.cons_inv p) ha'.2 hb'.2]
def XD (ns:List Int):List Int:=ns.mergeSort fun a b=>decide (a<=b)
theorem ZbQ (ns:List Int):(XD ns).Perm ns:=qbV ns _
theorem Zfr (ns:List Int):(XD ns).Pairwise (·<=·):=by
 have h:=qbn (le:=fun(a b:Int)=>decide (a<=b)) (fun a b c h1 h2=>by simp at h1 h2⊢;omega) (fun a b=>by simp;omega) ns;exact h.imp fun h=>by simpa using h
theorem Za2 {a ns:List Int}(p:a.Perm ns)(h:a.Pairwise (·<=·)):a=XD ns:=Zbi (p.trans (ZbQ ns).symm) h (Zfr ns)
section
variable {X:Cx}{G:Gh}
theorem Za3:∀{vs:List Value} {ns:List Int},IntsAre vs ns->ZI (ns.map V.int) vs
 | _,_,.nil=>.nil
 | _,_,.cons n t r=>.cons ⟨t,rfl⟩ (Za3 r)
theorem Zh2:Y9 X (.builtin "sorted") (fun xs H Q=>∃(p:Addr) (ns:List Int),xs=[.ref p]/\ZH X.K H p (ns.map V.int)/\ns.length<64/\∀l,H l=none->Q (.ref l) (Zo H l (.lst ((XD ns).map V.int)))):=by
 intro jE s σ H xs us Q I r h;obtain⟨p,ns,rfl,hp,h64,q⟩:=h;obtain⟨u,rfl,ru⟩:=Xl r
 cases ru
 obtain⟨jG,rv,pl,hz⟩:=I.list hp;have hi:IntsAre jG ns:=Wx rv;have hl:=rv.length;rw[qd] at hl;refine sorted_ints pl.isList hi (by omega) fun out ns' a1 a2 a3=>?_;obtain⟨e,he⟩:=sortedAll_at s.heap jG out;have eo:out=out.toList.toArray:=by simp
 rw[eo] at he;have en:=Za2 a2 a3;subst en;have hle:s.heap.objs.size<=s.heap.objs.size+1:=qbx _;refine⟨.ref (s.heap.objs.size+1),_,I.laid (a:=s.heap.objs.size+1) (o:=.lst ((XD ns).map V.int)) (t':=s.toks) (fun _ _=>sortedAll_old) hle ⟨?_,out.toList,e,Za3 a1,he⟩,rfl,q _ (I.hok.fresh hle)⟩;rw[qd,(ZbQ ns).length_eq,sizeLine_eq];omega
def Zdn:List D->Option D
 | [.lst ds]=>match ZM ds with | some ns=>if ns.length<64 then some (.lst ((XD ns).map .int)) else none | none=>none
 | _=>none
theorem U6 {Hf:Hp}:∀ns:List Int,Zm G Hf (ns.map D.int) (ns.map V.int)
 | []=>Zm.nil_iff.mpr rfl
 | n::ns=>.cons (ja.mpr rfl) (U6 ns)
theorem Zfs:XO X G (.builtin "sorted") Zdn:=
 ⟨_,Zh2,fun Hf H s xs ds c Q e1 st r q k=>by
  match ds,q,r with
  | [.lst es],q,r=>
   have q:(match ZM es with | some ns=>if ns.length<64 then some (D.lst ((XD ns).map .int)) else none | none=>none)=some c:=q
   cases he:ZM es with
   | none=>rw[he] at q;cases q
   | some ns=>
    rw[he] at q;have q:(if ns.length<64 then some (D.lst ((XD ns).map .int)) else none)=some c:=q;split at q
    ·rename_i h64
     cases q
     obtain⟨v,rfl,rv⟩:=jg r;obtain⟨p,vs,rfl,np,hp,rp⟩:=jb.mp rv;rw[Wo he] at rp;rw[jk rp] at hp;refine⟨p,ns,rfl,ZH.of (e1 _ _ np hp),h64,fun l hl=>?_⟩;have nf:=Gh.nofp st hl;have g2:=Gr.new (o:=.lst ((XD ns).map V.int)) e1 hl nf;exact k (.ref l) _ _ g2 (Gh.grow st hl) (jb.mpr ⟨l,_,rfl,nf,Z8,U6 _⟩) (YH.mk e1 hl nf (U6 _))
    ·cases q⟩
end
end TF
namespace HT
section
variable {prog:Program}{w:World}{A:Around}{E:Value->Shared->Prop}{s:Shared}
end
end HT
namespace TF
open L2
section
variable {X:Cx}{G:Gh}
end
end TF
namespace L2
open AutoSeq1 (wpAny_loadPart')
section
variable {prog:Program}{w:World}{A:Around}{E:Value->Shared->Prop}{s:Shared}
theorem Zh3 {q t:Addr}{i:Nat}{ys:Array Value}{x:Value}{Q:Value->Shared->Prop}(hq:s.heap.IsTupleIter q t i)(ht:s.heap.IsTuple t ys)(hx:ys[i]?=some x)
  (k:∀h',h'.IsTupleIter q t (i+1)->qad q s.heap h'->Q x { s with heap:=h' }):wpAny (model prog w) A (zv (.ref q)) Q E s:=by
 obtain⟨o,ho,hc,hd⟩:=id hq;obtain⟨ol,hol,_,nl,hdl⟩:=ht;unfold zv;refine wpAny_bind (wpAny_callSpecial?_slot (name:=qA "__next__") hq.typeIs yr (wpAny_call_entry yr hq.typeIs qaX ?_ (qaU _)));show wpAny _ _ (field (.ref q) 0 >>= _) _ _ s;refine wpAny_bind (wpAny_field ho hd (x:=.ref t) rfl ?_);show wpAny _ _ (if (qK t==qR)=true then _ else _) _ _ s;rw[if_neg (show ¬((qK t==qR)=true) from z8)];show wpAny _ _ (field (.ref q) 1 >>= _) _ _ s;refine wpAny_bind (wpAny_field ho hd (x:=.int i 0) rfl ?_);show wpAny _ _ (seqItems? (.ref t) >>= _) _ _ s;refine wpAny_bind (wpAny_seqItems hol hdl ?_);simp only[qaw,hx];exact wpAny_bind (wpAny_setField ho hd (by simp) (wpAny_pure ⟨x,rfl,wpAny_pure (k _ ⟨_,qbB _ ho (Obj.isFreed_of_fields (Obj.data_mapFields hd _)),(Obj.cls_mapFields ..).trans hc,by rw[Obj.data_mapFields hd];simp[rawInt]⟩ (qbW ..))⟩))
theorem ZjY {q t:Addr}{i:Nat}{ys:Array Value}{Q:Value->Shared->Prop}(hh:A.handled=none)(hq:s.heap.IsTupleIter q t i)(ht:s.heap.IsTuple t ys)(hx:ys[i]?=none)
  (hE:∀h' e,Heap.ExtBut q s.heap h'->(∃o,h'.get? e=some o/\o.cls=.type "StopIteration")->E (.ref e) { s with heap:=h' }):wpAny (model prog w) A (zv (.ref q)) Q E s:=by
 obtain⟨o,ho,hc,hd⟩:=id hq;obtain⟨ol,hol,_,nl,hdl⟩:=ht;unfold zv;refine wpAny_bind (wpAny_callSpecial?_slot (name:=qA "__next__") hq.typeIs yr (wpAny_call_entry yr hq.typeIs qaX ?_ (qaU _)));show wpAny _ _ (field (.ref q) 0 >>= _) _ _ s;refine wpAny_bind (wpAny_field ho hd (x:=.ref t) rfl ?_);show wpAny _ _ (if (qK t==qR)=true then _ else _) _ _ s;rw[if_neg (show ¬((qK t==qR)=true) from z8)];show wpAny _ _ (field (.ref q) 1 >>= _) _ _ s;refine wpAny_bind (wpAny_field ho hd (x:=.int i 0) rfl ?_);show wpAny _ _ (seqItems? (.ref t) >>= _) _ _ s;refine wpAny_bind (wpAny_seqItems hol hdl ?_);simp only[qaw,hx];refine wpAny_bind (wpAny_rule (wpAny_bind (wpAny_setField ho hd (by simp) ?_)));show wpAny _ _ (newExc (.type "StopIteration") [] >>= _) _ _ _;refine wpAny_bind ?_;simp only[newExc,newTuple];refine wpAny_bind (wpAny_newObj_type ?_ (by size_fits));refine wpAny_bind (m:=firstArgMember _ _) (wpAny_of_eq (a:=qR) (by first | rfl | (simp only[firstArgMember];rfl)) ?_);refine wpAny_newObj_type ?_ (by size_fits);simp only[raiseNew];refine wpAny_bind (wpAny_handled ?_)
 first | rw[show A.in1.handled=none from hh];refine wpAny_bind (wpAny_pure (wpAny_throw ?_)) | rw[hh];refine wpAny_bind (wpAny_pure (wpAny_throw ?_))
 exact hE _ _ (((qbW ..).extBut.push _).push _) ⟨_,qz _ rfl,rfl⟩
end
theorem Zft {prog:Program}{w:World}{A:Around}(hh:A.handled=none)(q t:Addr)(hne:t≠q)(ys:Array Value):Draws prog w A q [q,t] ys.size (fun i v=>ys[i]?=some v) (fun i h=>h.IsTupleIter q t i/\h.IsTuple t ys) where
 live:=fun _ _ st=>let ⟨o,ho,_⟩:=st.1;⟨o,ho⟩
 frame:=fun _ _ _ st k=>⟨st.1.at fun o e=>k q (by simp) o e,st.2.at fun o e=>k t (by simp) o e⟩
 item:=fun i s Q E hi st k=>Zh3 st.1 st.2 (x:=ys[i]) (by simp[hi]) fun h' g sb=>k _ h' s.toks (by simp[hi]) ⟨g,st.2.at fun o e=>(sb.2 t hne).trans e⟩ sb
 done:=fun s Q E st hE=>ZjY hh st.1 st.2 (by simp) hE
end L2
namespace TF
open L2
section
variable {X:Cx}{G:Gh}
end
section
variable {X:Cx}{G:Gh}
def Um (f:Zb->M D):Zb->M D:=fun ρ=>Zn (f ρ) fun d=>match d with | .int i=>Zx (.int (-i)) | _=>ZC
theorem Zi1 {a:Expr}{pos:Pos}{f:Zb->M D}{r1:Bool}(ha:PD X G r1 a f):PD X G true (.UnaryOp .USub a pos) (Um f):=by
 obtain⟨t,p,q⟩:=ha.drop;refine⟨_,Zpu Zou p,fun σ Hf H ρ s d s' Q e1 e2 e3 e4 k=>?_⟩;obtain⟨d0,s1,a1,a2⟩:=ZB e4;refine q σ Hf H ρ s d0 s1 _ e1 e2 e3 a1 fun v jM H1 g1 jW r1=>?_
 match d0,a2,r1 with
 | .int i,a2,r1=>
  obtain⟨rfl,rfl⟩:=ZW a2;exact⟨i,ja.mp r1,k _ jM H1 g1 jW (ja.mpr rfl) fun _=>.scal fun z=>z⟩
end
end TF
namespace L2
section
variable {prog:Program}{w:World}{A:Around}{E:Value->Shared->Prop}{s:Shared}
theorem ZgL {t:Addr}{vs:List Value}{Q:List Value->Shared->Prop}(ht:s.heap.IsTuple t vs.toArray)(k:Q vs { s with heap:=(s.heap.push (seqObj "list" #[] 0)).update s.heap.objs.size (qS (· ++ vs.toArray)) })(hz:vs.length<=sizeLine):wpAny (model prog w) A (collect (.ref t)) Q E s:=by
 obtain⟨o,ho,hc,n,hd⟩:=id ht;unfold collect;refine wpAny_bind (wpAny_runValue (codeAny_builtin entry_proto_collect' ?_));show wpAny _ _ (do again (.builtin "list.__iadd__" ⟨[<-newList [],.ref t],[]⟩)) _ _ s;refine wpAny_bind (wpAny_newList (wpAny_pure ⟨Code.quiet_builtin _ (by decide +kernel),codeAny_builtin entry_list_iadd' ?_⟩));show wpAny _ _ (yW (.ref s.heap.objs.size) (.ref t) (.ref s.heap.objs.size)) _ _ { s with heap:=s.heap.push (seqObj "list" #[] 0) };unfold yW;have ho':(s.heap.push (seqObj "list" #[] 0)).get? t=some o:=qf _ ho;refine wpAny_bind (wpAny_typeOf (T:="tuple") ⟨o,ho',hc⟩ ?_);have hb:(yu "tuple" == yu "tuple")=true:=by rfl
 rw[if_pos (by rw[hb];simp)];refine wpAny_bind (listItems_at ho' hd ?_);refine wpAny_bind (listItems_at (xs:=#[]) (n:=0) (qz _ rfl) rfl ?_);rw[if_neg (by simp)];refine wpAny_bind (listUpdate_at (xs:=#[]) (n:=0) (qz _ rfl) rfl ?_ (za _) (by show(#[]++vs.toArray).size<=sizeLine+1;simp only[Array.size_append,qE,yh];omega));refine wpAny_pure ?_;show wpAny (model prog w) A (do let o<-load s.heap.objs.size;match o.data with | .seq xs _=>pure xs.toList | _=>unsupported "internal:collect") Q E { s with heap:=(s.heap.push (seqObj "list" #[] 0)).update s.heap.objs.size (qS (· ++ vs.toArray)) };refine wpAny_bind (wpAny_load (get?_update_seq (qz _ rfl) _) ?_);show wpAny _ _ (pure ((#[]:Array Value)++vs.toArray).toList) Q E _;rw[show((#[]:Array Value)++vs.toArray).toList=vs by simp];exact wpAny_pure k
theorem Znk {t:Addr}{vs:List Value}{ns:List Int}{Q:Value->Shared->Prop}(ht:s.heap.IsTuple t vs.toArray)(hI:IntsAre vs ns)(h64:vs.length<64)
  (k:∀(out:Array Value) (ns':List Int),IntsAre out.toList ns'->ns'.Perm ns->ns'.Pairwise (·<=·)->Q (.ref (s.heap.objs.size+1)) { s with heap:=sortedAll s.heap vs out }):wpAny (model prog w) A (call (.builtin "sorted") [.ref t]) Q E s:=by
 refine qa6 kind_sorted plain_sorted entry_sorted (args_sorted1 _) ?_;unfold Builtin.«sorted»;refine wpAny_bind (m:=checkCount "sorted" 1 1 _) (wpAny_pure ?_);refine wpAny_bind (ZgL ht ?_ (by rw[sizeLine_eq];omega));refine wpAny_bind (wpAny_newList ?_);have z1:((s.heap.push (seqObj "list" #[] 0)).update s.heap.objs.size (qS (· ++ vs.toArray))).objs.size=s.heap.objs.size+1:=by rw[qbd,size_push']
 have g1:(((s.heap.push (seqObj "list" #[] 0)).update s.heap.objs.size (qS (· ++ vs.toArray))).push (seqObj "list" vs.toArray 0)).get? (s.heap.objs.size+1)=some (seqObj "list" vs.toArray 0):=by rw[<-z1];exact qz _ rfl
 show wpAny _ _ _ _ _ { s with heap:=((s.heap.push (seqObj "list" #[] 0)).update s.heap.objs.size (qS (· ++ vs.toArray))).push (seqObj "list" vs.toArray 0) };rw[z1];refine wpAny_bind (wpAny_holding (wpAny_call_entry slot_list_sort ⟨_,g1,rfl⟩ entry_list_sort (list_sort_tree g1 hI h64 fun out ns' a1 a2 a3=>⟨_,rfl,?_⟩) (args_list_sort _)));exact wpAny_pure ⟨_,rfl,k out ns' a1 a2 a3⟩
end
end L2
namespace TF
open L2
section
variable {X:Cx}{G:Gh}
theorem ZgM:Y9 X (.builtin "sorted") (fun xs H Q=>∃(p:Addr) (ns:List Int),xs=[.ref p]/\ZT X.K H p (ns.map V.int)/\ns.length<64/\∀l,H l=none->Q (.ref l) (Zo H l (.lst ((XD ns).map V.int)))):=by
 intro jE s σ H xs us Q I r h;obtain⟨p,ns,rfl,hp,h64,q⟩:=h;obtain⟨u,rfl,ru⟩:=Xl r
 cases ru
 obtain⟨jG,rv,pl,hz⟩:=I.tuple hp;have hi:IntsAre jG ns:=Wx rv;have hl:=rv.length;rw[qd] at hl;refine Znk (show s.heap.IsTuple p jG.toArray from pl) hi (by omega) fun out ns' a1 a2 a3=>?_;obtain⟨e,he⟩:=sortedAll_at s.heap jG out;have eo:out=out.toList.toArray:=by simp
 rw[eo] at he;have en:=Za2 a2 a3;subst en;have hle:s.heap.objs.size<=s.heap.objs.size+1:=qbx _;refine⟨.ref (s.heap.objs.size+1),_,I.laid (a:=s.heap.objs.size+1) (o:=.lst ((XD ns).map V.int)) (t':=s.toks) (fun _ _=>sortedAll_old) hle ⟨?_,out.toList,e,Za3 a1,he⟩,rfl,q _ (I.hok.fresh hle)⟩;rw[qd,(ZbQ ns).length_eq,sizeLine_eq];omega
def ZdM:List D->Option D
 | [.tup ds]=>match ZM ds with | some ns=>if ns.length<64 then some (.lst ((XD ns).map .int)) else none | none=>none
 | _=>none
theorem Zfu:XO X G (.builtin "sorted") ZdM:=
 ⟨_,ZgM,fun Hf H s xs ds c Q e1 st r q k=>by
  match ds,q,r with
  | [.tup es],q,r=>
   have q:(match ZM es with | some ns=>if ns.length<64 then some (D.lst ((XD ns).map .int)) else none | none=>none)=some c:=q
   cases he:ZM es with
   | none=>rw[he] at q;cases q
   | some ns=>
    rw[he] at q;have q:(if ns.length<64 then some (D.lst ((XD ns).map .int)) else none)=some c:=q;split at q
    ·rename_i h64
     cases q
     obtain⟨v,rfl,rv⟩:=jg r;obtain⟨p,vs,rfl,np,hp,rp⟩:=jc.mp rv;rw[Wo he] at rp;rw[jk rp] at hp;refine⟨p,ns,rfl,ZT.of (e1 _ _ np hp),h64,fun l hl=>?_⟩;have nf:=Gh.nofp st hl;have g2:=Gr.new (o:=.lst ((XD ns).map V.int)) e1 hl nf;exact k (.ref l) _ _ g2 (Gh.grow st hl) (jb.mpr ⟨l,_,rfl,nf,Z8,U6 _⟩) (YH.mk e1 hl nf (U6 _))
    ·cases q⟩
end
end TF
namespace L2
end L2
namespace TF
open L2
section
variable {X:Cx}{G:Gh}
end
end TF
namespace L2
section
variable {prog:Program}{w:World}{A:Around}{E:Value->Shared->Prop}{s:Shared}{o:Obj}{es:Array DictEntry}{d it:Addr}{ep i:Nat}
end
section
variable {X:Cx}{tg:Expr}
end
end L2
namespace TF
open L2
section
variable {X:Cx}{G:Gh}
end
end TF
namespace L2
structure ZG (z TI TO i1 i2:Addr)(f1 f2:List Addr):Prop extends ZDist z TI TO i1 i2 where
 f1n:∀c∈f1,c≠z/\c≠TO/\c≠i2
 f2n:∀c∈f2,c≠z/\c≠TO/\c≠i1
section
variable {prog:Program}{w:World}{A:Around}{E:Value->Shared->Prop}{s:Shared}{z TI TO i1 i2:Addr}{f1 f2:List Addr}{n1 n2 k:Nat}{P1 P2:Nat->Value->Prop}{S1 S2:Nat->Heap->Prop}{a b:Value}
theorem ZjZ {Q:Value->Shared->Prop}(D1:Draws prog w A i1 f1 n1 P1 S1)(D2:Draws prog w A i2 f2 n2 P2 S2)(Z:ZG z TI TO i1 i2 f1 f2)(hz:IsZip s.heap z TI TO .none)(hTI:IsPair s.heap TI (.ref i1) (.ref i2))(hTO:IsPair s.heap TO a b)(h1:S1 k s.heap)(h2:S2 k s.heap)(k1:k<n1)(k2:k<n2)
  (hQ:∀h' tk x y,P1 k x->P2 k y->IsZip h' z TI TO (rawInt s.heap.objs.size)->IsPair h' TO x y->S1 (k+1) h'->S2 (k+1) h'->IsPair h' s.heap.objs.size x y->
   (∀c o,c≠z->c≠TO->c≠i1->c≠i2->s.heap.get? c=some o->h'.get? c=some o)->Q (.ref s.heap.objs.size) { s with heap:=h',toks:=tk }) :
  wpAny (model prog w) A (Builtin.«zip.__next__» ⟨[.ref z],[]⟩) (fun fin s'=>∃v,fin=.done (.ret v)/\Q v s') E s:=by
 show wpAny _ _ (field (.ref z) 2 >>= _) _ _ _;refine wpAny_bind (wpAny_field hz rfl (x:=.bool false) rfl ?_);show wpAny _ _ (field (.ref z) 3 >>= _) _ _ _;refine wpAny_bind (wpAny_field hz rfl (x:=.ref TI) rfl ?_);refine wpAny_bind (wpAny_seqItems hTI rfl ?_);show wpAny _ _ (z0 (.ref z) >>= _) _ _ _;refine wpAny_bind ?_;unfold z0;refine wpAny_bind (wpAny_field hz rfl (x:=.none) rfl (wpAny_pure ?_));simp only[if_true];refine wpAny_bind (wpAny_rule ?_);refine wpAny_bind (wpAny_field hz rfl (x:=.ref TO) rfl ?_);refine wpAny_bind (wpAny_setField_rec hz (by simp) fun g1 q1 b1=>?_);replace q1:IsZip g1 z TI TO .ellipsis:=q1;refine wpAny_bind ?_;simp only[List.zipIdx_cons,List.zipIdx_nil,qaa,qbD];refine wpAny_bind (wpAny_bind (wpAny_onRaise ?_));show wpAny _ _ (zv (.ref i1) >>= _) _ _ _;have s1:S1 k g1:=D1.frame _ _ _ h1 fun c m o e=>b1.extBut _ _ (Z.f1n c m).1 e;refine wpAny_bind (D1.item k { s with heap:=g1 } _ _ k1 s1 fun x g2 t2 px s1' b2=>wpAny_pure ?_);have c2:IsPair g2 TO a b:=b2.extBut _ _ Z.TOi1 (b1.extBut _ _ Z.TOz hTO);refine wpAny_bind (wpAny_seqItems c2 rfl ?_);refine wpAny_bind (wpAny_updateSeq_pair c2 fun g3 c3 b3=>?_);replace c3:IsPair g3 TO x b:=c3;refine wpAny_bind (wpAny_letGo (wpAny_pure ?_));refine wpAny_bind (wpAny_bind (wpAny_onRaise ?_));show wpAny _ _ (zv (.ref i2) >>= _) _ _ _;have s2:S2 k g3:=D2.frame _ _ _ h2 fun c m o e=>b3.extBut _ _ (Z.f2n c m).2.1 (b2.extBut _ _ (Z.f2n c m).2.2 (b1.extBut _ _ (Z.f2n c m).1 e));refine wpAny_bind (D2.item k { s with heap:=g3,toks:=t2 } _ _ k2 s2 fun y g4 t4 py s2' b4=>wpAny_pure ?_);have c4:IsPair g4 TO x b:=b4.extBut _ _ Z.TOi2 c3;refine wpAny_bind (wpAny_seqItems c4 rfl ?_);refine wpAny_bind (wpAny_updateSeq_pair c4 fun g5 c5 b5=>?_);replace c5:IsPair g5 TO x y:=c5;refine wpAny_bind (wpAny_letGo (wpAny_pure (wpAny_pure ?_)));refine wpAny_bind (wpAny_seqItems c5 rfl ?_);refine wpAny_bind (wpAny_newTuple ?_);have hsz:g5.objs.size=s.heap.objs.size:=by rw[b5.1,b4.1,b3.1,b2.1,b1.1]
 have q5:IsZip g5 z TI TO .ellipsis:=b5.extBut _ _ Z.TOz.symm (b4.extBut _ _ Z.i2z.symm (b3.extBut _ _ Z.TOz.symm (b2.extBut _ _ Z.i1z.symm q1)));have keep5:∀c o,c≠z->c≠TO->c≠i1->c≠i2->s.heap.get? c=some o->g5.get? c=some o:=fun c o u1 u2 u3 u4 e=>b5.extBut _ _ u2 (b4.extBut _ _ u4 (b3.extBut _ _ u2 (b2.extBut _ _ u3 (b1.extBut _ _ u1 e))));have s15:S1 (k+1) g5:=D1.frame _ _ _ s1' fun c m o e=>b5.extBut _ _ (Z.f1n c m).2.1 (b4.extBut _ _ (Z.f1n c m).2.2 (b3.extBut _ _ (Z.f1n c m).2.1 e));have s25:S2 (k+1) g5:=D2.frame _ _ _ s2' fun c m o e=>b5.extBut _ _ (Z.f2n c m).2.1 e;have zlt:z<g5.objs.size:=qG q5;show wpAny _ _ (qaj (.ref z) (.ref g5.objs.size) >>= _) _ _ _;refine wpAny_bind ?_;unfold qaj;have q6:IsZip (g5.push { cls:=.type "tuple",data:=.seq #[x,y] }) z TI TO .ellipsis:=qf _ q5;refine wpAny_bind (wpAny_setField_rec q6 (by simp) fun g7 q7 b7=>?_);replace q7:IsZip g7 z TI TO (rawInt g5.objs.size):=q7;refine wpAny_setField_rec q7 (by simp) fun g8 q8 b8=>?_;replace q8:IsZip g8 z TI TO (rawInt g5.objs.size):=q8;have up:∀c o,c≠z->g5.get? c=some o->g8.get? c=some o:=fun c o u e=>b8.extBut _ _ u (b7.extBut _ _ u (qf _ e));have hT:IsPair g8 g5.objs.size x y:=b8.extBut _ _ (yU zlt) (b7.extBut _ _ (yU zlt) (qz _ rfl));rw[hsz] at q8 hT;refine wpAny_pure ⟨_,rfl,?_⟩;show Q (.ref g5.objs.size) _;rw[hsz];exact hQ g8 t4 x y px py q8 (up _ _ Z.TOz c5) (D1.frame _ _ _ s15 fun c m o e=>up c o (Z.f1n c m).1 e) (D2.frame _ _ _ s25 fun c m o e=>up c o (Z.f2n c m).1 e) hT fun c o u1 u2 u3 u4 e=>up c o u1 (keep5 c o u1 u2 u3 u4 e)
theorem ZlD {Q:qbq->Shared->Prop}(D1:Draws prog w A i1 f1 n1 P1 S1)(D2:Draws prog w A i2 f2 n2 P2 S2)(Z:ZG z TI TO i1 i2 f1 f2)(hz:IsZip s.heap z TI TO .none)(hTI:IsPair s.heap TI (.ref i1) (.ref i2))(hTO:IsPair s.heap TO a b)(h1:S1 k s.heap)(h2:S2 k s.heap)(hk:k=n1∨(k<n1/\k=n2))
  (hE:∀h' tk e,(∀c o,c≠z->c≠TO->c≠i1->c≠i2->s.heap.get? c=some o->h'.get? c=some o)->(∃o,h'.get? e=some o/\o.cls=.type "StopIteration")->E (.ref e) { s with heap:=h',toks:=tk }) :
  wpAny (model prog w) A (Builtin.«zip.__next__» ⟨[.ref z],[]⟩) Q E s:=by
 show wpAny _ _ (field (.ref z) 2 >>= _) _ _ _;refine wpAny_bind (wpAny_field hz rfl (x:=.bool false) rfl ?_);show wpAny _ _ (field (.ref z) 3 >>= _) _ _ _;refine wpAny_bind (wpAny_field hz rfl (x:=.ref TI) rfl ?_);refine wpAny_bind (wpAny_seqItems hTI rfl ?_);show wpAny _ _ (z0 (.ref z) >>= _) _ _ _;refine wpAny_bind ?_;unfold z0;refine wpAny_bind (wpAny_field hz rfl (x:=.none) rfl (wpAny_pure ?_));simp only[if_true];refine wpAny_bind (wpAny_rule ?_);refine wpAny_bind (wpAny_field hz rfl (x:=.ref TO) rfl ?_);refine wpAny_bind (wpAny_setField_rec hz (by simp) fun g1 q1 b1=>?_);replace q1:IsZip g1 z TI TO .ellipsis:=q1;refine wpAny_bind ?_;simp only[List.zipIdx_cons,List.zipIdx_nil,qaa,qbD];refine wpAny_bind (wpAny_bind (wpAny_onRaise ?_));show wpAny _ _ (zv (.ref i1) >>= _) _ _ _;have s1:S1 k g1:=D1.frame _ _ _ h1 fun c m o e=>b1.extBut _ _ (Z.f1n c m).1 e;rcases hk with hk | ⟨hk1,hk⟩
 ·subst hk
  refine wpAny_bind (D1.done { s with heap:=g1 } _ _ s1 fun g2 e b2 he=>?_);obtain⟨oe,hoe,hce⟩:=he;have q2:IsZip g2 z TI TO .ellipsis:=b2 _ _ Z.i1z.symm q1;have hez:e≠z:=fun x=>by rw[x,q2] at hoe;cases hoe;exact absurd (qaT hce) (by decide)
  exact wpAny_setField_rec q2 (by simp) fun g3 _ b3=>hE g3 s.toks e (fun c o u1 _ u3 _ x=>b3.extBut _ _ u1 (b2 _ _ u3 (b1.extBut _ _ u1 x))) ⟨oe,b3.extBut _ _ hez hoe,hce⟩
 ·subst hk
  refine wpAny_bind (D1.item k { s with heap:=g1 } _ _ hk1 s1 fun x g2 t2 px s1' b2=>wpAny_pure ?_);have c2:IsPair g2 TO a b:=b2.extBut _ _ Z.TOi1 (b1.extBut _ _ Z.TOz hTO);refine wpAny_bind (wpAny_seqItems c2 rfl ?_);refine wpAny_bind (wpAny_updateSeq_pair c2 fun g3 c3 b3=>?_);refine wpAny_bind (wpAny_letGo (wpAny_pure ?_));refine wpAny_bind (wpAny_bind (wpAny_onRaise ?_));show wpAny _ _ (zv (.ref i2) >>= _) _ _ _;have s2:S2 k g3:=D2.frame _ _ _ h2 fun c m o e=>b3.extBut _ _ (Z.f2n c m).2.1 (b2.extBut _ _ (Z.f2n c m).2.2 (b1.extBut _ _ (Z.f2n c m).1 e));refine wpAny_bind (D2.done { s with heap:=g3,toks:=t2 } _ _ s2 fun g4 e b4 he=>?_);obtain⟨oe,hoe,hce⟩:=he;have q4:IsZip g4 z TI TO .ellipsis:=b4 _ _ Z.i2z.symm (b3.extBut _ _ Z.TOz.symm (b2.extBut _ _ Z.i1z.symm q1));have hez:e≠z:=fun x=>by rw[x,q4] at hoe;cases hoe;exact absurd (qaT hce) (by decide)
  exact wpAny_setField_rec q4 (by simp) fun g5 _ b5=>hE g5 t2 e (fun c o u1 u2 u3 u4 x=>b5.extBut _ _ u1 (b4 _ _ u4 (b3.extBut _ _ u2 (b2.extBut _ _ u3 (b1.extBut _ _ u1 x))))) ⟨oe,b5.extBut _ _ hez hoe,hce⟩
theorem Zh4 {Q:Option Value->Shared->Prop}(D1:Draws prog w A.in1 i1 f1 n1 P1 S1)(D2:Draws prog w A.in1 i2 f2 n2 P2 S2)(Z:ZG z TI TO i1 i2 f1 f2)(hz:IsZip s.heap z TI TO .none)(hTI:IsPair s.heap TI (.ref i1) (.ref i2))(hTO:IsPair s.heap TO a b)(h1:S1 k s.heap)(h2:S2 k s.heap)(k1:k<n1)(k2:k<n2)
  (hQ:∀h' tk x y,P1 k x->P2 k y->IsZip h' z TI TO (rawInt s.heap.objs.size)->IsPair h' TO x y->S1 (k+1) h'->S2 (k+1) h'->IsPair h' s.heap.objs.size x y->
   (∀c o,c≠z->c≠TO->c≠i1->c≠i2->s.heap.get? c=some o->h'.get? c=some o)->Q (some (.ref s.heap.objs.size)) { s with heap:=h',toks:=tk }):wpAny (model prog w) A (pyNext (.ref z)) Q E s:=by
 have hT:s.TypeIs (.ref z) "zip":=⟨_,hz,rfl⟩;unfold pyNext;exact wpAny_bind (wpAny_attempt (wpAny_callSpecial?_slot (name:=qA "__next__") hT qaL (wpAny_call_entry qaL hT F.entry_zip_next (ZjZ D1 D2 Z hz hTI hTO h1 h2 k1 k2 fun h' tk x y a0 a1 a2 a3 a4 a5 a6 a7=>wpAny_pure (hQ h' tk x y a0 a1 a2 a3 a4 a5 a6 a7)) (F.args_zip_next_1 _))))
theorem Zj0 {Q:Option Value->Shared->Prop}(D1:Draws prog w A.in1 i1 f1 n1 P1 S1)(D2:Draws prog w A.in1 i2 f2 n2 P2 S2)(Z:ZG z TI TO i1 i2 f1 f2)(hz:IsZip s.heap z TI TO .none)(hTI:IsPair s.heap TI (.ref i1) (.ref i2))(hTO:IsPair s.heap TO a b)(h1:S1 k s.heap)(h2:S2 k s.heap)(hk:k=n1∨(k<n1/\k=n2))
  (hQ:∀h' tk,(∀c o,c≠z->c≠TO->c≠i1->c≠i2->s.heap.get? c=some o->h'.get? c=some o)->Q none { s with heap:=h',toks:=tk }):wpAny (model prog w) A (pyNext (.ref z)) Q E s:=by
 have hT:s.TypeIs (.ref z) "zip":=⟨_,hz,rfl⟩;unfold pyNext;refine wpAny_bind (wpAny_attempt (wpAny_callSpecial?_slot (name:=qA "__next__") hT qaL (wpAny_call_entry qaL hT F.entry_zip_next (ZlD D1 D2 Z hz hTI hTO h1 h2 hk fun h' tk e kk he=>?_) (F.args_zip_next_1 _))));obtain⟨o,ho,hc⟩:=he;refine wpAny_bind (wpAny_isInstance (T:="StopIteration") (b:=true) ⟨o,ho,hc⟩ isSubtype_stop ?_);exact wpAny_pure (hQ _ _ kk)
end
def Y3 (l:Addr):Obj:={ cls:=.type "tuple_iterator",data:=.fields #[.ref l,.int 0 0] }
def W4 (x y:Value):Obj:={ cls:=.type "tuple",data:=.seq #[x,y] }
def zipO (a b:Addr):Obj:={ cls:=.type "zip",data:=.fields #[.none,.bool false,.bool false,.ref a,.ref b] }
def UG (h:Heap)(l1 l2:Addr):Heap:=((((h.push (Y3 l1)).push (Y3 l2)).push (W4 (.ref h.objs.size) (.ref (h.push (Y3 l1)).objs.size))).push (W4 .none .none)).push (zipO ((h.push (Y3 l1)).push (Y3 l2)).objs.size (((h.push (Y3 l1)).push (Y3 l2)).push (W4 (.ref h.objs.size) (.ref (h.push (Y3 l1)).objs.size))).objs.size)
theorem ZpJ (l1 l2:Addr)(xs ys:Array Value) :
  Meets (Builtin.«zip.__new__» ⟨[.type "zip",.ref l1,.ref l2],[]⟩) (fun _ R s=>s.heap.IsTuple l1 xs/\s.heap.IsTuple l2 ys/\
   R (.ok (.ret (.ref ((((s.heap.push (Y3 l1)).push (Y3 l2)).push (W4 (.ref s.heap.objs.size) (.ref (s.heap.push (Y3 l1)).objs.size))).push (W4 .none .none)).objs.size))) { s with heap:=UG s.heap l1 l2 }):=
 .of_wp fun prog w A R s h=>by
  obtain⟨hp,g,d,tk,os⟩:=s;obtain⟨hl1,hl2,h⟩:=h;have hsub:=sub_zip;have hT1:Heap.IsTuple (Shared.heap ⟨hp,g,d,tk,os⟩) l1 xs:=hl1;have hT2:Heap.IsTuple (Shared.heap ⟨hp.push { cls:=.type "tuple_iterator",data:=.fields #[.ref l1,.int 0 0] },g,d,tk,os⟩) l2 ys:=hl2.at fun o e=>qf _ e
  wp_walk using wpAny_pyIter_tuple hT1,wpAny_pyIter_tuple hT2
  exact⟨_,rfl,h⟩
section
variable {prog:Program}{w:World}{A:Around}{E:Value->Shared->Prop}{s:Shared}
theorem Zj1 {l1 l2:Addr}{xs ys:Array Value}{Q:Value->Shared->Prop}(hl1:s.heap.IsTuple l1 xs)(hl2:s.heap.IsTuple l2 ys)
  (h:∀h',IsZip h' (s.heap.objs.size+4) (s.heap.objs.size+2) (s.heap.objs.size+3) .none->IsPair h' (s.heap.objs.size+2) (.ref s.heap.objs.size) (.ref (s.heap.objs.size+1))->IsPair h' (s.heap.objs.size+3) .none .none->
   h'.IsTupleIter s.heap.objs.size l1 0->h'.IsTupleIter (s.heap.objs.size+1) l2 0->(∀c o,s.heap.get? c=some o->h'.get? c=some o)->Q (.ref (s.heap.objs.size+4)) { s with heap:=h' }):wpAny (model prog w) A (call (.type "zip") [.ref l1,.ref l2]) Q E s:=by
 refine callType_new F.called_zip (by decide) (F.typeCall_zip_2 _ _) (F.newCall_zip_2 _ _) (fun obj=>F.args_object_init_3 obj _ _) F.entry_zip_new (ZpJ l1 l2 xs ys) ⟨hl1,hl2,?_⟩;have z1:(s.heap.push (Y3 l1)).objs.size=s.heap.objs.size+1:=yb ..;have z2:((s.heap.push (Y3 l1)).push (Y3 l2)).objs.size=s.heap.objs.size+2:=by rw[yb,z1]
 have z3:(((s.heap.push (Y3 l1)).push (Y3 l2)).push (W4 (.ref s.heap.objs.size) (.ref (s.heap.push (Y3 l1)).objs.size))).objs.size=s.heap.objs.size+3:=by rw[yb,z2]
 have z4:((((s.heap.push (Y3 l1)).push (Y3 l2)).push (W4 (.ref s.heap.objs.size) (.ref (s.heap.push (Y3 l1)).objs.size))).push (W4 .none .none)).objs.size=s.heap.objs.size+4:=by rw[yb,z3]
 have g5:(UG s.heap l1 l2).get? (s.heap.objs.size+4)=some (zipO (s.heap.objs.size+2) (s.heap.objs.size+3)):=by
  unfold UG;have e:=qz ((((s.heap.push (Y3 l1)).push (Y3 l2)).push (W4 (.ref s.heap.objs.size) (.ref (s.heap.push (Y3 l1)).objs.size))).push (W4 .none .none)) (o:=zipO (s.heap.objs.size+2) (s.heap.objs.size+3)) rfl;rw[z4] at e;rw[z3,z2];exact e
 have g4:(UG s.heap l1 l2).get? (s.heap.objs.size+3)=some (W4 .none .none):=by
  rw[<-z3];exact qf _ (qz _ rfl)
 have g3:(UG s.heap l1 l2).get? (s.heap.objs.size+2)=some (W4 (.ref s.heap.objs.size) (.ref (s.heap.objs.size+1))):=by
  have e:=qz ((s.heap.push (Y3 l1)).push (Y3 l2)) (o:=W4 (.ref s.heap.objs.size) (.ref (s.heap.push (Y3 l1)).objs.size)) rfl;rw[z2] at e;unfold UG;rw[qf _ (qf _ e),z1]
 have g2:(UG s.heap l1 l2).get? (s.heap.objs.size+1)=some (Y3 l2):=by
  rw[<-z1];exact qf _ (qf _ (qf _ (qz _ rfl)))
 have g1:(UG s.heap l1 l2).get? s.heap.objs.size=some (Y3 l1):=qf _ (qf _ (qf _ (qf _ (qz _ rfl))));show _/\_;rw[z4];exact⟨⟨_,g5,rfl⟩,h _ g5 g3 g4 ⟨_,g1,rfl,rfl⟩ ⟨_,g2,rfl,rfl⟩ fun c o x=>qf _ (qf _ (qf _ (qf _ (qf _ x))))⟩
end
end L2
namespace L2
def Itzt (a b:Addr):It where
 go:=fun i H=>∃xs ys x y,H a=some (.tup xs)/\H b=some (.tup ys)/\xs[i]?=some x/\ys[i]?=some y
 yld:=fun i H v H'=>∃T x y,H T=none/\v=.ref T/\H'=Zo H T (.tup [x,y])/\(∀xs,H a=some (.tup xs)->xs[i]?=some x)/\(∀ys,H b=some (.tup ys)->ys[i]?=some y)
 stop:=fun i H=>∃xs ys,H a=some (.tup xs)/\H b=some (.tup ys)/\i=min xs.length ys.length
def ZpK (z TI TO i1 i2 a b:Addr)(i:Nat)(h:Heap):Prop:=IsZip h z TI TO .none/\IsPair h TI (.ref i1) (.ref i2)/\(∃x y,IsPair h TO x y)/\h.IsTupleIter i1 a i/\h.IsTupleIter i2 b i
theorem ZnZ {z TI TO i1 i2 a b:Addr}{H:Hp}{xs ys:List V}(D:ZDist z TI TO i1 i2)(hf:∀c∈[z,TI,TO,i1,i2],H c=none)(ha:H a=some (.tup xs))(hb:H b=some (.tup ys)):ZG z TI TO i1 i2 [i1,a] [i2,b] where
 toZDist:=D
 f1n:=fun c m=>by
  simp only[qq,zd,or_false] at m;rcases m with r | r
  ·rw[r];exact⟨D.i1z,D.TOi1.symm,D.i12⟩
  ·rw[r];exact⟨Z5 ha (hf _ (by simp)),Z5 ha (hf _ (by simp)),Z5 ha (hf _ (by simp))⟩
 f2n:=fun c m=>by
  simp only[qq,zd,or_false] at m;rcases m with r | r
  ·rw[r];exact⟨D.i2z,D.TOi2.symm,D.i12.symm⟩
  ·rw[r];exact⟨Z5 hb (hf _ (by simp)),Z5 hb (hf _ (by simp)),Z5 hb (hf _ (by simp))⟩
theorem Zj2 {P:Program}{w:World}{K:qm}{elts:List Expr}{k:Nat}{pos:Pos}(a b z TI TO i1 i2:Addr)(D:ZDist z TI TO i1 i2):Turn P w K (.Tuple elts k pos) (Itzt a b) [z,TI,TO,i1,i2] z (ZpK z TI TO i1 i2 a b) where
 mem:=by simp
 obj:=fun i h st c hc=>by
  obtain⟨hz,hTI,⟨x,y,hTO⟩,⟨o1,e1,c1,d1⟩,⟨o2,e2,c2,d2⟩⟩:=st;simp only[qq,zd,or_false] at hc;rcases hc with rfl | rfl | rfl | rfl | rfl
  ·exact⟨_,hz,fun v q=>by cases q⟩
  ·exact⟨_,hTI,fun v q=>by cases q⟩
  ·exact⟨_,hTO,fun v q=>by cases q⟩
  ·exact⟨_,e1,fun v q=>by rw[d1] at q;cases q⟩
  ·exact⟨_,e2,fun v q=>by rw[d2] at q;cases q⟩
 keep:=fun i h h' st kk=>by
  obtain⟨hz,hTI,⟨x,y,hTO⟩,h1,h2⟩:=st;exact⟨kk z (by simp) _ hz,kk TI (by simp) _ hTI,⟨x,y,kk TO (by simp) _ hTO⟩,h1.at fun o e=>kk i1 (by simp) o e,h2.at fun o e=>kk i2 (by simp) o e⟩
 item:=by
  intro X hP hw hK hc i jE s σ H E I hf st hg;subst hP hw hK;obtain⟨xs,ys,x,y,hq,hq2,hx,hy⟩:=hg;obtain⟨jG,rv,p,hz⟩:=I.tuple (ZT.of hq);obtain⟨jT,rv2,p2,hz2⟩:=I.tuple (ZT.of hq2);obtain⟨u,hu,ru⟩:=rv.get hx;obtain⟨u2,hu2,ru2⟩:=rv2.get hy;have hn:∀c∈[z,TI,TO,i1,i2],H c=none:=fun c m=>(hf c m).1;have Z:=ZnZ D hn hq hq2;have hh:=I.ok.hd hc;obtain⟨t1,t2,⟨p1,q1,t3⟩,t4,t5⟩:=id st;have hl1:i<jG.length:=(qD.mp hu).1;have hl2:i<jT.length:=(qD.mp hu2).1;have D1:=Zft (prog:=X.prog) (w:=X.w) (A:=X.A.in1) (show X.A.in1.handled=none from hh) i1 a (Z5 hq (hn i1 (by simp))) jG.toArray;have D2:=Zft (prog:=X.prog) (w:=X.w) (A:=X.A.in1) (show X.A.in1.handled=none from hh) i2 b (Z5 hq2 (hn i2 (by simp))) jT.toArray;refine Zh4 D1 D2 Z t1 t2 t3 ⟨t4,show s.heap.IsTuple a jG.toArray from p⟩ ⟨t5,show s.heap.IsTuple b jT.toArray from p2⟩ (by simpa using hl1) (by simpa using hl2) fun h' tk v1 v2 g1 g2 a1 a2 a3 a4 a5 kk=>⟨_,rfl,?_⟩;have e1:v1=u:=by simpa[hu] using g1.symm
  have e2:v2=u2:=by simpa[hu2] using g2.symm
  subst e1 e2;have hT:s.heap.objs.size<=s.heap.objs.size:=qu _;refine wpAny_letOwnedTupleGo_zip a1 fun h2 hz' hs'=>?_;have ltz:z<s.heap.objs.size:=qG t1;have hI2:h2.IsTuple s.heap.objs.size #[v1,v2]:=⟨_,hs'.extBut _ _ (yU ltz) a5,rfl,_,rfl⟩;have kp:∀c o,c∉[z,TI,TO,i1,i2]->s.heap.get? c=some o->h2.get? c=some o:=fun c o hm e=>by
   simp only[qq,zd,or_false,not_or] at hm;exact hs'.extBut _ _ hm.1 (kk c o hm.1 hm.2.2.1 hm.2.2.2.1 hm.2.2.2.2 e)
  have I1:Inv X jE σ (Zo H s.heap.objs.size (.tup [x,y])) { s with heap:=h2,toks:=tk }:=I.turnedT (fp:=[z,TI,TO,i1,i2]) kp hf hT ⟨by show 2<=sizeLine;decide,[v1,v2],.cons ru (.cons ru2 .nil),⟨_,hs'.extBut _ _ (yU ltz) a5,⟨rfl,_,rfl⟩,rfl⟩⟩;have up:∀c o,c≠z->h'.get? c=some o->h2.get? c=some o:=fun c o n e=>hs'.extBut _ _ n e;refine⟨.ref s.heap.objs.size,_,I1,rfl,⟨s.heap.objs.size,x,y,I.hok.fresh hT,rfl,rfl,fun xs' h=>by rw[hq] at h;cases h;exact hx,fun ys' h=>by rw[hq2] at h;cases h;exact hy⟩,⟨hz',up _ _ D.TIz (kk _ _ D.TIz D.TITO D.TIi1 D.TIi2 t2),⟨_,_,up _ _ D.TOz a2⟩,a3.1.at fun o e=>up _ o D.i1z e,a4.1.at fun o e=>up _ o D.i2z e⟩,fun c hc=>?_⟩;rw[Zu ?_]
  ·exact hn c hc
  ·intro zc
   subst zc;have old:∃o,s.heap.get? s.heap.objs.size=some o:=by
    obtain⟨o1,e1,_⟩:=t4;obtain⟨o2,e2,_⟩:=t5;generalize s.heap.objs.size=c at hc;simp only[qq,zd,or_false] at hc;rcases hc with r | r | r | r | r
    ·rw[r];exact⟨_,t1⟩
    ·rw[r];exact⟨_,t2⟩
    ·rw[r];exact⟨_,t3⟩
    ·rw[r];exact⟨_,e1⟩
    ·rw[r];exact⟨_,e2⟩
   obtain⟨o,e⟩:=old;exact absurd (qG e) (zY _)
 done:=by
  intro X hP hw hK hc i jE s σ H E I hf st hg;subst hP hw hK;obtain⟨xs,ys,hq,hq2,hi⟩:=hg;obtain⟨jG,rv,p,hz⟩:=I.tuple (ZT.of hq);obtain⟨jT,rv2,p2,hz2⟩:=I.tuple (ZT.of hq2);have hn:∀c∈[z,TI,TO,i1,i2],H c=none:=fun c m=>(hf c m).1;have Z:=ZnZ D hn hq hq2;have hh:=I.ok.hd hc;obtain⟨t1,t2,⟨p1,q1,t3⟩,t4,t5⟩:=id st;have D1:=Zft (prog:=X.prog) (w:=X.w) (A:=X.A.in1) (show X.A.in1.handled=none from hh) i1 a (Z5 hq (hn i1 (by simp))) jG.toArray;have D2:=Zft (prog:=X.prog) (w:=X.w) (A:=X.A.in1) (show X.A.in1.handled=none from hh) i2 b (Z5 hq2 (hn i2 (by simp))) jT.toArray;have l1:=rv.length;have l2:=rv2.length;refine Zj0 D1 D2 Z t1 t2 t3 ⟨t4,show s.heap.IsTuple a jG.toArray from p⟩ ⟨t5,show s.heap.IsTuple b jT.toArray from p2⟩ (by rw[qE,qE];omega) fun h' tk kk=>⟨rfl,I.turnedN (fp:=[z,TI,TO,i1,i2]) (fun c o hm e=>?_) hf⟩;simp only[qq,zd,or_false,not_or] at hm;exact kk c o hm.1 hm.2.2.1 hm.2.2.2.1 hm.2.2.2.2 e
 self:=fun A i s Q E st h=>wpAny_pyIter_zip st.1 h
def ZpL (ta:TA):TI:=fun σ H R=>ta σ H fun vs H1=>∃a b,vs=[.ref a,.ref b]/\(∃xs,H1 a=some (.tup xs))/\(∃ys,H1 b=some (.tup ys))/\R (Itzt a b) H1
theorem Znl {X:Cx}{elts:List Expr}{k:Nat}{tp:Pos}{a b:Expr}{ta:TA}{p pos:Pos}(hg:Gl X "zip")(hm:X.mg "zip" = none)(ha:PA X [a,b] ta)(hs:starEach [a,b] X.env=[(false,eval a X.env),(false,eval b X.env)]:=by rfl)(hs2:starEach [b] X.env=[(false,eval b X.env)]:=by rfl) :
  PI X (.Tuple elts k tp) (.Call (.Name "zip" p) [a,b] [] pos) (ZpL ta):=by
 intro jE s σ H R I h;refine Call_ (Ub I hg hm ZgJ (zM (ZJ (ha pos jE s σ H _ I h) fun us s1 ⟨vs,H1,I1,r1,q1⟩=>?_) (by rw[hs,hs2]) (by rw[hs2];rfl)));obtain⟨a',b',e,⟨xs,hq⟩,⟨ys,hq2⟩,q⟩:=q1;subst e
 cases r1 with
 | cons r rr=>
  cases rr with
  | cons r' rr=>
   cases rr
   cases r
   cases r'
   obtain⟨jG,rv,p1,hz⟩:=I1.tuple (ZT.of hq);obtain⟨jT,rv2,p2,hz2⟩:=I1.tuple (ZT.of hq2);refine Zj1 (show s1.heap.IsTuple a' jG.toArray from p1) (show s1.heap.IsTuple b' jT.toArray from p2) fun h' g1 g2 g3 g4 g5 g7=>?_;refine wpAny_pyIter_zip g1 ?_;have I2:Inv X jE σ H1 { s1 with heap:=h' }:=I1.kept (t':=s1.toks) g7;refine⟨s1.heap.objs.size+4,[s1.heap.objs.size+4,s1.heap.objs.size+2,s1.heap.objs.size+3,s1.heap.objs.size,s1.heap.objs.size+1],_,_,H1,rfl,I2,Zj2 a' b' (s1.heap.objs.size+4) (s1.heap.objs.size+2) (s1.heap.objs.size+3) s1.heap.objs.size (s1.heap.objs.size+1) (ZnX _),⟨g1,g2,⟨_,_,g3⟩,g4,g5⟩,fun c hc=>?_,q⟩;simp only[qq,zd,or_false] at hc;have hle:s1.heap.objs.size<=c:=by rcases hc with r | r | r | r | r <;> rw[r] <;> first | exact qu _ | exact qbc _ _
   exact I1.fpOk hle (I1.hok.fresh hle)
end L2
namespace TF
open L2
section
variable {X:Cx}{G:Gh}
theorem W6.zipT {a b:Addr}{vs us:List V}{Hf:Hp}{ds es:List D}(na:¬G.fp a)(h:Hf a=some (.tup vs))(r:Zm G Hf ds vs)(nb:¬G.fp b)(h':Hf b=some (.tup us))(r':Zm G Hf es us):W6 G (Itzt a b) Hf (VB ds es):=fun i jX H2 s e1 e2 st=>by
 have h2:H2 a=some (.tup vs):=e2 _ _ na (e1 _ _ na h);have h3:H2 b=some (.tup us):=e2 _ _ nb (e1 _ _ nb h');refine⟨fun d q=>?_,fun q=>⟨vs,us,h2,h3,by rw[q];unfold VB;rw[qbU,r.length,r'.length]⟩⟩;unfold VB at q;rw[qaG] at q
 cases qa:ds[i]? with
 | none=>rw[qa] at q;simp at q
 | some x=>
  cases qb:es[i]? with
  | none=>rw[qa,qb] at q;simp at q
  | some y=>
   rw[qa,qb] at q;simp at q;subst q;obtain⟨v,q1,q2⟩:=r.get qa;obtain⟨u,q3,q4⟩:=r'.get qb;refine⟨⟨vs,us,v,u,h2,h3,q1,q3⟩,fun z H3 ⟨T,v',u',hT,y0,y1,y2,y3⟩=>?_⟩;have ev:=y2 vs h2;have eu:=y3 us h3;rw[q1] at ev;cases ev;rw[q3] at eu;cases eu;subst y0 y1;have nf:=Gh.nofp st hT;have g2:=Gr.new (o:=.tup [v,u]) e2 hT nf;refine⟨Zo jX T (.tup [v,u]),g2,Gh.grow st hT,jc.mpr ⟨T,_,rfl,nf,Z8,?_⟩⟩;exact .cons ((q2.ext e1).ext g2.ff) (.one ((q4.ext e1).ext g2.ff))
theorem PI.or {tg iter:Expr}{w1 w2:TI}(h1:PI X tg iter w1)(h2:PI X tg iter w2):PI X tg iter (fun σ H R=>w1 σ H R∨w2 σ H R):=fun jE s σ H R I h=>h.elim (h1 jE s σ H R I) (h2 jE s σ H R I)
def BT (f g:Zb->M D):Zb->M (List D):=fun ρ=>Zn (f ρ) fun d=>Zn (g ρ) fun e=>match d,e with | .lst ds,.lst es=>Zx (VB ds es) | .tup ds,.tup es=>Zx (VB ds es) | _,_=>ZC
theorem ZlE {elts:List Expr}{k:Nat}{tp:Pos}{a b:Expr}{p pos:Pos}{r1 r2:Bool}{f f2:Zb->M D}(hg:Gl X "zip")(hm:X.mg "zip" = none)(ha:PD X G r1 a f)(hb:PD X G r2 b f2)
  (hs:starEach [a,b] X.env=[(false,eval a X.env),(false,eval b X.env)]:=by rfl) (hs2:starEach [b] X.env=[(false,eval b X.env)]:=by rfl):Xn X G (.Tuple elts k tp) (.Call (.Name "zip" p) [a,b] [] pos) (BT f f2):=by
 obtain⟨t,pa,qa⟩:=ha.drop;obtain⟨u,pb,qb⟩:=hb.drop;have pp:=Y6 pa (Y6 pb XC (by rw[hs2];rfl)) (by rw[hs,hs2]);refine⟨_,PI.or (ZoU hg hm pp hs hs2) (Znl hg hm pp hs hs2),fun σ Hf H ρ s ds s' R e1 e2 e3 e4 k=>?_⟩;obtain⟨d,s1,a1,a2⟩:=ZB e4;obtain⟨d2,s2,a3,a4⟩:=ZB a2
 match d,d2,a4,a1,a3 with
 | .lst xs,.lst ys,a4,a1,a3=>
  obtain⟨rfl,rfl⟩:=ZW a4;left;refine qa σ Hf H ρ s _ _ _ e1 e2 e3 a1 fun v jM H1 g st r=>?_;refine qb σ jM H1 ρ s1 _ _ _ g.fh (e2.ext g.ff) st a3 fun v2 jX H2 g2 jV r2=>?_;obtain⟨p1,vs,rfl,n1,h1,rl1⟩:=jb.mp (r.ext g2.ff);obtain⟨p2,us,rfl,n2,h2,rl2⟩:=jb.mp r2;exact⟨p1,p2,rfl,⟨vs,ZH.of (g2.fh _ _ n1 h1)⟩,⟨us,ZH.of (g2.fh _ _ n2 h2)⟩,k _ jX H2 (g.trans g2) jV (.zip n1 h1 rl1 n2 h2 rl2)⟩
 | .tup xs,.tup ys,a4,a1,a3=>
  obtain⟨rfl,rfl⟩:=ZW a4;right;refine qa σ Hf H ρ s _ _ _ e1 e2 e3 a1 fun v jM H1 g st r=>?_;refine qb σ jM H1 ρ s1 _ _ _ g.fh (e2.ext g.ff) st a3 fun v2 jX H2 g2 jV r2=>?_;obtain⟨p1,vs,rfl,n1,h1,rl1⟩:=jc.mp (r.ext g2.ff);obtain⟨p2,us,rfl,n2,h2,rl2⟩:=jc.mp r2;exact⟨p1,p2,rfl,⟨vs,g2.fh _ _ n1 h1⟩,⟨us,g2.fh _ _ n2 h2⟩,k _ jX H2 (g.trans g2) jV (.zipT n1 h1 rl1 n2 h2 rl2)⟩
end
end TF
namespace TS
open PySem.W
def ZZ {α:Type}(lt:Nat->Nat->Bool)(n:Nat):KasT α->(α->Prop)->Prop
 | .ret a,Q=>Q a
 | .ask i j k,Q=>i<n/\j<n/\ZZ lt n (k (lt i j)) Q
theorem ZZ.bind {α β:Type}{lt:Nat->Nat->Bool}{n:Nat}{f:α->KasT β}{Q:β->Prop}:∀{t:KasT α},ZZ lt n t (fun a=>ZZ lt n (f a) Q)->ZZ lt n (t.bind f) Q
 | .ret _,h=>h
 | .ask i j k,h=>⟨h.1,h.2.1,ZZ.bind (t:=k (lt i j)) h.2.2⟩
theorem ZZ.mono {α:Type}{lt:Nat->Nat->Bool}{n:Nat}{Q R:α->Prop}(hr:∀a,Q a->R a):∀{t:KasT α},ZZ lt n t Q->ZZ lt n t R
 | .ret _,h=>hr _ h
 | .ask i j k,h=>⟨h.1,h.2.1,ZZ.mono hr (t:=k (lt i j)) h.2.2⟩
theorem jz {α:Type}{lt:Nat->Nat->Bool}{n:Nat}{Q:α->Prop}{R:α->Shared->Prop}{s:Shared}{cmp:Nat->Nat->(Bool->Shared->Prop)->Shared->Prop}(hc:∀i j,i<n->j<n->∀C:Bool->Shared->Prop,C (lt i j) s->cmp i j C s)(hr:∀a,Q a->R a s):∀{t:KasT α},ZZ lt n t Q->t.kasWp cmp R s
 | .ret _,h=>hr _ h
 | .ask i j k,h=>hc i j h.1 h.2.1 _ (jz hc hr (t:=k (lt i j)) h.2.2)
def g (p:Array Nat)(k:Nat):Nat:=p.getD k 0
theorem VV {p q:Array Nat}{i j:Nat}(h:p[i]?=q[j]?):g p i=g q j:=by
 have e:∀(r:Array Nat) (k:Nat),g r k=(r[k]?).getD 0:=fun r k=>by unfold g;simp[Array.getD_eq_getD_getElem?]
 rw[e,e,h]
structure Pm (n:Nat)(p:Array Nat):Prop where
 pos:0<n
 pm:p.toList.Perm (qp n)
section
variable {lt:Nat->Nat->Bool}{n:Nat}{p q:Array Nat}
theorem Pm.size (h:Pm n p):p.size=n:=by
 have:=h.pm.length_eq;simpa using this
theorem Pm.of (h:Pm n p)(e:q.Perm p):Pm n q:=⟨h.pos,(Array.perm_iff_toList_perm.mp e).trans h.pm⟩
theorem Pm.bd (h:Pm n p)(k:Nat):g p k<n:=by
 unfold g;by_cases hk:k<p.size
 ·have:p.getD k 0=p[k]:=by simp[qaM,hk]
  rw[this];have m:p[k]∈p.toList:=by simp
  have:=h.pm.mem_iff.mp m;simpa using this
 ·have:p.getD k 0=0:=by simp[qaM,hk]
  rw[this];exact h.pos
theorem Pm.inj (h:Pm n p){i j:Nat}(hi:i<n)(hj:j<n)(e:g p i=g p j):i=j:=by
 have hi':i<p.size:=by rw[h.size];exact hi
 have hj':j<p.size:=by rw[h.size];exact hj
 have nd:p.toList.Nodup:=h.pm.nodup_iff.mpr zV;have e1:g p i=p.toList[i]'(by simpa using hi'):=by unfold g;simp[qaM,hi']
 have e2:g p j=p.toList[j]'(by simpa using hj'):=by unfold g;simp[qaM,hj']
 rw[e1,e2] at e;have pw:=zw.mp nd;rcases yt i j with z | z | z
 ·exact absurd e (pw i j (by simpa using hi') (by simpa using hj') z)
 ·exact z
 ·exact absurd e.symm (pw j i (by simpa using hj') (by simpa using hi') z)
structure Ord (lt:Nat->Nat->Bool)(n:Nat):Prop where
 tr:∀a b c,lt a b=true->lt b c=true->lt a c=true
 to:∀a b,a<n->b<n->a≠b->lt a b=false->lt b a=true
def So (lt:Nat->Nat->Bool)(p:Array Nat)(m:Nat):Prop:=∀i j,i<j->j<m->lt (g p i) (g p j)=true
def De (lt:Nat->Nat->Bool)(p:Array Nat)(m:Nat):Prop:=∀i j,i<j->j<m->lt (g p j) (g p i)=true
theorem Pm.to (h:Pm n p)(o:Ord lt n){i j:Nat}(hi:i<n)(hj:j<n)(hij:i≠j)(e:lt (g p i) (g p j)=false):lt (g p j) (g p i)=true:=
 o.to _ _ (h.bd i) (h.bd j) (fun z=>hij (h.inj hi hj z)) e
theorem Zh5 (o:Ord lt n)(h:Pm n p):∀(f k:Nat),1<=k->k+f=n->So lt p k->ZZ lt n (kas_asc p f k) (fun m=>k<=m/\m<=n/\So lt p m/\(m<n->lt (g p m) (g p (m-1))=true))
 | 0,k,h1,h2,hs=>⟨qu _,by omega,hs,fun z=>by omega⟩
 | f+1,k,h1,h2,hs=>by
  show g p k<n/\g p (k-1)<n/\ZZ lt n (if lt (g p k) (g p (k-1))=true then .ret k else kas_asc p f (k+1)) _;refine⟨h.bd _,h.bd _,?_⟩
  cases e:lt (g p k) (g p (k-1)) with
  | true=>rw[if_pos rfl];exact⟨qu _,by omega,hs,fun _=>e⟩
  | false=>
   rw[if_neg (by simp)];have e2:=h.to o (i:=k) (j:=k-1) (by omega) (by omega) (by omega) e;refine ZZ.mono (fun m ⟨a,b⟩=>⟨by omega,b⟩) (Zh5 o h f (k+1) (by omega) (by omega) fun i j hij hj=>?_);by_cases hjk:j<k
   ·exact hs i j hij hjk
   ·have:j=k:=by omega
    subst this;by_cases hi:i=j-1
    ·subst hi;exact e2
    ·exact o.tr _ _ _ (hs i (j-1) (by omega) (by omega)) e2
theorem Zi2 (o:Ord lt n)(h:Pm n p):∀(f k:Nat),1<=k->k+f=n->De lt p k->ZZ lt n (kas_desc f p k 0) (fun r=>r.1=p/\r.2.2=0/\k<=r.2.1/\r.2.1<=n/\De lt p r.2.1)
 | 0,k,h1,h2,hs=>⟨rfl,rfl,qu _,by show k<=n;omega,hs⟩
 | f+1,k,h1,h2,hs=>by
  show g p k<n/\g p (k-1)<n/\ZZ lt n (if lt (g p k) (g p (k-1))=true then (if 0 > 0 then kas_desc f (kas_rev p (k-(0+1)) k) (k+1) 0 else kas_desc f p (k+1) 0) else .ask (g p (k-1)) (g p k) fun d=>if d=true then .ret (p,k,0) else kas_desc f p (k+1) (0+1)) _;refine⟨h.bd _,h.bd _,?_⟩
  cases e:lt (g p k) (g p (k-1)) with
  | true=>
   rw[if_pos rfl,if_neg (by omega)];refine ZZ.mono (fun m ⟨a,b,c,d⟩=>⟨a,b,by omega,d⟩) (Zi2 o h f (k+1) (by omega) (by omega) fun i j hij hj=>?_);by_cases hjk:j<k
   ·exact hs i j hij hjk
   ·have:j=k:=by omega
    subst this;by_cases hi:i=j-1
    ·subst hi;exact e
    ·exact o.tr _ _ _ e (hs i (j-1) (by omega) (by omega))
  | false=>
   rw[if_neg (by simp)];have e2:=h.to o (i:=k) (j:=k-1) (by omega) (by omega) (by omega) e;refine⟨h.bd _,h.bd _,?_⟩;show ZZ lt n (if lt (g p (k-1)) (g p k)=true then _ else _) _;rw[e2,if_pos rfl];exact⟨rfl,rfl,qu _,by show k<=n;omega,hs⟩
theorem Zi3 (hj:q.size=n){m:Nat}(hm:m<=n)(k:Nat):g (kas_rev q 0 m) k=if k<m then g q (m-1-k) else g q k:=by
 have e:=getElem?_mirror_all (xs:=q) (i:=0) (j:=m) (by omega) k;unfold kas_rev;by_cases hk:k<m
 ·rw[if_pos ⟨by omega,hk⟩] at e
  rw[if_pos hk];exact VV (by rw[e];congr 1;omega)
 ·rw[if_neg (fun z=>hk z.2)] at e
  rw[if_neg hk];exact VV e
theorem Znm (o:Ord lt n)(h:Pm n p){k:Nat}(h1:1<=k)(h2:k<=n)(hs:De lt p k):ZZ lt n (kas_tail3 k n p) (fun r=>1<=r.1/\r.1<=n/\Pm n r.2/\So lt r.2 r.1):=by
 have h':Pm n (kas_rev p 0 k):=h.of (mirror_perm _ _ _ _);have hs':So lt (kas_rev p 0 k) k:=fun i j hij hj=>by
  rw[Zi3 h.size h2,Zi3 h.size h2,if_pos (by omega),if_pos hj];exact hs _ _ (by omega) (by omega)
 refine ZZ.bind (ZZ.mono (fun m ⟨a,b,c,_⟩=>?_) (Zh5 o h' (n-k) k h1 (by omega) hs'));exact⟨by show 1<=m;omega,b,h',c⟩
theorem ZlF (o:Ord lt n)(h:Pm n p):ZZ lt n (kas_count n p) (fun r=>1<=r.1/\r.1<=n/\Pm n r.2/\So lt r.2 r.1):=by
 have hn:=h.pos;refine ZZ.bind (ZZ.mono (fun m ⟨a,b,c,d⟩=>?_) (Zh5 o h (n-1) 1 (by omega) (by omega) fun i j hij hj=>by omega));by_cases hm:m=n
 ·rw[if_pos (by simpa using hm)]
  exact⟨a,b,h,c⟩
 ·rw[if_neg (by simpa using hm)]
  by_cases h1:m > 1
  ·rw[if_pos h1]
   refine⟨h.bd 0,h.bd (m-1),?_⟩;have e:lt (p.getD 0 0) (p.getD (m-1) 0)=true:=c 0 (m-1) (by omega) (by omega);show ZZ lt n (if lt (p.getD 0 0) (p.getD (m-1) 0)=true then _ else _) _;rw[e,if_pos rfl];exact⟨a,b,h,c⟩
  ·rw[if_neg h1]
   have:m=1:=by omega
   subst this;have e:=d (by omega);have hd:De lt p (1+1):=fun i j hij hj=>by
    have h1:i=0:=by omega
    have h2:j=1:=by omega
    subst h1 h2;exact e
   refine ZZ.bind (ZZ.mono (fun r ⟨r1,r2,r3,r4,r5⟩=>?_) (Zi2 o h (n-(1+1)) (1+1) (by omega) (by omega) hd));rw[if_neg (by omega),r1];exact Znm o h (by omega) r4 r5
theorem ZdN (o:Ord lt n)(h:Pm n p){k:Nat}(hk:k<n)(hs:So lt p k):∀(f l r:Nat),l<=r->r<=k->r-l<=f->(∀i,i<l->lt (g p i) (g p k)=true)->(∀i,r<=i->i<k->lt (g p k) (g p i)=true)->
  ZZ lt n (kas_place p k f l r) (fun m=>m<=k/\(∀i,i<m->lt (g p i) (g p k)=true)/\∀i,m<=i->i<k->lt (g p k) (g p i)=true)
 | 0,l,r,h1,h2,h3,ha,hb=>⟨by omega,ha,fun i hi=>hb i (by omega)⟩
 | f+1,l,r,h1,h2,h3,ha,hb=>by
  show ZZ lt n (if l≥r then .ret l else .ask (g p k) (g p ((l+r) / 2)) fun c=>if c=true then kas_place p k f l ((l+r) / 2) else kas_place p k f ((l+r) / 2+1) r) _;by_cases hlr:l≥r
  ·rw[if_pos hlr]
   exact⟨by omega,ha,fun i hi=>hb i (by omega)⟩
  ·rw[if_neg hlr]
   refine⟨h.bd _,h.bd _,?_⟩;show ZZ lt n (if lt (g p k) (g p ((l+r) / 2))=true then kas_place p k f l ((l+r) / 2) else kas_place p k f ((l+r) / 2+1) r) _
   cases e:lt (g p k) (g p ((l+r) / 2)) with
   | true=>
    rw[if_pos rfl];refine ZdN o h hk hs f l _ (by omega) (by omega) (by omega) ha fun i hi hik=>?_;by_cases hq:i=(l+r) / 2
    ·subst hq;exact e
    ·exact o.tr _ _ _ e (hs _ i (by omega) hik)
   | false=>
    rw[if_neg (by simp)];have e2:=h.to o (i:=k) (j:=(l+r) / 2) hk (by omega) (by omega) e;refine ZdN o h hk hs f _ r (by omega) h2 (by omega) (fun i hi=>?_) hb;by_cases hq:i=(l+r) / 2
    ·subst hq;exact e2
    ·exact o.tr _ _ _ (hs i _ (by omega) (by omega)) e2
theorem ZlG (o:Ord lt n):∀(f k:Nat) (p:Array Nat),Pm n p->1<=k->k+f=n->So lt p k->ZZ lt n (kas_bin f p k) (fun q=>Pm n q/\So lt q n)
 | 0,k,p,h,h1,h2,hs=>⟨h,by have:k=n:=(by omega);subst this;exact hs⟩
 | f+1,k,p,h,h1,h2,hs=>by
  refine ZZ.bind (ZZ.mono (fun m ⟨a,b,c⟩=>?_) (ZdN o h (k:=k) (by omega) hs k 0 k (by omega) (by omega) (by omega) (fun i hi=>by omega) fun i hi hik=>by omega));have hg:∀i,g (bubble p k (k-m)) i=if i=m then g p k else if m<i/\i<=k then g p (i-1) else g p i:=fun i=>by
   have e:=getElem?_bubble (xs:=p) (src:=k) (by rw[h.size];omega) (k-m) (by omega) i;rw[show k-(k-m)=m by omega] at e;by_cases q1:i=m
   ·rw[if_pos q1] at e⊢;exact VV e
   ·rw[if_neg q1] at e⊢
    by_cases q2:m<i/\i<=k
    ·rw[if_pos q2] at e⊢;exact VV e
    ·rw[if_neg q2] at e⊢;exact VV e
  refine ZlG o f (k+1) _ (h.of (bubble_perm _ _ _)) (by omega) (by omega) fun i j hij hj=>?_;rw[hg,hg];by_cases i1:i=m
  ·rw[if_pos i1,if_neg (by omega),if_pos (by omega)]
   exact c _ (by omega) (by omega)
  ·rw[if_neg i1]
   by_cases i2:m<i/\i<=k
   ·rw[if_pos i2,if_neg (by omega),if_pos (by omega)]
    exact hs _ _ (by omega) (by omega)
   ·rw[if_neg i2]
    by_cases j1:j=m
    ·rw[if_pos j1];exact b i (by omega)
    ·rw[if_neg j1]
     by_cases j2:m<j/\j<=k
     ·rw[if_pos j2]
      exact hs _ _ (by omega) (by omega)
     ·rw[if_neg j2]
      exact hs _ _ hij (by omega)
theorem Znn (o:Ord lt n)(hn:0<n):ZZ lt n (kas_sort n) (fun q=>Pm n q/\So lt q n):=by
 have h:Pm n (qM (qp n)):=⟨hn,by simp⟩;refine ZZ.bind (ZZ.mono (fun r ⟨a,b,c,d⟩=>?_) (ZlF o h));by_cases hr:r.1<n
 ·rw[if_pos hr]
  have e:max r.1 1=r.1:=by omega
  rw[e];exact ZlG o _ _ _ c a (by omega) d
 ·rw[if_neg hr]
  exact⟨c,by have:r.1=n:=(by omega);rw[this] at d;exact d⟩
end
end TS
namespace TS
open PySem.W
def Y5:List Int->List Int->Bool
 | [],[]=>false
 | [],_::_=>true
 | _::_,[]=>false
 | a::as,b::bs=>if a=b then Y5 as bs else decide (a<b)
theorem ZgN:∀a,Y5 a a=false
 | []=>rfl
 | a::as=>by unfold Y5;rw[if_pos rfl];exact ZgN as
theorem Zdo:∀a b c,Y5 a b=true->Y5 b c=true->Y5 a c=true
 | [],[],_,h,_=>by cases h
 | [],_::_,[],_,h=>by cases h
 | [],_::_,_::_,_,_=>rfl
 | _::_,[],_,h,_=>by cases h
 | _::_,_::_,[],_,h=>by cases h
 | a::as,b::bs,c::cs,h1,h2=>by
  unfold Y5 at h1 h2⊢;split at h1
  ·rename_i e;subst e
   split at h2
   ·rename_i e;subst e;rw[if_pos rfl];exact Zdo as bs cs h1 h2
   ·rename_i e;rw[if_neg e];exact h2
  ·rename_i e1
   split at h2
   ·rename_i e;subst e;rw[if_neg e1];exact h1
   ·rename_i e2
    simp at h1 h2;rw[if_neg (by omega)];simp;omega
theorem BD:∀a b,a≠b->Y5 a b=false->Y5 b a=true
 | [],[],n,_=>absurd rfl n
 | [],_::_,_,h=>by cases h
 | _::_,[],_,_=>rfl
 | a::as,b::bs,n,h=>by
  unfold Y5 at h⊢;split at h
  ·rename_i e;subst e;rw[if_pos rfl]
   exact BD as bs (fun z=>n (by rw[z])) h
  ·rename_i e
   simp at h;rw[if_neg (zJ e)];simp;omega
theorem Bz {a b:List Int}(h:Y5 a b=true):Y5 b a=false:=by
 cases e:Y5 b a with
 | false=>rfl
 | true=>have:=Zdo _ _ _ h e;rw[ZgN] at this;cases this
def Xc (a b:List Int):Bool:=!Y5 b a
theorem ZlH {a b:List Int}(h1:Xc a b=true)(h2:Xc b a=true):a=b:=by
 unfold Xc at h1 h2;simp at h1 h2;by_cases e:a=b
 ·exact e
 ·rw[BD a b e h2] at h1;cases h1
theorem Zh6 (a b c:List Int)(h1:Xc a b=true)(h2:Xc b c=true):Xc a c=true:=by
 unfold Xc at h1 h2⊢;simp at h1 h2⊢;by_cases e1:a=b
 ·subst e1;exact h2
 ·by_cases e2:b=c
  ·subst e2;exact h1
  ·exact Bz (Zdo _ _ _ (BD b a (zJ e1) h1) (BD c b (zJ e2) h2))
theorem ZoV (a b:List Int):(Xc a b||Xc b a)=true:=by
 unfold Xc
 cases e:Y5 b a with
 | false=>rfl
 | true=>rw[Bz e];rfl
theorem ZdO:∀{a b:List (List Int)},a.Perm b->a.Pairwise (fun x y=>Xc x y=true)->b.Pairwise (fun x y=>Xc x y=true)->a=b
 | [],b,p,_,_=>(List.nil_perm.mp p).symm
 | x::a,[],p,_,_=>absurd p.length_eq (by simp)
 | x::a,y::b,p,ha,hb=>by
  have ha':=yc.mp ha;have hb':=yc.mp hb;have e:x=y:=by
   have h1:x∈y::b:=p.mem_iff.mp (by simp);have h2:y∈x::a:=p.mem_iff.mpr (by simp);rcases qq.mp h1 with h1 | h1
   ·exact h1
   ·rcases qq.mp h2 with h2 | h2
    ·exact h2.symm
    ·exact ZlH (ha'.1 y h2) (hb'.1 x h1)
  subst e;rw[ZdO (List.Perm.cons_inv p) ha'.2 hb'.2]
def Vj (jN:List (List Int)):List (List Int):=jN.mergeSort Xc
theorem Zh7 (jN:List (List Int)):(Vj jN).Perm jN:=qbV jN _
theorem Zfv (jN:List (List Int)):(Vj jN).Pairwise (fun x y=>Xc x y=true):=qbn Zh6 ZoV jN
theorem Za4 {a jN:List (List Int)}(p:a.Perm jN)(h:a.Pairwise (fun x y=>Xc x y=true)):a=Vj jN:=ZdO (p.trans (Zh7 jN).symm) h (Zfv jN)
def Vk (h:Heap)(v:Value)(ns:List Int):Prop:=∃a xs,v=.ref a/\h.IsTuple a (qM xs)/\IntsAre xs ns
section
variable {prog:Program}{w:World}{A:Around}{E:Value->Shared->Prop}{s:Shared}
theorem Zn0 {fin:Bool}{Q:Bool->Shared->Prop}:∀{as bs:List Int} {xs ys:List Value} (i:Nat),IntsAre xs as->IntsAre ys bs->fin=decide (as.length<bs.length)->Q (Y5 as bs) s->KatLex prog w A true fin Q (xs.zip ys) i s
 | [],[],_,_,i,.nil,.nil,e,h=>by subst e;exact kat_nil h
 | [],_::_,_,_,i,.nil,.cons _ _ _,e,h=>by subst e;exact kat_nil h
 | _::_,[],_,_,i,.cons _ _ _,.nil,e,h=>by subst e;exact kat_nil h
 | a::as,b::bs,_,_,i,.cons _ t hx,.cons _ u hy,e,h=>by
  unfold Y5 at h;refine kat_cons (wpAny_eqBool_int ?_);by_cases q:a=b
  ·rw[if_pos q] at h
   rw[show(a==b)=true by simp[q]];exact kat_yes (Zn0 (i+1) hx hy (by rw[e];simp) h)
  ·rw[if_neg q] at h
   rw[show(a==b)=false by simp[q]];refine kat_no ?_;by_cases hi:i=0
   ·subst hi
    exact oneLt_int h
   ·rw[show(true&&i==0)=false by simp[hi]]
    exact kat_one _ _ (lt_int h)
theorem Zn1 {x y:Value}{as bs:List Int}{C:Bool->Shared->Prop}(hx:Vk s.heap x as)(hy:Vk s.heap y bs)(h:C (Y5 as bs) s):wpAny (model prog w) A (keyLt' (tuples' true) x y) C E s:=by
 obtain⟨a,xs,rfl,⟨o,ho,hc,n,hd⟩,ix⟩:=hx;obtain⟨b,ys,rfl,⟨o',ho',hc',n',hd'⟩,iy⟩:=hy;refine kat_lt ho hd ho' hd' ?_;have e:decide ((qM xs).size<(qM ys).size)=decide (as.length<bs.length):=by rw[qE,qE,ix.length,iy.length]
 exact Zn0 0 ix iy e h
theorem ZlI {h:Heap}:∀{vs:List Value} {jN:List (List Int)},Paired (Vk h) vs jN->(∀ns∈jN,ns≠[])->∃fs,KatTups h vs fs/\fs.length=vs.length/\∀v∈fs,∃n t,v=yV n t
 | _,_,.nil,_=>⟨[],.nil,rfl,fun _ z=>by simp at z⟩
 | _,_,.cons (a:=v) (b:=ns) hv r,hne=>by
  obtain⟨fs,h1,h2,h3⟩:=ZlI r fun ns' m=>hne ns' (qU _ m);obtain⟨a,xs,rfl,⟨o,ho,hc,n,hd⟩,ix⟩:=hv
  cases ix with
  | nil=>exact absurd rfl (hne [] (by simp))
  | cons m t r'=>
   refine⟨.int m t::fs,.cons ho hc hd (by simp) h1,by simp[h2],fun v hv=>?_⟩;rcases qq.mp hv with rfl | hv
   ·exact⟨m,t,rfl⟩
   ·exact h3 v hv
theorem ZlJ {vs:List Value}{jN:List (List Int)}{Q:SortKind->Shared->Prop}(h:Paired (Vk s.heap) vs jN)(hne:∀ns∈jN,ns≠[])(h0:0<vs.length)(q:Q (tuples' true) s):wpAny (model prog w) A (keyKind' vs.toArray) Q E s:=by
 obtain⟨fs,h1,h2,h3⟩:=ZlI h hne;refine kat_kind (T:=.type "int") h1 (by omega) (fun v hv=>?_) rfl ?_
 ·obtain⟨n,t,rfl⟩:=h3 v hv
  exact Looks.of_pure rfl
 ·exact q
theorem Vk.at {h h':Heap}{v:Value}{ns:List Int}{b:Addr}(k:∀c o,c≠b->h.get? c=some o->h'.get? c=some o)(hb:∃o,h.get? b=some o/\o.cls=.type "list")(x:Vk h v ns):Vk h' v ns:=by
 obtain⟨a,xs,e,⟨o,ho,hc,r⟩,i⟩:=x;refine⟨a,xs,e,⟨o,k a o (fun z=>?_) ho,hc,r⟩,i⟩;obtain⟨o',h1,h2⟩:=hb;rw[z,h1] at ho;cases ho;rw[h2] at hc;exact absurd (qaT hc) (by decide)
theorem jr {α β:Type}{F:α->β->Prop}:∀{l:List α} {r:List β} {i:Nat} (d:α) (d':β),Paired F l r->i<l.length->F (l.getD i d) (r.getD i d')
 | _,_,i,_,_,.nil,e=>absurd e (by simp)
 | _,_,0,_,_,.cons h t,e=>h
 | _,_,i+1,d,d',.cons h t,e=>by
  have:=jr d d' t (i:=i) (by simpa using e);simpa using this
theorem range_getD {α:Type}(vs:List α)(d:α):((qp vs.length).map fun i=>vs.getD i d)=vs:=by
 refine List.ext_getElem (by simp) fun i h1 h2=>?_;simp[h2]
theorem Zno (vs:List Value)(κ:SortKind):(arrOf (SortSt.mk' κ (vs.toArray.zip vs.toArray) #[] 7 none)).map (·.2)=qM ((qM (qp vs.length)).toList.map fun i=>vs.getD i qR):=by
 apply Array.toList_inj.mp;show((vs.toArray.zip vs.toArray).map (·.2)).toList=_;rw[qaR,qaR,range_getD,Array.toList_map];show(pairsOf vs).toList.map Prod.snd=_;rw[pairsOf_toList];exact List.map_snd_zip (qu _)
theorem ZgO {a:Addr}{vs:List Value}{jN:List (List Int)}{n:Nat}{P:qbq->Shared->Prop}(ho:s.heap.get? a=some (seqObj "list" vs.toArray n))(ht:Paired (Vk s.heap) vs jN)(h64:vs.length<64)(nd:jN.Nodup)(hne:2<=vs.length->∀ns∈jN,ns≠[])
  (h:∀p:Array Nat,p.toList.Perm (qp vs.length)->(p.toList.map fun i=>jN.getD i [])=Vj jN->P (.done (.ret .none)) { s with heap:=sortedHeap s.heap a vs (qM (p.toList.map fun i=>vs.getD i qR)) }) :
  wpAny (model prog w) A (Builtin.«list.sort» ⟨[.ref a],[]⟩) P E s:=by
 have jO:vs.length=jN.length:=yG ht;rw[list_sort_plain];have ha:a<s.heap.objs.size:=qG ho;refine wpAny_bind (listItems_at ho rfl ?_);refine wpAny_bind (listUpdate_at ho rfl ?_);obtain⟨e1,ho1⟩:∃e1,(s.heap.update a (qS fun _=>#[])).get? a=some (seqObj "list" #[] e1):=⟨_,get?_update_seq ho (fun _=>#[])⟩;refine wpAny_bind (seqEpoch_at ho1 rfl ?_);refine wpAny_bind (wpAny_newTuple ?_);refine wpAny_bind (wpAny_newList ?_);refine wpAny_holding ?_;have ho6:(((s.heap.update a (qS fun _=>#[])).push (seqObj "tuple" vs.toArray 0)).push (seqObj "list" #[] 0)).get? a=some (seqObj "list" #[] e1):=qf _ (qf _ ho1);have kk:∀c o,c≠a->s.heap.get? c=some o->(((s.heap.update a (qS fun _=>#[])).push (seqObj "tuple" vs.toArray 0)).push (seqObj "list" #[] 0)).get? c=some o:=fun c o hc e=>qf _ (qf _ (by rw[zP _ _ _ _ hc];exact e));have ht2:Paired (Vk (((s.heap.update a (qS fun _=>#[])).push (seqObj "tuple" vs.toArray 0)).push (seqObj "list" #[] 0))) vs jN:=L2.Paired.mapP ht fun v ns x=>x.at kk ⟨_,ho,rfl⟩;show wpAny (model prog w) A _ P E { s with heap:=((s.heap.update a (qS fun _=>#[])).push (seqObj "tuple" vs.toArray 0)).push (seqObj "list" #[] 0) };dsimp only;have hsz:vs.toArray.size=vs.length:=by simp
 by_cases h2:vs.toArray.size<2
 ·rw[if_pos h2,if_pos h2];refine wpAny_bind (wpAny_pure ?_);rw[StateT.run_pure]
  refine wpAny_bind (wpAny_pure ?_);dsimp only;refine wpAny_bind (seqEpoch_at ho6 rfl ?_);refine wpAny_bind (listUpdate_at ho6 rfl ?_ (hsz2:=by rw[Array.size_map];show(pairsOf vs).size<=_;rw[pairsOf_size,sizeLine_eq];omega));simp only[bne_self_eq_false,zU,if_false];have eo:(arrOf (SortSt.mk' general' (vs.toArray.zip vs.toArray) #[] 7 none)).map (·.2)=qM ((qM (qp vs.length)).toList.map fun i=>vs.getD i qR):=by
   exact Zno vs general'
  rw[eo];refine wpAny_pure (h _ (by simp) ?_)
  match jN,(by omega:jN.length<2),jO with
  | [],_,hl=>
   simp only[yh] at hl;rw[hl];exact Za4 (by simp) (by simp)
  | [x],_,hl=>
   simp only[qY,yh] at hl;rw[hl];exact Za4 (by simp) (by simp)
 ·rw[if_neg h2,if_neg h2]
  have h2':2<=vs.length:=by omega
  refine wpAny_bind (ZlJ (s:={ s with heap:=((s.heap.update a (qS fun _=>#[])).push (seqObj "tuple" vs.toArray 0)).push (seqObj "list" #[] 0) }) ht2 (hne h2') (by omega) ?_)
  let lt:Nat->Nat->Bool:=fun i j=>Y5 (jN.getD i []) (jN.getD j [])
  have hord:Ord lt vs.length:=⟨fun x y z=>Zdo _ _ _,fun x y hx hy hxy=>BD _ _ fun z=>hxy ?_⟩
  ·have wp:=jz (s:={ s with heap:=((s.heap.update a (qS fun _=>#[])).push (seqObj "tuple" vs.toArray 0)).push (seqObj "list" #[] 0) }) (cmp:=kas_ask prog w A (tuples' true) vs) (R:=fun q s'=>(Pm vs.length q/\So lt q vs.length)/\s' = { s with heap:=((s.heap.update a (qS fun _=>#[])).push (seqObj "tuple" vs.toArray 0)).push (seqObj "list" #[] 0) }) (fun i j hi hj C hC=>Zn1 (jr _ [] ht2 hi) (jr _ [] ht2 hj) hC) (fun q hq=>⟨hq,rfl⟩) (Znn hord (by omega))
   refine wpAny_bind (wpAny_mono (kat_run (ks:=vs) (vs:=vs) (Q:=fun st' s'=>∃p:Array Nat,(Pm vs.length p/\So lt p vs.length)/\arrOf st'=p.map (kas_item (vs.toArray.zip vs.toArray))/\failedOf st'=none/\s' = { s with heap:=((s.heap.update a (qS fun _=>#[])).push (seqObj "tuple" vs.toArray 0)).push (seqObj "list" #[] 0) }) rfl h2' h64 (fun p' st' s' a1 a2 a3 a4=>⟨p',a4.1,a2,a3,a4.2⟩) wp) ?_ fun _ _ e=>e);rintro⟨⟨⟩,st'⟩ s' ⟨p,⟨hpm,hso⟩,har,hf,rfl⟩;dsimp only;have hout:=kat_snds (ks:=vs) (vs:=vs) rfl har;have hps:p.toList.length=vs.length:=by rw[zb];exact hpm.size
   rw[hout];refine wpAny_bind (seqEpoch_at ho6 rfl ?_);refine wpAny_bind (listUpdate_at ho6 rfl ?_ (hsz2:=by rw[qE,qd,hps,sizeLine_eq];omega));rw[hf];simp only[bne_self_eq_false,zU,if_false];refine wpAny_pure (h p hpm.pm (Za4 ?_ ?_))
   ·have e:=(hpm.pm).map (fun i=>jN.getD i [])
    rw[jO] at e;rw[range_getD] at e;exact e
   ·rw[zw]
    intro i j hi hj hij;have hj':j<vs.length:=by rw[qd,hps] at hj;exact hj
    have:=hso i j hij hj';have e1:g p i=p.toList[i]'(by rw[hps];omega):=by unfold g;simp[qaM,show i<p.size by rw[hpm.size];omega]
    have e2:g p j=p.toList[j]'(by rw[hps];omega):=by unfold g;simp[qaM,show j<p.size by rw[hpm.size];omega]
    rw[e1,e2] at this;rw[qbe,qbe];unfold Xc;rw[Bz this];rfl
  ·have hx':x<jN.length:=by omega
   have hy':y<jN.length:=by omega
   have e1:jN.getD x []=jN[x]:=by simp[hx']
   have e2:jN.getD y []=jN[y]:=by simp[hy']
   rw[e1,e2] at z;have pw:=zw.mp nd;rcases yt x y with q | q | q
   ·exact absurd z (pw x y hx' hy' q)
   ·exact q
   ·exact absurd z.symm (pw y x hy' hx' q)
end
end TS
namespace TS
open PySem.W
section
variable {prog:Program}{w:World}{A:Around}{E:Value->Shared->Prop}{s:Shared}
theorem ZlK {l:Addr}{vs:List Value}{jN:List (List Int)}{Q:Value->Shared->Prop}(hl:s.heap.IsList l vs.toArray)(ht:Paired (Vk s.heap) vs jN)(h64:vs.length<64)(nd:jN.Nodup)(hne:2<=vs.length->∀ns∈jN,ns≠[])
  (h:∀p:Array Nat,p.toList.Perm (qp vs.length)->(p.toList.map fun i=>jN.getD i [])=Vj jN->Q (.ref (s.heap.objs.size+1)) { s with heap:=sortedAll s.heap vs (qM (p.toList.map fun i=>vs.getD i qR)) }):wpAny (model prog w) A (call (.builtin "sorted") [.ref l]) Q E s:=by
 refine qa6 kind_sorted plain_sorted entry_sorted (args_sorted1 _) ?_;unfold Builtin.«sorted»;refine wpAny_bind (m:=checkCount "sorted" 1 1 _) (wpAny_pure ?_);refine wpAny_bind (collect_list hl ?_ (by rw[sizeLine_eq];omega));refine wpAny_bind (wpAny_newList ?_);have z1:((s.heap.push (seqObj "list" #[] 0)).update s.heap.objs.size (qS (· ++ vs.toArray))).objs.size=s.heap.objs.size+1:=by rw[qbd,size_push']
 have g1:(((s.heap.push (seqObj "list" #[] 0)).update s.heap.objs.size (qS (· ++ vs.toArray))).push (seqObj "list" vs.toArray 0)).get? (s.heap.objs.size+1)=some (seqObj "list" vs.toArray 0):=by rw[<-z1];exact qz _ rfl
 have kp:∀c o,c≠s.heap.objs.size->s.heap.get? c=some o->(((s.heap.push (seqObj "list" #[] 0)).update s.heap.objs.size (qS (· ++ vs.toArray))).push (seqObj "list" vs.toArray 0)).get? c=some o:=fun c o hc e=>qf _ (by rw[zP _ _ _ _ hc];exact qf _ e);have ht2:Paired (Vk (((s.heap.push (seqObj "list" #[] 0)).update s.heap.objs.size (qS (· ++ vs.toArray))).push (seqObj "list" vs.toArray 0))) vs jN:=L2.Paired.mapP ht fun v ns ⟨a,xs,e,⟨o,ho,r⟩,i⟩=>⟨a,xs,e,⟨o,kp a o (qN (qG ho)) ho,r⟩,i⟩;show wpAny _ _ _ _ _ { s with heap:=((s.heap.push (seqObj "list" #[] 0)).update s.heap.objs.size (qS (· ++ vs.toArray))).push (seqObj "list" vs.toArray 0) };rw[z1];refine wpAny_bind (wpAny_holding (wpAny_call_entry slot_list_sort ⟨_,g1,rfl⟩ entry_list_sort (ZgO (s:={ s with heap:=((s.heap.push (seqObj "list" #[] 0)).update s.heap.objs.size (qS (· ++ vs.toArray))).push (seqObj "list" vs.toArray 0) }) g1 ht2 h64 nd hne fun p a1 a2=>⟨_,rfl,?_⟩) (args_list_sort _)));exact wpAny_pure ⟨_,rfl,h p a1 a2⟩
end
theorem Paired.pick {α β:Type}{F:α->β->Prop}{l:List α}{r:List β}(d:α)(d':β)(h:Paired F l r):∀(ix:List Nat),(∀i∈ix,i<l.length)->Paired F (ix.map fun i=>l.getD i d) (ix.map fun i=>r.getD i d')
 | [],_=>.nil
 | i::ix,hb=>.cons (jr d d' h (hb i (by simp))) (Paired.pick d d' h ix fun j m=>hb j (qU _ m))
end TS
namespace TF
open L2 TS
section
variable {X:Cx}{G:Gh}
theorem Zcu {jE:List (Addr×Obj)}{s:Shared}{σ:St}{H:Hp}{T:V->List Int->Prop}(I:Inv X jE σ H s)(hT:∀v ns,T v ns->∃a,v=.ref a/\ZT X.K H a (ns.map V.int)):∀{vs:List V} {jG:List Value} {jN:List (List Int)},ZI vs jG->Paired T vs jN->Paired (Vk s.heap) jG jN
 | _,_,_,.nil,.nil=>.nil
 | _,_,_,.cons r rr,.cons t tt=>by
  refine .cons ?_ (Zcu I hT rr tt);obtain⟨a,rfl,hq⟩:=hT _ _ t
  cases r
  obtain⟨xs,rv,pl,hz⟩:=I.tuple hq;exact⟨a,xs,rfl,show s.heap.IsTuple a xs.toArray from pl,Wx rv⟩
theorem ZgP:Y9 X (.builtin "sorted") (fun xs H Q=>∃(p:Addr) (vs:List V) (jN:List (List Int)) (T:V->List Int->Prop),xs=[.ref p]/\ZH X.K H p vs/\(∀v ns,T v ns->∃a,v=.ref a/\ZT X.K H a (ns.map V.int))/\Paired T vs jN/\
  jN.length<64/\jN.Nodup/\(2<=jN.length->∀ns∈jN,ns≠[])/\∀l vs',Paired T vs' (Vj jN)->H l=none->Q (.ref l) (Zo H l (.lst vs'))):=by
 intro jE s σ H xs us Q I r h;obtain⟨p,vs,jN,T,rfl,hp,hT,pT,h64,nd,hne,q⟩:=h;obtain⟨u,rfl,ru⟩:=Xl r
 cases ru
 obtain⟨jG,rv,pl,hz⟩:=I.list hp;have hl:=rv.length;have hl2:vs.length=jN.length:=yG pT;refine ZlK pl.isList (Zcu I hT rv pT) (by omega) nd (fun z=>hne (by omega)) fun pm a1 a2=>?_;obtain⟨e,he⟩:=sortedAll_at s.heap jG (qM (pm.toList.map fun i=>jG.getD i qR));have hle:s.heap.objs.size<=s.heap.objs.size+1:=qbx _;have hb:∀i∈pm.toList,i<jG.length:=fun i m=>by
  have:=a1.mem_iff.mp m;simpa using this
 have pv:ZI (pm.toList.map fun i=>vs.getD i V.non) (pm.toList.map fun i=>jG.getD i qR):=TS.Paired.pick _ _ rv _ fun i m=>by rw[hl];exact hb i m
 have pt:Paired T (pm.toList.map fun i=>vs.getD i V.non) (pm.toList.map fun i=>jN.getD i []):=TS.Paired.pick _ _ pT _ fun i m=>by rw[hl];exact hb i m
 rw[a2] at pt;refine⟨.ref (s.heap.objs.size+1),_,I.laid (a:=s.heap.objs.size+1) (o:=.lst (pm.toList.map fun i=>vs.getD i V.non)) (t':=s.toks) (fun _ _=>sortedAll_old) hle ⟨?_,_,e,pv,he⟩,rfl,q _ _ pt (I.hok.fresh hle)⟩;have:=a1.length_eq;rw[qO] at this;rw[qd,this,sizeLine_eq];omega
def XA (ns:List Int):D:=.tup (ns.map .int)
def Vg:List D->Option (List (List Int))
 | []=>some []
 | .tup ds::r=>match ZM ds,Vg r with | some ns,some jN=>some (ns::jN) | _,_=>none
 | _::_=>none
theorem ZbR:∀jN:List (List Int),Vg (jN.map XA)=some jN
 | []=>rfl
 | ns::jN=>by
  show(match ZM (ns.map D.int),Vg (jN.map XA) with | some ns,some jN=>some (ns::jN) | _,_=>none)=_;rw[Bo,ZbR jN]
theorem Zcv:∀{ds:List D} {jN:List (List Int)},Vg ds=some jN->ds=jN.map XA
 | [],jN,h=>by
  have h:some []=some jN:=h
  cases h;rfl
 | d::r,jN,h=>by
  cases d with
  | tup ds=>
   have h:(match ZM ds,Vg r with | some ns,some jN=>some (ns::jN) | _,_=>none)=some jN:=h
   cases e1:ZM ds with
   | none=>rw[e1] at h;cases h
   | some ns=>
    cases e2:Vg r with
    | none=>rw[e1,e2] at h;cases h
    | some ms=>
     rw[e1,e2] at h;cases h;rw[qW,<-Zcv e2];unfold XA;rw[<-Wo e1]
  | _=>cases h
def UB (jN:List (List Int)):Prop:=jN.length<64/\jN.Nodup/\(2<=jN.length->∀ns∈jN,ns≠[])
instance (jN:List (List Int)):Decidable (UB jN):=by unfold UB;infer_instance
def Zfw:List D->Option D
 | [.lst ds]=>match Vg ds with | some jN=>if UB jN then some (.lst ((Vj jN).map XA)) else none | none=>none
 | _=>none
theorem Zcw {Hf:Hp}:∀{jN:List (List Int)} {vs:List V},Zm G Hf (jN.map XA) vs->Paired (fun v ns=>Zp G Hf (XA ns) v) vs jN
 | [],vs,h=>by
  rw[Zm.nil_iff.mp h];exact .nil
 | ns::jN,vs,h=>by
  obtain⟨v,r,rfl,h1,h2⟩:=je.mp h;exact .cons h1 (Zcw h2)
theorem ZeU {Hf:Hp}:∀{jN:List (List Int)} {vs:List V},Paired (fun v ns=>Zp G Hf (XA ns) v) vs jN->Zm G Hf (jN.map XA) vs
 | _,_,.nil=>Zm.nil_iff.mpr rfl
 | _,_,.cons h t=>.cons h (ZeU t)
theorem Zem:XO X G (.builtin "sorted") Zfw:=
 ⟨_,ZgP,fun Hf H s xs ds c Q e1 st r q k=>by
  match ds,q,r with
  | [.lst es],q,r=>
   have q:(match Vg es with | some jN=>if UB jN then some (D.lst ((Vj jN).map XA)) else none | none=>none)=some c:=q
   cases he:Vg es with
   | none=>rw[he] at q;cases q
   | some jN=>
    rw[he] at q;have q:(if UB jN then some (D.lst ((Vj jN).map XA)) else none)=some c:=q;split at q
    ·rename_i ok
     cases q
     obtain⟨v,rfl,rv⟩:=jg r;obtain⟨p,vs,rfl,np,hp,rp⟩:=jb.mp rv;rw[Zcv he] at rp;refine⟨p,vs,jN,fun v ns=>Zp G Hf (XA ns) v,rfl,ZH.of (e1 _ _ np hp),fun v ns h=>?_,Zcw rp,ok.1,ok.2.1,ok.2.2,fun l vs' pt hl=>?_⟩
     ·obtain⟨a,us,rfl,na,ha,ra⟩:=jc.mp h
      rw[jk ra] at ha;exact⟨a,rfl,ZT.of (e1 _ _ na ha)⟩
     ·have nf:=Gh.nofp st hl
      have g2:=Gr.new (o:=.lst vs') e1 hl nf;have rl:=ZeU pt;exact k (.ref l) _ _ g2 (Gh.grow st hl) (jb.mpr ⟨l,_,rfl,nf,Z8,rl.ext g2.ff⟩) (YH.mk e1 hl nf rl)
    ·cases q⟩
end
end TF
namespace TF
open L2
section
variable {X:Cx}{G:Gh}{own:List Nat}{fr:Bool}
end
section
variable {X:Cx}{G:Gh}
def vD:V->Option D
 | .int i=>some (.int i)
 | .bl b=>some (.bl b)
 | .str x=>some (.str x)
 | .non=>some .non
 | _=>none
theorem ZlL {H:Hp}{v:V}{c:D}(h:vD v=some c):Zp G H c v:=by
 cases v with
 | int i=>cases h;exact ja.mpr rfl
 | bl i=>cases h;exact jd.mpr rfl
 | str i=>cases h;exact jh.mpr rfl
 | non=>cases h;exact ji.mpr rfl
 | _=>cases h
def Vp:D->D->Option D
 | .dk kvs,y=>match Xs y with | some k=>(Z6 kvs k).bind vD | none=>none
 | .df kvs,y=>match Xs y with | some k=>(Z6 kvs k).bind vD | none=>none
 | .dt kvs,.tup ks=>match Xp ks with | some k=>(Z6 kvs k).bind vD | none=>none
 | .du kvs,.tup ks=>match Xp ks with | some k=>(Z6 kvs k).bind vD | none=>none
 | _,_=>none
theorem Zdp {a b:Expr}{pos:Pos}{fa fb:Zb->M D}{r1 r2:Bool}(hu:X.A.units+1<cLine)(ha:PD X G r1 a fa)(hb:PD X G r2 b fb)(hs:NoSl b:=by intro _ _;rfl):PD X G false (.Subscript a b pos) (Zd Vp fa fb):=by
 obtain⟨ta,pa,qa⟩:=ha.drop;obtain⟨tb,pb,qb⟩:=hb.drop;refine⟨_,ZmQ hu pa pb hs,fun σ Hf H ρ s d s' Q e1 e2 e3 e4 k=>?_⟩;obtain⟨da,s1,a1,a2⟩:=ZB e4;obtain⟨db,s2,a3,a4⟩:=ZB a2;obtain⟨a5,rfl⟩:=Wz a4;refine qa σ Hf H ρ s da s1 _ e1 e2 e3 a1 fun x jM H1 g1 jW r1=>?_;refine qb σ jM H1 ρ s1 db _ _ g1.fh (e2.ext g1.ff) jW a3 fun y jX H2 g2 jV r2=>?_;have r1:=r1.ext g2.ff;have fin:∀v c,d=c->vD v=some c->Q v H2:=fun v c ec h=>by
  subst ec;exact k v jX H2 (g1.trans g2) jV (ZlL h) (fun z=>by cases z)
 match da,a5,r1 with
 | .dk kvs,a5,r1=>
  obtain⟨p,rfl,np,hp⟩:=jj.mp r1;have a5:(match Xs db with | some k=>(Z6 kvs k).bind vD | none=>none)=some d:=a5
  cases ek:Xs db with
  | none=>rw[ek] at a5;cases a5
  | some ky=>
   rw[ek] at a5;obtain⟨v,ev,e6⟩:=yE.mp a5;have ey:=U5 ek r2;subst ey;refine⟨p,v,rfl,?_,fin v d rfl e6⟩;rw[<-ev];exact X6.k (g2.fh _ _ np hp)
 | .df kvs,a5,r1=>
  obtain⟨p,o,rfl,np,hp⟩:=jt.mp r1;have a5:(match Xs db with | some k=>(Z6 kvs k).bind vD | none=>none)=some d:=a5
  cases ek:Xs db with
  | none=>rw[ek] at a5;cases a5
  | some ky=>
   rw[ek] at a5;obtain⟨v,ev,e6⟩:=yE.mp a5;have ey:=U5 ek r2;subst ey;exact⟨p,v,rfl,.inl ⟨kvs,ky,.inr ⟨o,g2.fh _ _ np hp⟩,rfl,ev.symm⟩,fin v d rfl e6⟩
 | .du kvs,a5,r1=>
  obtain⟨p,rfl,np,hp⟩:=jm.mp r1
  match db,a5,r2 with
  | .tup ks,a5,r2=>
   have a5:(match Xp ks with | some k=>(Z6 kvs k).bind vD | none=>none)=some d:=a5;obtain⟨q,vs,rfl,nq,hq,rq⟩:=jc.mp r2
   cases ek:Xp ks with
   | none=>rw[ek] at a5;cases a5
   | some ky=>
    rw[ek] at a5;obtain⟨v,ev,e6⟩:=yE.mp a5;have ey:=U0 ek rq;subst ey;refine⟨p,v,rfl,?_,fin v d rfl e6⟩;rw[<-ev];exact X6.t (g2.fh _ _ np hp) (g2.fh _ _ nq hq)
 | .dt kvs,a5,r1=>
  obtain⟨p,o,rfl,np,hp⟩:=jl.mp r1
  match db,a5,r2 with
  | .tup ks,a5,r2=>
   have a5:(match Xp ks with | some k=>(Z6 kvs k).bind vD | none=>none)=some d:=a5;obtain⟨q,vs,rfl,nq,hq,rq⟩:=jc.mp r2
   cases ek:Xp ks with
   | none=>rw[ek] at a5;cases a5
   | some ky=>
    rw[ek] at a5;obtain⟨v,ev,e6⟩:=yE.mp a5;have ey:=U0 ek rq;subst ey;exact⟨p,v,rfl,.inr ⟨kvs,ky,q,.inr ⟨o,g2.fh _ _ np hp⟩,rfl,g2.fh _ _ nq hq,ev.symm⟩,fin v d rfl e6⟩
end
section
variable {X:Cx}{G:Gh}{ob:List Nat}{fr:Bool}
end
section
variable {X:Cx}{G:Gh}{ob own:List Nat}{fr:Bool}
end
section
variable {X:Cx}{G:Gh}{ob own:List Nat}{fr:Bool}
theorem Zb5 {pos:Pos}:PD X G true (.Dict [] [] pos) (dC (.dk [])):=by
 refine⟨_,ZkR,fun σ Hf H ρ s d s' Q e1 e2 e3 e4 k=>?_⟩;obtain⟨rfl,rfl⟩:=ZW e4;intro p hp;have nf:=Gh.nofp e3 hp;have g2:=Gr.new (o:=.dK []) e1 hp nf;exact k (.ref p) _ _ g2 (Gh.grow e3 hp) (jj.mpr ⟨p,rfl,nf,Z8⟩) fun _ a ea _=>by cases ea;exact⟨hp,fun ds ed=>by cases ed⟩
def VO (i:Nat)(fx fv:Zb->M D):Zb->M Out:=fun ρ=>Zn (fv ρ) fun v=>Zn (fx ρ) fun x=>match (ρ[i]?).bind id with
 | some (.dk kvs)=>match Xs x,Wc v with | some k,some w=>if kvs.length<sizeLine then Zx (.nx (ρ.set i (some (.dk (Yo kvs k w))))) else ZC | _,_=>ZC
 | _=>ZC
theorem ZlM {r1 r2:Bool}{i:Nat}{x:Str}{ex ev:Expr}{p1 p2 pos:Pos}{fx fv:Zb->M D}{tx tv:TE}(hu:X.A.units+1<cLine)(hi:i∈own)(hn:PE X (.Name x p1) (Y1 i))(px:PE X ex tx)(yx:VT G own r1 tx fx)(pv':PE X ev tv)(yv:VT G own r2 tv fv)
  (hs:swapsWith ev (some (.Subscript (.Name x p1) ex p2)) pos.line X.env=pure false) :
  Xi X G ob own own fr (.Assign [.Subscript (.Name x p1) ex p2] ev pos) (VO i fx fv):=by
 refine⟨_,ZiL hu hn px pv' hs,fun kn jU H0 σ H ρ s out s' E ⟨Hf,j⟩ st e po=>?_⟩;obtain⟨v,s1,a1,a2⟩:=ZB e;obtain⟨xx,s2,a3,a4⟩:=ZB a2;refine yv kn jU H0 σ Hf H ρ s v s1 _ j st a1 fun w jM H1 j1 e1 e2 jW r1 _=>?_
 cases hb:(ρ[i]?).bind id with
 | none=>rw[hb] at a4;cases a4
 | some c=>
  rw[hb] at a4
  cases c with
  | dk kvs=>
   have a4':(match Xs xx,Wc v with | some k,some w=>if kvs.length<sizeLine then Zx (Out.nx (ρ.set i (some (.dk (Yo kvs k w))))) else ZC | _,_=>ZC) s2=some (out,s'):=a4
   cases hk:Xs xx with
   | none=>rw[hk] at a4';cases a4'
   | some k=>
    cases hw:Wc v with
    | none=>rw[hk,hw] at a4';cases a4'
    | some w'=>
     rw[hk,hw] at a4';obtain⟨hl,a5⟩:=Xw a4';obtain⟨rfl,rfl⟩:=ZW a5;have ei:=Zfj hb;obtain⟨a,h1,h2,h3,h4,h5⟩:=j1.ow i _ hi ei;refine⟨_,h1,?_⟩;refine yx kn jU H0 σ jM H1 ρ s1 _ _ _ j1 jW a3 fun w2 jX H2 j2 e3 e4 jV r2 _=>?_;obtain⟨a',h1',h2',h3',h4',h5'⟩:=j2.ow i _ hi ei;rw[h1] at h1';cases h1';have ek:=U5 hk r2;subst ek;have ew:=Zbx hw r1;subst ew;refine⟨a,_,rfl,W5.k (k:=k) (show H2 a=some (.dK kvs) from h5') (by omega),?_⟩;exact po σ _ ⟨jX,j2.put hi ei h1 (show Zo H2 a (.dK (Yo kvs k w)) a=some (.dK (Yo kvs k w)) from Z8)⟩ (jy jV h2)
  | _=>cases a4
theorem Zby {r1 r2:Bool}{i:Nat}{x:Str}{ex ev:Expr}{p1 p2 pos:Pos}{fx fv:Zb->M D}(hu:X.A.units+1<cLine)(hi:i∈own)(hn:PE X (.Name x p1) (Y1 i))(hx:PD X G r1 ex fx)(hv:PD X G r2 ev fv)
  (hs:swapsWith ev (some (.Subscript (.Name x p1) ex p2)) pos.line X.env=pure false:=by rfl) :
  Xi X G ob own own fr (.Assign [.Subscript (.Name x p1) ex p2] ev pos) (VO i (fun ρ=>fx (Ye own ρ)) (WW r2 fv)):=by
 obtain⟨tv,pv',qv⟩:=hv;obtain⟨tx,px,qx⟩:=hx;have yv:W8 G r2 tv fv:=qv;have yx:W8 G r1 tx fx:=qx;exact ZlM hu hi hn px yx.a pv' yv.b hs
def Wh (n:Int)(r:List Int):Int:=r.foldl min n
theorem Znp (r:List Int):∀n,Wh n r<=n/\∀a∈r,Wh n r<=a:=by
 induction r with
 | nil=>intro n;exact⟨qb6 _,by simp⟩
 | cons b r ih=>
  intro n;obtain⟨h1,h2⟩:=ih (min n b);refine⟨?_,fun a ha=>?_⟩
  ·show Wh (min n b) r<=n;omega
  ·show Wh (min n b) r<=a
   rcases qq.mp ha with rfl | ha
   ·omega
   ·exact h2 a ha
theorem ZlN (r:List Int):∀n,Wh n r∈n::r:=by
 induction r with
 | nil=>intro n;simp[Wh]
 | cons b r ih=>
  intro n;have h:=ih (min n b);show Wh (min n b) r∈n::b::r;rcases qq.mp h with h | h
  ·rw[h]
   rcases Int.le_total n b with z | z
   ·rw[Int.min_eq_left z];simp
   ·rw[Int.min_eq_right z];simp
  ·exact qU _ (qU _ h)
theorem ZgQ {n M:Int}{r:List Int}(h1:M∈n::r)(h2:∀a∈n::r,M<=a):M=Wh n r:=by
 obtain⟨g1,g2⟩:=Znp r n;have g3:=h2 _ (ZlN r n);have g4:Wh n r<=M:=by
  rcases qq.mp h1 with h | h
  ·rw[h];exact g1
  ·exact g2 M h
 omega
def ZlO:List D->Option D
 | [.lst ds]=>match ZM ds with | some (n::r)=>some (.int (Wh n r)) | _=>none
 | _=>none
theorem Zj3 (hc:X.calm=true):Y9 X (.builtin "min") (fun xs H Q=>∃p n r,xs=[.ref p]/\ZH X.K H p ((n::r).map V.int)/\Q (.int (Wh n r)) H):=by
 intro jE s σ H xs us Q I r h;obtain⟨p,n,rr,rfl,hp,q⟩:=h;obtain⟨u,rfl,ru⟩:=Xl r
 cases ru
 obtain⟨jG,rv,pl,hz⟩:=I.list hp;have hi:IntsAre jG (n::rr):=Wx rv;obtain⟨xs,e⟩:=hi.allInts.items;have hns:n::rr=xs.toList.map (·.1):=by rw[<-hi.numsOf,<-nums_intItems,<-e]
 have hl:=pl.isList;rw[e] at hl;have hsz:0<xs.size:=by
  have h3:0<(n::rr).length:=by simp
  rw[hns,qd,zb] at h3;exact h3
 refine min_intList (I.ok.hd hc) hl hsz fun v h' tk hv hk=>?_;obtain⟨t,rfl⟩:=intItems_at hv;obtain⟨h1,h2⟩:=argBest_lt (numAt xs) (xs.size-1);have e2:numAt xs (argBest (fun i j=>decide (numAt xs i<numAt xs j)) (xs.size-1))=Wh n rr:=by
  refine ZgQ ?_ fun a ha=>?_
  ·rw[hns,numAt_eq];exact getD_mem (by rw[qd,zb];omega)
  ·rw[hns] at ha
   obtain⟨j,hj,rfl⟩:=mem_getD ha;rw[qd,zb] at hj;rw[<-numAt_eq];exact h2 j (by omega)
 rw[e2];exact⟨.int (Wh n rr),H,I.kept (t':=tk) hk,⟨_,rfl⟩,q⟩
theorem Zh8 (hc:X.calm=true):XO X G (.builtin "min") ZlO:=
 ⟨_,Zj3 hc,fun Hf H s xs ds c Q e1 st r q k=>by
  match ds,q,r with
  | [.lst es],q,r=>
   have q:(match ZM es with | some (n::r)=>some (D.int (Wh n r)) | _=>none)=some c:=q
   cases he:ZM es with
   | none=>rw[he] at q;cases q
   | some ns=>
    cases ns with
    | nil=>rw[he] at q;cases q
    | cons n rr=>
     rw[he] at q
     cases q
     obtain⟨v,rfl,rv⟩:=jg r;obtain⟨p,vs,rfl,np,hp,rp⟩:=jb.mp rv;rw[Wo he] at rp;rw[jk rp] at hp;exact⟨p,n,rr,rfl,ZH.of (e1 _ _ np hp),k _ Hf H (.refl e1) st (ja.mpr rfl) (.scal fun z=>z)⟩⟩
def ZoW (K:qm):V->List V->Hp->VK->Prop:=fun x vs H Q=>∃(p:Addr) (ns:List Int) (k:Int),x=.ref p/\vs=[.int k]/\ZH K H p (ns.map V.int)/\k∈ns/\Q (.int (ns.idxOf k:Nat)) H
theorem ZlP : MtR X "list.index" (ZoW X.K) := by
  intro jE s σ H x xs v us Q I rx rv h;obtain⟨p, ns, k, rfl, rfl, hp, hk, q⟩ := h
  cases rx
  obtain⟨u, rfl, t, rfl⟩ := Xl rv;obtain⟨jG, r2, pl, hz⟩ := I.list hp;have hi : IntsAre jG ns := Wx r2;obtain⟨⟨c0, d0, dat, sl0⟩, hob, hcl, n0, hdat⟩ := id pl.isList;simp only at hcl hdat;subst hcl hdat;have l1 := hi.length;have l2 : ns.idxOf k < ns.length := by rw[zW]; exact hk
  have l3 : ns.length <= sizeLine := by simpa using hz
  have l4 := BI;have go := SeqAt.list_indexAt p jG.toArray n0 d0 sl0 (.int k t) (isInt k) (ns.idxOf k) (by simpa[l1] using l2) (by omega)
    (by show isInt k jG[ns.idxOf k] = true
        rw[isInt_at k hi (ns.idxOf k) (by omega) l2]; simpa using qak l2)
    (fun j hjs hlt => by
        show isInt k jG[j] = false;rw[isInt_at k hi j (by simpa using hjs) (by have : j < ns.idxOf k := hlt; omega)]; exact ne_of_lt_idxOf hlt _)
  refine call_meets qbo ⟨_, hob, rfl⟩ PySem.F.entry_list_index (PySem.F.args_list_index_2 _ _) go ⟨hob, fun y hy => (eq_isInt k t hi y (by simpa using hy)).at _ _, ?_⟩;exact⟨.int (ns.idxOf k : Nat), H, I.tok _, ⟨_, rfl⟩, q⟩
def Zfx:D->D->Option D
 | .lst ds,.int k=>(ZM ds).bind fun ns=>if k∈ns then some (.int (ns.idxOf k:Nat)) else none
 | _,_=>none
theorem ZlQ {o e:Expr}{ap cp:Pos}{r1 r2:Bool}{fo fe:Zb->M D}(ho:PD X G r1 o fo)(he:PD X G r2 e fe)
  (hbase:attributeBase o "index" X.env (eval o X.env)=eval o X.env:=by rfl)
  (hfew:((backTo cp (starEach [e] X.env)).all (fun x=>!x.1)&&(backToKw cp (keywordEach [] X.env)).all (fun x=>x.1.isSome)
   && decide ([e].length+([]:List Keyword).length+(if ([]:List Keyword).isEmpty then 0 else 1)<30))=true:=by rfl)
  (hline:(ap.endLine==cp.line)=true:=by rfl) (hs:starEach [e] X.env=(false,eval e X.env)::starEach [] X.env:=by rfl) :
  PD X G true (.Call (.Attribute o "index" ap) [e] [] cp) (Zd Zfx fo fe):=by
 obtain⟨to,po,qo⟩:=ho.drop;obtain⟨te,pe,qe⟩:=he.drop;refine⟨_,ZnM qbl qbo PySem.F.type_list_index ZlP po (Y6 pe XC hs) hbase hfew hline hs rfl,fun σ Hf H ρ s d s' Q e1 e2 e3 e4 k=>?_⟩;obtain⟨da,s1,a1,a2⟩:=ZB e4;obtain⟨db,s2,a3,a4⟩:=ZB a2;obtain⟨a5,rfl⟩:=Wz a4;refine qo σ Hf H ρ s da s1 _ e1 e2 e3 a1 fun x jM H1 g1 jW r1=>?_
 match da,db,a5,r1,a3 with
 | .lst ds,.int kk,a5,r1,a3=>
  have a5:((ZM ds).bind fun ns=>if kk∈ns then some (D.int (ns.idxOf kk:Nat)) else none)=some d:=a5
  cases he:ZM ds with
  | none=>rw[he] at a5;cases a5
  | some ns=>
   rw[he] at a5;have a5:(if kk∈ns then some (D.int (ns.idxOf kk:Nat)) else none)=some d:=a5;split at a5
   ·rename_i hmem
    cases a5
    obtain⟨p,vs,rfl,np,hp,rp⟩:=jb.mp r1;refine⟨.inl ⟨rfl,vs,ZH.of (g1.fh _ _ np hp)⟩,?_⟩;refine qe σ jM H1 ρ s1 _ _ _ g1.fh (e2.ext g1.ff) jW a3 fun y jX H2 g2 jV r2=>?_;rw[Wo he] at rp;rw[jk rp] at hp
    cases (ja.mp r2)
    exact⟨p,ns,kk,rfl,rfl,ZH.of (g2.fh _ _ np (g2.ff _ _ np hp)),hmem,k _ jX H2 (g1.trans g2) jV (ja.mpr rfl) fun _=>.scal fun z=>z⟩
   ·cases a5
end
section
variable {X:Cx}{G:Gh}{ob own:List Nat}{fr:Bool}
theorem ZlR {pos:Pos}:PD X G true (.Dict [] [] pos) (dC (.du [])):=by
 refine⟨_,ZkS,fun σ Hf H ρ s d s' Q e1 e2 e3 e4 k=>?_⟩;obtain⟨rfl,rfl⟩:=ZW e4;intro p hp;have nf:=Gh.nofp e3 hp;have g2:=Gr.new (o:=.dT []) e1 hp nf;exact k (.ref p) _ _ g2 (Gh.grow e3 hp) (jm.mpr ⟨p,rfl,nf,Z8⟩) fun _ a ea _=>by cases ea;exact⟨hp,fun ds ed=>by cases ed⟩
def keyT:D->Option (List Zy)
 | .tup ks=>Xp ks
 | _=>none
def BU (i:Nat)(fx fv:Zb->M D):Zb->M Out:=fun ρ=>Zn (fv ρ) fun v=>Zn (fx ρ) fun x=>match (ρ[i]?).bind id with
 | some (.du kvs)=>match keyT x,Wc v with | some k,some w=>if kvs.length<sizeLine then Zx (.nx (ρ.set i (some (.du (Yo kvs k w))))) else ZC | _,_=>ZC
 | _=>ZC
theorem Zj4 {r1 r2:Bool}{i:Nat}{x:Str}{ex ev:Expr}{p1 p2 pos:Pos}{fx fv:Zb->M D}{tx tv:TE}(hu:X.A.units+1<cLine)(hi:i∈own)(hn:PE X (.Name x p1) (Y1 i))(px:PE X ex tx)(yx:VT G own r1 tx fx)(pv':PE X ev tv)(yv:VT G own r2 tv fv)
  (hs:swapsWith ev (some (.Subscript (.Name x p1) ex p2)) pos.line X.env=pure false) :
  Xi X G ob own own fr (.Assign [.Subscript (.Name x p1) ex p2] ev pos) (BU i fx fv):=by
 refine⟨_,ZiL hu hn px pv' hs,fun kn jU H0 σ H ρ s out s' E ⟨Hf,j⟩ st e po=>?_⟩;obtain⟨v,s1,a1,a2⟩:=ZB e;obtain⟨xx,s2,a3,a4⟩:=ZB a2;refine yv kn jU H0 σ Hf H ρ s v s1 _ j st a1 fun w jM H1 j1 e1 e2 jW r1 _=>?_
 cases hb:(ρ[i]?).bind id with
 | none=>rw[hb] at a4;cases a4
 | some c=>
  rw[hb] at a4
  cases c with
  | du kvs=>
   have a4':(match keyT xx,Wc v with | some k,some w=>if kvs.length<sizeLine then Zx (Out.nx (ρ.set i (some (.du (Yo kvs k w))))) else ZC | _,_=>ZC) s2=some (out,s'):=a4
   cases hk:keyT xx with
   | none=>rw[hk] at a4';cases a4'
   | some k=>
    cases hw:Wc v with
    | none=>rw[hk,hw] at a4';cases a4'
    | some w'=>
     rw[hk,hw] at a4';obtain⟨hl,a5⟩:=Xw a4';obtain⟨rfl,rfl⟩:=ZW a5;have ei:=Zfj hb;obtain⟨a,h1,h2,h3,h4,h5⟩:=j1.ow i _ hi ei;refine⟨_,h1,?_⟩;refine yx kn jU H0 σ jM H1 ρ s1 _ _ _ j1 jW a3 fun w2 jX H2 j2 e3 e4 jV r2 _=>?_;obtain⟨a',h1',h2',h3',h4',h5'⟩:=j2.ow i _ hi ei;rw[h1] at h1';cases h1';have ew:=Zbx hw r1;subst ew
     match xx,hk,r2 with
     | .tup ks,hk,r2=>
      obtain⟨q,vs,rfl,nq,hq,rq⟩:=jc.mp r2;have ey:=U0 (show Xp ks=some k from hk) rq;subst ey;refine⟨a,_,rfl,W5.t (k:=k) (show H2 a=some (.dT kvs) from h5') (j2.gr.fh _ _ nq hq) (by omega),?_⟩;exact po σ _ ⟨jX,j2.put hi ei h1 (show Zo H2 a (.dT (Yo kvs k w)) a=some (.dT (Yo kvs k w)) from Z8)⟩ (jy jV h2)
  | _=>cases a4
theorem Zh9 {r1 r2:Bool}{i:Nat}{x:Str}{ex ev:Expr}{p1 p2 pos:Pos}{fx fv:Zb->M D}(hu:X.A.units+1<cLine)(hi:i∈own)(hn:PE X (.Name x p1) (Y1 i))(hx:PD X G r1 ex fx)(hv:PD X G r2 ev fv)
  (hs:swapsWith ev (some (.Subscript (.Name x p1) ex p2)) pos.line X.env=pure false:=by rfl) :
  Xi X G ob own own fr (.Assign [.Subscript (.Name x p1) ex p2] ev pos) (BU i (fun ρ=>fx (Ye own ρ)) (fun ρ=>fv (Ye own ρ))):=by
 obtain⟨tv,pv',qv⟩:=hv;obtain⟨tx,px,qx⟩:=hx;have yv:W8 G r2 tv fv:=qv;have yx:W8 G r1 tx fx:=qx;exact Zj4 hu hi hn px yx.a pv' yv.a hs
end
end TF
namespace HT
theorem ZlS:isSubtype (.type "tuple") (.type "set")=pure false:=by rw[isSubtype_type];kernel_rfl
theorem ZgR:isSubtype (.type "tuple") (.type "frozenset")=pure false:=by rw[isSubtype_type];kernel_rfl
section
variable {prog:Program}{w:World}{A:Around}{E:Value->Shared->Prop}{s:Shared}
abbrev Vt (led:Bool):Obj:={ cls:=.type "set",dict:=none,data:=.set #[] 0 (.fresh 0 0 led) }
set_option maxHeartbeats 3200000 in
theorem set_of_tuple {l:Addr}{items:Array Value}{ns:List Int}{Q:Value->Shared->Prop}(hh:A.handled=none)(hl:s.heap.IsTuple l items)(hi:IntsAre items.toList ns)(hb:items.size+1<scanBound)
  (h:∀(h':Heap) (tk:Nat),h'.SetOf (intKind prog w) s.heap.objs.size (fun k'=>(firstMet (fun i=>ns.getD i 0) items.size).any (· == k')) (firstMet (fun i=>ns.getD i 0) items.size).length->(∀b o,b<s.heap.objs.size->s.heap.get? b=some o->h'.get? b=some o)->Q (.ref s.heap.objs.size) { s with heap:=h',toks:=tk }) :
  wpAny (model prog w) A (call (.type "set") [.ref l]) Q E s:=by
 obtain⟨c,tl,hmro⟩:=zX.mro;have hmade:=zX.made;have hsub:=zX.sub;refine wpAny_call (codeAny_of_tree ?_);show wpAny _ _ (callAny (.type "set") _) _ _ _;refine wpAny_pure ⟨Code.quiet_builtin _ (by decide +kernel),codeAny_builtin PySem.F.entry_type_call ?_⟩;rw[Around.under_plain (weight_type_call_type "set" [.ref l] []) rfl];have h1:=zX.notType;have h2:=zX.canCreate;have hct:=PySem.F.typeCall_set_1 (.ref l)
 repeat (any_goals (first | assumption | wp_step))
 refine codeAny_mono (code_set_new_1 (.ref l) (E:=E) (Q₁:=fun obj s₁=>∃led:Bool,obj=.ref s.heap.objs.size/\s₁ = { s with heap:=s.heap.push (Vt led) }) fun led=>⟨led,rfl,rfl⟩) fun r s₁ hr=>?_
 cases r with
 | error e=>exact hr
 | ok fl=>
  cases fl with
  | ret obj=>
   obtain⟨led,rfl,rfl⟩:=hr;have hS:(s.heap.push (Vt led)).get? s.heap.objs.size=some (Vt led):=qz _ rfl;have hT:Shared.TypeIs { s with heap:=s.heap.push (Vt led) } (.ref s.heap.objs.size) "set":=⟨_,hS,rfl⟩;have hli:=zX.init.lookup;have hbi:=zX.init.bind (.ref s.heap.objs.size)
   repeat (any_goals (first | assumption | wp_step))
   refine codeAny_mono (codeAny_call_builtin (R:=wants (fun r s₂=>r=.none/\∃h' tk,s₂ = { s with heap:=h',toks:=tk }/\h'.SetOf (intKind prog w) s.heap.objs.size (fun k'=>(firstMet (fun i=>ns.getD i 0) items.size).any (· == k')) (firstMet (fun i=>ns.getD i 0) items.size).length/\(∀b o,b<s.heap.objs.size->s.heap.get? b=some o->h'.get? b=some o)) E) zX.init.plain PySem.F.entry_set_init (check_set_init_1 hT ?_)) fun r₂ s₂ hr₂=>?_
   ·obtain⟨ol,hol,hcl,nl,hdl⟩:=hl;obtain⟨ocls,odict,odata,oslots⟩:=ol
    simp only at hcl hdl;subst hcl;subst hdl;have hol':(s.heap.push (Vt led)).get? l=some { cls:=.type "tuple",dict:=odict,data:=.seq items nl,slots:=oslots }:=qf _ hol;have z1:=ZlS;have z2:=ZgR;have hne:(yu "tuple" == yu "dict")=false:=by decide
    have hl1:(s.heap.push (Vt led)).IsTuple l items:=⟨_,hol',rfl,nl,rfl⟩;unfold Builtin.«set.__init__» noKeywords Builtin.Frozenset.updateFrom;generalize hPI:pyIter=PI
    wp_walk
    subst hPI;refine wpAny_pyIter_tuple hl1 ?_;refine wpAny_bind (wpAny_runValue ?_);have hlS:l<s.heap.objs.size:=qG hol;have hh3:A.in1.in1.in1.handled=none:=by simp[hh]
    have hneI:l≠(s.heap.push (Vt led)).objs.size:=by rw[yb];exact qN (zH hlS)
    have hSf:s.heap.objs.size∉[(s.heap.push (Vt led)).objs.size,l]:=by
     rw[yb];simp only[qq,qQ,zd,or_false,not_or];exact⟨qN (yX _),yU hlS⟩
    have hval:∀(i:Nat) (v:Value),items[i]?=some v->∃t,v=.int ((fun i=>ns.getD i 0) i) t:=fun i v hv=>IntsAre.int_at hi i v (by rw[Array.getElem?_toList];exact hv);refine codeAny_set_update_loopS ((qb7 hh3 _ l hneI items).toS) s.heap.objs.size hSf (fun i=>ns.getD i 0) hval hb (items.size-0) 0 _ (by omega) (za _) ⟨⟨_,qz _ rfl,rfl,rfl⟩,(hl1.push _)⟩ ?hS0 ?hR
    case hS0=>
     have hget:((s.heap.push (Vt led)).push { cls:=.type "tuple_iterator",data:=.fields #[.ref l,.int 0 0] }).get? s.heap.objs.size=some (Vt led):=qf _ hS;exact SetOf_congr ((setObjOf_fresh (knd:=intKind prog w) led).setOf hget (by unfold scanBound;omega)) (fun _=>rfl) rfl
    case hR=>
     intro s' hm hS';obtain⟨h',g',d',tk',os'⟩:=s';have eg:g'=s.gens:=hm.gens;have ed:d'=s.drawn:=hm.drawn;have eo:os'=s.os:=hm.os;subst eg;subst ed;subst eo;show wpAny _ _ _ _ _ _;refine wpAny_pure ?_;show wpAny _ _ (ret qR) _ _ _;refine wpAny_pure ⟨rfl,h',tk',rfl,hS',fun b o hb e=>?_⟩;have hb1:b≠s.heap.objs.size:=qN hb;have hb2:b≠(s.heap.push (Vt led)).objs.size:=by rw[yb];exact qN (zH hb)
     exact hm.heap b o (by simp only[qq,qQ,zd,or_false,not_or];exact⟨hb1,hb2⟩) (qf _ (qf _ e))
   ·cases r₂ with
    | error e=>exact hr₂
    | ok fl₂=>
     cases fl₂ with
     | ret r=>
      obtain⟨rfl,h',tk,rfl,hS',hk'⟩:=hr₂;repeat (any_goals (first | assumption | wp_step))
      exact h _ _ hS' hk'
     | next=>exact hr₂.elim
     | brk=>exact hr₂.elim
     | cont=>exact hr₂.elim
  | next=>exact hr.elim
  | brk=>exact hr.elim
  | cont=>exact hr.elim
end
end HT
namespace TF
open L2
section
variable {X:Cx}{G:Gh}
def XW (ns:List Int):Nat:=(ns.foldl step_dedup []).length
theorem Zc6 (ns:List Int)(n:Nat)(h:n=ns.length):firstMet (fun i=>ns.getD i 0) n=ns.foldl step_dedup []:=by
 unfold firstMet;congr 1;subst h;apply qat;intro i;rw[qy];by_cases hi:i<ns.length
 ·rw[zE hi,qk hi]
  simp[qj,qk hi]
 ·rw[yd (by simp;omega:(qp ns.length).length<=i),yd (by omega)]
  rfl
theorem Zj5 (hc:X.calm=true):Y9 X (.type "set") (fun xs H Q=>∃(p:Addr) (ns:List Int),xs=[.ref p]/\(ZH X.K H p (ns.map V.int)∨ZT X.K H p (ns.map V.int))/\ns.length<=1000/\∀l S,H l=none->Q (.ref l) (Zo H l (.set S (XW ns)))):=by
 intro jE s σ H xs us Q I r h;obtain⟨p,ns,rfl,hp,hl,q⟩:=h;obtain⟨u,rfl,ru⟩:=Xl r
 cases ru
 have hsb:(1000:Nat)+1<scanBound:=by unfold scanBound;omega
 have fin:∀(items:Array Value) (_:IntsAre items.toList ns) (h':Heap) (tk:Nat),h'.SetOf (intKind X.prog X.w) s.heap.objs.size (fun k'=>(firstMet (fun i=>ns.getD i 0) items.size).any (· == k')) (firstMet (fun i=>ns.getD i 0) items.size).length->(∀b o,b<s.heap.objs.size->s.heap.get? b=some o->h'.get? b=some o)->EP X jE σ Q (.ref s.heap.objs.size) { s with heap:=h',toks:=tk }:=fun items hi h' tk hS hk=>by
  have e:firstMet (fun i=>ns.getD i 0) items.size=ns.foldl step_dedup []:=Zc6 ns _ (by rw[<-hi.length,zb]);rw[e] at hS;exact⟨.ref s.heap.objs.size,_,I.laid (a:=s.heap.objs.size) (o:=.set (fun k'=>(ns.foldl step_dedup []).any (· == k')) (XW ns)) (t':=tk) (fun b o e=>hk b o (qG e) e) (qu _) hS,rfl,q _ _ (I.hok.fresh (qu _))⟩
 rcases hp with hp | hp
 ·obtain⟨jG,rv,pl,hz⟩:=I.list hp
  have hi:IntsAre jG ns:=Wx rv;have hll:=hi.length;exact call_set_list (I.ok.hd hc) pl.isList (by simpa using hi) (by simp;omega) (fin jG.toArray (by simpa using hi))
 ·obtain⟨jG,rv,pl,hz⟩:=I.tuple hp
  have hi:IntsAre jG ns:=Wx rv;have hll:=hi.length;exact HT.set_of_tuple (I.ok.hd hc) (show s.heap.IsTuple p jG.toArray from pl) (by simpa using hi) (by simp;omega) (fin jG.toArray (by simpa using hi))
theorem ZgS:Y9 X (.builtin "len") (fun xs H Q=>∃(p:Addr) (S:Int->Bool) (n:Nat),xs=[.ref p]/\H p=some (.set S n)/\n<=1000/\Q (.int n) H):=by
 intro jE s σ H xs us Q I r h;obtain⟨p,S,n,rfl,hp,hn,q⟩:=h;obtain⟨u,rfl,ru⟩:=Xl r
 cases ru
 obtain⟨o,es,ep,t,h1,h2,h3,h4,h5,h6,h7,h8⟩:=(show s.heap.SetOf (intKind X.prog X.w) p S n from I.hok p _ hp);refine call_len_set h1 h2 h3 h7 (by omega) ?_;rw[h8];exact⟨.int n,H,I.tok _,⟨_,rfl⟩,q⟩
theorem Znq (ns:List Int):∀jL:List Int,(ns.foldl step_dedup jL).length<=jL.length+ns.length:=by
 induction ns with
 | nil=>intro jL;simp
 | cons a r ih=>
  intro jL;have h:=ih (step_dedup jL a);have:(step_dedup jL a).length<=jL.length+1:=by unfold step_dedup;split <;> simp
  show(r.foldl step_dedup (step_dedup jL a)).length<=_;simp only[qY];omega
theorem Zj6 (ns:List Int):XW ns<=ns.length:=by
 have:=Znq ns [];simpa[XW] using this
def Zdq (f:Zb->M D):Zb->M D:=fun ρ=>Zn (f ρ) fun d=>match d with
 | .tup ds=>(match ZM ds with | some ns=>if ns.length<=1000 then Zx (.int (XW ns:Nat)) else ZC | none=>ZC)
 | .lst ds=>(match ZM ds with | some ns=>if ns.length<=1000 then Zx (.int (XW ns:Nat)) else ZC | none=>ZC)
 | _=>ZC
theorem Zj7 {a:Expr}{p1 p2 pos1 pos:Pos}{r1:Bool}{f:Zb->M D}(hc:X.calm=true)(hg:Gl X "len")(hm:X.mg "len" = none)(hv:bootBuiltins "len" = some (.builtin "len"))(hg2:Gl X "set")(hm2:X.mg "set" = none)(hv2:bootBuiltins "set" = some (.type "set"))(ha:PD X G r1 a f)
  (hs:starEach [a] X.env=(false,eval a X.env)::starEach [] X.env:=by rfl)
  (hs2:starEach [Expr.Call (.Name "set" p2) [a] [] pos1] X.env=(false,eval (Expr.Call (.Name "set" p2) [a] [] pos1) X.env)::starEach [] X.env:=by rfl) (hpl:(backTo pos (starEach [] X.env)).any (·.1)=false:=by rfl) (hpl1:(backTo pos1 (starEach [] X.env)).any (·.1)=false:=by rfl) :
  PD X G true (.Call (.Name "len" p1) [.Call (.Name "set" p2) [a] [] pos1] [] pos) (Zdq f):=by
 obtain⟨t,pa,qa⟩:=ha.drop;refine⟨_,JP ZgS hg hm hv (Y6 (Zbw (Zj5 hc) hg2 hm2 hv2 (Y6 pa XC hs) (by decide) (by decide) hs hpl1) XC hs2) (by decide) (by decide) hs2 hpl,fun σ Hf H ρ s d s' Q e1 e2 e3 e4 k=>?_⟩;obtain⟨d0,s1,a1,a2⟩:=ZB e4;refine qa σ Hf H ρ s d0 s1 _ e1 e2 e3 a1 fun v jM H1 g1 jW r1=>?_;have go:∀ns:List Int,(if ns.length<=1000 then Zx (D.int (XW ns:Nat)) else ZC) s1=some (d,s')->(∃p,v=.ref p/\(ZH X.K H1 p (ns.map V.int)∨ZT X.K H1 p (ns.map V.int)))->∃(p:Addr) (ns:List Int),[v]=[.ref p]/\(ZH X.K H1 p (ns.map V.int)∨ZT X.K H1 p (ns.map V.int))/\ns.length<=1000/\∀l S,H1 l=none->∃(p:Addr) (S':Int->Bool) (n:Nat),[V.ref l]=[.ref p]/\Zo H1 l (.set S (XW ns)) p=some (.set S' n)/\n<=1000/\Q (.int n) (Zo H1 l (.set S (XW ns))):=fun ns h ⟨p,ev,hp⟩=>by
  obtain⟨hl,h⟩:=Xw h;obtain⟨rfl,rfl⟩:=ZW h;have hu:=Zj6 ns;refine⟨p,ns,by rw[ev],hp,hl,fun l S hn=>⟨l,S,XW ns,rfl,Z8,by omega,?_⟩⟩;have nf:=Gh.nofp jW hn;have g2:=Gr.new (o:=.set S (XW ns)) g1.fh hn nf;exact k _ _ _ (g1.trans g2) (Gh.grow jW hn) (ja.mpr rfl) fun _=>.scal fun z=>z
 match d0,a2,r1 with
 | .tup ds,a2,r1=>
  have a2:(match ZM ds with | some ns=>if ns.length<=1000 then Zx (D.int (XW ns:Nat)) else ZC | none=>ZC) s1=some (d,s'):=a2
  cases he:ZM ds with
  | none=>rw[he] at a2;cases a2
  | some ns=>
   rw[he] at a2;obtain⟨p,vs,rfl,np,hp,rp⟩:=jc.mp r1;rw[Wo he] at rp;rw[jk rp] at hp;exact go ns a2 ⟨p,rfl,.inr (ZT.of (g1.fh _ _ np hp))⟩
 | .lst ds,a2,r1=>
  have a2:(match ZM ds with | some ns=>if ns.length<=1000 then Zx (D.int (XW ns:Nat)) else ZC | none=>ZC) s1=some (d,s'):=a2
  cases he:ZM ds with
  | none=>rw[he] at a2;cases a2
  | some ns=>
   rw[he] at a2;obtain⟨p,vs,rfl,np,hp,rp⟩:=jb.mp r1;rw[Wo he] at rp;rw[jk rp] at hp;exact go ns a2 ⟨p,rfl,.inl (ZH.of (g1.fh _ _ np hp))⟩
theorem Zfy (ns:List Int):(ns.foldl step_dedup []).Nodup/\∀x,x∈ns.foldl step_dedup []↔x∈ns:=by
 have gen:∀(r jL:List Int),jL.Nodup->(r.foldl step_dedup jL).Nodup/\∀x,x∈r.foldl step_dedup jL↔x∈jL∨x∈r:=by
  intro r
  induction r with
  | nil=>intro jL h;exact⟨h,fun x=>by simp⟩
  | cons a r ih=>
   intro jL h;show(r.foldl step_dedup (step_dedup jL a)).Nodup/\∀x,x∈r.foldl step_dedup (step_dedup jL a)↔_;by_cases m:jL.any (· == a)=true
   ·have e:step_dedup jL a=jL:=by unfold step_dedup;rw[if_pos m]
    rw[e];obtain⟨h1,h2⟩:=ih jL h;obtain⟨y,hy,ey⟩:=qbf.mp m;have ey:y=a:=by simpa using ey
    subst ey;refine⟨h1,fun x=>?_⟩;rw[h2 x];constructor
    ·rintro(z | z)
     ·exact .inl z
     ·exact .inr (qU _ z)
    ·rintro(z | z)
     ·exact .inl z
     ·rcases qq.mp z with z | z
      ·subst z;exact .inl hy
      ·exact .inr z
   ·have e:step_dedup jL a=jL ++ [a]:=by unfold step_dedup;rw[if_neg m]
    rw[e];have na:a∉jL:=fun z=>m (qbf.mpr ⟨a,z,by simp⟩);obtain⟨h1,h2⟩:=ih (jL ++ [a]) (qav.mpr ⟨h,by simp,fun x hx y hy=>by
     have:=qQ.mp hy;subst this;exact fun z=>na (z▸hx)⟩)
    refine⟨h1,fun x=>?_⟩;rw[h2 x];simp only[zg,qq,zd,or_false];constructor
    ·rintro((z | z) | z)
     ·exact .inl z
     ·exact .inr (.inl z)
     ·exact .inr (.inr z)
    ·rintro(z | z | z)
     ·exact .inl (.inl z)
     ·exact .inl (.inr z)
     ·exact .inr z
 obtain⟨h1,h2⟩:=gen ns [] qao;exact⟨h1,fun x=>by rw[h2 x];simp⟩
end
end TF
namespace HT
section
variable {prog:Program}{w:World}{A:Around}{R:Result->Shared->Prop}{I:Addr}{fp wr:List Addr}{n:Nat}{P:Nat->Value->Prop}{St:Nat->Heap->Prop}
end
section
variable {prog:Program}{w:World}{A:Around}{E:Value->Shared->Prop}{s:Shared}
end
section
variable {prog:Program}{w:World}{A:Around}{R:Result->Shared->Prop}{I:Addr}{fp wr:List Addr}{n:Nat}{P:Nat->Value->Prop}{St:Nat->Heap->Prop}
end
section
variable {prog:Program}{w:World}{A:Around}{E:Value->Shared->Prop}{s:Shared}
end
end HT
namespace L2
section
variable {X:Cx}
theorem Zen {M:Model}{h:Heap}{id:String}:PySem.W.Looks M h (keeperOf (.builtin id)) qbE:=fun A Q E s _ q=>by
 show wpAny M A (pure qbE) Q E s;exact wpAny_pure q
end
end L2
namespace TF
open L2
section
variable {X:Cx}{G:Gh}
end
end TF
namespace TS
open L2
section
variable {prog:Program}{w:World}{A:Around}{E:Value->Shared->Prop}{s:Shared}
end
end TS
namespace TF
open L2 TS
section
variable {X:Cx}{G:Gh}
end
end TF
namespace TP2
open L2 TF TP
end TP2
namespace TP3
open L2 TF TP
open TP2
end TP3
namespace TP3
open L2 TF TP
open TP2
end TP3
namespace TP3
open L2 TF TP
open TP2
def Zfz:Zb->M Out:=(Zh (ZF (Zw ZlO (Zc (Yg [none,some 0] (Y0 (Zd Y4 (Zw YR (Zc (Za 0) Zg)) (dC (.int 1)))) (ZE 0) (Zz (Zd W3 (Za 0) (Za 1))) (Za 0)) Zg)))
 Zl)
def JG:List D->M D:=runB 1 1 Zfz
end TP3
namespace TP3
open L2 TF TP
open TP2
end TP3
namespace TP3
open L2 TF TP
open TP2
def ZfA:Zb->M Out:=(Zh (Wr 1 (dC (.du [])))
 (Zh (Y2 (fun ρ=>(XR (Zd Zj (Za 0) (dC (.int 1)))) (Ye [1] ρ)) (ZE 2)
 (Zh (BU 1 (fun ρ=>(Za 2) (Ye [1] ρ)) (fun ρ=>(dC (.bl true)) (Ye [1] ρ)))
 Zl))
 (Zh (Ya 3 (fun ρ=>(Xf (Zc (Yr Zg) Zg)) (Ye [1] ρ)))
 (Zh (Y2 (Y0 (Zd Zj (Za 0) (dC (.int 0)))) (ZE 4)
 (Zh (Wr 5 (Xf Zg))
 (Zh (Y2 (fun ρ=>(Yk (Za 3)) (Ye [5] ρ)) (ZE 6)
 (Zh (Yn (Zz (Zd W3 (dC (.bl false)) (Yg [none,some 4,some 1] (XR (Za 6)) (ZE 0) Yq (Zd YZ (Yr (Zc (Za 0) (Zc (Za 1) Zg))) (Za 2)))))
 (Zh (VU 5 (fun ρ=>(Zd Y4 (Za 6) (Yr (Zc (Za 4) Zg))) (Ye [5] ρ)))
 Zl)
 Zl)
 Zl))
 (Zh (Ya 3 (Zd Y4 (Za 3) (Za 5)))
 Zl))))
 (Zh (ZF (Za 3))
 Zl)))))
def ZaC:List D->M D:=runB 7 1 ZfA
def ZdP:Zb->M Out:=(Zh (Y2 (Y0 (Zw YR (Zc (Za 1) Zg))) (ZE 2)
 (Zh (Y2 (XR (Zlp (Za 1) ZnT (ZnU (Za 2)))) (ZE 3)
 (Zh (Yn (XY (Zz (Zv Us (Zc (Za 0) (Zc (Za 3) (Zc (Zd Zj (Za 1) (Za 2)) Zg))))))
 (Zh (ZF (dC (.bl false)))
 Zl)
 Zl)
 Zl))
 Zl))
 (Zh (ZF (dC (.bl true)))
 Zl))
def Zak:List D->M D:=runB 4 2 ZdP
def ZbF:Zb->M Out:=(Zh (Yn (Wk (XY (Zz (Zw Vo (Zc (Za 1) (Zc (dC (.ty "tuple")) Zg))))) (Zz (Zd Xg (Zdq (Za 1)) (Zw YR (Zc (Za 1) Zg)))))
 (Zh (ZF (dC (.bl false)))
 Zl)
 Zl)
 (Zh (Y2 (XR (Za 1)) (ZE 2)
 (Zh (Yn (Wk (XY (Zz (Zw Vo (Zc (Za 2) (Zc (dC (.ty "int")) Zg))))) (Wk (Zz (Zw Vo (Zc (Za 2) (Zc (dC (.ty "bool")) Zg)))) (XY (Je (dC (.int 0)) (Jm XS (Za 2) (Jl W9 (Zd Zj (Za 0) (dC (.int 0)))))))))
 (Zh (ZF (dC (.bl false)))
 Zl)
 Zl)
 Zl))
 (Zh (ZF (Ui (Zd Ys (Zw ZnR (Zc (Za 1) Zg)) (Zw ZdM (Zc (Za 1) Zg))) (Zv Zak (Zc (Za 0) (Zc (Za 1) Zg)))))
 Zl)))
def Bf:List D->M D:=runB 3 2 ZbF
end TP3
namespace TP3
open L2 TF TP
open TP2
end TP3
namespace TP3
open L2 TF TP
open TP2
end TP3
namespace TQ
open L2 TF TQ
open TP
open TP2
open TP3
def Zj8:Zb->M Out:=(Zh (ZF (Ui (Zd W9 (Zd Zj (Za 0) (dC (.int 0))) (Zd Zj (Za 1) (dC (.int 1)))) (Zd W9 (Zd Zj (Za 1) (dC (.int 0))) (Zd Zj (Za 0) (dC (.int 1))))))
 Zl)
def Zj9:List D->M D:=runB 2 2 Zj8
def Zb6:Zb->M Out:=(Zh (ZF (Ba (Zd Ys (Za 1) (Za 2)) (Zv Wy (Zc (Za 0) (Zc (Za 1) (Zc (Za 2) Zg))))))
 Zl)
def ZaI:List D->M D:=runB 3 3 Zb6
def ZfB:List D->M D:=runB 4 4 (Zh (Yn (Zz (Zd Ys (Zd Zj (Za 0) (dC (.int 0))) (Zd Zj (Za 1) (dC (.int 0)))))
 (Zh (ZF (Zv Wy (Zc (Zd Zj (Za 2) (Zd Zj (Za 0) (dC (.int 0)))) (Zc (Zd Zj (Za 0) (dC (.int 1))) (Zc (Zd Zj (Za 1) (dC (.int 1))) Zg)))))
 Zl)
 Zl)
 (Zh (ZF (Zv Wy (Zc (Za 3) (Zc (Zd Zj (Za 0) (dC (.int 0))) (Zc (Zd Zj (Za 1) (dC (.int 0))) Zg)))))
 Zl))
def Zb7:List D->M D:=WK 3 (J7 (Zv Wy (Zc (Za 2) (Zc (Za 0) (Zc (Za 1) Zg)))))
def ZdQ:List D->M D:=runB 4 4 (Zh (ZF (Ui (Zv ZaI (Zc (Za 2) (Zc (Zd Zj (Za 0) (dC (.int 0))) (Zc (Zd Zj (Za 1) (dC (.int 0))) Zg)))) (Zv ZaI (Zc (Za 3) (Zc (Zd Zj (Za 0) (dC (.int 1))) (Zc (Zd Zj (Za 1) (dC (.int 1))) Zg))))))
 Zl)
def Zax:List D->M D:=WK 3 (Zv Wy (Zc (Za 2) (Zc (Za 0) (Zc (Za 1) Zg))))
def ZdR:List D->M D:=WK 3 (Zd Xg (Zd UN (Za 0) (Za 2)) (Zd UN (Za 1) (Za 2)))
def Zb8:List D->M D:=WK 4 (Zd YZ (Zw Jk (Zc (Zd We (Za 1) (Za 0)) (Zc (Zd Y4 (Zd We (Za 2) (Za 1)) (Za 0)) Zg))) (Za 3))
def Tl:Nat->List D->M D
 | 0=>Zb7
 | 1=>Zax
 | 2=>Zj9
 | 3=>ZfB
 | 4=>ZdQ
 | 6=>ZdR
 | 7=>Zb8
 | _=>fun _=>ZC
def ZgT:Zb->M Out:=(Zh (Ya 2 (Zv Bp (Zc (V4 (Zw YR (Zc (Za 0) Zg))) Zg)))
 (Zh (ZF (Yr (Zc (Zw YR (Zc (Za 0) Zg)) (Zc (Zw WN (Zc (Yg [none,some 1,some 0] (Yk (Za 2)) (ZE 0) (Zz (BZ Tl 1 (Zc (Zd Zj (Za 2) (Zd Zj (Za 0) (dC (.int 0)))) (Zc (Zd Zj (Za 2) (Zd Zj (Za 0) (dC (.int 1)))) Zg)))) (Za 0)) Zg)) Zg))))
 Zl))
def UZ:List D->M D:=runB 3 2 ZgT
def ZlT:Zb->M Out:=(Zh (Ya 1 (Zv V2 (Zc (Za 0) Zg)))
 (Zh (ZF (B0 UZ 0 [1] (V4 (Zd Zj (Za 0) (dC (.int 0))))))
 Zl))
def JQ:List D->M D:=runB 2 1 ZlT
def Zc7:Zb->M Out:=(Zh (Ya 2 (Zv V2 (Zc (Za 0) Zg)))
 (Zh (ZF (B0 UZ 1 [2] (Za 1)))
 Zl))
def Zaf:List D->M D:=runB 3 2 Zc7
def ZoX:Zb->M Out:=(Zh (ZF (Zv Zaf (Zc (Za 0) (Zc (Za 1) Zg))))
 Zl)
def ZfC:List D->M D:=runB 2 2 ZoX
end TQ
namespace TF
open L2
def Zia (K:qm)(L:List (Addr×Str)):Sp:=fun vs H Q _=>∃(a:Addr) (ns:List Int),vs=[.ref a]/\ZH K H a (ns.map V.int)/\ns.length<=63/\(∀P q,(P,q)∈L->H P=some (.tbl #[]))/\∀H',Q (.bl true) H'
theorem Zib {L:List (Addr×Str)}{tb:List (Str×Addr×Addr)}{H:Hp}(h:∀P q,(P,q)∈L->∃x c,(x,c,P)∈tb)(hT:∀e∈tb,H e.2.2=some (.tbl #[])):∀P q,(P,q)∈L->H P=some (.tbl #[]):=fun P q m=>by
 obtain⟨x,c,z⟩:=h P q m;exact hT _ z
theorem ZpM {G0:Gh}{L:List (Addr×Str)}{H:Hp}(h:∀P q,(P,q)∈L->H P=some (.tbl #[])):∀P q,(P,q)∈L->ZnW G0 L P q H:=fun P q m=>⟨#[],h P q m,trivial,fun pos cv hc=>by cases hc⟩
theorem ZlU {K:qm}{L:List (Addr×Str)}{N:List Str}{H:Hp}{a p:Addr}{ns:List Int}{g:Zb->M Out}{Q:VK}{n:Nat}{s':Pn}(sq:ZH K H a (ns.map V.int))(hTb:∀P q,(P,q)∈L->H P=some (.tbl #[]))(hp:H p=none)(hk:K.lookup p=none)(hQ:∀H',Q (.bl true) H')
  (hg:g (none::some .pen::zC n none) ([0,0],ns)=some (.rt (.bl true),s')) :
  ∃G,X8 (Wt K) L G/\Zli G [] [] [] false g { nx:=fun _ H'=>Q .non H',rt:=Q } (some (.ref a)::some (.ref p)::zC n none) (Zo H p (.lst [.ref a,.int 0,.int 0])):=by
 have main:∀tr:Bool,(tr=true->∃o,H a=some o/\∀ps,o≠.tbl ps)->(tr=false->∀H':Hp,ZH K H' a (ns.map V.int))->a≠p->∃G,X8 (Wt K) L G/\Zli G [] [] [] false g { nx:=fun _ H'=>Q .non H',rt:=Q } (some (.ref a)::some (.ref p)::zC n none) (Zo H p (.lst [.ref a,.int 0,.int 0])):=by
  intro tr t1 t2 ne;refine⟨Jn (UO K p a tr) L,⟨UO K p a tr,⟨p,a,tr,rfl⟩,fun b ⟨q,mb⟩ hb=>?_,rfl⟩,fun _=>none,fun _=>none,Zo H p (.lst [.ref a,.int 0,.int 0]),none::some .pen::zC n none,([0,0],ns),_,s',⟨fun _=>none,⟨by simp,.refl _ _,.refl (fun b o _ e=>by cases e),fun i d _ e=>?_,fun i d m=>by simp at m,fun i j b di dj m=>by simp at m⟩⟩,⟨⟨0,0,rfl,Z8,ne,?_,fun ht=>?_,t2⟩,ZpM fun P q z=>?_⟩,hg,fun v Hf' H' g st r _=>?_⟩
  ·have e:=hTb b q mb
   rcases hb with rfl | ⟨ht,rfl⟩
   ·rw[hp] at e;cases e
   ·obtain⟨o,z1,z2⟩:=t1 ht
    rw[e] at z1;cases z1;exact z2 _ rfl
  ·match i,e with
   | 0,e=>cases e
   | 1,e=>cases e;exact⟨_,rfl,jq.mpr rfl⟩
   | i+2,e=>
    have e':(zC n (none:Option D))[i]?=some (some d):=e;rw[yD] at e';split at e' <;> cases e'
  ·exact ZoT sq hp
  ·obtain⟨o,q,_⟩:=t1 ht
   exact⟨o,by rw[Zu ne];exact q⟩
  ·rw[Zu (Z5 (hTb P q z) hp)];exact hTb P q z
  ·rw[jd.mp r]
   exact hQ H'
 have hne:∀o,H a=some o->a≠p:=fun o e z=>by rw[z,hp] at e;cases e
 rcases sq with(q | ⟨o,q⟩) | q
 ·exact main true (fun _=>⟨_,q,fun _ z=>by cases z⟩) (fun z=>by cases z) (hne _ q)
 ·exact main true (fun _=>⟨_,q,fun _ z=>by cases z⟩) (fun z=>by cases z) (hne _ q)
 ·by_cases e:a=p
  ·obtain⟨o,_,_,q1,_⟩:=q
   rw[e,hk] at q1;cases q1
  ·exact main false (fun z=>by cases z) (fun _ H'=>.inr q) e
theorem lok_nd:∀{L:List (Addr×Str)},(L.map (·.1)).Nodup->Wm L
 | [],_=>fun P q q' h=>by simp at h
 | (a,b)::L,nd=>fun P q q' h1 h2=>by
  rw[qW,zD] at nd;rcases qq.mp h1 with e1 | m1
  ·cases e1
   rcases qq.mp h2 with e2 | m2
   ·cases e2;rfl
   ·exact absurd (yB (f:=(·.1)) m2) nd.1
  ·rcases qq.mp h2 with e2 | m2
   ·cases e2;exact absurd (yB (f:=(·.1)) m1) nd.1
   ·exact lok_nd nd.2 P q q' m1 m2
theorem ZlV:∀ds s d s',Xt ds s=some (d,s')->Xq ds=true/\YQ d=true:=fun ds s d s' h=>by
 unfold Xt at h;split at h
 ·split at h
  ·cases h;exact⟨rfl,rfl⟩
  ·cases h
 ·cases h
end TF
namespace TT
section
variable {M:Model}{A:Around}{E:Value->Shared->Prop}{s:Shared}
end
end TT
namespace TT
section
variable (rk:Keyed->Int)
variable {rk}{a b out:Array Keyed}{ia ib:Nat}
end
end TT
namespace TT
section
variable {M:Model}{A:Around}{E:Value->Shared->Prop}{s:Shared}
variable {rk:Keyed->Int}{κ:SortKind}{In:Keyed->Prop}
end
end TT
namespace TT
section
variable (rk:Keyed->Int)
variable {rk}{a b out:Array Keyed}{na nb:Nat}
end
section
variable {M:Model}{A:Around}{E:Value->Shared->Prop}{s:Shared}{rk:Keyed->Int}{κ:SortKind}{In:Keyed->Prop}
end
end TT
namespace TT
section
variable {M:Model}{A:Around}{E:Value->Shared->Prop}{s:Shared}{rk:Keyed->Int}{κ:SortKind}{In:Keyed->Prop}
end
end TT
namespace TT
section
variable (rk:Keyed->Int)
end
section
variable {rk:Keyed->Int}
end
section
variable {M:Model}{A:Around}{E:Value->Shared->Prop}{s:Shared}{rk:Keyed->Int}{κ:SortKind}{In:Keyed->Prop}
end
end TT
namespace TT
section
variable {M:Model}{A:Around}{E:Value->Shared->Prop}{s:Shared}{rk:Keyed->Int}{κ:SortKind}{In:Keyed->Prop}
end
end TT
namespace TT
section
variable {M:Model}{A:Around}{E:Value->Shared->Prop}{s:Shared}{rk:Keyed->Int}{κ:SortKind}{In:Keyed->Prop}{a₀:List Keyed}
end
end TT
namespace TT
section
variable {M:Model}{A:Around}{E:Value->Shared->Prop}{s:Shared}{rk:Keyed->Int}{κ:SortKind}{In:Keyed->Prop}{a₀:List Keyed}
end
end TT
namespace TT
open L2 TS
open Classical in
section
variable {prog:Program}{w:World}{A:Around}{E:Value->Shared->Prop}{s:Shared}
end
end TT
namespace TF
open L2
section
variable {X:Cx}{G:Gh}
end
end TF
namespace L2
section
variable {X:Cx}{tg:Expr}
end
end L2
namespace TF
open L2
section
variable {X:Cx}{G:Gh}{ob own:List Nat}{fr:Bool}
end
end TF
namespace TF
open L2
open Sem (wp)
section
variable {prog:Program}{w:World}{A:Around}{E:Value->Shared->Prop}{s:Shared}
def ZfD (n:Nat)(a c:Int)(jL:Array Value):Prop:=
 ItemsOf (fun i v=>∃t,v=.int (a+i*c) t) jL n
theorem ZgU {Q : List Value -> Shared -> Prop}{r : Addr}{a b c : Int}{t u v : Tok}{n : Nat}
    (hh : A.handled = none) (hr : IsRange s.heap r a b c t u v)
    (hsmall : Builtin.Range.small a b c = true) (hn : yC a b c = n)
    (jO : n <= 2 ^ 24)
    (hQ : ∀ (h' : Heap) (tk : Nat) (jL : Array Value), (∀ b o', s.heap.get? b = some o' -> h'.get? b = some o') ->
      ZfD n a c jL -> Q jL.toList { s with heap := h', toks := tk }) :
    wpAny (model prog w) A (collect (.ref r)) Q E s := by
  unfold collect;apply wpAny_bind;apply wpAny_runValue;apply codeAny_builtin F.entry_proto_collect;rw[yY
    F.plain_proto_collect _]
  show wpAny _ A.in1 (newList [] >>= fun z =>
    again (.builtin "list.__iadd__" ⟨[z, .ref r], []⟩)) _ _ s
  apply wpAny_bind;refine wpAny_newObj_type ?_;refine wpAny_pure ⟨plainId_quiet
    F.plain_list_iadd _, codeAny_builtin
    F.entry_list_iadd ?_⟩
  rw[yY
    F.plain_list_iadd _]
  show wpAny _ A.in1 (yW
    (.ref s.heap.objs.size) (.ref r)
    (.ref s.heap.objs.size)) _ _ _
  have h0 : (s.heap.push
      { cls := .type "list", data := .seq ([] : List Value).toArray }).get?
      s.heap.objs.size = some { cls := .type "list", data := .seq #[] 0 } :=
    qz _ rfl
  have fin' : ∀ (h' : Heap) (tk : Nat) (jL : Array Value) (k : Nat),
      (∀ b o', s.heap.get? b = some o' -> h'.get? b = some o') ->
      h'.get? s.heap.objs.size = some
        { cls := .type "list", dict := none, data := .seq jL k, slots := #[] } ->
      ZfD n a c jL -> wpAny (model prog w) A (match qK s.heap.objs.size with
        | qK a => do
          match (<- load a).data with
            | Data.seq xs _ => pure xs.toList
            | _ => unsupported "internal:collect"
        | _ => unsupported "internal:collect") Q E { s with heap := h', toks := tk } := by
    intro h' tk jL k kp hS hi;show wpAny _ A (load s.heap.objs.size >>= _) _ _ _;refine wpAny_bind (wpAny_load hS ?_);exact wpAny_pure (hQ h' tk jL kp hi)
  refine wpAny_mono (wpAny_extend_range (A := A)
    (R := fun r s' => r = .ok (.ret (.ref s.heap.objs.size)) /\
      ∃ h' tk jL k, (∀ b o', s.heap.get? b = some o' -> h'.get? b = some o') /\
        h'.get? s.heap.objs.size = some
          { cls := .type "list", dict := none, data := .seq jL k, slots := #[] } /\ ZfD n a c jL /\
        s' = { s with heap := h', toks := tk })
    (s := { s with heap := (s.heap.push
      { cls := .type "list", data := .seq ([] : List Value).toArray }) }) hh
    (qf _ hr) hsmall hn jO _ _ 0 h0
    fun h' tk acc' c' hk hS' hacc => ⟨rfl, h', tk, acc', c', fun b o e => hk b o (qN
      (qG e)) (qf _ e), hS', hacc, rfl⟩)
    (fun fin s' h => ?_) (fun e s' h => ?_)
  · cases fin with
    | done f =>
      obtain⟨e, h', tk, jL, k, kp, hS, hi, rfl⟩ := h
      cases e
      exact fin' h' tk jL k kp hS hi
    | again c' =>
      refine⟨h.1, codeAny_mono h.2
        fun r s'' hr => ?_⟩
      obtain⟨rfl, h', tk, jL, k, kp, hS, hi, rfl⟩ := hr;exact fin' h' tk jL k kp hS hi
  · exact absurd h.1 (by simp)
end
variable {X:Cx}{G:Gh}{f:Zb->M D}
end TF
namespace HT
end HT
namespace HT
section
variable {prog:Program}{w:World}
variable (prog w) in
variable {A:Around}{E:Value->Shared->Prop}{s:Shared}
end
end HT
namespace HT
namespace FS
end FS
section
variable {prog:Program}{w:World}{A:Around}{E:Value->Shared->Prop}{s:Shared}
end
end HT
namespace HT
section
variable {prog:Program}{w:World}{A:Around}{E:Value->Shared->Prop}{s:Shared}
variable {a:Addr}{o:Obj}{es:Array (Int×Value)}{ep:Nat}{t:SetTable}
namespace FS
end FS
end
end HT
namespace HT
section
variable {prog:Program}{w:World}{A:Around}{E:Value->Shared->Prop}{s:Shared}
variable {a:Addr}{o:Obj}{es:Array (Int×Value)}{ep:Nat}{t:SetTable}
end
end HT
namespace HT
section
variable {prog:Program}{w:World}{A:Around}{E:Value->Shared->Prop}{s:Shared}
variable {a:Addr}{o:Obj}{es:Array (Int×Value)}{ep:Nat}{t:SetTable}
end
end HT
namespace TF
open L2
section
variable {X:Cx}{G:Gh}
end
section
variable {X:Cx}{G:Gh}{ob own:List Nat}{fr:Bool}{f:Zb->M D}
end
end TF
namespace TT
open L2 TS
section
variable {prog:Program}{w:World}{A:Around}{E:Value->Shared->Prop}{s:Shared}
end
end TT
namespace TS
open L2
section
variable {prog:Program}{w:World}{A:Around}{E:Value->Shared->Prop}{s:Shared}
end
end TS
namespace TF
open L2 TS
section
variable {X:Cx}{G:Gh}
end
end TF
namespace TF
open L2 TT
section
variable {X:Cx}{G:Gh}
end
end TF
namespace TQ
open L2 TF TQ
open TP
open TP2
open TP3
end TQ
namespace TF
open L2
section
variable {X:Cx}{G:Gh}{f g:Zb->M D}
end
end TF
namespace TQ
open L2 TF
end TQ
namespace TF
open L2
section
variable {X:Cx}{G:Gh}
end
theorem boot_sum:bootBuiltins "sum" = some (.builtin "sum"):=by decide +kernel
section
variable {X:Cx}{G:Gh}
def Vy (ns:List Int):Bool:=ns.all fun n=>decide (-4294967296<=n)&&decide (n<=4294967296)
theorem ZgV {ns:List Int}(h:Vy ns=true):∀j:Nat,-(4294967296*(j:Int))<=(ns.take j).sum/\(ns.take j).sum<=4294967296*(j:Int):=by
 intro j
 induction ns generalizing j with
 | nil=>rw[List.take_nil];show _<=(0:Int)/\(0:Int)<=_;omega
 | cons n r ih=>
  cases j with
  | zero=>rw[yk];show _<=(0:Int)/\(0:Int)<=_;omega
  | succ j=>
   unfold Vy at h;simp only[List.all_cons,qL,decide_eq_true_eq] at h;have:=ih h.2 j;rw[List.take_succ_cons,y6];omega
def Jv:List D->Option D
 | [.lst ds]=>match ZM ds with | some ns=>if Vy ns=true then some (.int ns.sum) else none | none=>none
 | _=>none
theorem Zka (hc:X.calm=true):Y9 X (.builtin "sum") (fun xs H Q=>∃p ns,xs=[.ref p]/\ZH X.K H p (ns.map V.int)/\Vy ns=true/\Q (.int ns.sum) H):=by
 intro jE s σ H xs us Q I r h;obtain⟨p,ns,rfl,hp,ok,q⟩:=h;obtain⟨u,rfl,ru⟩:=Xl r
 cases ru
 obtain⟨jG,rv,pl,hz⟩:=I.list hp;have hi:IntsAre jG ns:=Wx rv;obtain⟨xs,e⟩:=hi.allInts.items;have hns:ns=xs.toList.map (·.1):=by rw[<-hi.numsOf,<-nums_intItems,<-e]
 have hl:=pl.isList;rw[e] at hl;have jO:ns.length=xs.size:=by rw[hns,qd,zb]
 have hz2:ns.length<=16777216:=by
  have:=hz;rw[qd] at this;rw[show sizeLine=16777216 by decide] at this;exact this
 refine sum_intList (I.ok.hd hc) hl (fun j hj=>?_) fun h' tk t' hk=>?_
 ·rw[preSum_eq,<-hns]
  have h1:=ZgV ok (j+1);have h2:-4294967296<=numAt xs j/\numAt xs j<=4294967296:=by
   rw[numAt_eq,<-hns];have hm:ns.getD j 0∈ns:=getD_mem (by omega);have:=zo.mp ok _ hm;simp only[qL,decide_eq_true_eq] at this;exact this
  constructor
  ·constructor <;> omega
  ·constructor <;> omega
 ·rw[preSum_eq,<-hns,<-jO,zN]
  exact⟨.int ns.sum,H,I.kept (t':=tk) hk,⟨_,rfl⟩,q⟩
theorem Zbz (hc:X.calm=true):XO X G (.builtin "sum") Jv:=
 ⟨_,Zka hc,fun Hf H s xs ds c Q e1 st r q k=>by
  match ds,q,r with
  | [.lst es],q,r=>
   have q:(match ZM es with | some ns=>if Vy ns=true then some (D.int ns.sum) else none | none=>none)=some c:=q
   cases he:ZM es with
   | none=>rw[he] at q;cases q
   | some ns=>
    rw[he] at q;by_cases ok:Vy ns=true
    ·have q:(if Vy ns=true then some (D.int ns.sum) else none)=some c:=q
     rw[if_pos ok] at q
     cases q
     obtain⟨v,rfl,rv⟩:=jg r;obtain⟨p,vs,rfl,np,hp,rp⟩:=jb.mp rv;rw[Wo he] at rp;rw[jk rp] at hp;exact⟨p,ns,rfl,ZH.of (e1 _ _ np hp),ok,k _ Hf H (.refl e1) st (ja.mpr rfl) (.scal fun z=>z)⟩
    ·have q:(if Vy ns=true then some (D.int ns.sum) else none)=some c:=q
     rw[if_neg ok] at q;cases q⟩
end
end TF
namespace TF
open L2 PySem.SeqAt
open AutoSeq1 (wpAny_loadPart')
section
variable {X:Cx}{G:Gh}
end
end TF
namespace TQ
open L2 TF TQ
open TP
open TP2
open TP3
def Zic:Zb->M Out:=(Zh (Ya 1 (Yr (Zc (Zd Zj (Za 0) (dC (.int 0))) (Zc (Zv V2 (Zc (Za 0) Zg)) Zg))))
 (Zh (ZF (Yg [none,some 1] (Y0 (Zd Zj (Za 0) (dC (.int 0)))) (ZE 0) Yq (Zv VJ (Zc (Za 1) (Zc (Za 0) Zg)))))
 Zl))
def Uu:List D->M D:=runB 2 1 Zic
def Zeo:Zb->M Out:=(Zh (ZF (Yg [none,some 0,some 1] (Yk (Za 2)) (ZE 0) (Zz (Zd YZ (Za 0) (Zd Zj (Za 1) (Za 2)))) (Za 0)))
 Zl)
def ZaP:List D->M D:=runB 3 3 Zeo
def ZfE:Zb->M Out:=(Zh (Ya 2 (Zv Uu (Zc (Za 0) Zg)))
 (Zh (Wr 3 (dC (.dk [])))
 (Zh (Y2 (fun ρ=>(Yk (Za 1)) (Ye [3] ρ)) (ZE 4)
 (Zh (VO 3 (fun ρ=>(Za 4) (Ye [3] ρ)) (WW true (Zv JG (Zc (Yg [none,some 3] (Yk (Zd Zj (Za 2) (Za 4))) (ZE 0) (Zz (Zd YZ (Za 0) (Za 1))) (Zd Vp (Za 1) (Za 0))) Zg))))
 Zl))
 (Zh (ZF (Zw WN (Zc (Yg [none,some 3] (Y0 (Zd Zj (Za 0) (dC (.int 0)))) (ZE 0) Yq (Zd Vp (Za 1) (Za 0))) Zg)))
 Zl))))
def ZaD:List D->M D:=runB 5 2 ZfE
end TQ
namespace TF
open L2
section
variable {X:Cx}{G:Gh}
end
section
variable {X:Cx}{G:Gh}
def Ug (fa fb fc:Zb->M D):Zb->M D:=fun ρ=>Zn (fa ρ) fun d=>Zn (fb ρ) fun y=>Zn (fc ρ) fun z=>match d with
 | .dk kvs=>(match Xs y with | some k=>(match Z6 kvs k with | some v=>YF (vD v) | none=>Zx z) | none=>ZC)
 | _=>ZC
theorem Zi4 {a b c:Expr}{apos cpos:Pos}{fa fb fc:Zb->M D}{r1 r2 r3:Bool}(hu:X.A.units+1<cLine)(ha:PD X G r1 a fa)(hb:PD X G r2 b fb)(hc:PD X G r3 c fc)
  (hbase:attributeBase a "get" X.env (eval a X.env)=eval a X.env:=by rfl)
  (hfew:((backTo cpos (starEach [b,c] X.env)).all (fun x=>!x.1)&&(backToKw cpos (keywordEach [] X.env)).all (fun x=>x.1.isSome)
   && decide (([b,c]:List Expr).length+([]:List Keyword).length+(if ([]:List Keyword).isEmpty then 0 else 1)<30))=true:=by rfl)
  (hline:(apos.endLine==cpos.line)=true:=by rfl) (htr:backTo cpos (starEach [b,c] X.env)=[(false,eval b X.env),(false,eval c X.env)]:=by rfl) :
  PD X G false (.Call (.Attribute a "get" apos) [b,c] [] cpos) (Ug fa fb fc):=by
 obtain⟨ta,pa,qa⟩:=ha.drop;obtain⟨tb,pb,qb⟩:=hb.drop;obtain⟨tc,pc,qc⟩:=hc.drop;refine⟨_,ZkU hu pa pb pc ⟨hbase,hfew,hline,htr⟩,fun σ Hf H ρ s d s' Q e1 e2 e3 e4 k=>?_⟩;obtain⟨da,s1,a1,a2⟩:=ZB e4;obtain⟨db,s2,a3,a4⟩:=ZB a2;obtain⟨dc,s3,a5,a6⟩:=ZB a4;refine qa σ Hf H ρ s da s1 _ e1 e2 e3 a1 fun x jM H1 g1 jW r1=>?_
 match da,a6,r1 with
 | .dk kvs,a6,r1=>
  obtain⟨p,rfl,np,hp⟩:=jj.mp r1;have a6:(match Xs db with | some k=>(match Z6 kvs k with | some v=>YF (vD v) | none=>Zx dc) | none=>ZC) s3=some (d,s'):=a6;refine⟨p,rfl,.inl ⟨kvs,.of (g1.fh _ _ np hp)⟩,qb σ jM H1 ρ s1 db _ _ g1.fh (e2.ext g1.ff) jW a3 fun y jX H2 g2 jV r2=>?_⟩;refine qc σ jX H2 ρ s2 dc _ _ g2.fh ((e2.ext g1.ff).ext g2.ff) jV a5 fun z Hf3 H3 g3 st3 r3=>?_;have hp3:H3 p=some (.dK kvs):=g3.fh _ _ np (g3.ff _ _ np (g2.ff _ _ np hp))
  cases ek:Xs db with
  | none=>rw[ek] at a6;cases a6
  | some ky=>
   rw[ek] at a6;have ey:=U5 ek r2;subst ey;refine⟨Z6 kvs ky,.inl ⟨kvs,ky,.of hp3,rfl,rfl⟩,?_⟩;have a6:(match Z6 kvs ky with | some v=>YF (vD v) | none=>Zx dc) s3=some (d,s'):=a6
   cases ev:Z6 kvs ky with
   | none=>
    rw[ev] at a6;obtain⟨rfl,rfl⟩:=ZW a6;exact k z Hf3 H3 ((g1.trans g2).trans g3) st3 r3 (fun z=>by cases z)
   | some v=>
    rw[ev] at a6;obtain⟨a7,rfl⟩:=Wz a6;exact k v Hf3 H3 ((g1.trans g2).trans g3) st3 (ZlL a7) (fun z=>by cases z)
def valφ (v a:Addr):Heap->Prop:=fun h=>h.IsValuesView v a
def ZpN (td:TE):TE:=fun σ H Q=>td σ H fun x H1=>∃a kvs,x=.ref a/\Rd H1 a (.dK kvs)/\∀v,H1 v=none->Q (.ref v) (Zo H1 v (.ext (valφ v a)))
theorem ZeV {o:Expr}{apos cpos:Pos}{td:TE}(ho:PE X o td)(hbase:attributeBase o "values" X.env (eval o X.env)=eval o X.env:=by rfl)
  (hfew:((backTo cpos (starEach [] X.env)).all (fun x=>!x.1)&&(backToKw cpos (keywordEach [] X.env)).all (fun x=>x.1.isSome)
   && decide (([]:List Expr).length+([]:List Keyword).length+(if ([]:List Keyword).isEmpty then 0 else 1)<30))=true:=by rfl)
  (hline:(apos.endLine==cpos.line)=true:=by rfl) (htr:backTo cpos (starEach [] X.env)=[]:=by rfl):PE X (.Call (.Attribute o "values" apos) [] [] cpos) (ZpN td):=by
 intro jE s σ H Q I h;refine wpAny_Call_method hbase hfew hline qbk qbg PySem.F.type_dict_values (ZJ (ho jE s σ H _ I h) fun u s1 ⟨x,H1,I1,rx,a,kvs,ex,d,q1⟩=>?_);subst ex;obtain rfl:u=qK a:=rx;obtain⟨t1,t2,_⟩:=ZkT I1 (.inl ⟨kvs,d⟩);refine⟨t1,t2,?_⟩;rw[htr];refine yQ rfl (PySem.evalArgs_none ?_);obtain⟨z,hd,vs,rel,dd⟩:=Vu I1.hok d;refine call_meetsIn qbg dd.typeIs PySem.F.entry_dict_values (PySem.F.args_dict_values_1 _) (meets_dict_values (XT X.prog X.w) a hd) ⟨⟨vs,dd⟩,?_⟩;refine⟨.ref s1.heap.objs.size,Zo H1 s1.heap.objs.size (.ext (valφ s1.heap.objs.size a)),I1.laid (t':=s1.toks) (fun b u e=>qf _ e) (qu _) ?_,rfl,q1 _ (I1.hok.fresh (qu _))⟩;exact⟨⟨_,qz _ rfl,rfl,rfl⟩,⟨_,qz _ rfl⟩,fun h1 h2 ⟨o,e,c⟩ k=>⟨o,k _ e,c⟩⟩
theorem ZdS {α β:Type}{F:α->β->Prop}:∀{l:List α} {r:List β} {i:Nat} {y:β},Paired F l r->r[i]?=some y->∃x,l[i]?=some x/\F x y
 | _,_,i,y,.nil,h=>by simp at h
 | _,_,0,y,.cons f _,h=>by simp at h;exact⟨_,rfl,by rw[<-h];exact f⟩
 | _,_,i+1,y,.cons _ r,h=>by
  obtain⟨x,h1,h2⟩:=ZdS r (i:=i) (by simpa using h);exact⟨x,by simpa using h1,h2⟩
theorem ZgW:∀{vs:List Value} {ns:List Int} {i:Nat} {u:Value},IntsAre vs ns->vs[i]?=some u->∃n t,ns[i]?=some n/\u=.int n t
 | _,_,_,_,.nil,h=>by simp at h
 | _,_,0,u,.cons n t _,h=>by simp at h;exact⟨n,t,rfl,h.symm⟩
 | _,_,i+1,u,.cons n t r,h=>by
  obtain⟨m,t',h1,h2⟩:=ZgW r (i:=i) (by simpa using h);exact⟨m,t',by simpa using h1,h2⟩
theorem ZcP (ns:List Int):preSum (fun i=>ns.getD i 0) ns.length=ns.sum:=by
 have:∀k,k<=ns.length->preSum (fun i=>ns.getD i 0) k=(ns.take k).sum:=by
  intro k
  induction k with
  | zero=>intro _;rw[yk];rfl
  | succ k ih=>
   intro hk;show preSum (fun i=>ns.getD i 0) k+ns.getD k 0=_;rw[ih (by omega),List.take_add_one,List.sum_append,qk (by omega),qj,qk (by omega)];simp
 have h:=this ns.length (qu _);rw[zN] at h;exact h
theorem ZfF (hc:X.calm=true):Y9 X (.builtin "sum") (fun xs H Q=>∃(v a:Addr) (kvs:List (Zy×V)) (ns:List Int),xs=[.ref v]/\H v=some (.ext (valφ v a))/\Rd H a (.dK kvs)/\kvs.map (·.2)=ns.map V.int/\Q (.int ns.sum) H):=by
 intro jE s σ H xs us Q I r h;obtain⟨v,a,kvs,ns,rfl,hv,hd,hns,q⟩:=h;obtain⟨u,rfl,ru⟩:=Xl r
 cases ru
 obtain⟨z,hy,vs,rel,dd⟩:=Vu I.hok hd;obtain⟨ep,hat⟩:=dd.dictAt;have hvv:s.heap.IsValuesView v a:=(I.hok v _ hv).1;have jO:kvs.length=vs.length:=rel.length;have K:=PySem.W.kdl_values (prog:=X.prog) (w:=X.w) (r:=v) (d:=a) (knd:=XT X.prog X.w) (kvs:=vs) (ep:=ep);refine call_sum_walkAnyS ?_;obtain⟨oI,St,hit,W,st⟩:=K.iter X.A.in1 s (I.ok.hd hc) ⟨hvv,hat⟩;refine hit _ _ ⟨s.heap.objs.size,_,_,_,vs.length,_,_,fun i=>ns.getD i 0,rfl,W.toS,st,fun b hb=>?_,fun i u hu=>?_,fun s' t' hm=>?_⟩
 ·show b<(s.heap.push oI).objs.size
  rw[size_push'];rcases qq.mp hb with e | hb
  ·rw[e];exact yX _
  ·rw[qQ.mp hb];exact zH (K.there _ ⟨hvv,hat⟩).2
 ·obtain⟨k,hx⟩:=hu
  have hi:i<kvs.length:=by rw[jO];exact(qD.mp hx).1
  obtain⟨kv,hkv,rkv⟩:=ZdS rel hx;have e1:(kvs.map (·.2))[i]?=some kv.2:=by rw[qy,hkv];rfl
  rw[hns,qy] at e1
  cases q2:ns[i]? with
  | none=>rw[q2] at e1;cases e1
  | some n=>
   rw[q2] at e1;have e2:V.int n=kv.2:=zf e1;have r2:ZK kv.2 u:=rkv.2;rw[<-e2] at r2;obtain⟨t,rfl⟩:=r2;exact⟨t,by show yV n t=yV (ns.getD i 0) t;rw[qj,q2];rfl⟩
 ·have hk:∀b o,s.heap.get? b=some o->s'.heap.get? b=some o:=fun b o e=>
   hm.heap b o (fun hI=>absurd (qG e) (by rw[qQ.mp hI];exact zY _)) (qf _ e)
  rw[Moved.eq_with hm];have hl2:ns.length=vs.length:=by
   have:=congrArg qay hns;rw[qd,qd] at this;omega
  rw[<-hl2,ZcP];exact⟨.int ns.sum,H,I.kept hk,⟨_,rfl⟩,q⟩
def Vl:List (Zy×V)->Option (List Int)
 | []=>some []
 | (_,.int n)::r=>(Vl r).map (n :: ·)
 | _=>none
theorem ZdT:∀{kvs:List (Zy×V)} {ns:List Int},Vl kvs=some ns->kvs.map (·.2)=ns.map V.int
 | [],ns,h=>by cases h;rfl
 | (k,.int n)::r,ns,h=>by
  obtain⟨m,h1,rfl⟩:=zi.mp h;rw[qW,qW,ZdT h1]
 | (_,.non)::_,_,h=>by cases h
 | (_,.bl _)::_,_,h=>by cases h
 | (_,.str _)::_,_,h=>by cases h
 | (_,.ref _)::_,_,h=>by cases h
 | (_,.ty _)::_,_,h=>by cases h
 | (_,.flt _)::_,_,h=>by cases h
 | (_,.byt _)::_,_,h=>by cases h
def ZdU (f:Zb->M D):Zb->M D:=fun ρ=>Zn (f ρ) fun d=>match d with
 | .dk kvs=>(match Vl kvs with | some ns=>Zx (.int ns.sum) | none=>ZC)
 | _=>ZC
theorem Zid {a:Expr}{p pos apos cpos:Pos}{f:Zb->M D}{r1:Bool}(hc:X.calm=true)(hg:Gl X "sum")(hm:X.mg "sum" = none)(hv:bootBuiltins "sum" = some (.builtin "sum"))(ha:PD X G r1 a f)
  (hbase:attributeBase a "values" X.env (eval a X.env)=eval a X.env:=by rfl)
  (hfew:((backTo cpos (starEach [] X.env)).all (fun x=>!x.1)&&(backToKw cpos (keywordEach [] X.env)).all (fun x=>x.1.isSome)
   && decide (([]:List Expr).length+([]:List Keyword).length+(if ([]:List Keyword).isEmpty then 0 else 1)<30))=true:=by rfl)
  (hline:(apos.endLine==cpos.line)=true:=by rfl) (htr:backTo cpos (starEach [] X.env)=[]:=by rfl)
  (he:starEach [.Call (.Attribute a "values" apos) [] [] cpos] X.env=(false,eval (.Call (.Attribute a "values" apos) [] [] cpos) X.env)::starEach [] X.env:=by rfl) :
  PD X G true (.Call (.Name "sum" p) [.Call (.Attribute a "values" apos) [] [] cpos] [] pos) (ZdU f):=by
 obtain⟨t,pa,qa⟩:=ha.drop;refine⟨_,JP (ZfF hc) hg hm hv (Y6 (ZeV pa hbase hfew hline htr) XC he) (by decide) (by decide) he rfl,fun σ Hf H ρ s d s' Q e1 e2 e3 e4 k=>?_⟩;obtain⟨da,s1,a1,a2⟩:=ZB e4
 match da,a2 with
 | .dk kvs,a2=>
  have a2:(match Vl kvs with | some ns=>Zx (D.int ns.sum) | none=>ZC) s1=some (d,s'):=a2
  cases hn:Vl kvs with
  | none=>rw[hn] at a2;cases a2
  | some ns=>
   rw[hn] at a2;obtain⟨rfl,rfl⟩:=ZW a2;refine qa σ Hf H ρ s _ _ _ e1 e2 e3 a1 fun x jM H1 g1 jW r1=>?_;obtain⟨q,rfl,nq,hq⟩:=jj.mp r1;have hq1:=g1.fh _ _ nq hq;refine⟨q,kvs,rfl,.of hq1,fun v hv=>?_⟩;have hqv:q≠v:=fun z=>by rw[<-z,hq1] at hv;cases hv
   have jV:G.st _ (Zo H1 v (.ext (valφ v q))):=Gh.grow jW hv;have fp:jM v=none:=by
    cases q:jM v with
    | none=>rfl
    | some o=>rw[g1.fh v o (Gh.nofp jW hv) q] at hv;cases hv
   have gA:Gr G jM H1 jM (Zo H1 v (.ext (valφ v q))):=⟨fun b o n q=>by rw[Zu (Z5 q hv)];exact q,.refl _ _,fun b o n q=>by rw[Zu (Z5 q fp)];exact g1.fh b o n q,fun b n h1 h2=>h1⟩;refine⟨v,q,kvs,ns,rfl,Z8,.of (by rw[Zu hqv];exact hq1),ZdT hn,?_⟩;exact k _ jM _ (g1.trans gA) jV (ja.mpr rfl) fun _=>.scal fun z=>z
theorem Zie (hc:X.calm=true):Y9 X (.builtin "sum") (fun xs H Q=>∃(p:Addr) (ns:List Int),xs=[.ref p]/\ZT X.K H p (ns.map V.int)/\Q (.int ns.sum) H):=by
 intro jE s σ H xs us Q I r h;obtain⟨p,ns,rfl,hp,q⟩:=h;obtain⟨u,rfl,ru⟩:=Xl r
 cases ru
 obtain⟨jG,rv,pl,hz⟩:=I.tuple hp;have hi:IntsAre jG ns:=Wx rv;have hl:s.heap.IsTuple p jG.toArray:=pl;have hpl:p<s.heap.objs.size:=by obtain⟨o,ho,_⟩:=hl;exact qG ho
 have hne:p≠s.heap.objs.size:=qN hpl;have hil:jG.length=ns.length:=hi.length;refine call_sum_walkAnyS (wpAny_pyIter_tuple hl ⟨s.heap.objs.size,_,_,_,jG.toArray.size,_,_,fun i=>ns.getD i 0,rfl,(qb7 (A:=X.A.in1) (I.ok.hd hc) _ p hne jG.toArray).toS,⟨⟨_,qz _ rfl,rfl,rfl⟩,hl.push _⟩,fun b hb=>?_,fun i u hu=>?_,fun s' t' hm=>?_⟩)
 ·rw[size_push']
  rcases qq.mp hb with e | hb
  ·rw[e];exact yX _
  ·rw[qQ.mp hb];exact zH hpl
 ·have hx:jG[i]?=some u:=by simpa using hu
  obtain⟨n,t,h1,rfl⟩:=ZgW hi hx;exact⟨t,by show yV n t=yV (ns.getD i 0) t;rw[qj,h1];rfl⟩
 ·have hk:∀b o,s.heap.get? b=some o->s'.heap.get? b=some o:=fun b o e=>
   hm.heap b o (fun hI=>absurd (qG e) (by rw[qQ.mp hI];exact zY _)) (qf _ e)
  rw[Moved.eq_with hm,qE,hil,ZcP];exact⟨.int ns.sum,H,I.kept hk,⟨_,rfl⟩,q⟩
def Zi5:List D->Option D
 | [.tup ds]=>(ZM ds).map fun ns=>.int ns.sum
 | _=>none
theorem ZeW (hc:X.calm=true):XO X G (.builtin "sum") Zi5:=
 ⟨_,Zie hc,fun Hf H s xs ds c Q e1 st r q k=>by
  match ds,q,r with
  | [.tup es],q,r=>
   obtain⟨ns,h1,rfl⟩:=zi.mp (show(ZM es).map (fun ns=>D.int ns.sum)=some c from q);obtain⟨v,rfl,rv⟩:=jg r;obtain⟨p,vs,rfl,np,hp,rp⟩:=jc.mp rv;rw[Wo h1] at rp;rw[jk rp] at hp;exact⟨p,ns,rfl,ZT.of (e1 _ _ np hp),k _ Hf H (.refl e1) st (ja.mpr rfl) (.scal fun z=>z)⟩⟩
end
section
variable {X:Cx}{G:Gh}
theorem Zif (hc:X.calm=true):Y9 X (.builtin "max") (fun xs H Q=>∃p n r,xs=[.ref p]/\ZT X.K H p ((n::r).map V.int)/\Q (.int (Xh n r)) H):=by
 intro jE s σ H xs us Q I r h;obtain⟨p,n,rr,rfl,hp,q⟩:=h;obtain⟨u,rfl,ru⟩:=Xl r
 cases ru
 obtain⟨jG,rv,pl,hz⟩:=I.tuple hp;have hi:IntsAre jG (n::rr):=Wx rv;obtain⟨xs,e⟩:=hi.allInts.items;have hns:n::rr=xs.toList.map (·.1):=by rw[<-hi.numsOf,<-nums_intItems,<-e]
 have hl:s.heap.IsTuple p jG.toArray:=pl;rw[e] at hl;have hsz:0<xs.size:=by
  have h3:0<(n::rr).length:=by simp
  rw[hns,qd,zb] at h3;exact h3
 have hpl:p<s.heap.objs.size:=by obtain⟨o,ho,_⟩:=hl;exact qG ho
 have hne:p≠s.heap.objs.size:=qN hpl;have hn1:(intItems xs).size=xs.size:=by simp[intItems]
 refine call_max_walk (wpAny_pyIter_tuple hl ⟨s.heap.objs.size,_,_,_,_,_,_,rfl,qb7 (A:=X.A.in1) (I.ok.hd hc) _ p hne (intItems xs),⟨⟨_,qz _ rfl,rfl,rfl⟩,hl.push _⟩,fun b hb=>?_,by rw[hn1];exact hsz,CmpOf.ints_gt (numAt xs) (fun _ _=>intItems_at),fun v h' tk hP hk=>?_⟩)
 ·rw[yb]
  rcases qq.mp hb with e1 | hb
  ·rw[e1];exact yX _
  ·rw[qQ.mp hb];exact zH hpl
 ·have hkk:∀b o,s.heap.get? b=some o->h'.get? b=some o:=fun b o eb=>hk b o (fun hm=>qN (qG eb) (qQ.mp hm)) (qf _ eb)
  rw[hn1] at hP;obtain⟨t,rfl⟩:=intItems_at hP;obtain⟨h1,h2⟩:=argBest_gt (numAt xs) (xs.size-1);have e2:numAt xs (argBest (fun i j=>decide (numAt xs i > numAt xs j)) (xs.size-1))=Xh n rr:=by
   refine ZgK ?_ fun a ha=>?_
   ·rw[hns,numAt_eq];exact getD_mem (by rw[qd,zb];omega)
   ·rw[hns] at ha
    obtain⟨j,hj,rfl⟩:=mem_getD ha;rw[qd,zb] at hj;rw[<-numAt_eq];exact h2 j (by omega)
  rw[e2];exact⟨.int (Xh n rr),H,I.kept (t':=tk) hkk,⟨_,rfl⟩,q⟩
def ZlW:List D->Option D
 | [.tup ds]=>match ZM ds with | some (n::r)=>some (.int (Xh n r)) | _=>none
 | _=>none
theorem Zig (hc:X.calm=true):XO X G (.builtin "max") ZlW:=
 ⟨_,Zif hc,fun Hf H s xs ds c Q e1 st r q k=>by
  match ds,q,r with
  | [.tup es],q,r=>
   have q:(match ZM es with | some (n::r)=>some (D.int (Xh n r)) | _=>none)=some c:=q
   cases he:ZM es with
   | none=>rw[he] at q;cases q
   | some ns=>
    cases ns with
    | nil=>rw[he] at q;cases q
    | cons n rr=>
     rw[he] at q
     cases q
     obtain⟨v,rfl,rv⟩:=jg r;obtain⟨p,vs,rfl,np,hp,rp⟩:=jc.mp rv;rw[Wo he] at rp;rw[jk rp] at hp;exact⟨p,n,rr,rfl,ZT.of (e1 _ _ np hp),k _ Hf H (.refl e1) st (ja.mpr rfl) (.scal fun z=>z)⟩⟩
theorem ZdV {M:Model}{A:Around}{E:Value->Shared->Prop}{s:Shared}{β:Type}{a b:Nat}(f:Nat->β->Sem (ForInStep β))(I:Nat->β->Shared->Prop)(Q:β->Shared->Prop)
  (turn:∀i c s,a<=i->i<b->I i c s->wpAny M A (f i c) (fun r s'=>match r with | .yield c'=>I (i+1) c' s' | .done c'=>Q c' s') E s)
  (fin:∀c s,I (max a b) c s->Q c s) (c:β) (h:I a c s):wpAny M A (forIn [a:b] c f) Q E s:=by
 rw[qaB.forIn_eq_forIn_range'];have hsz:([a:b]:qaB).size=b-a:=by simp[qaB.size]
 show wpAny M A (forIn (List.range' a ([a:b]:qaB).size 1) c f) Q E s;rw[hsz];refine wpAny_forIn_list f (fun l c st=>∃i,a<=i/\i<=max a b/\l=List.range' i (max a b-i) 1/\I i c st) Q ?_ ?_ _ c ⟨a,qu _,by omega,by congr 1;omega,h⟩
 ·rintro x rest c st ⟨i,hai,hib,hl,hI⟩
  have hlt:i<max a b:=by
   rcases Nat.lt_or_ge i (max a b) with h' | h'
   ·exact h'
   ·rw[show max a b-i=0 by omega] at hl;simp at hl
  obtain⟨n,hn⟩:∃n,max a b-i=n+1:=⟨max a b-i-1,by omega⟩;rw[hn,List.range'_succ] at hl;obtain⟨rfl,rfl⟩:=qa2 hl;refine wpAny_mono (turn x c st hai (by omega) hI) (fun r s' hr=>?_) fun _ _ e=>e
  cases r with
  | done c'=>exact hr
  | yield c'=>exact⟨x+1,by omega,by omega,by congr 1;omega,hr⟩
 ·rintro c st ⟨i,hai,hib,hl,hI⟩
  have:max a b-i=0:=by
   cases hk:max a b-i with
   | zero=>rfl
   | succ n=>rw[hk,List.range'_succ] at hl;cases hl
  have e:i=max a b:=by omega
  rw[e] at hI;exact fin c st hI
theorem Zep (l:Addr)(items:Array Value)(n:Nat)(dd:Option Addr)(sl:Array (Option Value))(x:Value)(e:Value->Bool)(j:Nat)(hj:j<items.size)
  (hit:e items[j]=true) (hno:∀m (hm:m<items.size),m<j->e items[m]=false) :
  Meets (Builtin.«tuple.index» ⟨[.ref l,x],[]⟩)
   (fun A R s=>s.heap.get? l=some { cls:=.type "tuple",dict:=dd,data:=.seq items n,slots:=sl }/\(∀y,y∈items->yK A.in1 s y x (e y))/\R (.ok (.ret (.int j s.toks))) { s with toks:=s.toks+1 }):=
 .of_wp fun prog w A R s h=>by
  obtain⟨hp,g,d,tk,os⟩:=s;obtain⟨hl,he,h⟩:=h
  wp_walk using wpAny_loadPart' hl,ZdV _ (fun i (c:Option qbq×Unit) s'=>i<=j/\c=(none,())/\s'=⟨hp,g,d,tk,os⟩) _
  case turn=>
   rintro i c s' _ hi ⟨hij,rfl,rfl⟩;have hi':i<items.size:=by omega
   rw[Array.getElem?_eq_getElem hi'];refine wpAny_bind (he _ (Array.getElem_mem hi') prog w _ _ ?_);by_cases ej:i=j
   ·subst ej
    rw[hit]
    wp_walk
    exact⟨_,rfl,h⟩
   ·rw[hno i hi' (by omega)]
    wp_walk
    exact⟨by omega,rfl,rfl⟩
  case fin=>
   rintro c s' ⟨hij,_⟩;omega
  case h=>
   exact⟨za _,rfl,rfl⟩
def Znr (K:qm):V->List V->Hp->VK->Prop:=fun x vs H Q=>∃(p:Addr) (ns:List Int) (k:Int),x=.ref p/\vs=[.int k]/\ZT K H p (ns.map V.int)/\k∈ns/\Q (.int (ns.idxOf k:Nat)) H
theorem Zkb:MtR X "tuple.index" (Znr X.K):=by
 intro jE s σ H x xs v us Q I rx rv h;obtain⟨p,ns,k,rfl,rfl,hp,hk,q⟩:=h
 cases rx
 obtain⟨u,rfl,t,rfl⟩:=Xl rv;obtain⟨jG,r2,pl,hz⟩:=I.tuple hp;have hi:IntsAre jG ns:=Wx r2;obtain⟨⟨c0,d0,dat,sl0⟩,hob,hcl,n0,hdat⟩:=id (show s.heap.IsTuple p jG.toArray from pl);simp only at hcl hdat;subst hcl hdat;have l1:=hi.length;have l2:ns.idxOf k<ns.length:=by rw[zW];exact hk
 have go:=Zep p jG.toArray n0 d0 sl0 (.int k t) (isInt k) (ns.idxOf k) (by simpa[l1] using l2)
  (by
   show isInt k jG[ns.idxOf k]=true;rw[isInt_at k hi (ns.idxOf k) (by omega) l2];simpa using qak l2)
  (fun j hjs hlt=>by
   show isInt k jG[j]=false;rw[isInt_at k hi j (by simpa using hjs) (by have:j<ns.idxOf k:=hlt;omega)];exact ne_of_lt_idxOf hlt _)
 refine call_meets qbh ⟨_,hob,rfl⟩ PySem.F.entry_tuple_index (PySem.F.args_tuple_index_2 _ _) go ⟨hob,fun y hy=>(eq_isInt k t hi y (by simpa using hy)).at _ _,?_⟩;exact⟨.int (ns.idxOf k:Nat),H,I.tok _,⟨_,rfl⟩,q⟩
def ZfG:D->D->Option D
 | .tup ds,.int k=>(ZM ds).bind fun ns=>if k∈ns then some (.int (ns.idxOf k:Nat)) else none
 | _,_=>none
end
end TF
namespace TS
open PySem.W
def JZ {α:Type}(lt:Nat->Nat->Bool):KasT α->α
 | .ret a=>a
 | .ask i j k=>JZ lt (k (lt i j))
theorem ZZ.run {α:Type}{lt:Nat->Nat->Bool}{n:Nat}{Q:α->Prop}:∀{t:KasT α},ZZ lt n t Q->ZZ lt n t (fun a=>a=JZ lt t)/\Q (JZ lt t)
 | .ret a,h=>⟨rfl,h⟩
 | .ask i j k,h=>⟨⟨h.1,h.2.1,(ZZ.run (t:=k (lt i j)) h.2.2).1⟩,(ZZ.run (t:=k (lt i j)) h.2.2).2⟩
structure OrdW (lt:Nat->Nat->Bool):Prop where
 tr:∀a b c,lt a b=false->lt b c=false->lt a c=false
 as:∀a b,lt a b=true->lt b a=false
section
variable {lt:Nat->Nat->Bool}{n:Nat}{p q:Array Nat}
def V0 (lt:Nat->Nat->Bool)(p:Array Nat)(m:Nat):Prop:=∀i j,i<j->j<m->lt (g p j) (g p i)=false
def Bc (lt:Nat->Nat->Bool)(p:Array Nat)(m:Nat):Prop:=∀i j,i<j->j<m->lt (g p i) (g p j)=false
def EqW (lt:Nat->Nat->Bool)(p:Array Nat)(l m:Nat):Prop:=∀i j,l<=i->i<m->l<=j->j<m->lt (g p i) (g p j)=false
theorem OrdW.irr (o:OrdW lt)(a:Nat):lt a a=false:=by
 cases e:lt a a with
 | false=>rfl
 | true=>have:=o.as a a e;rw[e] at this;cases this
theorem ascW (o:OrdW lt)(h:Pm n p):∀(f k:Nat),1<=k->k+f=n->V0 lt p k->ZZ lt n (kas_asc p f k) (fun m=>k<=m/\m<=n/\V0 lt p m/\(m<n->lt (g p m) (g p (m-1))=true))
 | 0,k,h1,h2,hs=>⟨qu _,by omega,hs,fun z=>by omega⟩
 | f+1,k,h1,h2,hs=>by
  show g p k<n/\g p (k-1)<n/\ZZ lt n (if lt (g p k) (g p (k-1))=true then .ret k else kas_asc p f (k+1)) _;refine⟨h.bd _,h.bd _,?_⟩
  cases e:lt (g p k) (g p (k-1)) with
  | true=>rw[if_pos rfl];exact⟨qu _,by omega,hs,fun _=>e⟩
  | false=>
   rw[if_neg (by simp)];refine ZZ.mono (fun m ⟨a,b⟩=>⟨by omega,b⟩) (ascW o h f (k+1) (by omega) (by omega) fun i j hij hj=>?_);by_cases hjk:j<k
   ·exact hs i j hij hjk
   ·have:j=k:=by omega
    subst this;by_cases hi:i=j-1
    ·subst hi;exact e
    ·exact o.tr _ _ _ e (hs i (j-1) (by omega) (by omega))
theorem J0 (hj:q.size=n){l m:Nat}(hl:l<=m)(hm:m<=n)(k:Nat):g (kas_rev q l m) k=if l<=k/\k<m then g q (l+(m-1-k)) else g q k:=by
 have e:=getElem?_mirror_all (xs:=q) (i:=l) (j:=m) (by omega) k;unfold kas_rev;by_cases hk:l<=k/\k<m
 ·rw[if_pos hk] at e
  rw[if_pos hk];exact VV (by rw[e];congr 1;omega)
 ·rw[if_neg hk] at e
  rw[if_neg hk];exact VV e
theorem Zn2 (hs:p.size=n){l m:Nat}(hl:l<=m)(hm:m<=n)(hd:Bc lt p m)(he:EqW lt p l m):Bc lt (kas_rev p l m) m:=fun i j hij hj=>by
 rw[J0 hs hl hm,J0 hs hl hm];by_cases hi:l<=i
 ·rw[if_pos ⟨hi,by omega⟩,if_pos ⟨by omega,hj⟩]
  exact he _ _ (by omega) (by omega) (by omega) (by omega)
 ·rw[if_neg (fun z=>hi z.1)]
  by_cases hjl:l<=j
  ·rw[if_pos ⟨hjl,hj⟩]
   exact hd _ _ (by omega) (by omega)
  ·rw[if_neg (fun z=>hjl z.1)]
   exact hd _ _ hij hj
theorem Zi6 (o:OrdW lt):∀(f k q:Nat) (p:Array Nat),Pm n p->q+1<=k->k+f=n->Bc lt p k->EqW lt p (k-(q+1)) k->
  ZZ lt n (kas_desc f p k q) (fun r=>Pm n r.1/\r.2.2+1<=r.2.1/\r.2.1<=n/\Bc lt r.1 r.2.1/\EqW lt r.1 (r.2.1-(r.2.2+1)) r.2.1)
 | 0,k,q,p,h,h1,h2,hd,he=>⟨h,h1,by show k<=n;omega,hd,he⟩
 | f+1,k,q,p,h,h1,h2,hd,he=>by
  show g p k<n/\g p (k-1)<n/\ZZ lt n (if lt (g p k) (g p (k-1))=true then (if q > 0 then kas_desc f (kas_rev p (k-(q+1)) k) (k+1) 0 else kas_desc f p (k+1) 0) else .ask (g p (k-1)) (g p k) fun d=>if d=true then .ret (p,k,q) else kas_desc f p (k+1) (q+1)) _;refine⟨h.bd _,h.bd _,?_⟩;have one:∀p:Array Nat,EqW lt p (k+1-(0+1)) (k+1):=fun p i j a b c d=>by
   have:i=j:=by omega
   subst this;exact o.irr _
  cases e:lt (g p k) (g p (k-1)) with
  | true=>
   rw[if_pos rfl];have e2:=o.as _ _ e;by_cases hq:q > 0
   ·rw[if_pos hq]
    have h':Pm n (kas_rev p (k-(q+1)) k):=h.of (mirror_perm _ _ _ _);refine Zi6 o f (k+1) 0 _ h' (by omega) (by omega) (fun i j hij hj=>?_) (one _);have hr:=Zn2 h.size (by omega:k-(q+1)<=k) (by omega) hd he;by_cases hjk:j<k
    ·exact hr i j hij hjk
    ·have:j=k:=by omega
     subst this;rw[J0 h.size (by omega) (by omega),J0 h.size (by omega) (by omega),if_neg (by omega:¬(j-(q+1)<=j/\j<j))];have hlast:∀x,x<j->lt (g p x) (g p j)=false:=fun x hx=>by
      by_cases hx1:x=j-1
      ·subst hx1;exact e2
      ·exact o.tr _ _ _ (hd x (j-1) (by omega) (by omega)) e2
     by_cases hi:j-(q+1)<=i/\i<j
     ·rw[if_pos hi];exact hlast _ (by omega)
     ·rw[if_neg hi];exact hlast _ hij
   ·rw[if_neg hq]
    refine Zi6 o f (k+1) 0 p h (by omega) (by omega) (fun i j hij hj=>?_) (one _);by_cases hjk:j<k
    ·exact hd i j hij hjk
    ·have:j=k:=by omega
     subst this;by_cases hi:i=j-1
     ·subst hi;exact e2
     ·exact o.tr _ _ _ (hd i (j-1) (by omega) (by omega)) e2
  | false=>
   rw[if_neg (by simp)];refine⟨h.bd _,h.bd _,?_⟩;show ZZ lt n (if lt (g p (k-1)) (g p k)=true then .ret (p,k,q) else kas_desc f p (k+1) (q+1)) _
   cases e2:lt (g p (k-1)) (g p k) with
   | true=>rw[if_pos rfl];exact⟨h,h1,by show k<=n;omega,hd,he⟩
   | false=>
    rw[if_neg (by simp)];refine Zi6 o f (k+1) (q+1) p h (by omega) (by omega) (fun i j hij hj=>?_) fun i j a b c d=>?_
    ·by_cases hjk:j<k
     ·exact hd i j hij hjk
     ·have:j=k:=by omega
      subst this;by_cases hi:i=j-1
      ·subst hi;exact e2
      ·exact o.tr _ _ _ (hd i (j-1) (by omega) (by omega)) e2
    ·have low:∀x,k-(q+1)<=x->x<k->lt (g p x) (g p k)=false/\lt (g p k) (g p x)=false:=fun x hx hx2=>
      ⟨o.tr _ _ _ (he x (k-1) hx hx2 (by omega) (by omega)) e2,o.tr _ _ _ e (he (k-1) x (by omega) (by omega) hx hx2)⟩
     by_cases hi:i<k
     ·by_cases hj:j<k
      ·exact he i j (by omega) hi (by omega) hj
      ·have:j=k:=by omega
       subst this;exact(low i (by omega) hi).1
     ·have:i=k:=by omega
      subst this;by_cases hj:j<i
      ·exact(low j (by omega) hj).2
      ·have:j=i:=by omega
       subst this;exact o.irr _
theorem Zn3 (o:OrdW lt)(h:Pm n p){k:Nat}(h1:1<=k)(h2:k<=n)(hs:Bc lt p k):ZZ lt n (kas_tail3 k n p) (fun r=>1<=r.1/\r.1<=n/\Pm n r.2/\V0 lt r.2 r.1):=by
 have h':Pm n (kas_rev p 0 k):=h.of (mirror_perm _ _ _ _);have hs':V0 lt (kas_rev p 0 k) k:=fun i j hij hj=>by
  rw[Zi3 h.size h2,Zi3 h.size h2,if_pos (by omega),if_pos (by omega)];exact hs _ _ (by omega) (by omega)
 refine ZZ.bind (ZZ.mono (fun m ⟨a,b,c,_⟩=>?_) (ascW o h' (n-k) k h1 (by omega) hs'));exact⟨by show 1<=m;omega,b,h',c⟩
theorem Zn4 (o:OrdW lt)(h:Pm n p){m:Nat}(h1:1<=m)(h2:m<n)(hd:Bc lt p (m+1)):ZZ lt n (kas_descPart m n p) (fun r=>1<=r.1/\r.1<=n/\Pm n r.2/\V0 lt r.2 r.1):=by
 refine ZZ.bind (ZZ.mono (fun r ⟨r1,r2,r3,r4,r5⟩=>?_) (Zi6 o (n-(m+1)) (m+1) 0 p h (by omega) (by omega) hd fun i j a b c d=>by
  have:i=j:=by omega
  subst this;exact o.irr _))
 by_cases hq:r.2.2 > 0
 ·rw[if_pos hq]
  exact Zn3 o (r1.of (mirror_perm _ _ _ _)) (by omega) r3 (Zn2 r1.size (by omega) r3 r4 r5)
 ·rw[if_neg hq]
  exact Zn3 o r1 (by omega) r3 r4
theorem ZoY (o:OrdW lt)(h:Pm n p):ZZ lt n (kas_count n p) (fun r=>1<=r.1/\r.1<=n/\Pm n r.2/\V0 lt r.2 r.1):=by
 have hn:=h.pos;refine ZZ.bind (ZZ.mono (fun m ⟨a,b,c,d⟩=>?_) (ascW o h (n-1) 1 (by omega) (by omega) fun i j hij hj=>by omega));by_cases hm:m=n
 ·rw[if_pos (by simpa using hm)]
  exact⟨a,b,h,c⟩
 ·rw[if_neg (by simpa using hm)]
  have dm:=o.as _ _ (d (by omega));by_cases h1:m > 1
  ·rw[if_pos h1]
   refine⟨h.bd 0,h.bd (m-1),?_⟩;show ZZ lt n (if lt (g p 0) (g p (m-1))=true then .ret (m,p) else kas_descPart m n (kas_rev p 0 m)) _
   cases e:lt (g p 0) (g p (m-1)) with
   | true=>rw[if_pos rfl];exact⟨a,b,h,c⟩
   | false=>
    rw[if_neg (by simp)];have up:∀i j,i<m->j<m->lt (g p i) (g p j)=false:=fun i j hi hj=>by
     -- g i<=g (m-1)<=g 0<=g j
     have x1:lt (g p 0) (g p j)=false:=by
      by_cases z:j=m-1
      ·subst z;exact e
      ·exact o.tr _ _ _ e (c j (m-1) (by omega) (by omega))
     by_cases z:i=0
     ·subst z;exact x1
     ·exact o.tr _ _ _ (c 0 i (by omega) hi) x1
    have h':Pm n (kas_rev p 0 m):=h.of (mirror_perm _ _ _ _);refine Zn4 o h' (by omega) (by omega) fun i j hij hj=>?_;rw[J0 h.size (by omega) (by omega),J0 h.size (by omega) (by omega),if_pos (by omega:0<=i/\i<m)];by_cases hjm:j<m
    ·rw[if_pos (by omega:0<=j/\j<m)]
     exact up _ _ (by omega) (by omega)
    ·have:j=m:=by omega
     subst this;rw[if_neg (by omega:¬(0<=j/\j<j))];exact o.tr _ _ _ (up _ (j-1) (by omega) (by omega)) dm
  ·rw[if_neg h1]
   have:m=1:=by omega
   subst this;refine Zn4 o h (by omega) (by omega) fun i j hij hj=>?_;have h1:i=0:=by omega
   have h2:j=1:=by omega
   subst h1 h2;exact dm
theorem Zih (o:OrdW lt)(h:Pm n p){k:Nat}(hk:k<n)(hs:V0 lt p k):∀(f l r:Nat),l<=r->r<=k->r-l<=f->(∀i,i<l->lt (g p k) (g p i)=false)->(∀i,r<=i->i<k->lt (g p i) (g p k)=false)->
  ZZ lt n (kas_place p k f l r) (fun m=>m<=k/\(∀i,i<m->lt (g p k) (g p i)=false)/\∀i,m<=i->i<k->lt (g p i) (g p k)=false)
 | 0,l,r,h1,h2,h3,ha,hb=>⟨by omega,ha,fun i hi=>hb i (by omega)⟩
 | f+1,l,r,h1,h2,h3,ha,hb=>by
  show ZZ lt n (if l≥r then .ret l else .ask (g p k) (g p ((l+r) / 2)) fun c=>if c=true then kas_place p k f l ((l+r) / 2) else kas_place p k f ((l+r) / 2+1) r) _;by_cases hlr:l≥r
  ·rw[if_pos hlr]
   exact⟨by omega,ha,fun i hi=>hb i (by omega)⟩
  ·rw[if_neg hlr]
   refine⟨h.bd _,h.bd _,?_⟩;show ZZ lt n (if lt (g p k) (g p ((l+r) / 2))=true then kas_place p k f l ((l+r) / 2) else kas_place p k f ((l+r) / 2+1) r) _
   cases e:lt (g p k) (g p ((l+r) / 2)) with
   | true=>
    rw[if_pos rfl];refine Zih o h hk hs f l _ (by omega) (by omega) (by omega) ha fun i hi hik=>?_;have e2:=o.as _ _ e;by_cases hq:i=(l+r) / 2
    ·subst hq;exact e2
    ·exact o.tr _ _ _ (hs _ i (by omega) hik) e2
   | false=>
    rw[if_neg (by simp)];refine Zih o h hk hs f _ r (by omega) h2 (by omega) (fun i hi=>?_) hb;by_cases hq:i=(l+r) / 2
    ·subst hq;exact e
    ·exact o.tr _ _ _ e (hs i _ (by omega) (by omega))
theorem binW (o:OrdW lt):∀(f k:Nat) (p:Array Nat),Pm n p->1<=k->k+f=n->V0 lt p k->ZZ lt n (kas_bin f p k) (fun q=>Pm n q/\V0 lt q n)
 | 0,k,p,h,h1,h2,hs=>⟨h,by have:k=n:=(by omega);subst this;exact hs⟩
 | f+1,k,p,h,h1,h2,hs=>by
  refine ZZ.bind (ZZ.mono (fun m ⟨a,b,c⟩=>?_) (Zih o h (k:=k) (by omega) hs k 0 k (by omega) (by omega) (by omega) (fun i hi=>by omega) fun i hi hik=>by omega));have hg:∀i,g (bubble p k (k-m)) i=if i=m then g p k else if m<i/\i<=k then g p (i-1) else g p i:=fun i=>by
   have e:=getElem?_bubble (xs:=p) (src:=k) (by rw[h.size];omega) (k-m) (by omega) i;rw[show k-(k-m)=m by omega] at e;by_cases q1:i=m
   ·rw[if_pos q1] at e⊢;exact VV e
   ·rw[if_neg q1] at e⊢
    by_cases q2:m<i/\i<=k
    ·rw[if_pos q2] at e⊢;exact VV e
    ·rw[if_neg q2] at e⊢;exact VV e
  refine binW o f (k+1) _ (h.of (bubble_perm _ _ _)) (by omega) (by omega) fun i j hij hj=>?_;rw[hg,hg];by_cases i1:i=m
  ·rw[if_pos i1,if_neg (by omega:¬j=m),if_pos (by omega:m<j/\j<=k)]
   exact c _ (by omega) (by omega)
  ·rw[if_neg i1]
   by_cases i2:m<i/\i<=k
   ·rw[if_pos i2,if_neg (by omega:¬j=m),if_pos (by omega:m<j/\j<=k)]
    exact hs _ _ (by omega) (by omega)
   ·rw[if_neg i2]
    by_cases j1:j=m
    ·rw[if_pos j1];exact b i (by omega)
    ·rw[if_neg j1]
     by_cases j2:m<j/\j<=k
     ·rw[if_pos j2]
      exact hs _ _ (by omega) (by omega)
     ·rw[if_neg j2]
      exact hs _ _ hij (by omega)
theorem Zn5 (o:OrdW lt)(hn:0<n):ZZ lt n (kas_sort n) (fun q=>Pm n q/\V0 lt q n):=by
 have h:Pm n (qM (qp n)):=⟨hn,by simp⟩;refine ZZ.bind (ZZ.mono (fun r ⟨a,b,c,d⟩=>?_) (ZoY o h));by_cases hr:r.1<n
 ·rw[if_pos hr]
  have e:max r.1 1=r.1:=by omega
  rw[e];exact binW o _ _ _ c a (by omega) d
 ·rw[if_neg hr]
  exact⟨c,by have:r.1=n:=(by omega);rw[this] at d;exact d⟩
def YN (lt:Nat->Nat->Bool)(n:Nat):List Nat:=if n<2 then qp n else (JZ lt (kas_sort n)).toList
theorem Bk (o:OrdW lt):(YN lt n).Perm (qp n):=by
 unfold YN;by_cases h:n<2
 ·rw[if_pos h]
 ·rw[if_neg h]
  exact(Zn5 o (by omega)).run.2.1.pm
end
end TS
namespace TF
open L2 TS PySem.W
section
variable {X:Cx}{jE:List (Addr×Obj)}{σ:St}{H:Hp}{s:Shared}
def Jo (X:Cx)(σ:St)(sp:Heap->Sp):List V->Hp->(List V->Hp->Prop)->Prop
 | [],H,R=>R [] H
 | v::r,H,R=>∀base',Cells X σ base'->sp base' [v] H (fun k H1=>Jo X σ sp r H1 fun ks H2=>R (k::ks) H2) E0
structure KeyFn (X:Cx)(σ:St)(k:Nat)(f:Addr)(sp:Heap->Sp):Prop where
 fn:∀x,X.fn x=true
 ok:∃fd ps,WF X.K fd ps []/\∀base',Cells X σ base'->FnOk X.prog X.w X.K X.mg base' ZX k f fd ps (sp base')
theorem ZlX {k:Nat}{f:Addr}{sp:Heap->Sp}{A:Around}{Q:VK}{E:Value->Shared->Prop}{u:Value}{v:V}(F:KeyFn X σ k f sp)(I:Inv X jE σ H s)(hA:∀{base H s},Env0 X.prog X.w X.K X.mg base X.A X.stack s H->Env0 X.prog X.w X.K X.mg base A X.stack s H)(hr:Room k A)(rv:ZK v u)(q:∀base',Cells X σ base'->sp base' [v] H Q E0) :
  wpAny (model X.prog X.w) A (call (.ref f) [u]) (EP X jE σ Q) E s:=by
 obtain⟨fd,ps,hb,F0⟩:=F.ok;obtain⟨e0,cs⟩:=ZeL I F.fn;have q':=q _ cs;have r:ZI [v] [u]:=.cons rv .nil;have hl:([u] ++ []).length=ps.length:=by rw[zx,<-r.length];exact(F0 _ cs).len _ _ _ _ q'
 refine wpAny_call (codeAny_mono ((F0 _ cs).run A X.stack s H ⟨[u],[]⟩ [u] [v] Q E0 hr (hA e0) (by have:=hb s [u] I.kIn hl;rw[zx] at this;exact this) r q') fun r s' hq=>?_)
 cases r with
 | error e=>exact hq.elim
 | ok fl=>
  cases fl with
  | ret u=>exact I.after hq
  | next=>exact zG hq
  | brk=>exact zG hq
  | cont=>exact zG hq
def Bd (X:Cx)(jE:List (Addr×Obj))(b:Addr):Prop:=b≠X.env.locals/\b∉X.fs/\(b∈X.ex∨X.s₀.heap.objs.size<=b)/\(∀x c,X.env.cells.lookup x=some c->c≠b)/\∀p∈X.pn++jE,p.1≠b
theorem ZlY (I:Inv X jE σ H s){b:Addr}(hb:s.heap.objs.size<=b):Bd X jE b:=(I.fpOk hb (H':=H) (I.hok.fresh hb)).2
theorem Zi7 {b:Addr}{o o':Obj}{rest:List (Addr×Obj)}{h':Heap}{t':Nat}(I:Inv X (jE++(b,o)::rest) σ H s)(k:∀c u,c≠b->s.heap.get? c=some u->h'.get? c=some u)(hb':h'.get? b=some o')(hd:∀v,o'.data≠.cell v)(fp:Bd X jE b)
  (hr:∀p∈rest,p.1≠b):Inv X (jE++(b,o')::rest) σ H { s with heap:=h',toks:=t' }:=by
 obtain⟨pb1,pb2,pb3,pb4,pb5⟩:=I.pin (b,o) (qw _ (qw _ (.head _)));have I1:Inv X (jE++rest) σ H s:=I.pins_of fun p hp=>I.pin p (qw _ ((zg.mp hp).elim (fun z=>zr _ z) fun z=>qw _ (.tail _ z)));obtain⟨f1,f2,f3,f4,f5⟩:=fp;have I2:=I1.turned (t':=t') k pb2 f1 f3 f4 (fun p hp=>by
  rcases zg.mp hp with z | z
  ·exact f5 p (zr _ z)
  ·rcases zg.mp z with z | z
   ·exact f5 p (qw _ z)
   ·exact hr p z)
 refine I2.pins_of fun p hp=>?_;rcases zg.mp hp with z | z
 ·exact I2.pin p (qw _ (zr _ z))
 ·rcases qq.mp z with rfl | z
  ·exact⟨hb',pb2,f1,f2,hd⟩
  ·exact I2.pin p (qw _ (qw _ z))
theorem ZpO {b:Addr}{o:Obj}{u:HO}{rest:List (Addr×Obj)}(I:Inv X (jE++(b,o)::rest) σ H s)(fp:Bd X jE b)(hx:X.s₀.heap.objs.size<=b)(new:YI X.prog X.w (Zo H b u) s.heap b u):Inv X jE σ (Zo H b u) s:=by
 obtain⟨pb1,pb2,pb3,pb4,pb5⟩:=I.pin (b,o) (qw _ (qw _ (.head _)));obtain⟨f1,f2,f3,f4,f5⟩:=fp;refine⟨I.ok,I.os,I.bare,?_,I.loc,I.cell,?_,?_,?_,?_,I.len⟩
 ·exact⟨I.base.keep,I.base.slot,fun c q e n x=>by
   rw[Zu (qN (qT (qG e) hx))];exact I.base.free c q e n x,I.base.there,fun c xs e=>by have:=I.base.tups c xs e;rw[Zu (Z5 this pb2)];exact this,fun c q xs e=>by have:=I.base.frzs c q xs e;rw[Zu (Z5 this pb2)];exact this,fun c ps e=>by
   obtain⟨m,this⟩:=I.base.tbls c ps e;exact⟨m,by rw[Zu (Z5 this pb2)];exact this⟩⟩
 ·rw[Zu (zJ f1)];exact I.free
 ·intro x c e
  rw[Zu (f4 x c e)];exact I.freeC x c e
 ·intro p hp
  have hp':p∈X.pn++(jE++(b,o)::rest):=(zg.mp hp).elim (fun z=>zr _ z) fun z=>qw _ (zr _ z);obtain⟨q1,q2,q3,q4,q5⟩:=I.pin p hp';exact⟨q1,by rw[Zu (f5 p hp)];exact q2,q3,q4,q5⟩
 ·intro c v e
  by_cases hc:c=b
  ·subst hc;rw[Z8] at e;cases e;exact new
  ·rw[Zu hc] at e
   exact(I.hok c v e).stay (fun d w _ q=>q) (fun d q=>by rw[Zu (Z5 q pb2)];exact q) fun d xs q=>by rw[Zu (Z5 q pb2)];exact q
theorem ZeX:∀{xs:List V} {us:List Value} {v:V} {u:Value},ZI xs us->ZK v u->ZI (xs ++ [v]) (us ++ [u])
 | [],_,v,u,h,r=>by cases h;exact .cons r .nil
 | x::xs,_,v,u,h,r=>by
  cases h with
  | cons h1 h2=>exact .cons h1 (ZeX h2 r)
theorem JL {c:String}{xs:Array Value}{n:Nat}:∀v,(seqObj c xs n).data≠.cell v:=fun v h=>by cases h
theorem keys_fold {k:Nat}{f kS a:Addr}{sp:Heap->Sp}{A:Around}{E:Value->Shared->Prop}{e1:Nat}{R:List V->Hp->Prop}{body:Value->PUnit->Sem (ForInStep PUnit)}(F:KeyFn X σ k f sp)(hA:∀{base H s},Env0 X.prog X.w X.K X.mg base X.A X.stack s H->Env0 X.prog X.w X.K X.mg base A X.stack s H)(hr:Room k A)
  (fp:Bd X jE kS) (hka:a≠kS)
  (hbody:∀x ks e (s:Shared) (D:Value->Shared->Prop),qay ks<64->wpAny (model X.prog X.w) A (call (.ref f) [x]) (fun u s'=>s'.heap.get? kS=some (seqObj "list" (qM ks) e)/\D u { s' with heap:=s'.heap.update kS (qS (·.push u)) }) (fun _ _=>False) s->
   wpAny (model X.prog X.w) A (body x ⟨⟩) (fun r s'=>r=.yield ⟨⟩/\∃u,D u s') E s) :
  ∀(r:List V) (us:List Value) (kvs:List V) (ks:List Value) (e:Nat) (H:Hp) (s:Shared),ZI r us->ZI kvs ks->ks.length+us.length<64->Inv X (jE ++ [(kS,seqObj "list" (qM ks) e),(a,seqObj "list" #[] e1)]) σ H s->Jo X σ sp r H (fun k2 H2=>R (kvs++k2) H2)->
   wpAny (model X.prog X.w) A (forIn us PUnit.unit body) (fun _ s'=>∃kvs' ks' e' H',Inv X (jE ++ [(kS,seqObj "list" (qM ks') e'),(a,seqObj "list" #[] e1)]) σ H' s'/\ZI kvs' ks'/\ks'.length=ks.length+us.length/\R kvs' H') E s
 | [],_,kvs,ks,e,H,s,h,hv,hz,I,q=>by
  cases h
  rw[qbD];refine wpAny_pure ⟨kvs,ks,e,H,I,hv,rfl,?_⟩;have q:R (kvs ++ []) H:=q;rw[zx] at q;exact q
 | v::r,_,kvs,ks,e,H,s,h,hv,hz,I,q=>by
  cases h with
  | @cons _ u _ us r1 r2=>
   rw[qY] at hz;rw[qaa];refine wpAny_bind (wpAny_mono (hbody u ks e s (fun u' s'=>∃v' H',Inv X (jE ++ [(kS,seqObj "list" (qM (ks ++ [u'])) (e+1)),(a,seqObj "list" #[] e1)]) σ H' s'/\ZK v' u'/\Jo X σ sp r H' fun ks H2=>R (kvs++v'::ks) H2) (by omega) ?_) (fun q' s' hq=>?_) fun _ _ x=>x)
   ·refine wpAny_mono (ZlX F I hA hr r1 q) (fun u' s' ⟨v',H',I',rv,q'⟩=>?_) fun _ _ x=>x
    have pk:=(I'.pin (kS,seqObj "list" (qM ks) e) (qw _ (qw _ (.head _)))).1;refine⟨pk,v',H',?_,rv,q'⟩;refine Zi7 (o:=seqObj "list" (qM ks) e) (t':=s'.toks) I' (fun c w hc e=>by rw[zP _ _ _ _ hc];exact e) ?_ JL fp (fun p hp=>by rw[qQ.mp hp];exact hka);have ea:(qM ks).push u'=qM (ks ++ [u']):=by simp
    rw[get?_update_seq pk (·.push u'),ea];have:((qM (ks ++ [u'])).size==(qM ks).size)=false:=by simp
    rw[this];rfl
   ·obtain⟨rfl,u',v',H',I',rv,q'⟩:=hq
    show wpAny (model X.prog X.w) A (forIn us PUnit.unit body) _ E s';refine wpAny_mono (keys_fold F hA hr fp hka hbody r us (kvs ++ [v']) (ks ++ [u']) (e+1) H' s' r2 (ZeX hv rv) (by rw[zp,qaD];omega) I' ?_) (fun _ s'' ⟨a1,a2,a3,a4,a5,a6,a7,a8⟩=>⟨a1,a2,a3,a4,a5,a6,by rw[a7,zp,qaD,qY];omega,a8⟩) fun _ _ x=>x;have e2:(fun k2 H2=>R (kvs ++ [v']++k2) H2)=fun k2 H2=>R (kvs++v'::k2) H2:=by funext k2 H2;rw[qau];rfl
    rw[e2];exact q'
end
section
variable {prog:Program}{w:World}{A:Around}{E:Value->Shared->Prop}{s:Shared}
def Bl (h:Heap)(kS a:Addr)(out:List Value):Heap:=(h.update kS (qS fun _=>(#[]:Array Value))).update a (qS fun _=>qM out)
theorem ZeY {kS a:Addr}{ks out:List Value}{e e1:Nat}{st:SortSt}{P:qbq->Shared->Prop}(hk:s.heap.get? kS=some (seqObj "list" (qM ks) e))(ha:s.heap.get? a=some (seqObj "list" #[] e1))(hka:a≠kS)(hout:(arrOf st).map (·.2)=qM out)(hz:out.length<64)(hkz:ks.length<64)(hf:failedOf st=none)
  (h:P (.done (.ret .none)) { s with heap:=Bl s.heap kS a out }):wpAny (model prog w) A (ksk_tail a false e1 (.ref kS) st) P E s:=by
 have ha2:(s.heap.update kS (qS fun _=>(#[]:Array Value))).get? a=some (seqObj "list" #[] e1):=by rw[zP _ _ _ _ hka];exact ha
 unfold ksk_tail
 try dsimp only
 rw[hout];refine wpAny_bind (listUpdate_at hk rfl ?_ (by rw[qE,sizeLine_eq];omega) (za _));refine wpAny_bind (wpAny_letGo ?_);refine wpAny_bind (seqEpoch_at ha2 rfl ?_);refine wpAny_bind (listUpdate_at ha2 rfl ?_ (za _) (by show(qM out).size<=_;rw[qE,sizeLine_eq];omega));rw[hf];simp only[bne_self_eq_false,zU,if_false];exact wpAny_pure h
theorem ZlZ {kS a:Addr}{us ks:List Value}{e e1:Nat}{lt:Nat->Nat->Bool}{P:qbq->Shared->Prop}(o:OrdW lt)(hk:s.heap.get? kS=some (seqObj "list" (qM ks) e))(ha:s.heap.get? a=some (seqObj "list" #[] e1))(hka:a≠kS)(hl:ks.length=us.length)(h64:us.length<64)
  (hkind:2<=ks.length->∃κ,(∀Q:SortKind->Shared->Prop,Q κ s->wpAny (model prog w) A (keyKind' (qM ks)) Q E s)/\∀i j,i<ks.length->j<ks.length->∀C:Bool->Shared->Prop,C (lt i j) s->kas_ask prog w A κ ks i j C s)
  (h:P (.done (.ret .none)) { s with heap:=Bl s.heap kS a ((YN lt us.length).map fun i=>us.getD i qR) }):wpAny (model prog w) A (ksk_end a false us.toArray e1 (.ref kS) (qM ks)) P E s:=by
 have hol:((YN lt us.length).map fun i=>us.getD i qR).length=us.length:=by rw[qd,(Bk o).length_eq,qO]
 unfold ksk_end
 try dsimp only
 simp only[zU,if_false];by_cases h2:us.toArray.size<2
 ·rw[if_pos h2,if_pos h2]
  refine wpAny_bind (wpAny_pure ?_);rw[StateT.run_pure];refine wpAny_bind (wpAny_pure ?_)
  try dsimp only
  have hlt:us.length<2:=by simpa using h2
  refine ZeY (out:=(YN lt us.length).map fun i=>us.getD i qR) hk ha hka ?_ (by omega) (by omega) rfl h;have e:(YN lt us.length).map (fun i=>us.getD i qR)=us:=by
   unfold YN;rw[if_pos hlt];exact TS.range_getD us _
  rw[e];apply Array.toList_inj.mp;show(((qM ks).zip us.toArray).map (·.2)).toList=_;rw[Array.toList_map,ksk_zip];show(ks.zip us).map Prod.snd=_;rw[List.map_snd_zip (by omega)]
 ·rw[if_neg h2,if_neg h2]
  have h2':2<=us.length:=by simpa using h2
  obtain⟨κ,hκ,hask⟩:=hkind (by omega);refine wpAny_bind (hκ _ ?_);have tr:=(Zn5 (n:=us.length) o (by omega)).run;have wp:=jz (s:=s) (cmp:=kas_ask prog w A κ ks) (R:=fun q s'=>q=JZ lt (kas_sort us.length)/\s'=s) (fun i j hi hj C hC=>hask i j (by omega) (by omega) C hC) (fun q hq=>⟨hq,rfl⟩) tr.1;refine wpAny_bind (wpAny_mono (kat_run (ks:=ks) (vs:=us) (Q:=fun st' s'=>arrOf st'=(JZ lt (kas_sort us.length)).map (kas_item (ks.toArray.zip us.toArray))/\failedOf st'=none/\s'=s) hl h2' h64 (fun p' st' s' a1 a2 a3 a4=>⟨by rw[<-a4.1];exact a2,a3,a4.2⟩) wp) ?_ fun _ _ e=>e);rintro⟨⟨⟩,st'⟩ s' ⟨har,hf,rfl⟩
  try dsimp only
  have hout:=kat_snds (ks:=ks) (vs:=us) hl har;refine ZeY (out:=(YN lt us.length).map fun i=>us.getD i qR) hk ha hka ?_ (by omega) (by omega) hf h;rw[hout];unfold YN;rw[if_neg (by omega)]
end
section
variable {X:Cx}{jE:List (Addr×Obj)}{σ:St}{H:Hp}{s:Shared}
def VL (X:Cx)(kvs:List V)(H:Hp)(lt:Nat->Nat->Bool):Prop:=
 (∃ns:List Int,kvs=ns.map V.int/\lt=fun i j=>decide (ns.getD i 0<ns.getD j 0))∨
 ∃(jN:List (List Int)) (T:V->List Int->Prop),(∀v ns,T v ns->∃a,v=.ref a/\ZT X.K H a (ns.map V.int))/\Paired T kvs jN/\(∀ns∈jN,ns≠[])/\lt=fun i j=>Y5 (jN.getD i []) (jN.getD j [])
theorem VL.ord {kvs:List V}{lt:Nat->Nat->Bool}(h:VL X kvs H lt):OrdW lt:=by
 rcases h with⟨ns,_,rfl⟩ | ⟨jN,T,_,_,_,rfl⟩
 ·refine⟨fun a b c h1 h2=>?_,fun a b h=>?_⟩
  ·have h1:=of_decide_eq_false h1
   have h2:=of_decide_eq_false h2;exact decide_eq_false (by omega)
  ·have h:=of_decide_eq_true h
   exact decide_eq_false (by omega)
 ·refine⟨fun a b c h1 h2=>?_,fun a b h=>Bz h⟩
  have t:=Zh6 (jN.getD c []) (jN.getD b []) (jN.getD a []) (by unfold Xc;rw[h2];rfl) (by unfold Xc;rw[h1];rfl);unfold Xc at t;simpa using t
theorem ZfH:∀{ks:List Value} {ns:List Int} {i:Nat},IntsAre ks ns->i<ks.length->∃t,ks.getD i qR=.int (ns.getD i 0) t
 | _,_,_,.nil,h=>absurd h (by simp)
 | _,_,0,.cons n t _,_=>⟨t,rfl⟩
 | _,_,i+1,.cons n t r,h=>by
  obtain⟨t',e⟩:=ZfH r (i:=i) (by simpa using h);exact⟨t',by simpa using e⟩
theorem Zkc {kvs:List V}{ks:List Value}{lt:Nat->Nat->Bool}{A:Around}{E:Value->Shared->Prop}(h:VL X kvs H lt)(I:Inv X jE σ H s)(rv:ZI kvs ks):2<=ks.length->∃κ,(∀Q:SortKind->Shared->Prop,Q κ s->wpAny (model X.prog X.w) A (keyKind' (qM ks)) Q E s)/\∀i j,i<ks.length->j<ks.length->∀C:Bool->Shared->Prop,C (lt i j) s->kas_ask X.prog X.w A κ ks i j C s:=fun h2=>by
 rcases h with⟨ns,rfl,rfl⟩ | ⟨jN,T,hT,pT,hne,rfl⟩
 ·have hi:IntsAre ks ns:=Wx rv
  refine⟨oneType',fun Q q=>?_,fun i j hi' hj' C hC=>?_⟩
  ·rw[ksk_kind (keys:=qM ks) (kz:=ns) hi (by simpa using h2)]
   exact wpAny_pure q
  ·obtain⟨t,et⟩:=ZfH hi hi'
   obtain⟨t',et'⟩:=ZfH hi hj';show wpAny (model X.prog X.w) A (keyLt' oneType' (ks.getD i qR) (ks.getD j qR)) C _ s;rw[et,et'];exact kat_lt_int hC
 ·have ht:=Zcu I hT rv pT
  have hl:ks.length=jN.length:=yG ht;exact⟨tuples' true,fun Q q=>ZlJ ht hne (by omega) q,fun i j hi hj C hC=>Zn1 (jr _ [] ht hi) (jr _ [] ht hj) hC⟩
theorem ZgX:∀{xs:List V} {us:List Value} {i:Nat},ZI xs us->i<xs.length->ZK (xs.getD i .non) (us.getD i qR)
 | _,_,_,.nil,h=>absurd h (by simp)
 | _,_,0,.cons h _,_=>h
 | _,_,i+1,.cons _ r,h=>by
  have:=ZgX r (i:=i) (by simpa using h);simpa using this
theorem ZeZ {xs:List V}{us:List Value}(h:ZI xs us):∀{ix:List Nat},(∀i∈ix,i<xs.length)->ZI (ix.map fun i=>xs.getD i .non) (ix.map fun i=>us.getD i qR)
 | [],_=>.nil
 | i::r,hb=>.cons (ZgX h (hb i (by simp))) (ZeZ h fun j m=>hb j (by simp[m]))
theorem Zii {k:Nat}{f:Addr}{sp:Heap->Sp}{E:Value->Shared->Prop}{u:Value}{xs:List V}{Q:VK}(F:KeyFn X σ k f sp)(hr:Room (k+2) X.A)(I:Inv X jE σ H s)(h64:xs.length<64)
  (hcol:∀Q1:List Value->Shared->Prop,(∀(h':Heap) (tk:Nat) (jG:List Value),(∀b o,s.heap.get? b=some o->h'.get? b=some o)->ZI xs jG->Q1 jG { s with heap:=h',toks:=tk })->wpAny (model X.prog X.w) X.A.in1 (collect u) Q1 E s)
  (q:Jo X σ sp xs H fun kvs H1=>∃lt,VL X kvs H1 lt/\∀l,H1 l=none->Q (.ref l) (Zo H1 l (.lst ((YN lt xs.length).map fun i=>xs.getD i .non)))) :
  wpAny (model X.prog X.w) X.A (call (.builtin "sorted") [u] [(qA "key",.ref f)]) (EP X jE σ Q) E s:=by
 refine call_function_entry_kw kind_sorted plain_sorted entry_sorted (ksk_s1 _ _) ?_;unfold Builtin.«sorted»;refine wpAny_bind (m:=checkCount "sorted" 1 1 _) (wpAny_pure ?_);refine wpAny_bind (hcol _ fun h1 tk jG k1 rv=>?_);have hil:jG.length=xs.length:=rv.length.symm;have I1:Inv X jE σ H { s with heap:=h1,toks:=tk }:=I.kept k1;refine wpAny_bind (wpAny_newList ?_ (by rw[sizeLine_eq];omega));generalize hs2:({ s with heap:=h1.push (seqObj "list" jG.toArray 0),toks:=tk }:Shared)=s2;have hh2:s2.heap=h1.push (seqObj "list" jG.toArray 0):=by rw[<-hs2]
 have I2:Inv X jE σ H s2:=by rw[<-hs2];exact I1.kept (fun b o e=>qf _ e)
 generalize ha:h1.objs.size=a;have fpa:Bd X jE a:=by rw[<-ha];exact ZlY I1 (qu _)
 have hxa:X.s₀.heap.objs.size<=a:=by rw[<-ha];exact I1.sz
 have hna:H a=none:=by rw[<-ha];exact I1.hok.fresh (qu _)
 have ho:s2.heap.get? a=some (seqObj "list" jG.toArray 0):=by rw[hh2,<-ha];exact qz _ rfl
 refine wpAny_bind (wpAny_holding (wpAny_call_entry_kw slot_list_sort ⟨_,ho,rfl⟩ entry_list_sort ?body (ksk_l1 _ _)))
 case body=>
  show wpAny (model X.prog X.w) X.A.in1.in1 (Builtin.«list.sort» ⟨[.ref a],[(qA "key",.ref f)]⟩) _ E s2;rw[ksk_t1];obtain⟨e1,ho1⟩:∃e1,(s2.heap.update a (qS fun _=>(#[]:Array Value))).get? a=some (seqObj "list" #[] e1):=⟨_,get?_update_seq ho fun _=>#[]⟩;unfold ksk_tree;refine wpAny_bind (listItems_at ho rfl ?_);refine wpAny_bind (listUpdate_at ho rfl ?_ (by rw[qE,sizeLine_eq];omega) (za _));refine wpAny_bind (seqEpoch_at ho1 rfl ?_);refine wpAny_bind (wpAny_newTuple ?_ (by show jG.length<=_;rw[sizeLine_eq];omega));refine wpAny_bind (wpAny_newList ?_ (za _));refine wpAny_holding ?_;generalize hs3:({ s2 with heap:=(s2.heap.update a (qS fun _=>(#[]:Array Value))).push (seqObj "tuple" jG.toArray 0) }:Shared)=s3;have hh3:s3.heap=(s2.heap.update a (qS fun _=>(#[]:Array Value))).push (seqObj "tuple" jG.toArray 0):=by rw[<-hs3]
  generalize hkS:s3.heap.objs.size=kS;have I3:Inv X (jE ++ [(a,seqObj "list" #[] e1)]) σ H { s2 with heap:=s2.heap.update a (qS fun _=>(#[]:Array Value)),toks:=s2.toks }:=by
   have Ia:Inv X (jE++(a,seqObj "list" jG.toArray 0) :: []) σ H s2:=I2.pins_of fun p hp=>by
    rcases zg.mp hp with z | z
    ·exact I2.pin p (qw _ z)
    ·rw[qQ.mp z]
     exact⟨ho,hna,fpa.1,fpa.2.1,JL⟩
   exact Zi7 Ia (fun c w hc e=>by rw[zP _ _ _ _ hc];exact e) ho1 JL fpa (fun p hp=>by simp at hp)
  have I4:Inv X (jE ++ [(a,seqObj "list" #[] e1)]) σ H s3:=by rw[<-hs3];exact I3.kept (t':=s2.toks) (fun b o e=>qf _ e)
  have hak:a<kS:=by
   rw[<-hkS,hh3,size_push',qbd];exact zH (qG ho)
  have fpk:Bd X jE kS:=by
   have:=ZlY I4 (b:=kS) (by rw[hkS];exact qu _);exact⟨this.1,this.2.1,this.2.2.1,this.2.2.2.1,fun p hp=>this.2.2.2.2 p ((zg.mp hp).elim (fun z=>zr _ z) fun z=>qw _ (zr _ z))⟩
  have I5:Inv X (jE ++ [(kS,seqObj "list" (qM []) 0),(a,seqObj "list" #[] e1)]) σ H { s3 with heap:=s3.heap.push (seqObj "list" #[] 0),toks:=s3.toks }:=by
   have I':=I4.kept (t':=s3.toks) (h':=s3.heap.push (seqObj "list" #[] 0)) (fun b o e=>qf _ e);refine I'.pins_of fun p hp=>?_;rcases zg.mp hp with z | z
   ·exact I'.pin p (qw _ (zr _ z))
   ·rcases qq.mp z with rfl | z
    ·exact⟨by rw[<-hkS];exact qz _ rfl,by rw[<-hkS];exact I4.hok.fresh (qu _),fpk.1,fpk.2.1,JL⟩
    ·exact I'.pin p (qw _ (qw _ z))
  show wpAny (model X.prog X.w) X.A.in1.in1 _ _ E { s3 with heap:=s3.heap.push (seqObj "list" #[] 0),toks:=s3.toks };generalize ({ s3 with heap:=s3.heap.push (seqObj "list" #[] 0),toks:=s3.toks }:Shared)=s5 at I5⊢;unfold ksk_rest;refine wpAny_bind (wpAny_rule ?_)
  first
   | rw[List.forIn_toArray]
   | (rw[<-Array.forIn_toList];simp only[qaR])
   | rw[<-Array.forIn_toList]
  have hr2:Room k X.A.in1.in1:=(hr.in1).in1;refine wpAny_bind (wpAny_mono (keys_fold (E:=E) (R:=fun kvs H1=>∃lt,VL X kvs H1 lt/\∀l,H1 l=none->Q (.ref l) (Zo H1 l (.lst ((YN lt xs.length).map fun i=>xs.getD i .non)))) F (fun e=>e.in1.in1) hr2 fpk (qN hak) (fun x ks e s' D hz hx=>?_) xs jG [] [] 0 H s5 rv .nil (by simp only[yh];omega) I5 q) (fun _ s' hd=>?_) fun _ _ x=>x)
  ·refine wpAny_bind (wpAny_attempt (wpAny_mono hx (fun u' s'' hk=>?_) fun _ _ hF=>hF.elim))
   obtain⟨hk1,hk2⟩:=hk
   try dsimp only
   refine wpAny_bind (listUpdate_at hk1 rfl ?_ (by rw[qE,sizeLine_eq];omega) (qJ (qb3 (Array.size_push ..)) (by rw[qE,sizeLine_eq];omega)));exact wpAny_pure ⟨rfl,u',hk2⟩
  ·obtain⟨kvs,ks,e',H',I',hv,hl,lt,hok,hq⟩:=hd
   have hl:ks.length=jG.length:=by simpa using hl
   have pk:=I'.pin (kS,seqObj "list" (qM ks) e') (qw _ (qw _ (.head _)));have pa:=I'.pin (a,seqObj "list" #[] e1) (qw _ (qw _ (.tail _ (.head _))))
   try dsimp only
   refine wpAny_bind (listItems_at pk.1 rfl ?_);refine ZlZ hok.ord pk.1 pa.1 (qN hak) hl (by omega) (Zkc hok I' hv) ⟨_,rfl,?_⟩;refine wpAny_pure ⟨_,rfl,?_⟩;have hol:((YN lt jG.length).map fun i=>jG.getD i qR).length=jG.length:=by rw[qd,(Bk hok.ord).length_eq,qO]
   -- the store of keys is emptied
   obtain⟨c1,hc1⟩:∃c1,(s'.heap.update kS (qS fun _=>(#[]:Array Value))).get? kS=some (seqObj "list" #[] c1):=⟨_,get?_update_seq pk.1 fun _=>#[]⟩;have I6:=Zi7 (o':=seqObj "list" #[] c1) (h':=s'.heap.update kS (qS fun _=>(#[]:Array Value))) (t':=s'.toks) I' (fun c w hc e=>by rw[zP _ _ _ _ hc];exact e) hc1 JL fpk (fun p hp=>by rw[qQ.mp hp];exact qN hak);have I7:Inv X (jE++(a,seqObj "list" #[] e1) :: []) σ H' { s' with heap:=s'.heap.update kS (qS fun _=>(#[]:Array Value)),toks:=s'.toks }:=I6.pins_of fun p hp=>I6.pin p (qw _ ((zg.mp hp).elim (fun z=>zr _ z) fun z=>qw _ (.tail _ z)));have pa2:=I7.pin (a,seqObj "list" #[] e1) (qw _ (qw _ (.head _)));obtain⟨c2,hc2⟩:∃c2,(Bl s'.heap kS a ((YN lt jG.length).map fun i=>jG.getD i qR)).get? a=some (seqObj "list" (qM ((YN lt jG.length).map fun i=>jG.getD i qR)) c2):=⟨_,get?_update_seq pa2.1 _⟩;have I8:=Zi7 (o':=seqObj "list" (qM ((YN lt jG.length).map fun i=>jG.getD i qR)) c2) (h':=Bl s'.heap kS a ((YN lt jG.length).map fun i=>jG.getD i qR)) (t':=s'.toks) I7 (fun c w hc e=>by unfold Bl;rw[zP _ _ _ _ hc];exact e) hc2 JL fpa (fun p hp=>by simp at hp);have hout:ZI ((YN lt xs.length).map fun i=>xs.getD i .non) ((YN lt jG.length).map fun i=>jG.getD i qR):=by
    rw[hil];exact ZeZ rv fun i hi=>qP.mp ((Bk hok.ord).mem_iff.mp hi)
   refine⟨.ref a,_,ZpO (u:=.lst ((YN lt xs.length).map fun i=>xs.getD i .non)) I8 fpa hxa ⟨?_,_,c2,hout,hc2⟩,rfl,hq a pa2.2.1⟩;rw[hout.length,hol,sizeLine_eq];omega
end
end TF
namespace TF
open L2 TS
section
variable {X:Cx}
def Zl0 (X:Cx)(id:String)(nm:Str)(r:St->List V->List V->Hp->VK->Prop):Prop:=
 ∀(jE:List (Addr×Obj)) (s:Shared) (σ:St) (H:Hp) (xs ys:List V) (us vs:List Value) (Q:VK),Inv X jE σ H s->ZI xs us->ZI ys vs->r σ xs ys H Q->wpAny (model X.prog X.w) X.A (call (.builtin id) us ([nm].zip vs)) (EP X jE σ Q) X.xe s
theorem Zkd {id:String}{x nm:Str}{p pos kpos:Pos}{e d:Expr}{ta tb:TE}{r:St->List V->List V->Hp->VK->Prop}(hc:Zl0 X id nm r)(hg:Gl X x)(hm:X.mg x=none)(hv:bootBuiltins x=some (.builtin id))(ha:PE X e ta)(hb:PE X d tb)
  (hn:x≠"__name__":=by decide) (hdb:(x==("__debug__" : Str))=false:=by decide) (he:starEach [e] X.env=(false,eval e X.env)::starEach [] X.env:=by rfl)
  (hall:(backToKw pos (keywordEach [⟨some nm,d,kpos⟩] X.env)).all (·.1.isSome)=true:=by rfl) (hks:(backToKw pos (keywordEach [⟨some nm,d,kpos⟩] X.env)).filterMap (·.1)=[nm]:=by rfl)
  (hpl:((backTo pos (starEach [e] X.env)).any (·.1)||(backToKw pos (keywordEach [⟨some nm,d,kpos⟩] X.env)).any (·.1.isNone))=false:=by rfl) :
  PE X (.Call (.Name x p) [e] [⟨some nm,d,kpos⟩] pos) (fun σ H Q=>UE ta UK σ H fun xs H1=>UE tb UK σ H1 fun ys H2=>r σ xs ys H2 Q):=by
 intro jE s σ H Q I h;refine wpAny_Call_Name_kw (Ub I hg hm hv ?_ hn hdb);refine PySem.W.callWith_of (P:=fun _=>True) hpl (fun h _=>⟨qbE,.inr (.inl rfl),Zen⟩) (evalArgs_kw2 hall (ZJ ((Y6 ha XC he) pos jE s σ H _ I h) fun us s1 ⟨vs,H1,I1,rv,q1⟩=>?_) he);refine ZJ ((ZmI hb Zox) pos jE s1 σ H1 _ I1 q1) fun ws s2 ⟨zs,H2,I2,rz,q2⟩=>?_;refine⟨trivial,?_⟩;rw[hks];exact hc jE s2 σ H2 vs zs us ws Q I2 rv rz q2
def ZfI (X:Cx)(H:Hp)(p:Addr)(ns:List Int):Prop:=
 ZH X.K H p (ns.map V.int)∨ZT X.K H p (ns.map V.int)∨∃j:Int,H p=some (.rng 0 j)/\-(2 ^ 62)<=j/\j<=2 ^ 24/\ns=(qp j.toNat).map fun(i:Nat)=>(i:Int)
theorem Zij {jE:List (Addr×Obj)}{σ:St}{H:Hp}{s:Shared}{p:Addr}{ns:List Int}{E:Value->Shared->Prop}(hc:X.calm=true)(I:Inv X jE σ H s)(h:ZfI X H p ns)(Q1:List Value->Shared->Prop)
  (k:∀(h':Heap) (tk:Nat) (jG:List Value),(∀b o,s.heap.get? b=some o->h'.get? b=some o)->ZI (ns.map V.int) jG->Q1 jG { s with heap:=h',toks:=tk }):wpAny (model X.prog X.w) X.A.in1 (collect (.ref p)) Q1 E s:=by
 have keep:∀jG:List Value,∀b o,s.heap.get? b=some o->((s.heap.push (seqObj "list" #[] 0)).update s.heap.objs.size (qS (· ++ jG.toArray))).get? b=some o:=fun jG b o e=>by
  rw[zP _ _ _ _ (qN (qG e))];exact qf _ e
 rcases h with h | h | ⟨j,hr,h1,h2,rfl⟩
 ·obtain⟨jG,rv,pl,hz⟩:=I.list h
  have hl:=rv.length;exact collect_list pl.isList (k _ s.toks jG (keep jG) rv) (by rw[<-hl];exact hz)
 ·obtain⟨jG,rv,pl,hz⟩:=I.tuple h
  have hl:=rv.length;exact ZgL (show s.heap.IsTuple p jG.toArray from pl) (k _ s.toks jG (keep jG) rv) (by rw[<-hl];exact hz)
 ·obtain⟨t,u',v',hro⟩:=(show YI X.prog X.w H s.heap p (.rng 0 j) from I.hok p _ hr)
  have hn:yC 0 j 1=((j.toNat:Nat):Int):=by rw[rangeSize_one];split <;> omega
  refine ZgU (A:=X.A.in1) (I.ok.hd hc) (show IsRange s.heap p 0 j 1 t u' v' from hro) (small_one (by omega) (by omega) h1 (by omega)) hn (by omega) fun h' tk jL kp hi=>?_;obtain⟨sz,hit⟩:=hi;have rv:=ZbM jL.toList 0 fun i v hv=>by
   obtain⟨t,e⟩:=hit i v (by simpa using hv);exact⟨t,by rw[e];simp⟩
  have el:jL.toList.length=j.toNat:=by simpa using sz
  rw[el] at rv;refine k h' tk jL.toList kp ?_;rw[qH];have e:(qp j.toNat).map (V.int∘fun(i:Nat)=>(i:Int))=(qp j.toNat).map fun(i:Nat)=>V.int (0+i):=zF fun i _=>by show V.int _=V.int _;rw[Int.zero_add]
  rw[e];exact rv
theorem ZfJ (hc:X.calm=true):Zl0 X "sorted" "key" (fun σ xs ys H Q=>∃(p f:Addr) (ns:List Int) (sp:Heap->Sp) (k:Nat),xs=[.ref p]/\ys=[.ref f]/\ZfI X H p ns/\KeyFn X σ k f sp/\Room (k+2) X.A/\ns.length<64/\
  Jo X σ sp (ns.map V.int) H fun kvs H1=>∃lt,VL X kvs H1 lt/\∀l,H1 l=none->Q (.ref l) (Zo H1 l (.lst ((YN lt ns.length).map fun i=>V.int (ns.getD i 0))))):=by
 intro jE s σ H xs ys us vs Q I r r2 h;obtain⟨p,f,ns,sp,k,rfl,rfl,hp,F,hr,h64,q⟩:=h;obtain⟨u,rfl,ru⟩:=Xl r
 cases ru
 obtain⟨v,rfl,rv⟩:=Xl r2
 cases rv
 refine Zii (xs:=ns.map V.int) F hr I (by rw[qd];exact h64) (fun Q1 k=>Zij hc I hp Q1 k) ?_;have ek:(fun kvs H1=>∃lt,VL X kvs H1 lt/\∀l,H1 l=none->Q (.ref l) (Zo H1 l (.lst ((YN lt ns.length).map fun i=>V.int (ns.getD i 0)))))=fun kvs H1=>∃lt,VL X kvs H1 lt/\∀l,H1 l=none->Q (.ref l) (Zo H1 l (.lst ((YN lt (ns.map V.int).length).map fun i=>(ns.map V.int).getD i .non))):=by
  funext kvs H1;refine propext (exists_congr fun lt=>and_congr_right fun ok=>?_);have e:(YN lt (ns.map V.int).length).map (fun i=>(ns.map V.int).getD i .non)=(YN lt ns.length).map fun i=>V.int (ns.getD i 0):=by
   rw[qd];refine zF fun i hi=>?_;have hi:=qP.mp ((Bk ok.ord).mem_iff.mp hi);rw[qj,qy,qj,qk hi];rfl
  rw[e]
 rw[ek] at q;exact q
end
def BV (F:List D->M D)(cds:List D):List Int->M (List D)
 | []=>Zx []
 | n::r=>Zn (F (.int n::cds)) fun k=>Zn (BV F cds r) fun ks=>Zx (k::ks)
def JA (ks:List D):Option (Nat->Nat->Bool):=match ZM ks with
 | some ns=>some fun i j=>decide (ns.getD i 0<ns.getD j 0)
 | none=>match Vg ks with
  | some jN=>if jN.all (fun ns=>!ns.isEmpty)=true then some fun i j=>Y5 (jN.getD i []) (jN.getD j []) else none
  | none=>none
def JR (F:List D->M D)(cds:List D)(ns:List Int):M D:=if (decide (ns.length<64)&&Xq cds)=true then Zn (BV F cds ns) fun ks=>match JA ks with
 | some lt=>Zx (.lst ((YN lt ns.length).map fun i=>.int (ns.getD i 0)))
 | none=>ZC else ZC
section
variable {X:Cx}{G:Gh}{σ:St}
theorem ZgY {cvs:List V}{cds:List D}{F:List D->M D}:∀(ns:List Int) (Hf H:Hp) (s s':Pn) (ks:List D) (R:List V->Hp->Prop),ZL G Hf H->Zm G Hf cds cvs->G.st s H->BV F cds ns s=some (ks,s')->
  (∀kvs jM H1,Gr G Hf H jM H1->G.st s' H1->Zm G jM ks kvs->R kvs H1)->Jo X σ (fun _=>B8 1 G cvs F) (ns.map V.int) H R
 | [],Hf,H,s,s',ks,R,e,rc,st,h,k=>by
  obtain⟨rfl,rfl⟩:=ZW h;exact k [] Hf H (.refl e) st (Zm.nil_iff.mpr rfl)
 | n::r,Hf,H,s,s',ks,R,e,rc,st,h,k=>by
  obtain⟨d,s1,a1,a2⟩:=ZB h;obtain⟨ks',s2,a3,a4⟩:=ZB a2;obtain⟨rfl,rfl⟩:=ZW a4;intro base' cs;refine⟨Hf,[.int n],cds,s,d,s1,rfl,e,.one (ja.mpr rfl),rc,st,a1,fun v jM H1 g1 jW rv=>?_⟩;exact ZgY r jM H1 s1 _ ks' _ g1.fh (rc.ext g1.ff) jW a3 fun kvs jX H2 g2 jV rk=>k (v::kvs) jX H2 (g1.trans g2) jV (.cons (rv.ext g2.ff) rk)
theorem Zke {ks:List D}{kvs:List V}{lt:Nat->Nat->Bool}{Hf H:Hp}(e:ZL G Hf H)(r:Zm G Hf ks kvs)(h:JA ks=some lt):VL X kvs H lt:=by
 unfold JA at h
 cases hi:ZM ks with
 | some ns=>
  rw[hi] at h
  cases h
  rw[Wo hi] at r;exact .inl ⟨ns,jk r,rfl⟩
 | none=>
  rw[hi] at h
  cases ht:Vg ks with
  | none=>rw[ht] at h;cases h
  | some jN=>
   rw[ht] at h;have h:(if jN.all (fun ns=>!ns.isEmpty)=true then some fun i j=>Y5 (jN.getD i []) (jN.getD j []) else none)=some lt:=h;by_cases hn:jN.all (fun ns=>!ns.isEmpty)=true
   ·rw[if_pos hn] at h
    cases h
    rw[Zcv ht] at r;refine .inr ⟨jN,fun v ns=>Zp G Hf (XA ns) v,fun v ns rv=>?_,Zcw r,fun ns hm z=>?_,rfl⟩
    ·obtain⟨a,vs,rfl,na,ha,rl⟩:=jc.mp rv
     rw[jk rl] at ha;exact⟨a,rfl,ZT.of (e _ _ na ha)⟩
    ·have:=zo.mp hn ns hm
     rw[z] at this;cases this
   ·rw[if_neg hn] at h;cases h
end
section
variable {X:Cx}{G:Gh}{P c:Addr}{q:Str}{kl:Nat}{frb:Bool}{e1:Expr}{f1:Zb->M D}{r1:Bool}{params:Arguments}{scope:Scope}{lpos ppos pos kpos:Pos}{XN N ps:List Str}{NS:List (Str×NameKind)}{cix:List Nat}{body:Expr}{fe:Zb->M D}
theorem Zeq {cds:List D}{ns:List Int}{σ:St}{jM H1:Hp}{ρ:Zb}{s s':Pn}{d:D}{Q:VK}{p0:Addr}(hfn:∀x,X.fn x=true)(hr:Room (kl+3) X.A)(M:Mk0 X c P)(TG:TabG P q G)(S:CloScope N ps scope)(B:CapS X XN NS N ps cix scope)(hps:ps.length=1)
  (hbind:∀(cl:List (Str×Addr)) (pm cd ct:Value) (us:List Value),us.length=ps.length->bindArgs (zq "<lambda>" q params body scope cl pm cd ct) ⟨us,[]⟩=pure (ps.zip us))
  (hb:∀(base:Heap) (f c':Addr) (cl:List (Str×Addr)) (G:Gh) (A:Around) (outer:List Env) (s:Shared) (H:Hp) (E:XK),Room kl (A.deeper (z6 q scope s.heap.objs.size f (.ref c') cl))->PD (Jz ZX X.prog X.w X.K X.mg base N q scope f (.ref c') cl A outer s H E).nox G frb body fe)
  (x1:ZL G jM H1) (x2:YX G jM σ ρ) (jW:G.st s H1) (hcap:UF ρ cix=some cds) (hk:JR (WK N.length fe) cds ns s=some (d,s'))
  (hit:∀H2,ZL G H1 H2->(∀b u,H1 b=some u->(∀t,u≠.tbl t)->H2 b=some u)->ZfI X H2 p0 ns)
  (k:∀v Hf3 H3,Gr G jM H1 Hf3 H3->G.st s' H3->Zp G Hf3 d v->Q v H3) :
  UE (fun σ H Q=>ZnS P q lpos (fun fd c'=>∃cl pm ctv,CloOf X scope cl/\fd=zq "<lambda>" q params body scope cl pm (.ref c') ctv) H fun p _ _ H'=>Q (.ref p) H') UK σ H1 fun ys H2=>
   ∃(p f:Addr) (ns:List Int) (sp:Heap->Sp) (k:Nat),[V.ref p0]=[.ref p]/\ys=[.ref f]/\ZfI X H2 p ns/\KeyFn X σ k f sp/\Room (k+2) X.A/\ns.length<64/\
    Jo X σ sp (ns.map V.int) H2 fun kvs H1=>∃lt,VL X kvs H1 lt/\∀l,H1 l=none->Q (.ref l) (Zo H1 l (.lst ((YN lt ns.length).map fun i=>V.int (ns.getD i 0)))):=by
 unfold JR at hk;obtain⟨hn,a5⟩:=Xw hk;obtain⟨hn0,hn1⟩:=zZ.mp hn;have h64:=of_decide_eq_true hn0;obtain⟨ks,s1,a6,a7⟩:=ZB a5;obtain⟨tp,hP,htr,hhit⟩:=TG.get _ H1 jW;refine⟨tp,hP,htr,fun cv h=>let ⟨c',z1,z2,_⟩:=hhit lpos cv h;⟨c',z1,z2⟩,fun p c' fd Hm ⟨cl,pm,ctv,co,efd⟩ sl hp=>?_⟩;subst efd;obtain⟨stm,hc',ex⟩:=ZiS TG jW hP sl;have gr:=ZiT (o:=.ext (fnφ p (zq "<lambda>" q params body scope cl pm (.ref c') ctv))) x1 ex hp;have hcp:c'≠p:=fun z=>by rw[z,hp] at hc';cases hc'
 obtain⟨cvs,l1,l2,l3⟩:=ZdH x2 hcap;have jV:(Ws G 0 p c' (zq "<lambda>" q params body scope cl pm (.ref c') ctv) q cvs).st s (Zo Hm p (.ext (fnφ p (zq "<lambda>" q params body scope cl pm (.ref c') ctv)))):=⟨Gh.grow stm hp,Z8,by rw[Zu hcp];exact hc'⟩;refine⟨p0,p,ns,fun _=>B8 1 (Ws G 0 p c' (zq "<lambda>" q params body scope cl pm (.ref c') ctv) q cvs) cvs (WK N.length fe),kl+1,rfl,rfl,?_,⟨hfn,_,ps,.all (hbind cl pm (.ref c') ctv),fun base' cs=>?_⟩,hr,h64,?_⟩
 ·refine hit _ gr.hh fun b u e nt=>?_
  have e2:Hm b=some u:=by
   rcases sl with⟨rfl,h1,h2⟩ | ⟨h1,h2,h3,rfl⟩
   ·exact e
   ·have hbP:b≠P:=fun z=>by
     rw[z,hP] at e;cases e;exact nt _ rfl
    rw[Zu (Z5 e h2),Zu hbP];exact e
  rw[Zu (Z5 e2 hp)];exact e2
 ·have:=fnKE S (B.cloAt cs co l1 l3) (fun s H st=>st.2) (G:=Ws G 0 p c' (zq "<lambda>" q params body scope cl pm (.ref c') ctv) q cvs) fun A outer s H E hr=>hb base' p c' cl _ A outer s H E hr
  rw[hps] at this;exact this
 ·refine ZgY ns jM _ s s1 ks _ (ZL.re (G:=G) rfl gr.fh) (toCL hn1 l2) jV a6 fun kvs jX H2 g2 st3 rk=>?_
  cases hlt:JA ks with
  | none=>rw[hlt] at a7;cases a7
  | some lt=>
   rw[hlt] at a7;obtain⟨rfl,rfl⟩:=ZW a7;refine⟨lt,Zke g2.fh rk hlt,fun l hl=>?_⟩;have g2':Gr G jM _ jX H2:=grC g2;have nf:=Gh.nofp st3.1 hl;have gB:=Gr.new (G:=G) (o:=.lst ((YN lt ns.length).map fun i=>V.int (ns.getD i 0))) g2'.fh hl nf;have gg:=(gr.trans g2').trans gB;have hrl:Zm G (Zo jX l (.lst ((YN lt ns.length).map fun i=>V.int (ns.getD i 0)))) ((YN lt ns.length).map fun i=>D.int (ns.getD i 0)) ((YN lt ns.length).map fun i=>V.int (ns.getD i 0)):=by
    have:=U6 (G:=G) (Hf:=Zo jX l (.lst ((YN lt ns.length).map fun i=>V.int (ns.getD i 0)))) ((YN lt ns.length).map fun i=>ns.getD i 0);rw[qH,qH] at this;exact this
   exact k (.ref l) _ _ gg (Gh.grow st3.1 hl) (jb.mpr ⟨l,_,rfl,nf,Z8,hrl⟩)
def ZbA (F:List D->M D)(cix:List Nat)(f:Zb->M D):Zb->M D:=fun ρ=>Zn (f ρ) fun d=>Zn (YF (UF ρ cix)) fun cds=>match d with
 | .int j=>if -(2 ^ 62)<=j/\j<=2 ^ 24 then JR F cds ((qp j.toNat).map fun(i:Nat)=>(i:Int)) else ZC
 | _=>ZC
theorem ZgZ {p2 pos2:Pos}(hc:X.calm=true)(hg:Gl X "sorted")(hm:X.mg "sorted" = none)(hv:bootBuiltins "sorted" = some (.builtin "sorted"))(hgr:Gl X "range")(hmr:X.mg "range" = none)(M:Mk0 X c P)(TG:TabG P q G)(hfn:∀x,X.fn x=true)(hr:Room (kl+3) X.A)(h1:PD X G r1 e1 f1)
  (hq:X.env.qual ++ "<lambda>" = q) (S:CloScope N ps scope) (B:CapS X XN NS N ps cix scope) (hps:ps.length=1)
  (hbind:∀(cl:List (Str×Addr)) (pm cd ct:Value) (us:List Value),us.length=ps.length->bindArgs (zq "<lambda>" q params body scope cl pm cd ct) ⟨us,[]⟩=pure (ps.zip us))
  (hb:∀(base:Heap) (f c':Addr) (cl:List (Str×Addr)) (G:Gh) (A:Around) (outer:List Env) (s:Shared) (H:Hp) (E:XK),Room kl (A.deeper (z6 q scope s.heap.objs.size f (.ref c') cl))->PD (Jz ZX X.prog X.w X.K X.mg base N q scope f (.ref c') cl A outer s H E).nox G frb body fe)
  (hdef:defaultsOf params X.env=([],[]):=by rfl)
  (hs1:starEach [e1] X.env=[(false,eval e1 X.env)]:=by rfl)
  (he:starEach [.Call (.Name "range" p2) [e1] [] pos2] X.env=(false,eval (.Call (.Name "range" p2) [e1] [] pos2) X.env)::starEach [] X.env:=by rfl)
  (hall:(backToKw pos (keywordEach [⟨some "key",.Lambda params body scope lpos,kpos⟩] X.env)).all (·.1.isSome)=true:=by rfl) (hks:(backToKw pos (keywordEach [⟨some "key",.Lambda params body scope lpos,kpos⟩] X.env)).filterMap (·.1)=[("key" : Str)]:=by rfl)
  (hpl:((backTo pos (starEach [.Call (.Name "range" p2) [e1] [] pos2] X.env)).any (·.1)||(backToKw pos (keywordEach [⟨some "key",.Lambda params body scope lpos,kpos⟩] X.env)).any (·.1.isNone))=false:=by rfl) :
  PD X G false (.Call (.Name "sorted" ppos) [.Call (.Name "range" p2) [e1] [] pos2] [⟨some "key",.Lambda params body scope lpos,kpos⟩] pos) (ZbA (WK N.length fe) cix f1):=by
 obtain⟨t1,p1,q1⟩:=h1.drop;refine⟨_,Zkd (ZfJ hc) hg hm hv (ZeK hgr hmr (Y6 p1 XC (by rw[hs1];rfl)) hs1) (Zld M hq B.hfree hdef) (by decide) (by decide) he hall hks hpl,fun σ Hf H ρ s d s' Q x1 x2 x3 x4 k=>?_⟩;obtain⟨d1,s1,a1,a2⟩:=ZB x4;obtain⟨cds,s2,b3,a4⟩:=ZB a2;obtain⟨a3,rfl⟩:=Wz b3
 cases d1 with
 | int j=>
  obtain⟨cj,a5⟩:=Xw a4;refine q1 σ Hf H ρ s _ _ _ x1 x2 x3 a1 fun v1 jM H1 g1 jW rv1=>?_;rw[ja.mp rv1];refine⟨j,rfl,fun p hp=>?_⟩;have jV:G.st s2 (Zo H1 p (.rng 0 j)):=Gh.grow jW hp;have fp:jM p=none:=by
   cases q:jM p with
   | none=>rfl
   | some o=>rw[g1.fh p o (Gh.nofp jW hp) q] at hp;cases hp
  have gA:Gr G jM H1 jM (Zo H1 p (.rng 0 j)):=⟨fun b o n q=>by rw[Zu (Z5 q hp)];exact q,.refl _ _,fun b o n q=>by rw[Zu (Z5 q fp)];exact g1.fh b o n q,fun b n h1 h2=>h1⟩;refine Zeq hfn hr M TG S B hps hbind hb gA.fh (x2.ext g1.ff) jV a3 a5 (fun H2 _ keep=>.inr (.inr ⟨j,keep _ _ Z8 (fun t z=>by cases z),cj.1,cj.2,rfl⟩)) fun v Hf3 H3 g3 st3 r3=>k v Hf3 H3 ((g1.trans gA).trans g3) st3 r3 (fun z=>by cases z)
 | _=>cases a4
end
end TF
namespace TQ
open L2 TF TQ
open TP
open TP2
open TP3
def Zc8:Zb->M Out:=(Zh (ZF (Zw WN (Zc (Yg [none,some 0] (Yk (Za 1)) (ZE 0) Yq (Zd Zj (Za 1) (Za 0))) Zg)))
 Zl)
def Zag:List D->M D:=runB 2 2 Zc8
def Zb9:Zb->M Out:=(Zh (Wr 2 (dC (.dk [])))
 (Zh (Y2 (Y0 (Zw YR (Zc (Za 1) Zg))) (ZE 3)
 (Zh (VO 2 (fun ρ=>(Zd Zj (Za 1) (Za 3)) (Ye [2] ρ)) (WW true (Zw WP (Zc (Zd Zj (Za 0) (Za 3)) (Zc (Ug (Za 2) (Zd Zj (Za 1) (Za 3)) (dC (.int 0))) Zg)))))
 Zl))
 (Zh (ZF (ZdU (Za 2)))
 Zl)))
def Zac:List D->M D:=runB 4 2 Zb9
def Zcx:Zb->M Out:=(Zh (ZF (Yg [none,some 1] (Y0 (Zd Zj (Za 0) (dC (.int 0)))) (ZE 0) (Zz (Zd Xg (Za 0) (Za 1))) (Za 0)))
 Zl)
def Zad:List D->M D:=runB 2 2 Zcx
def Zer:Zb->M Out:=(Zh (Ya 2 (Zv Uu (Zc (Za 0) Zg)))
 (Zh (ZF (Zv ZaD (Zc (Za 0) (Zc (ZbA (WK 3 (Yr (Zc (Um (Zd Zj (Za 1) (Za 0))) (Zc (Um (Zw YR (Zc (Zd Zj (Za 2) (Za 0)) Zg))) Zg)))) [1,2] (Zd Zj (Za 0) (dC (.int 0)))) Zg))))
 Zl))
def Zao:List D->M D:=runB 3 2 Zer
def Zc9 (Fs:List D->M D):Zb->M Out:=(Zh (ZF (Zv Fs (Zc (Za 0) (Zc (Zv ZfC (Zc (Za 1) (Zc (Za 3) Zg))) (Zc (Zv Zag (Zc (Za 2) (Zc (Za 3) Zg))) (Zc (Za 4) Zg))))))
 Zl)
def JF (Fs:List D->M D):List D->M D:=runB 5 5 (Zc9 Fs)
def ZfK (Fs:List D->M D):Zb->M Out:=(Zh (Yn (Zz (Zd XS (Zw Zi5 (Zc (Za 2) Zg)) (Za 3)))
 (Zh (ZF (Yr (Zc (Za 0) Zg)))
 Zl)
 Zl)
 (Zh (Ya 4 (Zv Zao (Zc (Za 1) (Zc (Za 2) Zg))))
 (Zh (Yn (Zz (Zd XS (Zv Zac (Zc (Za 2) (Zc (Za 4) Zg))) (Za 3)))
 (Zh (ZF (Yr (Zc (dC (.str (qA "hues"))) (Zc (Za 4) Zg))))
 Zl)
 Zl)
 (Zh (Ya 5 (Zd ZfG (Za 4) (Zw ZlW (Zc (Za 4) Zg))))
 (Zh (ZF (Yr (Zc (dC (.str (qA "place"))) (Zc (Za 5) (Zc (Zv (JF Fs) (Zc (Za 0) (Zc (Za 1) (Zc (Za 2) (Zc (Zv Zad (Zc (Za 1) (Zc (Za 5) Zg))) (Zc (Za 3) Zg)))))) (Zc (Zv (JF Fs) (Zc (Za 0) (Zc (Za 1) (Zc (Za 2) (Zc (Zv VJ (Zc (Za 1) (Zc (Za 5) Zg))) (Zc (Zd We (Za 3) (Zd Zj (Za 2) (Za 5))) Zg)))))) Zg))))))
 Zl)))))
def Ua:Nat->List D->M D
 | 0=>fun _=>ZC
 | n+1=>runB 6 4 (ZfK (Ua n))
end TQ
namespace TF
open L2
section
variable {X:Cx}{G:Gh}
theorem ZdW:∀{ns:List Int} {vs:List Value},vs.length=ns.length->(∀(i:Nat) (v:Value),vs[i]?=some v->∃t,v=.int (ns.getD i 0) t)->ZI (ns.map V.int) vs
 | [],[],_,_=>.nil
 | [],_::_,h,_=>by cases h
 | _::_,[],h,_=>by cases h
 | n::ns,v::vs,h,q=>by
  obtain⟨t,e⟩:=q 0 v rfl;refine .cons ⟨t,by simpa using e⟩ (ZdW (qal h) fun i u hu=>?_);obtain⟨t',e'⟩:=q (i+1) u (by simpa using hu);exact⟨t',by simpa using e'⟩
theorem Zes (hc:X.calm=true):Y9 X (.type "list") (fun xs H Q=>∃(v a:Addr) (kvs:List (Zy×V)) (ns:List Int),xs=[.ref v]/\H v=some (.ext (valφ v a))/\Rd H a (.dK kvs)/\kvs.map (·.2)=ns.map V.int/\ns.length<=sizeLine/\∀l,H l=none->Q (.ref l) (Zo H l (.lst (ns.map V.int)))):=by
 intro jE s σ H xs us Q I r h;obtain⟨v,a,kvs,ns,rfl,hv,hd,hns,hz,q⟩:=h;obtain⟨u,rfl,ru⟩:=Xl r
 cases ru
 obtain⟨z,hy,vs,rel,dd⟩:=Vu I.hok hd;obtain⟨ep,hat⟩:=dd.dictAt;have hvv:s.heap.IsValuesView v a:=(I.hok v _ hv).1;have jO:kvs.length=vs.length:=rel.length;have hl2:ns.length=vs.length:=by
  have:=congrArg qay hns;rw[qd,qd] at this;omega
 refine PySem.W.kdl_call (PySem.W.kdl_values (prog:=X.prog) (w:=X.w) (r:=v) (d:=a) (knd:=XT X.prog X.w) (kvs:=vs) (ep:=ep)) (I.ok.hd hc) ⟨hvv,hat⟩ (by rw[<-hl2];exact hz) fun h' tk acc' c' hk hS hacc=>?_;obtain⟨sz,hit⟩:=hacc;have el:acc'.toList.length=ns.length:=by rw[hl2];simpa using sz
 have rv:ZI (ns.map V.int) acc'.toList:=ZdW el fun i v hv=>by
  obtain⟨k,hx⟩:=hit i v (by simpa using hv);obtain⟨kv,hkv,rkv⟩:=ZdS rel hx;have e1:(kvs.map (·.2))[i]?=some kv.2:=by rw[qy,hkv];rfl
  rw[hns,qy] at e1
  cases q2:ns[i]? with
  | none=>rw[q2] at e1;cases e1
  | some n=>
   rw[q2] at e1;have e2:V.int n=kv.2:=zf e1;have r2:ZK kv.2 v:=rkv.2;rw[<-e2] at r2;obtain⟨t,rfl⟩:=r2;exact⟨t,by rw[qj,q2];rfl⟩
 refine⟨.ref s.heap.objs.size,Zo H s.heap.objs.size (.lst (ns.map V.int)),I.laid hk (qu _) ?_,rfl,q _ (I.hok.fresh (qu _))⟩;refine⟨by rw[qd];exact hz,acc'.toList,c',rv,?_⟩;rw[qbM];exact hS
def ZbB (f:Zb->M D):Zb->M D:=fun ρ=>Zn (f ρ) fun d=>match d with
 | .dk kvs=>(match Vl kvs with | some ns=>if ns.length<=sizeLine then Zx (.lst (ns.map D.int)) else ZC | none=>ZC)
 | _=>ZC
theorem Zg0 {a:Expr}{p pos apos cpos:Pos}{f:Zb->M D}{r1:Bool}(hc:X.calm=true)(hg:Gl X "list")(hm:X.mg "list" = none)(hv:bootBuiltins "list" = some (.type "list"))(ha:PD X G r1 a f)
  (hbase:attributeBase a "values" X.env (eval a X.env)=eval a X.env:=by rfl)
  (hfew:((backTo cpos (starEach [] X.env)).all (fun x=>!x.1)&&(backToKw cpos (keywordEach [] X.env)).all (fun x=>x.1.isSome)
   && decide (([]:List Expr).length+([]:List Keyword).length+(if ([]:List Keyword).isEmpty then 0 else 1)<30))=true:=by rfl)
  (hline:(apos.endLine==cpos.line)=true:=by rfl) (htr:backTo cpos (starEach [] X.env)=[]:=by rfl)
  (he:starEach [.Call (.Attribute a "values" apos) [] [] cpos] X.env=(false,eval (.Call (.Attribute a "values" apos) [] [] cpos) X.env)::starEach [] X.env:=by rfl) :
  PD X G true (.Call (.Name "list" p) [.Call (.Attribute a "values" apos) [] [] cpos] [] pos) (ZbB f):=by
 obtain⟨t,pa,qa⟩:=ha.drop;refine⟨_,Zbw (Zes hc) hg hm hv (Y6 (ZeV pa hbase hfew hline htr) XC he) (by decide) (by decide) he rfl,fun σ Hf H ρ s d s' Q e1 e2 e3 e4 k=>?_⟩;obtain⟨da,s1,a1,a2⟩:=ZB e4
 match da,a2 with
 | .dk kvs,a2=>
  have a2:(match Vl kvs with | some ns=>if ns.length<=sizeLine then Zx (D.lst (ns.map D.int)) else ZC | none=>ZC) s1=some (d,s'):=a2
  cases hn:Vl kvs with
  | none=>rw[hn] at a2;cases a2
  | some ns=>
   rw[hn] at a2;obtain⟨hz,a3⟩:=Xw a2;obtain⟨rfl,rfl⟩:=ZW a3;refine qa σ Hf H ρ s _ _ _ e1 e2 e3 a1 fun x jM H1 g1 jW r1=>?_;obtain⟨q,rfl,nq,hq⟩:=jj.mp r1;have hq1:=g1.fh _ _ nq hq;refine⟨q,kvs,rfl,.of hq1,fun v hv=>?_⟩;have hqv:q≠v:=fun z=>by rw[<-z,hq1] at hv;cases hv
   have jV:G.st _ (Zo H1 v (.ext (valφ v q))):=Gh.grow jW hv;have fp:jM v=none:=by
    cases q:jM v with
    | none=>rfl
    | some o=>rw[g1.fh v o (Gh.nofp jW hv) q] at hv;cases hv
   have gA:Gr G jM H1 jM (Zo H1 v (.ext (valφ v q))):=⟨fun b o n q=>by rw[Zu (Z5 q hv)];exact q,.refl _ _,fun b o n q=>by rw[Zu (Z5 q fp)];exact g1.fh b o n q,fun b n h1 h2=>h1⟩;refine⟨v,q,kvs,ns,rfl,Z8,.of (by rw[Zu hqv];exact hq1),ZdT hn,hz,fun l hl=>?_⟩;have nf:=Gh.nofp jV hl;have gB:=Gr.new (o:=.lst (ns.map V.int)) gA.fh hl nf;have rr:Zm G jM (ns.map D.int) (ns.map V.int):=U6 ns;refine k (.ref l) _ _ ((g1.trans gA).trans gB) (Gh.grow jV hl) (jb.mpr ⟨l,_,rfl,nf,Z8,rr.ext gB.ff⟩) fun _=>?_;exact jn (g1.trans gA).hh (fun a ea _=>by cases ea;exact nf) (YH.mk gA.fh hl nf rr)
end
section
variable {X:Cx}{G:Gh}
def Zi8:List D->Option D
 | [.dk kvs]=>some (.int kvs.length)
 | _=>none
theorem Zkf:XO X G (.builtin "len") Zi8:=
 ⟨_,ZjF,fun Hf H s xs ds c Q e1 st r q k=>by
  match ds,q,r with
  | [.dk kvs],q,r=>
   cases q
   obtain⟨v,rfl,rv⟩:=jg r;obtain⟨p,rfl,np,hp⟩:=jj.mp rv;exact⟨p,kvs,rfl,e1 _ _ np hp,k _ Hf H (.refl e1) st (ja.mpr rfl) (.scal fun z=>z)⟩⟩
end
section
variable {X:Cx}{G:Gh}
theorem Zkg {op op':CmpOp}{r r':R2}{a b c:Expr}{pos:Pos}{ta tb tc:TE}(ho:YC X (compareOp op) r)(ho':YC X (compareOp op') r')(ha:PE X a ta)(hb:PE X b tb)(hc:PE X c tc)
  (hm:lastMarks [op,op'] [b,c]=false:=by with_unfolding_all rfl):PE X (.Compare a [op,op'] [b,c] pos) (fun σ H Q=>ta σ H fun x H1=>tb σ H1 fun y H2=>r x y H2 fun w H3=>∃k,w=.bl k/\(if k=true then tc σ H3 fun z H4=>r' y z H4 Q else Q (.bl false) H3)):=by
 intro jE s σ H Q I h;refine Compare_chain (ZJ (ha jE s σ H _ I h) fun v s1 ⟨x,H1,I1,r1,q1⟩=>?_) hm;refine chain_link (ZJ (hb jE s1 σ H1 _ I1 q1) fun u s2 ⟨y,H2,I2,r2,q2⟩=>ZJ (ho jE s2 σ H2 x y v u _ I2 r1 r2 q2) fun d s3 ⟨z',H3,I3,r3,k,e,q3⟩=>?_);subst e
 cases r3
 refine wpAny_truthy_bool ?_
 cases k with
 | false=>exact ite_ff ⟨.bl false,H3,I3,rfl,q3⟩
 | true=>exact ite_tt (chain_last (ZJ (hc jE s3 σ H3 _ I3 q3) fun u' s4 ⟨z,H4,I4,r4,q4⟩=>ho' jE s4 σ H4 y z u u' _ I4 r2 r4 q4))
def BE (g g':D->D->Option D)(fa fb fc:Zb->M D):Zb->M D:=fun ρ=>Zn (fa ρ) fun x=>Zn (fb ρ) fun y=>Zn (VZ (g x y)) fun k=>if k=true then Zn (fc ρ) fun z=>Zn (VZ (g' y z)) fun k'=>Zx (.bl k') else Zx (.bl false)
theorem Zkh {op op':CmpOp}{g g':D->D->Option D}{a b c:Expr}{pos:Pos}{fa fb fc:Zb->M D}{r1 r2 r3:Bool}(ho:Xv X G (compareOp op) g)(ho':Xv X G (compareOp op') g')(ha:PD X G r1 a fa)(hb:PD X G r2 b fb)(hc:PD X G r3 c fc)
  (hm:lastMarks [op,op'] [b,c]=false:=by with_unfolding_all rfl):PD X G true (.Compare a [op,op'] [b,c] pos) (BE g g' fa fb fc):=by
 obtain⟨_,po,qo⟩:=ho;obtain⟨_,po',qo'⟩:=ho';obtain⟨_,pa,qa⟩:=ha.drop;obtain⟨_,pb,qb⟩:=hb.drop;obtain⟨_,pc,qc⟩:=hc.drop;refine⟨_,Zkg po po' pa pb pc hm,fun σ Hf H ρ s d s' Q e1 e2 e3 e4 k=>?_⟩;obtain⟨x,s1,a1,b1⟩:=ZB e4;obtain⟨y,s2,a2,b2⟩:=ZB b1;obtain⟨k1,s3,a3',b3⟩:=ZB b2;obtain⟨a3,rfl⟩:=Zb3 a3';refine qa σ Hf H ρ s x _ _ e1 e2 e3 a1 fun vx jM H1 g1 jW rx=>?_;refine qb σ jM H1 ρ s1 y _ _ g1.fh (e2.ext g1.ff) jW a2 fun vy jX H2 g2 jV ry=>?_;refine qo jX H2 _ vx vy x y _ _ (g1.trans g2).fh jV (rx.ext g2.ff) ry a3 fun v Hf3 H3 g3 st3 r3 _=>⟨k1,jd.mp r3,?_⟩
 cases k1 with
 | false=>
  rw[if_neg (by decide)] at b3⊢;obtain⟨rfl,rfl⟩:=ZW b3;exact k _ Hf3 H3 ((g1.trans g2).trans g3) st3 (jd.mpr rfl) fun _=>.scal fun z=>z
 | true=>
  rw[if_pos rfl] at b3⊢;obtain⟨z,s4,a4,b4⟩:=ZB b3;obtain⟨k2,s5,a5',b5⟩:=ZB b4;obtain⟨a5,rfl⟩:=Zb3 a5';obtain⟨rfl,rfl⟩:=ZW b5;have g123:=(g1.trans g2).trans g3;refine qc σ Hf3 H3 ρ _ z _ _ g123.fh (e2.ext g123.ff) st3 a4 fun vz Hf4 H4 g4 st4 rz=>?_;exact qo' Hf4 H4 _ vy vz y z _ _ (g123.trans g4).fh st4 ((ry.ext g3.ff).ext g4.ff) rz a5 fun v' Hf5 H5 g5 st5 r5 _=>k v' Hf5 H5 ((g123.trans g4).trans g5) st5 r5 fun _=>.scal fun w=>by cases w
end
end TF
namespace TQ
open L2 TF TQ
open TP
open TP2
open TP3
def ZdX:Zb->M Out:=(Zh (Ya 2 (Zv Xt (Zc (Za 0) (Zc (dC (.int 3)) Zg))))
 (Zh (Wr 3 (Xf Zg))
 (Zh (Y2 (Y0 (Zd Zj (Za 1) (dC (.int 0)))) (ZE 4)
 (Zh (VU 3 (fun ρ=>(Zd Zj (Xf (Zc (Zv Xt (Zc (Za 0) (Zc (dC (.int 5)) Zg))) (Zc (Zv Xt (Zc (Za 0) (Zc (dC (.int 1001)) Zg))) (Zc (dC (.int 1)) Zg)))) (Za 2)) (Ye [3] ρ)))
 Zl))
 (Zh (ZF (Zw WN (Zc (Za 3) Zg)))
 Zl))))
def Bj:List D->M D:=runB 5 2 ZdX
def Zda:Zb->M Out:=(Zh (Ya 2 (dC (.int 0)))
 (Zh (Y2 (Yk (Zv ZaC (Zc (Za 0) Zg))) (ZE 3)
 (Zh (Ya 2 (Zw WP (Zc (Za 2) (Zc (Zw Jv (Zc (Yg [none,some 1] (XR (Za 3)) (ZE 0) Yq (Zd Zj (Za 1) (Za 0))) Zg)) Zg))))
 Zl))
 (Zh (ZF (Za 2))
 Zl)))
def Bh:List D->M D:=runB 4 2 Zda
def Zg1:Zb->M Out:=(Zh (Yn (Wk (XY (Zz (Zw Vo (Zc (Za 1) (Zc (dC (.ty "tuple")) Zg))))) (Zz (Zd Xg (Zw YR (Zc (Za 1) Zg)) (Zd Zj (Za 0) (dC (.int 0))))))
 (Zh (ZF (dC (.bl false)))
 Zl)
 Zl)
 (Zh (Y2 (XR (Za 1)) (ZE 2)
 (Zh (Yn (Wk (XY (Zz (Zw Vo (Zc (Za 2) (Zc (dC (.ty "int")) Zg))))) (Wk (Zz (Zw Vo (Zc (Za 2) (Zc (dC (.ty "bool")) Zg)))) (XY (Je (dC (.int 0)) (Jm XS (Za 2) (Jl W9 (Zd Zj (Za 0) (dC (.int 0)))))))))
 (Zh (ZF (dC (.bl false)))
 Zl)
 Zl)
 Zl))
 (Zh (Y2 (XR (Zd Zj (Za 0) (dC (.int 1)))) (BP 3 4)
 (Zh (Yn (Zz (Zd Ys (Zd Zj (Za 1) (Za 3)) (Zd Zj (Za 1) (Za 4))))
 (Zh (ZF (dC (.bl false)))
 Zl)
 Zl)
 Zl))
 (Zh (ZF (dC (.bl true)))
 Zl))))
def ZaJ:List D->M D:=runB 5 2 Zg1
def Zdb:Zb->M Out:=(Zh (ZF (Ui (Zw Vo (Zc (Za 1) (Zc (dC (.ty "int")) Zg))) (Ui (J7 (Zw Vo (Zc (Za 1) (Zc (dC (.ty "bool")) Zg)))) (BE XS W9 (dC (.int 0)) (Za 1) (Zd Zj (Za 0) (dC (.int 0)))))))
 Zl)
def Zah:List D->M D:=runB 2 2 Zdb
def Zg2:Zb->M Out:=(Zh (ZF (Yg [none,some 1] (Y0 (Zd Zj (Za 0) (dC (.int 0)))) (ZE 0) (Zz (Zd Xg (Za 0) (Za 1))) (Za 0)))
 Zl)
def ZaK:List D->M D:=runB 2 2 Zg2
def Zg3:Zb->M Out:=(Zh (ZF (Yg [none,some 0,some 1] (Y0 (Zd Zj (Za 0) (dC (.int 0)))) (ZE 0) (Zz (Zv Us (Zc (Za 1) (Zc (Za 0) (Zc (Za 2) Zg))))) (Za 0)))
 Zl)
def ZaL:List D->M D:=runB 2 2 Zg3
def Zg4:Zb->M Out:=(Zh (Wr 2 (dC (.dk [])))
 (Zh (Y2 (fun ρ=>(Yk (Za 1)) (Ye [2] ρ)) (ZE 3)
 (Zh (VO 2 (fun ρ=>(Za 3) (Ye [2] ρ)) (WW true (Zw Zi8 (Zc (Za 2) Zg))))
 Zl))
 (Zh (Wr 4 (fun ρ=>(Xf Zg) (Ye [2] ρ)))
 (Zh (Y2 (fun ρ=>(XR (Zd Zj (Za 0) (dC (.int 1)))) (Ye [4] ρ)) (BP 5 6)
 (Zh (Yn (XZ (Zz (Zd YZ (Za 5) (Za 2))) (Zz (Zd YZ (Za 6) (Za 2))))
 (Zh (VU 4 (fun ρ=>(Yr (Zc (Zd Vp (Za 2) (Za 5)) (Zc (Zd Vp (Za 2) (Za 6)) Zg))) (Ye [4] ρ)))
 Zl)
 Zl)
 Zl))
 (Zh (ZF (Yr (Zc (Zw YR (Zc (Za 1) Zg)) (Zc (Zw WN (Zc (Zw Zfw (Zc (Za 4) Zg)) Zg)) Zg))))
 Zl)))))
def Bm:List D->M D:=runB 7 2 Zg4
def Be (Fs:List D->M D):Zb->M Out:=(Zh (Yn (Wk (XY (Zz (Zw Vo (Zc (Za 3) (Zc (dC (.ty "tuple")) Zg))))) (Wk (Zz (Zd Ys (Zw YR (Zc (Za 3) Zg)) (dC (.int 0)))) (XY (Zz (Zw Vo (Zc (Zd Zj (Za 3) (dC (.int 0))) (Zc (dC (.ty "str")) Zg)))))))
 (Zh (ZF (dC (.bl false)))
 Zl)
 Zl)
 (Zh (Yn (Zz (Zd Ys (Za 3) (Yr (Zc (dC (.str (qA "all"))) Zg))))
 (Zh (ZF (Zd XS (Zw Zi5 (Zc (Za 1) Zg)) (Za 2)))
 Zl)
 Zl)
 (Zh (Yn (XZ (Zz (Zd Ys (Zd Zj (Za 3) (dC (.int 0))) (dC (.str (qA "hues"))))) (Zz (Zd Ys (Zw YR (Zc (Za 3) Zg)) (dC (.int 2)))))
 (Zh (Yn (XY (Zz (Zv ZaJ (Zc (Za 0) (Zc (Zd Zj (Za 3) (dC (.int 1))) Zg)))))
 (Zh (ZF (dC (.bl false)))
 Zl)
 Zl)
 (Zh (Wr 4 (dC (.dk [])))
 (Zh (Y2 (fun ρ=>(BT (Zd Zj (Za 3) (dC (.int 1))) (Za 1)) (Ye [4] ρ)) (BP 5 6)
 (Zh (VO 4 (fun ρ=>(Za 5) (Ye [4] ρ)) (WW true (Zw WP (Zc (Za 6) (Zc (Ug (Za 4) (Za 5) (dC (.int 0))) Zg)))))
 Zl))
 (Zh (ZF (Zd XS (Zw Jv (Zc (ZbB (Za 4)) Zg)) (Za 2)))
 Zl))))
 Zl)
 (Zh (Yn (Wk (Zz (Zd Xg (Zd Zj (Za 3) (dC (.int 0))) (dC (.str (qA "place"))))) (Wk (Zz (Zd Xg (Zw YR (Zc (Za 3) Zg)) (dC (.int 4)))) (XY (Zz (Zv Zah (Zc (Za 0) (Zc (Zd Zj (Za 3) (dC (.int 1))) Zg)))))))
 (Zh (ZF (dC (.bl false)))
 Zl)
 Zl)
 (Zh (Ya 7 (Zd Zj (Za 3) (dC (.int 1))))
 (Zh (Ya 8 (Xf (Zc (Zv ZaK (Zc (Za 0) (Zc (Za 7) Zg))) (Zc (Zv ZaL (Zc (Za 0) (Zc (Za 7) Zg))) Zg))))
 (Zh (Ya 9 (Yg [none,some 1] (Yk (Za 8)) (ZE 0) Yq (Zw WN (Zc (Yg [none,some 1] (Yk (Za 0)) (ZE 0) Yq (Zd Zj (Za 1) (Za 0))) Zg))))
 (Zh (Yn (Zz (Zd B7 (Zd Zj (Za 1) (Za 7)) (Za 2)))
 (Zh (ZF (dC (.bl false)))
 Zl)
 Zl)
 (Zh (Yn (XY (Zz (Zv Fs (Zc (Zv Bm (Zc (Za 0) (Zc (Zd Zj (Za 8) (dC (.int 0))) Zg))) (Zc (Zd Zj (Za 9) (dC (.int 0))) (Zc (Za 2) (Zc (Zd Zj (Za 3) (dC (.int 2))) Zg)))))))
 (Zh (ZF (dC (.bl false)))
 Zl)
 Zl)
 (Zh (Ya 10 (Zd We (Za 2) (Zd Zj (Za 1) (Za 7))))
 (Zh (ZF (Zv Fs (Zc (Zv Bm (Zc (Za 0) (Zc (Zd Zj (Za 8) (dC (.int 1))) Zg))) (Zc (Zd Zj (Za 9) (dC (.int 1))) (Zc (Za 10) (Zc (Zd Zj (Za 3) (dC (.int 3))) Zg))))))
 Zl)))))))))))
def V1:Nat->List D->M D
 | 0=>fun _=>ZC
 | n+1=>runB 11 4 (Be (V1 n))
end TQ
namespace TF
open L2
section
variable {X:Cx}{G:Gh}
def tBMT (r:V->List V->Hp->VK->Prop)(to:TE)(t:TA):TE:=fun σ H Q=>to σ H fun x H1=>(∃p vs,x=.ref p/\H1 p=some (.tup vs))/\t σ H1 fun xs H2=>r x xs H2 Q
theorem ZoZ {o e:Expr}{es:List Expr}{to:TE}{t:TA}{name:Str}{apos cpos:Pos}{id:String}{r:V->List V->Hp->VK->Prop}(pa:PlainAttrs "tuple")(slot:PySem.Slot "tuple" name id)(hty:typeOf (.builtin id)=pure (.type "method_descriptor"))(hm:MtR X id r)(ho:PE X o to)(ha:PA X (e::es) t)
  (hbase:attributeBase o name X.env (eval o X.env)=eval o X.env:=by rfl)
  (hfew:((backTo cpos (starEach (e::es) X.env)).all (fun x=>!x.1)&&(backToKw cpos (keywordEach [] X.env)).all (fun x=>x.1.isSome)
   && decide ((e::es).length+([]:List Keyword).length+(if ([]:List Keyword).isEmpty then 0 else 1)<30))=true:=by rfl)
  (hline:(apos.endLine==cpos.line)=true:=by rfl) (hs:starEach (e::es) X.env=(false,eval e X.env)::starEach es X.env:=by rfl) (hplain:(backTo cpos (starEach es X.env)).any (·.1)=false:=by rfl) :
  PE X (.Call (.Attribute o name apos) (e::es) [] cpos) (tBMT r to t):=by
 intro jE s σ H Q I h;refine wpAny_Call_method_late hbase hfew hline rfl (ZJ (ho jE s σ H _ I h) fun v s1 ⟨x,H1,I1,r1,ty,q1⟩=>?_);obtain⟨p,vs,rfl,hp⟩:=ty
 cases r1
 obtain⟨_,jG,_,ob,e1,⟨e2,n,e3⟩,e4⟩:=(show YI X.prog X.w H1 s1.heap p (.tup vs) from I1.hok p _ hp);refine⟨"tuple",id,pa,slot,hty,⟨ob,e1,e2⟩,fun a e=>by cases e;exact⟨ob,e1,e4⟩,?_⟩;have hA:=ha cpos jE s1 σ H1 _ I1 q1;rw[hs] at hA⊢;refine yQ (by show(false||(backTo cpos (starEach es X.env)).any (·.1))=false;rw[hplain] <;> rfl) (qaJ ?_);exact ZJ hA fun us s2 ⟨ws,H2,I2,r2,q2⟩=>hm jE s2 σ H2 (.ref p) ws (.ref p) us Q I2 rfl r2 q2
theorem Zki {o e:Expr}{ap cp:Pos}{r1 r2:Bool}{fo fe:Zb->M D}(ho:PD X G r1 o fo)(he:PD X G r2 e fe)
  (hbase:attributeBase o "index" X.env (eval o X.env)=eval o X.env:=by rfl)
  (hfew:((backTo cp (starEach [e] X.env)).all (fun x=>!x.1)&&(backToKw cp (keywordEach [] X.env)).all (fun x=>x.1.isSome)
   && decide ([e].length+([]:List Keyword).length+(if ([]:List Keyword).isEmpty then 0 else 1)<30))=true:=by rfl)
  (hline:(ap.endLine==cp.line)=true:=by rfl) (hs:starEach [e] X.env=(false,eval e X.env)::starEach [] X.env:=by rfl) :
  PD X G true (.Call (.Attribute o "index" ap) [e] [] cp) (Zd ZfG fo fe):=by
 obtain⟨to,po,qo⟩:=ho.drop;obtain⟨te,pe,qe⟩:=he.drop;refine⟨_,ZoZ PySem.F.plainAttrs_tuple qbh PySem.F.type_tuple_index Zkb po (Y6 pe XC hs) hbase hfew hline hs rfl,fun σ Hf H ρ s d s' Q e1 e2 e3 e4 k=>?_⟩;obtain⟨da,s1,a1,a2⟩:=ZB e4;obtain⟨db,s2,a3,a4⟩:=ZB a2;obtain⟨a5,rfl⟩:=Wz a4;refine qo σ Hf H ρ s da s1 _ e1 e2 e3 a1 fun x jM H1 g1 jW r1=>?_
 match da,db,a5,r1,a3 with
 | .tup ds,.int kk,a5,r1,a3=>
  have a5:((ZM ds).bind fun ns=>if kk∈ns then some (D.int (ns.idxOf kk:Nat)) else none)=some d:=a5
  cases he:ZM ds with
  | none=>rw[he] at a5;cases a5
  | some ns=>
   rw[he] at a5;have a5:(if kk∈ns then some (D.int (ns.idxOf kk:Nat)) else none)=some d:=a5;split at a5
   ·rename_i hmem
    cases a5
    obtain⟨p,vs,rfl,np,hp,rp⟩:=jc.mp r1;refine⟨⟨p,vs,rfl,g1.fh _ _ np hp⟩,?_⟩;refine qe σ jM H1 ρ s1 _ _ _ g1.fh (e2.ext g1.ff) jW a3 fun y jX H2 g2 jV r2=>?_;rw[Wo he] at rp;rw[jk rp] at hp
    cases (ja.mp r2)
    exact⟨p,ns,kk,rfl,rfl,ZT.of (g2.fh _ _ np (g2.ff _ _ np hp)),hmem,k _ jX H2 (g1.trans g2) jV (ja.mpr rfl) fun _=>.scal fun z=>z⟩
   ·cases a5
end
section
variable {X:Cx}{G:Gh}
end
end TF
namespace TP2
open L2 TF TP
end TP2
namespace TP2
open L2 TF TP
abbrev nD (i:Nat):D:=.int (i:Int)
def Zi (k:List Nat):D:=.tup (k.map nD)
def WX (jD:List (Nat×Nat))(i:Nat)(k:List Nat):Bool:=k.all fun o=>decide ((o,i)∈jD)
def kn (jD:List (Nat×Nat)):Nat->List (List Nat)
 | 0=>[[]]
 | i+1=>kn jD i++((kn jD i).filter (WX jD i)).map (· ++ [i])
theorem BK {jD:List (Nat×Nat)}:∀{i:Nat} {k:List Nat},k∈kn jD i->(∀o∈k,o<i)/\k.length<=i
 | 0,k,h=>by
  have:k=[]:=by simpa[kn] using h
  subst this;simp
 | i+1,k,h=>by
  rw[kn] at h;rcases zg.mp h with h | h
  ·have:=BK h
   exact⟨fun o ho=>zH (this.1 o ho),by omega⟩
  ·obtain⟨q,hq,rfl⟩:=qC.mp h
   have:=BK (qB.mp hq).1;refine⟨fun o ho=>?_,by simp;omega⟩;rcases zg.mp ho with ho | ho
   ·exact zH (this.1 o ho)
   ·rw[qQ.mp ho];omega
theorem Zl1 (jD:List (Nat×Nat)):∀i,(kn jD i).length<=2 ^ i
 | 0=>by simp[kn]
 | i+1=>by
  have h:=Zl1 jD i;have h2:=zk (WX jD i) (kn jD i);rw[kn,zp,qd,Nat.pow_succ];omega
theorem Zl2 (p:Nat×Nat)(jD:List (Nat×Nat)):YZ (ZP p) (.dt (YV [] jD))=some (.bl (decide (p∈jD))):=by
 have e:Uk (ZP p) (.dt (YV [] jD))=some (decide (p∈jD)):=by
  show(Xp [.int (p.1:Int),.int (p.2:Int)]).map (fun k=>(Z6 (YV [] jD) k).isSome)=_;show some ((Z6 (YV [] jD) (Wg p)).isSome)=_;rw[ZgC];simp[Z6]
 unfold YZ;rw[e];rfl
theorem Zns (k:List Nat)(i:Nat)(h:k.length<=1000):Y4 (Zi k) (.tup [nD i])=some (Zi (k ++ [i])):=by
 unfold Zi;show(if (k.map nD).length + [nD i].length<=sizeLine then some (D.tup (k.map nD ++ [nD i])) else none)=_;rw[if_pos (by rw[qd,YG];simp;omega),zj];rfl
def Yx (n:Nat)(jD:List (Nat×Nat))(p:Nat):List Nat:=(qp n).filter fun o=>tied jD p o
def Wa (n:Nat)(jD:List (Nat×Nat)):D:=.lst ((qp n).map fun p=>.lst ((Yx n jD p).map nD))
theorem Zo0 (a b:Nat):ZR (nD a) (nD b)=decide (a=b):=by
 show((a:Int)==(b:Int))=_;rw[yo,beq_iff_eq,decide_eq_true_eq];constructor <;> intro h <;> omega
theorem Zl3 (o:Nat)(l:List Nat):Wl (nD o) (l.map nD)=decide (o∈l):=by
 unfold Wl
 induction l with
 | nil=>simp
 | cons t ts ih=>
  rw[qW,yH,ih,Zo0];by_cases h:t=o
  ·subst h;simp
  ·have:¬o=t:=fun z=>h z.symm
   simp[h,this]
theorem Br (l:List Nat):Yv (l.map nD)=true:=by
 induction l with
 | nil=>simp[Yv]
 | cons a l ih=>simp[Yv,Zr,ih]
theorem BF (l:List Nat):Xb (l.map nD)=0:=by
 induction l with
 | nil=>simp[Xb]
 | cons a l ih=>simp[Xb,Z7,ih]
theorem Zl4 (o:Nat)(l:List Nat):YZ (nD o) (.lst (l.map nD))=some (.bl (decide (o∈l))):=by
 have h:Wf (nD o) (l.map nD)=true:=by simp[Wf,Zr,Br,Z7,BF]
 simp only[YZ,Uk,h,if_true,Option.map,Zl3]
end TP2
namespace TP2
open L2 TF TP
def Xd (l:List Nat):Nat:=l.foldl max 0
theorem ZfL (l:List Nat):∀a,a<=l.foldl max a/\∀x∈l,x<=l.foldl max a:=by
 induction l with
 | nil=>intro a;simp
 | cons b l ih=>
  intro a;obtain⟨h1,h2⟩:=ih (max a b);refine⟨?_,fun x hx=>?_⟩
  ·show a<=l.foldl max (max a b);omega
  ·show x<=l.foldl max (max a b)
   rcases qq.mp hx with rfl | hx
   ·omega
   ·exact h2 x hx
theorem ZfM (l:List Nat)(b:Nat)(h:∀x∈l,x<=b):∀a,a<=b->l.foldl max a<=b:=by
 induction l with
 | nil=>intro a ha;exact ha
 | cons c l ih=>
  intro a ha;exact ih (fun x hx=>h x (by simp[hx])) (max a c) (by have:=h c (by simp);omega)
theorem Zg5 (l:List Nat):∀a:Nat,Xh (a:Int) (l.map fun(i:Nat)=>(i:Int))=((l.foldl max a:Nat):Int):=by
 induction l with
 | nil=>intro a;rfl
 | cons b l ih=>
  intro a;show Xh (max (a:Int) (b:Int)) (l.map fun(i:Nat)=>(i:Int))=_;rw[show max (a:Int) (b:Int)=((max a b:Nat):Int) by omega,ih];rfl
theorem Zbj (l:List Nat):ZM (l.map nD)=some (l.map fun(i:Nat)=>(i:Int)):=by
 have:=Bo (l.map fun(i:Nat)=>(i:Int));rw[qH] at this;exact this
end TP2
namespace TP2
open L2 TF TP
end TP2
namespace TP2
open L2 TF TP
def RT (jD:List (Nat×Nat))(a b:Nat):Prop:=a<b/\(a,b)∈jD
theorem BL {jD:List (Nat×Nat)}:∀{n:Nat} {k:List Nat},k∈kn jD n↔k.Pairwise (RT jD)/\∀o∈k,o<n
 | 0,k=>by
  constructor
  ·intro h
   have:k=[]:=by simpa[kn] using h
   subst this;exact⟨.nil,by simp⟩
  ·rintro⟨_,h⟩
   cases k with
   | nil=>simp[kn]
   | cons a k=>exact absurd (h a (by simp)) (by omega)
 | n+1,k=>by
  rw[kn,zg];constructor
  ·rintro(h | h)
   ·have:=BL.mp h
    exact⟨this.1,fun o ho=>zH (this.2 o ho)⟩
   ·obtain⟨q,hq,rfl⟩:=qC.mp h
    obtain⟨hq1,hq2⟩:=qB.mp hq;have:=BL.mp hq1;unfold WX at hq2;rw[zo] at hq2;refine⟨qaN.mpr ⟨this.1,by simp,fun a ha b hb=>?_⟩,fun o ho=>?_⟩
    ·rw[qQ.mp hb]
     exact⟨this.2 a ha,by simpa using hq2 a ha⟩
    ·rcases zg.mp ho with ho | ho
     ·exact zH (this.2 o ho)
     ·rw[qQ.mp ho];omega
  ·rintro⟨h1,h2⟩
   by_cases hn:n∈k
   ·right
    obtain⟨a,b,rfl⟩:=List.append_of_mem hn;have hp:=qaN.mp h1;have hb:b=[]:=by
     cases b with
     | nil=>rfl
     | cons y b=>
      have r1:=(yc.mp hp.2.1).1 y (by simp);have:=h2 y (by simp);have:=r1.1;omega
    subst hb;have ha:∀o∈a,RT jD o n:=fun o ho=>hp.2.2 o ho n (by simp);refine qC.mpr ⟨a,qB.mpr ⟨BL.mpr ⟨hp.1,fun o ho=>(ha o ho).1⟩,?_⟩,rfl⟩;unfold WX;rw[zo];exact fun o ho=>by simpa using(ha o ho).2
   ·left
    refine BL.mpr ⟨h1,fun o ho=>?_⟩;have:=h2 o ho;have:o≠n:=fun z=>hn (z▸ho);omega
theorem Zl5 {R:Nat->Nat->Prop}{k:List Nat}(hr:k.Pairwise (· < ·))(h:k.Pairwise R){a b:Nat}(ha:a∈k)(hb:b∈k)(hab:a<b):R a b:=by
 obtain⟨i,hi,rfl⟩:=qbX ha;obtain⟨j,hj,rfl⟩:=qbX hb;have p1:=zw.mp hr;have p2:=zw.mp h;rcases yt i j with z | z | z
 ·exact p2 i j hi hj z
 ·subst z;exact absurd hab (zY _)
 ·have:=p1 j i hj hi z;omega
theorem IsWeb.irr {n:Nat}{jD:List (Nat×Nat)}(h:IsWeb n jD)(a:Nat):tied jD a a=false:=by
 unfold tied;rw[decide_eq_false_iff_not];intro z;have h1:min a a<max a a:=(TP.IsWeb.mem h z).1;omega
end TP2
namespace TP3
open L2 TF TP TS
open TP2
def Yl (k:List Nat):List Int:=k.map fun(x:Nat)=>(x:Int)
theorem Zl6 {jD:List (Nat×Nat)}{n:Nat}(hn:n<=10):(kn jD n).length<=1024:=by
 have:=Zl1 jD n;have:2 ^ n<=2 ^ 10:=Nat.pow_le_pow_right (by omega) hn;omega
end TP3
namespace TP3
open L2 TF TP TS
open TP2
theorem WD {n:Nat}{jD:List (Nat×Nat)}{k:List Nat}:k∈kn jD n↔k.Pairwise (· < ·)/\(∀o∈k,o<n)/\∀a∈k,∀b∈k,a≠b->tied jD a b=true:=by
 rw[BL];constructor
 ·rintro⟨h1,h2⟩
  have hr:k.Pairwise (· < ·):=h1.imp fun h=>h.1;refine⟨hr,h2,fun a ha b hb hab=>?_⟩;by_cases hlt:a<b
  ·rw[Uz hlt];simpa using(Zl5 hr h1 ha hb hlt).2
  ·have hlt:b<a:=by omega
   rw[Uv,Uz hlt];simpa using(Zl5 hr h1 hb ha hlt).2
 ·rintro⟨hr,h2,h3⟩
  refine⟨?_,h2⟩;refine qam (fun {a b} ha hb hab=>?_) hr;refine⟨hab,?_⟩;have:=h3 a ha b hb (by omega);rw[Uz hab] at this;simpa using this
def JB (n:Nat)(f:Nat->Nat)(k:List Nat):List Nat:=(qp n).filter fun x=>decide (x∈k.map f)
theorem U2 (n:Nat):(qp n).Pairwise (· < ·):=List.pairwise_lt_range
theorem Zg6 (n:Nat)(f:Nat->Nat)(k:List Nat):(JB n f k).Pairwise (· < ·):=(U2 n).sublist zh
theorem Ja {n:Nat}{f:Nat->Nat}{k:List Nat}{x:Nat}:x∈JB n f k↔x<n/\∃a∈k,f a=x:=by
 unfold JB;rw[qB,qP,decide_eq_true_eq,qC]
theorem U3 {k:List Nat}(h:k.Pairwise (· < ·)):k.Nodup:=h.imp fun h=>by omega
structure Emb (m n:Nat)(f:Nat->Nat)(tm tn:List (Nat×Nat)):Prop where
 lt:∀a,a<m->f a<n
 inj:∀a b,a<m->b<m->f a=f b->a=b
 td:∀a b,a<m->b<m->tied tm a b=tied tn (f a) (f b)
section
variable {m n:Nat}{f:Nat->Nat}{tm tn:List (Nat×Nat)}
theorem Zl7 (E:Emb m n f tm tn){k:List Nat}(hr:k.Pairwise (· < ·))(hm:∀o∈k,o<m):(JB n f k).Perm (k.map f):=by
 refine(z7 (U3 (Zg6 n f k)) ?_).mpr fun x=>?_
 ·refine zO.mpr (qam (fun {a b} ha hb hab e=>?_) hr)
  have:=E.inj a b (hm a ha) (hm b hb) e;omega
 ·rw[Ja,qC]
  exact⟨fun h=>h.2,fun h=>⟨by obtain⟨a,ha,rfl⟩:=h;exact E.lt a (hm a ha),h⟩⟩
theorem Zo1 (E:Emb m n f tm tn){k:List Nat}(hr:k.Pairwise (· < ·))(hm:∀o∈k,o<m):JB n f k∈kn tn n↔k∈kn tm m:=by
 rw[WD,WD];constructor
 ·rintro⟨_,_,h⟩
  refine⟨hr,hm,fun a ha b hb hab=>?_⟩;rw[E.td a b (hm a ha) (hm b hb)];exact h _ (Ja.mpr ⟨E.lt a (hm a ha),a,ha,rfl⟩) _ (Ja.mpr ⟨E.lt b (hm b hb),b,hb,rfl⟩) fun z=>hab (E.inj a b (hm a ha) (hm b hb) z)
 ·rintro⟨_,_,h⟩
  refine⟨Zg6 n f k,fun o ho=>(Ja.mp ho).1,fun x hx y hy hxy=>?_⟩;obtain⟨_,a,ha,rfl⟩:=Ja.mp hx;obtain⟨_,b,hb,rfl⟩:=Ja.mp hy;rw[<-E.td a b (hm a ha) (hm b hb)];exact h a ha b hb fun z=>hxy (by rw[z])
theorem JM {α:Type}[BEq α][LawfulBEq α]:∀{a b:List α},a.Nodup->(∀x∈a,x∈b)->a.length<=b.length
 | [],_,_,_=>by simp
 | x::a,b,nd,h=>by
  have nd':=zD.mp nd;have hx:=h x (by simp);have ih:=JM (a:=a) (b:=b.erase x) nd'.2 fun y hy=>(qbN (fun(z:y=x)=>nd'.1 (by rw[<-z];exact hy))).mpr (h y (by simp[hy]));have:=List.length_erase_of_mem hx;have:0<b.length:=List.length_pos_of_mem hx;simp only[qY];omega
theorem Znt {l:List Nat}(h:∃r,l=0::r):Xd l∈l:=by
 have key:∀(l:List Nat) (a:Nat),l.foldl max a=a∨l.foldl max a∈l:=by
  intro l
  induction l with
  | nil=>intro a;exact .inl rfl
  | cons b l ih=>
   intro a;show l.foldl max (max a b)=a∨l.foldl max (max a b)∈b::l;rcases ih (max a b) with e | e
   ·rcases Nat.le_total a b with h | h
    ·right;rw[e,yZ h];simp
    ·left;rw[e,qbr h]
   ·right;exact qU _ e
 obtain⟨r,rfl⟩:=h;rcases key (0::r) 0 with e | e
 ·unfold Xd;rw[e];simp
 ·exact e
theorem Zo2 {l:List Nat}{x:Nat}(h:x∈l):x<=Xd l:=(ZfL l 0).2 x h
end
def YY (jD:List (Nat×Nat))(ps:List Nat):List (Nat×Nat):=(XG ps.length).filter fun p=>tied jD (ps.getD p.1 0) (ps.getD p.2 0)
theorem VF (jD:List (Nat×Nat))(ps:List Nat):IsWeb ps.length (YY jD ps):=IsWeb.filter _
theorem Zkj {n:Nat}{jD:List (Nat×Nat)}(hw:IsWeb n jD){ps:List Nat}{a b:Nat}(ha:a<ps.length)(hb:b<ps.length):tied (YY jD ps) a b=tied jD (ps.getD a 0) (ps.getD b 0):=by
 have lt:∀{a b:Nat},a<b->b<ps.length->tied (YY jD ps) a b=tied jD (ps.getD a 0) (ps.getD b 0):=fun {a b} hab hb=>by
  rw[Uz hab];unfold YY;rw[yo,decide_eq_true_eq,qB,Ux];exact⟨fun h=>h.2,fun h=>⟨⟨hab,hb⟩,h⟩⟩
 rcases yt a b with h | h | h
 ·exact lt h hb
 ·subst h;rw[IsWeb.irr (VF jD ps),IsWeb.irr hw]
 ·rw[Uv,lt h ha,Uv]
theorem Zl8 {n:Nat}{jD:List (Nat×Nat)}(hw:IsWeb n jD){ps:List Nat}(nd:ps.Nodup)(hp:∀o∈ps,o<n):Emb ps.length n (fun i=>ps.getD i 0) (YY jD ps) jD where
 lt:=fun a ha=>by
  rw[qj,qk ha];exact hp _ (zu ha)
 inj:=fun a b ha hb e=>by
  rw[qj,qk ha,qj,qk hb] at e;exact(List.getElem_inj nd).mp e
 td:=fun a b ha hb=>Zkj hw ha hb
end TP3
namespace TP3
open L2 TF TP TS
open TP2
theorem Za5 (jD:List (Nat×Nat))(a b:Nat)(s:Pn):Wy [.dt (YV [] jD),.int a,.int b] s=some (.bl (tied jD a b),s):=by
 simp[Wy,ZbN,runB,Zh,ZF,Zl,Zd,Zw,Zc,Zg,Yr,Za,Zn,Zx,YF,Jk,WP,two_le,ZbO,Zl2,tied]
theorem ZfN {as:List Nat}{j:Nat}(hj:j<as.length):Xu (as.map nD) (j:Int)=some (nD (as.getD j 0)):=by
 refine WL ?_;rw[qy,qj,qk hj];rfl
theorem Ze0 (ps:List Nat):YR [.lst (ps.map nD)]=some (nD ps.length):=by
 show some (D.int ((ps.map nD).length:Nat))=_;rw[qd]
end TP3
namespace TP3
open L2 TF TP TS
open TP2
theorem Znu {d:D}(h:Zr d=true)(hd:Z7 d<=60):Xg d d=some (.bl false):=by
 unfold Xg WS;rw[if_pos (by simp[h,hd]),ZbY d h];rfl
theorem ZfO {d:D}(h:Zr d=true)(hd:Z7 d<=60):Ys d d=some (.bl true):=by
 unfold Ys WS;rw[if_pos (by simp[h,hd]),ZbY d h]
theorem Zg7:∀{ds:List D},(∀d∈ds,Zr d=true)->Yv ds=true
 | [],_=>by simp[Yv]
 | d::ds,h=>by
  simp only[Yv,qL];exact⟨h d (by simp),Zg7 fun d hd=>h d (by simp[hd])⟩
end TP3
namespace TP3
open L2 TF TP TS
open TP2
def UH (l:List Nat):List Nat:=(qp (l.length+1)).filter fun h=>!decide (h∈l)
theorem Zi9 (l:List Nat):UH l≠[]:=fun h=>by
 have:=JM (a:=qp (l.length+1)) (b:=l) zV fun x hx=>by
  by_cases m:x∈l
  ·exact m
  ·have:x∈UH l:=qB.mpr ⟨hx,by simpa using m⟩
   rw[h] at this;simp at this
 rw[qO] at this;omega
def X1 (l:List Nat):Nat:=(UH l).headD 0
theorem Zca (l:List Nat):X1 l∉l/\∀x<X1 l,x∈l:=by
 have hne:=Zi9 l
 cases e:UH l with
 | nil=>exact absurd e hne
 | cons m r=>
  have hm:X1 l=m:=by unfold X1;rw[e];rfl
  have h1:m∈UH l:=by rw[e];simp
  have h2:=qB.mp h1;rw[hm];refine⟨by simpa using h2.2,fun x hx=>?_⟩;by_cases mx:x∈l
  ·exact mx
  ·have hr:=qP.mp h2.1
   have h3:x∈UH l:=qB.mpr ⟨qP.mpr (by omega),by simpa using mx⟩;have h4:(UH l).Pairwise (· < ·):=(U2 _).sublist zh;rw[e] at h3 h4;rcases qq.mp h3 with z | z
   ·omega
   ·have:=(yc.mp h4).1 x z
    omega
theorem Zl9 {l:List Nat}{m:Nat}(h1:m∉l)(h2:∀x<m,x∈l):m=X1 l:=by
 obtain⟨g1,g2⟩:=Zca l;rcases yt m (X1 l) with h | h | h
 ·exact absurd (g2 m h) h1
 ·exact h
 ·exact absurd (h2 _ h) g1
theorem Ze1 {l l':List Nat}(h:∀x,x∈l↔x∈l'):X1 l=X1 l':=by
 obtain⟨g1,g2⟩:=Zca l;exact Zl9 (fun z=>g1 ((h _).mpr z)) fun x hx=>(h x).mp (g2 x hx)
theorem Zo3 (l:List Nat):X1 l<=l.length:=by
 have h:=JM (a:=qp (X1 l)) (b:=l) zV fun x hx=>(Zca l).2 x (qP.mp hx);rw[qO] at h;exact h
theorem Zkk {n:Int}{r:List Int}(h:∀a∈r,n<=a):Wh n r=n:=(ZgQ (by simp) fun a ha=>by
 rcases qq.mp ha with rfl | ha
 ·exact qb6 _
 ·exact h a ha).symm
theorem Zma {l:List Nat}(hr:l.Pairwise (· < ·))(hn:l≠[]):ZlO [.lst (l.map nD)]=some (nD (l.headD 0)):=by
 cases l with
 | nil=>exact absurd rfl hn
 | cons m r=>
  have e:ZM ((m::r).map nD)=some ((m:Int)::r.map fun(i:Nat)=>(i:Int)):=Zbj (m::r);show(match ZM ((m::r).map nD) with | some (n::r)=>some (D.int (Wh n r)) | _=>none)=_;rw[e];show some (D.int (Wh (m:Int) (r.map fun(i:Nat)=>(i:Int))))=_;rw[Zkk fun a ha=>?_]
  ·rfl
  ·obtain⟨x,hx,rfl⟩:=qC.mp ha
   have:=(yc.mp hr).1 x hx;omega
theorem Znv (l:List D):YR [.lst l]=some (nD l.length):=rfl
theorem Zg8 (o:Nat)(l:List Nat):W3 (nD o) (.lst (l.map nD))=some (.bl (!decide (o∈l))):=by
 have h:=Zl4 o l;unfold YZ at h;unfold W3
 cases e:Uk (nD o) (.lst (l.map nD)) with
 | none=>rw[e] at h;cases h
 | some b=>
  rw[e] at h;have h:=zf h;have h:=D.bl.inj h;subst h;rfl
theorem Zet (l:List Nat)(hl:l.length<=1000)(s:Pn):JG [.lst (l.map nD)] s=some (nD (X1 l),s):=by
 have hc:=Xk (src:=[none,some 0]) (fi:=Y0 (Zd Y4 (Zw YR (Zc (Za 0) Zg)) (dC (.int 1)))) (τ:=ZE 0) (ft:=Zz (Zd W3 (Za 0) (Za 1))) (fe:=Za 0) (ρ:=[some (.lst (l.map nD))]) (s:=s) (ds:=Yp 0 (l.length+1)) (fun d=>[some d,some (.lst (l.map nD))]) (fun d=>!decide (Yc d∈l)) (fun d=>d)
  (Wp (n:=l.length+1) (Zq (d:=nD l.length) (e:=.int 1) (Z1 (Ze rfl rfl) (by rw[Znv,qd])) rfl rfl) (by omega)) (by rw[X2,YG];omega) (fun d hd=>by
  obtain⟨i,hi,rfl⟩:=U1 hd;exact⟨rfl,ZV (Zq (d:=nD i) (e:=.lst (l.map nD)) rfl rfl (Zg8 i l)),fun _=>rfl⟩)
 rw[Zbh (l.length+1) fun h=>!decide (h∈l)] at hc;refine Y7 rfl (YW (Y8 (Z1 (Ze hc rfl) ?_)));exact Zma (l:=UH l) ((U2 _).sublist zh) (Zi9 l)
def hr (jD:List (Nat×Nat)):List Nat->Nat->Nat
 | [],_=>0
 | p::qs,x=>if x=p then X1 ((qs.filter fun o=>tied jD p o).map (hr jD qs)) else hr jD qs x
def ZS (qs:List Nat)(f:Nat->Nat):List (Zy×V):=qs.map fun(q:Nat)=>(qZ (q:Int),V.int (f q))
theorem JV {f:Nat->Nat}{x:Nat}:∀qs:List Nat,Z6 (ZS qs f) (qZ (x:Int))=if x∈qs then some (.int (f x)) else none
 | []=>rfl
 | q::qs=>by
  by_cases e:q=x
  ·subst e
   show Z6 ((qZ (q:Int),V.int (f q))::ZS qs f) _=_;rw[WZ rfl];simp
  ·have hn:¬((qZ (q:Int):Zy)=qZ (x:Int)):=fun z=>by
    have:=qbt z;omega
   show Z6 ((qZ (q:Int),V.int (f q))::ZS qs f) _=_;rw[W0 hn,JV qs];have:x≠q:=fun z=>e z.symm;simp[this]
theorem Ze2 {f g:Nat->Nat}{qs:List Nat}(h:∀q∈qs,f q=g q):ZS qs f=ZS qs g:=zF fun q hq=>by rw[h q hq]
theorem Zik (qs:List Nat)(f:Nat->Nat)(x:Nat):YZ (nD x) (.dk (ZS qs f))=some (.bl (decide (x∈qs))):=by
 show((some (qZ (x:Int):Zy)).map fun k=>(Z6 (ZS qs f) k).isSome).map D.bl=_;simp only[zR];rw[JV];by_cases h:x∈qs <;> simp[h]
theorem ZfP {qs:List Nat}{f:Nat->Nat}{x:Nat}(h:x∈qs):Vp (.dk (ZS qs f)) (nD x)=some (nD (f x)):=by
 show(Z6 (ZS qs f) (qZ (x:Int))).bind vD=_;rw[JV,if_pos h];rfl
theorem Zdr {qs:List Nat}{f:Nat->Nat}{p h:Nat}(hp:p∉qs):Yo (ZS qs f) (qZ (p:Int)) (.int (h:Int))=ZS (qs ++ [p]) fun x=>if x=p then h else f x:=by
 rw[Zgk _ (by rw[JV,if_neg hp])];have e:ZS qs (fun x=>if x=p then h else f x)=ZS qs f:=Ze2 fun q hq=>if_neg fun(z:q=p)=>hp (z▸hq);show ZS qs f++_=(qs ++ [p]).map _;rw[zj,<-e];show _++_=ZS qs _ ++ [(qZ (p:Int),V.int ((if p=p then h else f p:Nat):Int))];rw[if_pos rfl]
theorem JN {ps:List Nat}{k p:Nat}(h:ps[k]?=some p):ps.take (k+1)=ps.take k ++ [p]:=by
 obtain⟨hl,e⟩:=qD.mp h;rw[List.take_succ_eq_append_getElem hl,e]
theorem Zil {ps:List Nat}{k p:Nat}(nd:ps.Nodup)(h:ps[k]?=some p):p∉ps.take k:=fun m=>by
 have h2:(ps.take (k+1)).Nodup:=nd.sublist (yR _ _);rw[JN h] at h2;have:=(qav.mp h2).2.2 p m p (by simp);exact this rfl
theorem Zds {i:Nat}{fx fv:Zb->M D}{ρ:Zb}{s:Pn}{x v:D}{kvs:List (Zy×V)}{key:Zy}{w:V}(h1:fv ρ s=some (v,s))(h2:fx ρ s=some (x,s))(h3:(ρ[i]?).bind id=some (.dk kvs))(h4:Xs x=some key)(h5:Wc v=some w)(hl:kvs.length<sizeLine) :
  VO i fx fv ρ s=some (.nx (ρ.set i (some (.dk (Yo kvs key w)))),s):=by
 unfold VO Zn;rw[h1];simp only;rw[h2];simp only;rw[h3];simp only;rw[h4,h5];simp only;rw[if_pos hl];rfl
theorem Znw (jD:List (Nat×Nat)){ps:List Nat}{k p:Nat}(h:ps[k]?=some p):hr jD (ps.take (k+1)).reverse=fun x=>if x=p then X1 (((ps.take k).filter fun o=>tied jD p o).map (hr jD (ps.take k).reverse)) else hr jD (ps.take k).reverse x:=by
 rw[JN h,List.reverse_append];funext x;show(if x=p then X1 (((ps.take k).reverse.filter fun o=>tied jD p o).map (hr jD (ps.take k).reverse)) else _)=_;by_cases e:x=p
 ·rw[if_pos e,if_pos e]
  refine Ze1 fun y=>?_;simp only[qC,qB,qba]
 ·rw[if_neg e,if_neg e];rfl
def Vm (n:Nat)(jD:List (Nat×Nat))(ps:List Nat):List Nat:=(qp n).map (hr jD ps.reverse)
end TP3
namespace TP3
open L2 TF TP TS
open TP2
section
variable (ap:Nat->Nat->Bool)
def VC (ps:List Nat)(p:Nat):Nat:=(ps.filter fun o=>ap p o).length
def Xa (ps:List Nat)(p:Nat):List Nat:=ps.filter fun o=>!decide (o=p) && !ap p o
def YE (ps:List Nat):Nat:=ps.getD ((ps.map (VC ap ps)).idxOf (Xd (ps.map (VC ap ps)))) 0
structure KnA (ps K:List Nat):Prop where
 nd:K.Nodup
 sub:∀x∈K,x∈ps
 two:∀x∈K,∀y∈K,x≠y->ap x y=false
end
section
variable {ap:Nat->Nat->Bool}
theorem BM {l:List Nat}(h:l≠[]):Xd l∈l:=by
 have:=Znt (l:=0::l) ⟨l,rfl⟩;have e:Xd (0::l)=Xd l:=rfl;rw[e] at this;rcases qq.mp this with z | z
 ·cases l with
  | nil=>exact absurd rfl h
  | cons a r=>
   have h1:=Zo2 (l:=a::r) (x:=a) (by simp);have h2:a=0:=by omega
   rw[z,h2];simp
 ·exact z
theorem Znx {ps:List Nat}(f:Nat->Nat){v:Nat}(h:v∈ps.map f):ps.getD ((ps.map f).idxOf v) 0∈ps/\f (ps.getD ((ps.map f).idxOf v) 0)=v:=by
 have hl:=zW.mpr h;have e:=qak hl;rw[qbe] at e;have hl':(ps.map f).idxOf v<ps.length:=by simpa using hl
 rw[qj,qk hl'];exact⟨zu hl',e⟩
theorem ZaE {ps:List Nat}(h:ps≠[]):YE ap ps∈ps:=(Znx (VC ap ps) (BM (by simpa using h))).1
theorem U7 {ps:List Nat}{p:Nat}:∀x∈Xa ap ps p,x∈ps/\x≠p/\ap p x=false:=fun x hx=>by
 obtain⟨h1,h2⟩:=qB.mp hx;simp only[qL,yS,decide_eq_false_iff_not] at h2;exact⟨h1,h2.1,h2.2⟩
theorem ZbC {ps:List Nat}{p:Nat}(h:p∈ps)(f:Nat->Bool)(hf:f p=false):(ps.filter f).length<ps.length:=by
 induction ps with
 | nil=>simp at h
 | cons a r ih=>
  have hr:=zk f r;rcases qq.mp h with e | h
  ·subst e
   rw[yF (by simpa using hf)];simp only[qY];omega
  ·have:=ih h
   by_cases fa:f a=true
   ·rw[qas fa];simp only[qY];omega
   ·rw[yF fa];simp only[qY];omega
theorem Zg9 {ps:List Nat}{p:Nat}(h:p∈ps):(Xa ap ps p).length<ps.length:=ZbC h _ (by simp)
theorem ZdY {ps:List Nat}{p:Nat}(h:p∈ps):(ps.filter fun o=>!decide (o=p)).length<ps.length:=ZbC h _ (by simp)
theorem jC {ps K:List Nat}{p:Nat}(sy:∀a b,ap a b=ap b a)(hp:p∈ps)(h:KnA ap (Xa ap ps p) K):KnA ap ps (p::K) where
 nd:=zD.mpr ⟨fun z=>(U7 p (h.sub p z)).2.1 rfl,h.nd⟩
 sub:=fun x hx=>by
  rcases qq.mp hx with e | hx
  ·rw[e];exact hp
  ·exact(U7 x (h.sub x hx)).1
 two:=fun x hx y hy ne=>by
  rcases qq.mp hx with e | hx
  ·rcases qq.mp hy with e' | hy
   ·exact absurd (e.trans e'.symm) ne
   ·rw[e];exact(U7 y (h.sub y hy)).2.2
  ·rcases qq.mp hy with e' | hy
   ·rw[e',sy];exact(U7 x (h.sub x hx)).2.2
   ·exact h.two x hx y hy ne
theorem KnA.mono {ps qs K:List Nat}(h:KnA ap ps K)(s:∀x∈ps,x∈qs):KnA ap qs K:=⟨h.nd,fun x hx=>s x (h.sub x hx),h.two⟩
theorem KnA.rest {ps K:List Nat}{p:Nat}(h:KnA ap ps K):KnA ap (Xa ap ps p) (K.filter fun o=>!decide (o=p) && !ap p o) where
 nd:=h.nd.sublist zh
 sub:=fun x hx=>by
  obtain⟨h1,h2⟩:=qB.mp hx;exact qB.mpr ⟨h.sub x h1,h2⟩
 two:=fun x hx y hy=>h.two x (qB.mp hx).1 y (qB.mp hy).1
end
def XI (l:List Nat):List (Zy×V):=l.map fun(o:Nat)=>(qZ (o:Int),V.bl true)
theorem ZfQ {x:Nat}:∀l:List Nat,Z6 (XI l) (qZ (x:Int))=if x∈l then some (.bl true) else none
 | []=>rfl
 | q::qs=>by
  by_cases e:q=x
  ·subst e
   show Z6 ((qZ (q:Int),V.bl true)::XI qs) _=_;rw[WZ rfl];simp
  ·have hn:¬((qZ (q:Int):Zy)=qZ (x:Int)):=fun z=>by
    have:=qbt z;omega
   show Z6 ((qZ (q:Int),V.bl true)::XI qs) _=_;rw[W0 hn,ZfQ qs];have:x≠q:=fun z=>e z.symm;simp[this]
theorem Zmb:∀(l:List Nat) (jL:List (Zy×V)),l.Nodup->(∀x∈l,Z6 jL (qZ (x:Int))=none)->Vi jL (l.map fun o=>D.tup [nD o,.bl true])=some (jL++XI l)
 | [],jL,_,_=>by simp[Vi,XI]
 | p::ps,jL,nd,h=>by
  have nd':=zD.mp nd;show Vi (Yo jL (qZ (p:Int)) (.bl true)) (ps.map fun o=>D.tup [nD o,.bl true])=_;rw[Zmb ps _ nd'.2 fun x hx=>?_,Zgk _ (h p (by simp))]
  ·show some ((jL ++ [_])++XI ps)=some (jL++(_::XI ps))
   simp
  ·rw[Zgj,if_neg (fun z=>nd'.1 (by
    have:=qbt z;have:x=p:=by omega
    exact this▸hx))]
   exact h x (by simp[hx])
theorem Zo4 (l:List Nat)(x:Nat):YZ (nD x) (.dk (XI l))=some (.bl (decide (x∈l))):=by
 show((some (qZ (x:Int):Zy)).map fun k=>(Z6 (XI l) k).isSome).map D.bl=_;simp only[zR];rw[ZfQ];by_cases h:x∈l <;> simp[h]
theorem Zkl (l:List Nat)(x:Nat):W3 (nD x) (.dk (XI l))=some (.bl (!decide (x∈l))):=by
 show((some (qZ (x:Int):Zy)).map fun k=>(Z6 (XI l) k).isSome).map (fun b=>D.bl (!b))=_;simp only[zR];rw[ZfQ];by_cases h:x∈l <;> simp[h]
def Xm (n:Nat)(A:Nat->List Nat):D:=.lst ((qp n).map fun p=>.dk (XI (A p)))
theorem Zmc {n p:Nat}{A:Nat->List Nat}(h:p<n):Zj (Xm n A) (nD p)=some (.dk (XI (A p))):=by
 show Xu _ (p:Int)=_;refine WL ?_;rw[qy,zE h];rfl
section
variable {n:Nat}{A:Nat->List Nat}{ap:Nat->Nat->Bool}
theorem BN (a b:Nat):Xg (nD a) (nD b)=some (.bl (!decide (a=b))):=by
 rw[nei];congr 3;rw[yo,beq_iff_eq,decide_eq_true_eq];constructor <;> intro h <;> omega
theorem Zny {ds es:List D}(h:ds.length+es.length<=100000):Y4 (.lst ds) (.lst es)=some (.lst (ds++es)):=by
 show(if ds.length+es.length<=sizeLine then some (D.lst (ds++es)) else none)=_;rw[if_pos (by rw[YG];omega)]
theorem Zo5 (ds:List D)(hp:Yv ds=true)(hd:Xb ds<=10):Ys (.lst ds) (.lst [])=some (.bl (decide (ds=[]))):=by
 have hok:WS (.lst ds) (.lst [])=true:=by
  unfold WS;simp[Zr,Z7,Yv,Xb,hp];omega
 unfold Ys;rw[if_pos hok]
 cases ds with
 | nil=>rfl
 | cons a r=>rfl
theorem Zmd {l:List Nat}(h:l≠[]):Zi0 [.lst (l.map nD)]=some (nD (Xd l)):=by
 cases l with
 | nil=>exact absurd rfl h
 | cons m r=>
  have e:ZM ((m::r).map nD)=some ((m:Int)::r.map fun(i:Nat)=>(i:Int)):=Zbj (m::r);show(match ZM ((m::r).map nD) with | some (n::r)=>some (D.int (Xh n r)) | _=>none)=_;rw[e];show some (D.int (Xh (m:Int) (r.map fun(i:Nat)=>(i:Int))))=_;rw[Zg5 r m];have e2:Xd (m::r)=r.foldl max m:=by
   show r.foldl max (max 0 m)=_;rw[yZ (za m)]
  rw[e2]
theorem Zim {l:List Nat}{v:Nat}(h:v∈l):Zfx (.lst (l.map nD)) (nD v)=some (nD (l.idxOf v)):=by
 show((ZM (l.map nD)).bind fun ns=>if (v:Int)∈ns then some (D.int (ns.idxOf (v:Int):Nat)) else none)=_;rw[Zbj];show(if (v:Int)∈l.map (fun(i:Nat)=>(i:Int)) then some (D.int ((l.map fun(i:Nat)=>(i:Int)).idxOf (v:Int):Nat)) else none)=_;rw[if_pos (qC.mpr ⟨v,h,rfl⟩)];have:(l.map fun(i:Nat)=>(i:Int)).idxOf (v:Int)=l.idxOf v:=by
  clear h
  induction l with
  | nil=>rfl
  | cons a r ih=>
   rw[qW,qaO,qaO,ih];have:((a:Int)==(v:Int))=(a==v):=by
    rw[yo,beq_iff_eq,beq_iff_eq];constructor <;> intro h <;> omega
   rw[this]
 rw[this]
end
end TP3
namespace TP3
open L2 TF TP TS
open TP2
def Yw (n:Nat)(jD:List (Nat×Nat)):List (Nat×Nat):=(XG n).filter fun p=>!decide (p∈jD)
theorem Zkm (n:Nat)(jD:List (Nat×Nat)):IsWeb n (Yw n jD):=IsWeb.filter _
theorem JS {jD:List (Nat×Nat)}{a b:Nat}:tied jD a b=true↔(min a b,max a b)∈jD:=by unfold tied;exact decide_eq_true_iff
theorem ZbD {n:Nat}{jD:List (Nat×Nat)}{a b:Nat}:tied (Yw n jD) a b=true↔a<n/\b<n/\a≠b/\tied jD a b=false:=by
 rw[JS];unfold Yw;rw[qB,Ux];have e:tied jD a b=decide ((min a b,max a b)∈jD):=rfl;rw[e];simp only[yS,decide_eq_false_iff_not];constructor
 ·rintro⟨⟨h1,h2⟩,h3⟩
  exact⟨by omega,by omega,by omega,h3⟩
 ·rintro⟨h1,h2,h3,h4⟩
  exact⟨⟨by omega,by omega⟩,h4⟩
theorem Zeu {n:Nat}{jD:List (Nat×Nat)}(p o:Nat):tied (Yw n jD) p o=decide (o∈Yx n (Yw n jD) p):=by
 unfold Yx;rw[yo,decide_eq_true_iff,qB,qP];exact⟨fun h=>⟨(ZbD.mp h).2.1,h⟩,fun h=>h.2⟩
theorem Zme {n:Nat}{jD:List (Nat×Nat)}(a:Nat):tied (Yw n jD) a a=false:=by
 cases h:tied (Yw n jD) a a with
 | false=>rfl
 | true=>exact absurd rfl (ZbD.mp h).2.2.1
def Jg (n:Nat)(b:List Nat):List Nat:=(qp n).filter fun x=>decide (x∈b)
theorem Zbk {n:Nat}{b:List Nat}(nd:b.Nodup)(h:∀x∈b,x<n):(Jg n b).Perm b:=by
 refine(z7 (zV.sublist zh) nd).mpr fun a=>?_;rw[qB,qP,decide_eq_true_iff];exact⟨fun z=>z.2,fun z=>⟨h a z,z⟩⟩
theorem ZcQ (n:Nat)(b:List Nat):(Jg n b).Pairwise (· < ·):=(U2 n).sublist zh
theorem Zkn {n:Nat}{b:List Nat}(nd:b.Nodup)(h:∀x∈b,x<n)(hl:b.length<64):Zdn [.lst (b.map nD)]=some (.lst ((Jg n b).map nD)):=by
 have e:ZM (b.map nD)=some (Yl b):=by
  have:b.map nD=(Yl b).map D.int:=by unfold Yl;rw[qH];rfl
  rw[this,Bo]
 show(match ZM (b.map nD) with | some ns=>if ns.length<64 then some (D.lst ((XD ns).map .int)) else none | none=>none)=_;rw[e];show(if (Yl b).length<64 then some (D.lst ((XD (Yl b)).map .int)) else none)=_;rw[if_pos (by unfold Yl;simp;omega)];have q:Yl (Jg n b)=XD (Yl b):=Za2 ((Zbk nd h).map _) (zO.mpr ((ZcQ n b).imp fun h=>by omega));rw[<-q];unfold Yl;rw[qH];rfl
end TP3
namespace TP3
open L2 TF TP TS
open TP2
theorem Zo6 {l:List Nat}{b:Nat}(h:∀x∈l,x<=b):Xd l<=b:=ZfM l b h 0 (za _)
end TP3
namespace TP3
open L2 TF TP TS
open TP2
theorem Zo7 (p:Nat×Nat)(jD:List (Nat×Nat)):YZ (ZP p) (.du (YV [] jD))=some (.bl (decide (p∈jD))):=Zl2 p jD
theorem Zja {jD : List (Nat × Nat)} : ∀ {i n : Nat}, i <= n -> (kn jD i).length <= (kn jD n).length := fun {i n} h => by
  induction n with
  | zero => have : i = 0 := by omega
            rw[this]; exact qu _
  | succ n ih =>
    by_cases e : i = n + 1
    · rw[e]; exact qu _
    · have := ih (by omega)
      rw[kn, zp]; omega
theorem Znz {i:Nat}{fx fv:Zb->M D}{ρ:Zb}{s:Pn}{x v:D}{kvs:List (List Zy×V)}{key:List Zy}{w:V}(h1:fv ρ s=some (v,s))(h2:fx ρ s=some (x,s))(h3:(ρ[i]?).bind id=some (.du kvs))(h4:keyT x=some key)(h5:Wc v=some w)(hl:kvs.length<sizeLine) :
  BU i fx fv ρ s=some (.nx (ρ.set i (some (.du (Yo kvs key w)))),s):=by
 unfold BU Zn;rw[h1];simp only;rw[h2];simp only;rw[h3];simp only;rw[h4,h5];simp only;rw[if_pos hl];rfl
theorem ZnA (jD:List (Nat×Nat)):∀jL:List (List Zy×V),(YV jL jD).length<=jL.length+jD.length:=by
 induction jD with
 | nil=>intro jL;exact qu _
 | cons t r ih=>
  intro jL;have h:=ih (Yo jL (Wg t) (.bl true));have h2:=UX jL (Wg t) (.bl true);show(YV (Yo jL (Wg t) (.bl true)) r).length<=_;simp only[qY];omega
theorem Zmf (jD:List (Nat×Nat))(t:Nat×Nat):YV [] (jD ++ [t])=Yo (YV [] jD) (Wg t) (.bl true):=by
 unfold YV;rw[qax];rfl
theorem ZfR (l:List Bool):W3 (.bl false) (.lst (l.map D.bl))=some (.bl (l.all id)):=by
 have hp:Yv (l.map D.bl)=true:=Zg7 fun d hd=>by obtain⟨a,_,rfl⟩:=qC.mp hd;rfl
 have hd:Xb (l.map D.bl)<=0:=ZiV _ fun d hd=>by obtain⟨a,_,rfl⟩:=qC.mp hd;simp[Z7]
 have ok:Wf (.bl false) (l.map D.bl)=true:=by
  unfold Wf;simp[Zr,hp,Z7];omega
 have hi:Wl (.bl false) (l.map D.bl)=!l.all id:=by
  clear hp hd ok;unfold Wl
  induction l with
  | nil=>rfl
  | cons b r ih=>
   rw[qW,yH,ih]
   cases b <;> simp[ZR]
 show((if Wf (.bl false) (l.map D.bl)=true then some (Wl (.bl false) (l.map D.bl)) else none).map fun b=>D.bl (!b))=_;rw[if_pos ok,hi];simp
theorem ZfS (n:Nat)(jD:List (Nat×Nat))(hn:n<=1000)(hk:(kn jD n).length<=1000000)(hl:jD.length<=100000)(s:Pn):ZaC [Zt n jD] s=some (.lst ((kn jD n).map Zi),s):=by
 apply jo;refine Ok.runB rfl ?_;refine Ok.seq (.sown (.eq (a:=.du []) rfl ⟨rfl,?_⟩));refine Ok.seq (.sfor (fun i ρ s'=>s=s'/\∃o2,ρ=[some (Zt n jD),some (.du (YV [] (jD.take i))),o2,none,none,none,none]) (.eq (a:=jD.map ZP) (s':=s) (V9 (Zq (d:=Zt n jD) (e:=.int 1) rfl rfl web1)) ⟨⟨rfl,none,rfl⟩,fun i d ρ s' hd hI=>?_,fun ρ' s' hI=>?_⟩))
 ·obtain⟨rfl,o2,rfl⟩:=hI
  rw[qy] at hd;obtain⟨t,ht,rfl⟩:=zi.mp hd;refine⟨_,rfl,?_⟩;have jO:=ZnA (jD.take i) [];have htl:(jD.take i).length<=jD.length:=(yR _ _).length_le;refine Ok.seq (.eq (Znz (x:=ZP t) (v:=.bl true) (kvs:=YV [] (jD.take i)) (key:=Wg t) (w:=.bl true) rfl rfl rfl rfl rfl (by rw[YG];simp at jO;omega)) (.next ⟨_,rfl,rfl,some (ZP t),?_⟩));have et:jD.take (i+1)=jD.take i ++ [t]:=by rw[qaV,ht];rfl
  rw[et,Zmf];rfl
 obtain⟨rfl,o2,rfl⟩:=hI;rw[qd,zN];refine Ok.seq (.sset (.eq (a:=.lst [.tup []]) (Znf (Xz rfl (by decide))) ?_));refine Ok.seq (.sfor (fun i ρ s'=>s=s'/\∃o4 o5 o6,ρ=[some (Zt n jD),some (.du (YV [] jD)),o2,some (.lst ((kn jD i).map Zi)),o4,o5,o6]) (.eq (Wp (Zq (d:=Zt n jD) (e:=.int 0) rfl rfl WT) (by omega)) ⟨⟨rfl,none,none,none,rfl⟩,fun i d ρ s' hd hI=>?_,fun ρ' s' hI=>?_⟩))
 ·obtain⟨rfl,o4,o5,o6,rfl⟩:=hI
  obtain⟨hi,rfl⟩:=JH hd;refine⟨_,rfl,?_⟩;have hkl:(kn jD i).length<=1000000:=qJ (Zja (by omega)) hk;refine Ok.seq (.sown (.eq (a:=.lst []) (Ud rfl (za _)) ⟨rfl,?_⟩));refine Ok.seq (.sfor (fun j ρ s'=>s=s'/\∃o6,ρ=[some (Zt n jD),some (.du (YV [] jD)),o2,some (.lst ((kn jD i).map Zi)),some (nD i),some (.lst (((((kn jD i).take j).filter (WX jD i)).map (· ++ [i])).map Zi)),o6]) (.eq (a:=(kn jD i).map Zi) (s':=s) (X9 rfl) ⟨⟨rfl,o6,by simp⟩,fun j d ρ s' hd hJ=>?_,fun ρ' s' hJ=>?_⟩))
  ·obtain⟨rfl,o6,rfl⟩:=hJ
   rw[qy] at hd;obtain⟨k,hk2,rfl⟩:=zi.mp hd;have hkm:=BK (zm hk2);refine⟨_,rfl,?_⟩;generalize hC:D.lst (((((kn jD i).take j).filter (WX jD i)).map (· ++ [i])).map Zi)=C;have hc:=Xk (src:=[none,some 4,some 1]) (fi:=XR (Za 6)) (τ:=ZE 0) (ft:=Yq) (fe:=Zd YZ (Yr (Zc (Za 0) (Zc (Za 1) Zg))) (Za 2)) (ρ:=[some (Zt n jD),some (.du (YV [] jD)),o2,some (.lst ((kn jD i).map Zi)),some (nD i),some C,some (Zi k)]) (s:=s) (ds:=k.map nD) (fun d=>[some d,some (nD i),some (.du (YV [] jD))]) (fun _=>true) (fun d=>.bl (decide ((Yc d,i)∈jD))) (V9 rfl) (by rw[qd,YG];omega) (fun d hd=>by
    obtain⟨o,ho,rfl⟩:=qC.mp hd;exact⟨rfl,rfl,fun _=>Zq (d:=ZP (o,i)) (Zne rfl rfl) rfl (Zo7 (o,i) jD)⟩)
   rw[WY] at hc;have e0:(k.map nD).map (fun d=>D.bl (decide ((Yc d,i)∈jD)))=(k.map fun o=>decide ((o,i)∈jD)).map D.bl:=by rw[qH,qH];rfl
   rw[e0] at hc;have ha:W3 (.bl false) (.lst ((k.map fun o=>decide ((o,i)∈jD)).map D.bl))=some (.bl (WX jD i k)):=by
    rw[ZfR,qb2];rfl
   have et:(kn jD i).take (j+1)=(kn jD i).take j ++ [k]:=by rw[qaV,hk2];rfl
   refine Ok.seq (.sif (.eq (ZV (Zq (d:=.bl false) rfl hc ha)) ?_));subst hC
   cases ok:WX jD i k with
   | true=>
    have hf:(((kn jD i).take j).filter (WX jD i)).length<=(kn jD i).length:=qJ (zk _ _) (yR _ _).length_le;refine .seq (.sapp (ds:=((((kn jD i).take j).filter (WX jD i)).map (· ++ [i])).map Zi) rfl (by rw[qd,qd,YG];omega) (.eq (Zq (d:=Zi k) (e:=.tup [nD i]) rfl (Znd rfl) (Zns k i (by omega))) ?_));refine .next (.next ⟨_,rfl,rfl,some (Zi k),?_⟩);have e:((((kn jD i).take (j+1)).filter (WX jD i)).map (· ++ [i])).map Zi=((((kn jD i).take j).filter (WX jD i)).map (· ++ [i])).map Zi ++ [Zi (k ++ [i])]:=by
     rw[et,yP,qas ok,qaP];simp only[zj,qW,qaI]
    rw[e];rfl
   | false=>
    refine .next (.next ⟨_,rfl,rfl,some (Zi k),?_⟩);rw[et,yP,yF (by simp[ok]),qaP,zx];rfl
  ·obtain⟨rfl,o6',rfl⟩:=hJ
   rw[qd,zN];have hl2:(kn jD (i+1)).length<=1000000:=qJ (Zja (by omega)) hk;rw[kn,zp,qd] at hl2;refine Ok.seq (.sset (.eq (Zq (d:=.lst ((kn jD i).map Zi)) (e:=.lst ((((kn jD i).filter (WX jD i)).map (· ++ [i])).map Zi)) (c:=.lst ((kn jD (i+1)).map Zi)) rfl rfl ?_) (.next ⟨_,rfl,rfl,_,_,_,rfl⟩)));show(if ((kn jD i).map Zi).length+((((kn jD i).filter (WX jD i)).map (· ++ [i])).map Zi).length<=sizeLine then some (D.lst (_++_)) else none)=_;rw[if_pos (by rw[qd,qd,qd,YG];omega),kn,zj]
 ·obtain⟨rfl,o4,o5,o6,rfl⟩:=hI
  rw[X2];exact Ok.seq (.sret (.eq (a:=.lst ((kn jD n).map Zi)) rfl ⟨rfl,rfl⟩))
theorem Zko (ps:List Nat)(k:Nat)(hk:k<=ps.length):UP (ps.map nD) none (some (k:Int))=(ps.take k).map nD:=by
 unfold UP;have e1:HT.sIx (ps.map nD).length 0 none=0:=rfl;have e2:HT.sIx (ps.map nD).length (ps.map nD).length (some (k:Int))=k:=by
  unfold HT.sIx;simp only[qd];rw[if_neg (by omega)];omega
 rw[e1,e2,List.drop_zero,Nat.sub_zero,List.map_take]
theorem ZdZ (n:Nat)(jD:List (Nat×Nat)){k:List Nat}(hk:k.Pairwise fun a b=>tied jD a b=true)(hl:k.length<=1000)(s:Pn):Zak [Zt n jD,Zi k] s=some (.bl true,s):=by
 apply jo;refine Ok.runB rfl ?_;refine Ok.seq (.sfor (fun i ρ s'=>s'=s/\∃o2 o3,ρ=[some (Zt n jD),some (Zi k),o2,o3]) (.eq (a:=Yp 0 k.length) (s':=s) (Wp (Z1 (c:=nD k.length) (Ze rfl rfl) (by show some (D.int _)=_;rw[qd])) (by omega)) ⟨⟨rfl,none,none,rfl⟩,fun i d ρ s' hd hI=>?_,fun ρ' s' hI=>?_⟩))
 ·obtain⟨rfl,o2,o3,rfl⟩:=hI
  obtain⟨hi,rfl⟩:=JH hd;refine⟨_,rfl,?_⟩;refine Ok.seq (.sfor (fun j ρ s2=>s2=s'/\∃o3,ρ=[some (Zt n jD),some (Zi k),some (nD i),o3]) (.eq (a:=(k.take i).map nD) (s':=s') (V9 (by rw[<-Zko k i (by omega)];rfl)) ⟨⟨rfl,o3,rfl⟩,fun j d ρ s2 hd hJ=>?_,fun ρ' s2 hJ=>?_⟩))
  ·obtain⟨rfl,o3,rfl⟩:=hJ
   rw[qy] at hd;obtain⟨a,ha,rfl⟩:=zi.mp hd;refine⟨_,rfl,?_⟩;have hj:j<i:=by
    have:=(qD.mp ha).1;rw[zt] at this;omega
   rw[qaf hj] at ha;obtain⟨hjl,eja⟩:=qD.mp ha;have ht:=zw.mp hk j i hjl hi hj;rw[eja] at ht;have hg:k.getD i 0=k[i]:=by rw[qj,qk hi];rfl
   have hq:=ZcO n jD a (k.getD i 0) s2;rw[hg,ht] at hq;have hix:Zj (Zi k) (nD i)=some (nD (k.getD i 0)):=ZfN hi;rw[hg] at hix;refine Ok.seq (.sif (.eq (a:=false) (XM (b:=true) (ZV (Z4 (Ze rfl (Ze rfl (Ze (Zq (d:=Zi k) (e:=nD i) rfl rfl hix) rfl))) hq))) (.next ?_)));exact .next ⟨_,rfl,rfl,some (nD a),rfl⟩
  ·obtain⟨rfl,o3',rfl⟩:=hJ
   exact .next ⟨_,rfl,rfl,some (nD i),o3',rfl⟩
 ·obtain⟨rfl,o2,o3,rfl⟩:=hI
  exact Ok.seq (.sret (.eq (a:=.bl true) rfl ⟨rfl,rfl⟩))
theorem Zmg {n:Nat}{jD:List (Nat×Nat)}{k:List Nat}(h:k∈kn jD n):k.Pairwise fun a b=>tied jD a b=true:=
 qam (fun {a b} ha hb hab=>(WD.mp h).2.2 a ha b hb (by omega)) (WD.mp h).1
theorem Zha {k:List Nat}(h:k.Nodup):XW (Yl k)=k.length:=by
 obtain⟨h1,h2⟩:=Zfy (Yl k);have nd:(Yl k).Nodup:=zO.mpr (h.imp fun h e=>h (by omega));have:=((z7 h1 nd).mpr h2).length_eq;unfold XW;rw[this];unfold Yl;simp
theorem Bv (k:List Nat):ZM (k.map nD)=some (Yl k):=by
 have:k.map nD=(Yl k).map D.int:=by unfold Yl;rw[qH];rfl
 rw[this,Bo]
theorem Zkp {f:Zb->M D}{ρ:Zb}{s s':Pn}{k:List Nat}(h:f ρ s=some (Zi k,s'))(hl:k.length<=1000):Zdq f ρ s=some (nD (XW (Yl k)),s'):=by
 unfold Zdq Zn;rw[h];show(match ZM (k.map nD) with | some ns=>if ns.length<=1000 then Zx (D.int (XW ns:Nat)) else ZC | none=>ZC) s'=_;rw[Bv];show(if (Yl k).length<=1000 then Zx (D.int (XW (Yl k):Nat)) else ZC) s'=_;rw[if_pos (by unfold Yl;simpa using hl)];rfl
theorem Zin {k:List Nat}(hr:k.Pairwise (· < ·))(hl:k.length<64):ZdM [Zi k]=some (.lst (k.map nD)):=by
 show(match ZM (k.map nD) with | some ns=>if ns.length<64 then some (D.lst ((XD ns).map .int)) else none | none=>none)=_;rw[Bv];show(if (Yl k).length<64 then some (D.lst ((XD (Yl k)).map .int)) else none)=_;rw[if_pos (by unfold Yl;simpa using hl)];have q:Yl k=XD (Yl k):=Za2 (.refl _) (zO.mpr (hr.imp fun h=>by omega));rw[<-q];unfold Yl;rw[qH];rfl
theorem Zd0 (k:List Nat):Zr (.lst (k.map nD))=true/\Z7 (.lst (k.map nD))<=60:=by
 constructor
 ·simp only[Zr];exact Br k
 ·simp only[Z7];rw[BF];omega
theorem Zdc {n:Nat}{jD:List (Nat×Nat)}(hn:n<=50){k:List Nat}(hk:k∈kn jD n)(s:Pn):Bf [Zt n jD,Zi k] s=some (.bl true,s):=by
 obtain⟨h1,h2,h3⟩:=WD.mp hk;have hl:=(BK hk).2;apply jo;refine Ok.runB rfl ?_;have jO:YR [Zi k]=some (nD k.length):=by show some (D.int _)=_;rw[qd]
 refine Ok.seq (.sif (.eq (a:=false) (X5 (XM (b:=true) (ZV (Z1 (Ze rfl (Ze rfl rfl)) rfl))) (ZV (Zq (d:=nD (XW (Yl k))) (e:=nD k.length) (Zkp rfl (by omega)) (Z1 (Ze rfl rfl) jO) (by rw[Zha (U3 h1),BN];simp)))) (.next ?_)));refine Ok.seq (.sfor (fun i ρ s'=>s'=s/\∃o2,ρ=[some (Zt n jD),some (Zi k),o2]) (.eq (a:=k.map nD) (s':=s) (V9 rfl) ⟨⟨rfl,none,rfl⟩,fun i d ρ s' hd hI=>?_,fun ρ' s' hI=>?_⟩))
 ·obtain⟨rfl,o2,rfl⟩:=hI
  obtain⟨x,hx,rfl⟩:=qC.mp (zm hd);refine⟨_,rfl,?_⟩;have hxn:=h2 x hx;have e1:XS (.int 0) (nD x)=some (.bl true):=by show some (D.bl (decide _))=_;rw[decide_eq_true (by omega)]
  have e2:W9 (nD x) (nD n)=some (.bl true):=by show some (D.bl (decide _))=_;rw[decide_eq_true (by omega)]
  have hch:Je (dC (.int 0)) (Jm XS (Za 2) (Jl W9 (Zd Zj (Za 0) (dC (.int 0))))) [some (Zt n jD),some (Zi k),some (nD x)] s'=some (true,s'):=ZeS rfl (ZgH (k:=true) (b:=true) rfl e1 fun _=>ZgG (Zq (d:=Zt n jD) (e:=.int 0) rfl rfl WT) e2);refine Ok.seq (.sif (.eq (a:=false) (X5 (XM (b:=true) (ZV (Z1 (Ze rfl (Ze rfl rfl)) rfl))) (X5 (ZV (Z1 (Ze rfl (Ze rfl rfl)) rfl)) (XM (b:=true) hch))) (.next ?_)));exact .next ⟨_,rfl,rfl,some (nD x),rfl⟩
 ·obtain⟨rfl,o2,rfl⟩:=hI
  refine Ok.seq (.sret (.eq (a:=.bl true) (Zh0 (Zq (d:=.lst (k.map nD)) (e:=.lst (k.map nD)) (Z1 (Ze rfl rfl) rfl) (Z1 (Ze rfl rfl) (Zin h1 (by omega))) (ZfO (Zd0 k).1 (Zd0 k).2)) (Z4 (Ze rfl (Ze rfl rfl)) (ZdZ n jD (Zmg hk) (by omega) s'))) ⟨rfl,rfl⟩))
end TP3
namespace TP3
open L2 TF TP TS
open TP2
section
variable (jD:List (Nat×Nat))
end
section
variable {jD:List (Nat×Nat)}{many:Nat}
end
end TP3
namespace TP3
open L2 TF TP TS
open TP2
theorem Zjb {n p:Nat}{jD:List (Nat×Nat)}(h:p<n):Zj (Wa n jD) (nD p)=some (.lst ((Yx n jD p).map nD)):=by
 show Xu _ (p:Int)=_;refine WL ?_;rw[qy,zE h];rfl
theorem Ze3 {τ:D->Zb->Option Zb}{body:Zb->M Out}{s:Pn}(I:Zb->Prop)(g:Nat->Option D):∀(l:List Nat) (ρ:Zb),I ρ->
  (∀x∈l,∀ρ,I ρ->∃ρ1,τ (nD x) ρ=some ρ1/\match g x with | some d=>body ρ1 s=some (.rt d,s) | none=>∃ρ2,body ρ1 s=some (.nx ρ2,s)/\I ρ2)->
  match l.findSome? g with | some d=>WR τ body (l.map nD) ρ s=some (.rt d,s) | none=>∃ρ2,WR τ body (l.map nD) ρ s=some (.nx ρ2,s)/\I ρ2
 | [],ρ,h0,_=>⟨ρ,rfl,h0⟩
 | x::l,ρ,h0,h=>by
  obtain⟨ρ1,e1,e2⟩:=h x (by simp) ρ h0;rw[qbY]
  cases hg:g x with
  | some d=>
   rw[hg] at e2;exact Zfq e1 e2
  | none=>
   rw[hg] at e2;obtain⟨ρ2,e3,h2⟩:=e2;have ih:=Ze3 I g l ρ2 h2 fun y hy=>h y (by simp[hy]);simp only
   cases hl:l.findSome? g with
   | some d=>rw[hl] at ih;exact Zb4 e1 e3 ih
   | none=>
    rw[hl] at ih;obtain⟨ρ3,e4,h3⟩:=ih;exact⟨ρ3,Zb4 e1 e3 e4,h3⟩
end TP3
namespace TP3
open L2 TF TP TS
open TP2
def hueB (n:Nat)(jD:List (Nat×Nat)):D->Bool
 | .tup ds=>decide (ds.length=n)&&(ds.all (Zlw (n:Int))&&jD.all fun p=>!decide (Yc (ds.getD p.1 .non)=Yc (ds.getD p.2 .non)))
 | _=>false
theorem Ze4 {n:Nat}{jD:List (Nat×Nat)}(hw:IsWeb n jD){f:List Nat}(hl:f.length=n):hueB n jD (Zi f)=(f.all (fun x=>decide (x<n))&&jD.all fun p=>!decide (f.getD p.1 0=f.getD p.2 0)):=by
 show(decide ((f.map nD).length=n)&&((f.map nD).all (Zlw (n:Int))&&jD.all fun p=>!decide (Yc ((f.map nD).getD p.1 .non)=Yc ((f.map nD).getD p.2 .non))))=_;have gg:∀i,i<n->(f.map nD).getD i .non=nD (f.getD i 0):=fun i hi=>by
  rw[qj,qy,qj,qk (by omega)];rfl
 rw[qd,decide_eq_true hl,yq,qb2];congr 1
 ·congr 1
  funext x;show(decide (0<=(x:Int))&&decide ((x:Int)<(n:Int)))=_;rw[decide_eq_true (by omega),yq];exact decide_eq_decide.mpr (by omega)
 ·rw[yo,zo,zo]
  constructor
  ·intro h p hp
   obtain⟨g1,g2⟩:=TP.IsWeb.mem hw hp;have:=h p hp;rw[gg p.1 (by omega),gg p.2 g2] at this;exact this
  ·intro h p hp
   obtain⟨g1,g2⟩:=TP.IsWeb.mem hw hp;rw[gg p.1 (by omega),gg p.2 g2];exact h p hp
end TP3
namespace TP3
open L2 TF TP TS
open TP2
theorem Zkq (f:List Nat):ZnV (Zi f)=true/\∀ds,Zi f=.tup ds->∀d∈ds,ZnV d=true:=⟨rfl,fun ds e d hd=>by
 cases e
 obtain⟨x,_,rfl⟩:=qC.mp hd;rfl⟩
def WQ (p:Nat×Nat):List Int:=[(p.1:Int),(p.2:Int)]
theorem Zhb {p q:Nat×Nat}(h:p.1<q.1∨p.1=q.1/\p.2<q.2):Xc (WQ p) (WQ q)=true:=by
 unfold Xc WQ;rw[yS];rcases h with h | ⟨h1,h2⟩
 ·simp only[Y5]
  have e1:¬((q.1:Int)<(p.1:Int)):=by omega
  have e2:¬((q.1:Int)=(p.1:Int)):=by omega
  simp[e1,e2]
 ·simp only[Y5]
  have e1:¬((q.1:Int)<(p.1:Int)):=by omega
  have e2:¬((q.2:Int)<(p.2:Int)):=by omega
  have e3:¬((q.2:Int)=(p.2:Int)):=by omega
  simp[e1,e2,e3]
theorem Ze5 (n:Nat):∀i,(XF n i).Pairwise fun p q=>Xc (WQ p) (WQ q)=true
 | 0=>by unfold XF;simp
 | i+1=>by
  rw[Bu];refine qaN.mpr ⟨Ze5 n i,zO.mpr ((U2 _).imp fun {a b} h=>Zhb (p:=(i,i+1+a)) (q:=(i,i+1+b)) (.inr ⟨rfl,by show i+1+a<i+1+b;omega⟩)),fun p hp q hq=>?_⟩;obtain⟨k,_,rfl⟩:=qC.mp hq;have:=(Zb1 hp).1;exact Zhb (.inl this)
theorem Zmh {n:Nat}{jD:List (Nat×Nat)}(hw:IsWeb n jD):(jD.map WQ).Pairwise fun x y=>Xc x y=true:=zO.mpr ((Ze5 n n).sublist hw)
theorem Zkr {p q:Nat×Nat}(h:WQ p=WQ q):p=q:=by
 have h1:=(qa2 h).1;have h2:=(qa2 (qa2 h).2).1;exact Prod.ext (by omega) (by omega)
theorem Zks {n:Nat}{jD L:List (Nat×Nat)}(hw:IsWeb n jD)(hp:L.Perm jD):Vj (L.map WQ)=jD.map WQ:=(Za4 (hp.symm.map _) (Zmh hw)).symm
theorem Zhc {n:Nat}{jD L:List (Nat×Nat)}(hw:IsWeb n jD)(hp:L.Perm jD)(hl:L.length<64):UB (L.map WQ):=by
 refine⟨by rw[qd];exact hl,?_,fun _ ns hns=>?_⟩
 ·have nd:L.Nodup:=hp.nodup_iff.mpr ((ZbP n).sublist hw)
  exact zO.mpr (nd.imp fun h e=>h (Zkr e))
 ·obtain⟨p,_,rfl⟩:=qC.mp hns
  exact fun z=>by cases z
theorem Zhd {n:Nat}{jD L:List (Nat×Nat)}(hw:IsWeb n jD)(hp:L.Perm jD)(hl:L.length<64):Zfw [.lst (L.map ZP)]=some (.lst (jD.map ZP)):=by
 have e:L.map ZP=(L.map WQ).map XA:=by rw[qH];rfl
 show(match Vg (L.map ZP) with | some jN=>if UB jN then some (D.lst ((Vj jN).map XA)) else none | none=>none)=_;rw[e,ZbR];show(if UB (L.map WQ) then some (D.lst ((Vj (L.map WQ)).map XA)) else none)=_;rw[if_pos (Zhc hw hp hl),Zks hw hp,qH];rfl
end TP3
namespace TQ
open L2 TF TS
open TP
open TP2
open TP3
theorem Zo8 {T:Nat->List D->M D}{i t:Nat}{fs:Zb->M (List D)}{ρ:Zb}{s s1:Pn}{ds cds:List D}{r:Option (D×Pn)}(h1:(ρ[i]?).bind id=some (.clo t cds))(h2:fs ρ s=some (ds,s1))(h3:T t (ds++cds) s1=r):BZ T i fs ρ s=r:=by
 unfold BZ Zn Za YF;rw[h1];simp only[h2];exact h3
theorem Zmi {F:List D->M D}{t:Nat}{cix:List Nat}{f:Zb->M D}{ρ:Zb}{s s1 s2:Pn}{d c:D}{cds:List D}(h1:f ρ s=some (d,s1))(h2:UF ρ cix=some cds)(n1:YQ d=true)(n2:Xq cds=true)(h3:F [d,.clo t cds] s1=some (c,s2))(n3:YQ c=true):B0 F t cix f ρ s=some (c,s2):=by
 unfold B0 Zn YF;rw[h1,h2];simp only;rw[if_pos (by rw[n1,n2];rfl),h3];simp only;rw[if_pos n3];rfl
theorem Bw:∀{ds:List D},(∀d∈ds,YQ d=true)->Xq ds=true
 | [],_=>rfl
 | d::ds,h=>by
  show(YQ d&&Xq ds)=true;rw[h d zS,Bw fun x (hx:x∈ds)=>h x (qU _ hx)];rfl
theorem ZfT {n:Nat}{f:Zb->M D}{ds:List D}{s:Pn}{r:Option (D×Pn)}(hl:ds.length=n)(h:f (ds.map some) s=r):WK n f ds s=r:=by
 unfold WK;rw[if_pos hl];exact h
theorem Ze6 (n:Nat)(jD:List (Nat×Nat)):YQ (Zt n jD)=true:=by
 have:Xq (jD.map ZP)=true:=Bw fun d hd=>by obtain⟨p,_,rfl⟩:=qC.mp hd;rfl
 simp only[Zt,YQ,Xq,this];rfl
theorem ZfU (lo:Int)(n:Nat):Xq (Yp lo n)=true:=Bw fun d hd=>by
 unfold Yp at hd;obtain⟨i,_,rfl⟩:=qC.mp hd;rfl
theorem Zbl (l:List Nat):Xq (l.map nD)=true:=Bw fun d hd=>by obtain⟨p,_,rfl⟩:=qC.mp hd;rfl
theorem Zcb {row:D}{ds cds:List D}{t:Nat}(h:J9 row ds)(hn:ds.length<=1000)(b:Nat×Nat->Bool)(s:Pn)(hb:∀p∈XG ds.length,Tl t ([ds.getD p.1 .non,ds.getD p.2 .non]++cds) s=some (.bl (b p),s)):UZ [row,.clo t cds] s=some (Zt ds.length ((XG ds.length).filter b),s):=by
 have hln:∀r,Zw YR (Zc (Za 0) Zg) (some row::r) s=some (nD ds.length,s):=fun r=>Z1 (Ze rfl rfl) h.len;refine Y7 rfl (XV (WC (Z4 (Ze (Zb2 (hln _) hn) rfl) (ZgD s hn))) (YW (Y8 ?_)));have hap:=Zlm ds.length hn;have hc:=Xk (src:=[none,some 1,some 0]) (fi:=Yk (Za 2)) (τ:=ZE 0) (ft:=Zz (BZ Tl 1 (Zc (Zd Zj (Za 2) (Zd Zj (Za 0) (dC (.int 0)))) (Zc (Zd Zj (Za 2) (Zd Zj (Za 0) (dC (.int 1)))) Zg)))) (fe:=Za 0) (ρ:=[some row,some (.clo t cds),some (.lst ((XG ds.length).map ZP))]) (s:=s) (ds:=(XG ds.length).map ZP) (fun d=>[some d,some (.clo t cds),some row]) (fun d=>b (nat2 d)) (fun d=>d) (X9 rfl) (by rw[qd,YG];omega) fun d hd=>by
  obtain⟨p,hpm,rfl⟩:=qC.mp hd;have hpp:=Ux.mp hpm;refine⟨rfl,ZV (Zo8 (t:=t) (cds:=cds) rfl (Ze (Zq (d:=row) (e:=nD p.1) rfl (Zq (d:=ZP p) (e:=.int 0) rfl rfl (Wd _ _)) (h.ix (by omega))) (Ze (Zq (d:=row) (e:=nD p.2) rfl (Zq (d:=ZP p) (e:=.int 1) rfl rfl (WH _ _ _)) (h.ix (by omega))) rfl)) (hb p hpm)),fun _=>rfl⟩
 rw[Zfp (XG ds.length) _ b fun p=>by rw[ZjU]] at hc;exact Xz (Ze (hln _) (Ze (Z1 (Ze hc rfl) rfl) rfl)) two_le
theorem range_getD {n i:Nat}(h:i<n):(Yp 0 n).getD i .non=nD i:=by
 rw[V8];simp[qaF,h]
theorem Zio (n:Nat)(jD:List (Nat×Nat))(s:Pn)(hn:n<=1000)(hl:jD.length<=100000):JQ [Zt n jD] s=some (Zt n ((XG n).filter fun p=>!decide (p∈jD)),s):=by
 refine Y7 rfl (XV (WC (Z4 (Ze rfl rfl) (Zct n jD s hl))) (YW (Y8 ?_)));refine Zmi (d:=.lst (Yp 0 n)) (cds:=[.dt (YV [] jD)]) (Zb2 (Zq (d:=Zt n jD) (e:=.int 0) rfl rfl WT) hn) rfl (by simp only[YQ];exact ZfU _ _) rfl ?_ (Ze6 _ _);have:=Zcb (row:=.lst (Yp 0 n)) (ds:=Yp 0 n) (cds:=[.dt (YV [] jD)]) (t:=0) (.inl rfl) (by rw[X2];exact hn) (fun p=>!decide (p∈jD)) s (fun p hp=>by
  rw[X2] at hp;have hpp:=Ux.mp hp;rw[range_getD (by omega),range_getD (by omega)];show Zb7 [nD p.1,nD p.2,.dt (YV [] jD)] s=_;refine ZfT rfl ?_;refine ZiX (a:=decide (p∈jD)) (Z4 (Ze rfl (Ze rfl (Ze rfl rfl))) ?_);rw[Za5,Uz hpp.1])
 rw[X2] at this;exact this
theorem Ze7 {ps:List Nat}{i:Nat}(h:i<ps.length):(ps.map nD).getD i .non=nD (ps.getD i 0):=by
 rw[qj,qy,qj,qk h];rfl
theorem Zmj (n:Nat)(jD:List (Nat×Nat))(ps:List Nat)(hp:ps.length<=1000)(hl:jD.length<=100000)(s:Pn):Zaf [Zt n jD,.lst (ps.map nD)] s=some (Zt ps.length (YY jD ps),s):=by
 refine Y7 rfl (XV (WC (Z4 (Ze rfl rfl) (Zct n jD s hl))) (YW (Y8 ?_)));refine Zmi (d:=.lst (ps.map nD)) (cds:=[.dt (YV [] jD)]) rfl rfl (by simp only[YQ];exact Zbl _) rfl ?_ (Ze6 _ _);have:=Zcb (row:=.lst (ps.map nD)) (ds:=ps.map nD) (cds:=[.dt (YV [] jD)]) (t:=1) (.inl rfl) (by rw[qd];exact hp) (fun p=>tied jD (ps.getD p.1 0) (ps.getD p.2 0)) s (fun p hpm=>by
  rw[qd] at hpm;have hpp:=Ux.mp hpm;rw[Ze7 (by omega),Ze7 (by omega)];show Zax [nD _,nD _,.dt (YV [] jD)] s=_;refine ZfT rfl ?_;exact Z4 (Ze rfl (Ze rfl (Ze rfl rfl))) (Za5 jD _ _ s))
 rw[qd] at this;exact this
theorem Zhe (n:Nat)(jD:List (Nat×Nat))(ps:List Nat)(hp:ps.length<=1000)(hl:jD.length<=100000)(s:Pn):ZfC [Zt n jD,.lst (ps.map nD)] s=some (Zt ps.length (YY jD ps),s):=
 Y7 rfl (YW (Y8 (Z4 (Ze rfl (Ze rfl rfl)) (Zmj n jD ps hp hl s))))
end TQ
namespace TQ
open L2 TF TS
open TP
open TP2
open TP3
end TQ
namespace TQ
open L2 TF TS
open TP
open TP2
open TP3
theorem maxN (a b:Nat):WP [nD a,nD b]=some (nD (max a b)):=by
 show some (D.int (if (b:Int) > (a:Int) then (b:Int) else (a:Int)))=_;rw[ZoQ]
end TQ
namespace TQ
open L2 TF TS
open TP
open TP2
open TP3
end TQ
namespace TQ
open L2 TF TS
open TP
open TP2
open TP3
end TQ
namespace TQ
open L2 TF TS
open TP
open TP2
open TP3
end TQ
namespace TQ
open L2 TF TS
open TP
open TP2
open TP3
end TQ
namespace TQ
open L2 TF TS
open TP
open TP2
open TP3
end TQ
namespace TQ
open L2 TF TS
open TP
open TP2
open TP3
abbrev UV (n:Nat)(jD:List (Nat×Nat)):D:=.tup [nD n,.dt (YV [] jD)]
theorem mk0 {n:Nat}{jD:List (Nat×Nat)}:Zj (UV n jD) (.int 0)=some (nD n):=Wd _ _
theorem mk1 {n:Nat}{jD:List (Nat×Nat)}:Zj (UV n jD) (.int 1)=some (.dt (YV [] jD)):=WH _ _ _
theorem Zmk (n:Nat)(jD:List (Nat×Nat))(p:Nat)(s:Pn)(hn:n<=100000):VJ [UV n jD,.int p] s=some (.lst ((Yx n jD p).map nD),s):=by
 refine Y7 rfl (YW (Y8 ?_));unfold Yx;show _=some (D.lst (((qp n).filter fun o=>tied jD p o).map fun(i:Nat)=>D.int (i:Int)),s);rw[<-Zbh];refine Xk (ds:=Yp 0 n) (fun d=>[some d,some (UV n jD),some (.int p)]) (fun d=>tied jD p (Yc d)) (fun d=>d) (Wp (Zq (d:=UV n jD) (e:=.int 0) rfl rfl mk0) hn) (Zdm hn) ?_;intro d hd;obtain⟨i,hi,rfl⟩:=U1 hd;exact⟨rfl,ZV (Z4 (Ze (Zq (d:=UV n jD) (e:=.int 1) rfl rfl mk1) (Ze rfl (Ze rfl rfl))) (Za5 jD p i s)),fun _=>rfl⟩
def gN:Zb->M Out:=(Zh (Ya 1 (Yr (Zc (Zd Zj (Za 0) (dC (.int 0))) (Zc (Zv V2 (Zc (Za 0) Zg)) Zg))))
 (Zh (ZF (Yg [none,some 1] (Y0 (Zd Zj (Za 0) (dC (.int 0)))) (ZE 0) Yq (Zv VJ (Zc (Za 1) (Zc (Za 0) Zg)))))
 Zl))
theorem Zcc (n:Nat)(jD:List (Nat×Nat))(hn:n<=1000)(hl:jD.length<=100000)(s:Pn):runB 2 1 gN [Zt n jD] s=some (Wa n jD,s):=by
 refine Y7 rfl (XV (WC (Xz (Ze (Zq (d:=Zt n jD) (e:=.int 0) rfl rfl WT) (Ze (Z4 (Ze rfl rfl) (Zct n jD s hl)) rfl)) two_le)) (YW (Y8 ?_)));have hc:=Xk (src:=[none,some 1]) (fi:=Y0 (Zd Zj (Za 0) (dC (.int 0)))) (τ:=ZE 0) (ft:=Yq) (fe:=Zv VJ (Zc (Za 1) (Zc (Za 0) Zg))) (ρ:=[some (Zt n jD),some (UV n jD)]) (s:=s) (ds:=Yp 0 n) (fun d=>[some d,some (UV n jD)]) (fun _=>true) (fun d=>.lst ((Yx n jD (Yc d)).map nD)) (Wp (Zq (d:=Zt n jD) (e:=.int 0) rfl rfl WT) (by omega)) (Zdm (by omega)) fun d hd=>by
  obtain⟨i,hi,rfl⟩:=U1 hd;exact⟨rfl,rfl,fun _=>Z4 (Ze rfl (Ze rfl rfl)) (Zmk n jD i s (by omega))⟩
 rw[WY,V8,qH] at hc;exact hc
end TQ
namespace TQ
open L2 TF TS
open TP
open TP2
open TP3
section
variable (ap:Nat->Nat->Bool)
end
section
variable {ap:Nat->Nat->Bool}
end
end TQ
namespace TQ
open L2 TF TS
open TP
open TP2
open TP3
def Zo9:Zb->M Out:=(Zh (ZF (Yg [none,some 0,some 1] (Yk (Za 2)) (ZE 0) (Zz (Zd YZ (Za 0) (Zd Zj (Za 1) (Za 2)))) (Za 0)))
 Zl)
def Zip:List D->M D:=runB 3 3 Zo9
def gHW (Fs:List D->M D):Zb->M Out:=(Zh (Ya 4 (Yg [none,some 2,some 0] (Yk (Za 3)) (ZE 0) (XZ (Zz (Zd Xg (Za 0) (Za 1))) (Zz (Zd W3 (Za 0) (Zd Zj (Za 2) (Za 1))))) (Za 0)))
 (Zh (ZF (Zd Y4 (Xf (Zc (Za 2) Zg)) (Zv Fs (Zc (Za 0) (Zc (Za 1) (Zc (Za 4) Zg))))))
 Zl))
def FHW (Fs:List D->M D):List D->M D:=runB 5 4 (gHW Fs)
theorem geN (a b:Nat):VY (nD a) (nD b)=some (.bl (decide (b<=a))):=by
 show some (D.bl (decide ((b:Int)<=(a:Int))))=_;rw[show decide ((b:Int)<=(a:Int))=decide (b<=a) from decide_eq_decide.mpr (by omega)]
theorem Ziq (P:Nat->Bool)(h:Nat->D)(ps:List Nat):(qp ps.length).findSome? (fun i=>if P (ps.getD i 0)=true then some (h (ps.getD i 0)) else none)=(ps.find? P).map h:=by
 have e:(qp ps.length).map (fun i=>ps.getD i 0)=ps:=by
  apply qat;intro i;rw[qy];by_cases hi:i<ps.length
  ·rw[zE hi]
   show some (ps.getD i 0)=_;rw[qj,qk hi];rfl
  ·rw[yd (by simp;omega),yd (by omega)];rfl
 have k:∀l:List Nat,l.findSome? (fun x=>if P x=true then some (h x) else none)=(l.find? P).map h:=fun l=>by
  induction l with
  | nil=>rfl
  | cons x l ih=>
   rw[qbY,yn]
   cases hx:P x with
   | true=>rfl
   | false=>exact ih
 rw[<-k ps]
 conv=>rhs;rw[<-e]
 rw[List.findSome?_map];rfl
section
variable {n:Nat}{A:Nat->List Nat}{ap:Nat->Nat->Bool}
theorem Zml (hA:∀p o,ap p o=decide (o∈A p)){p:Nat}(hp:p<n)(ps:List Nat)(hl:ps.length<=1000)(s:Pn):Zip [Xm n A,nD p,.lst (ps.map nD)] s=some (.lst ((ps.filter fun o=>ap p o).map nD),s):=by
 have hc:=Xk (src:=[none,some 0,some 1]) (fi:=Yk (Za 2)) (τ:=ZE 0) (ft:=Zz (Zd YZ (Za 0) (Zd Zj (Za 1) (Za 2)))) (fe:=Za 0) (ρ:=[some (Xm n A),some (nD p),some (.lst (ps.map nD))]) (s:=s) (ds:=ps.map nD) (fun d=>[some d,some (Xm n A),some (nD p)]) (fun d=>ap p (Yc d)) (fun d=>d) (X9 rfl) (by rw[qd,YG];omega) (fun d hd=>by
  obtain⟨x,hx,rfl⟩:=qC.mp hd;exact⟨rfl,ZV (Zq (d:=nD x) (e:=.dk (XI (A p))) rfl (Zq (d:=Xm n A) (e:=nD p) rfl rfl (Zmc hp)) (by rw[Zo4,<-hA];rfl)),fun _=>rfl⟩)
 rw[yi,qH] at hc;exact Y7 rfl (YW (Y8 hc))
end
end TQ
namespace TQ
open L2 TF TS
open TP
open TP2
open TP3
end TQ
namespace TQ
open L2 TF TS
open TP
open TP2
open TP3
end TQ
namespace TP3
open L2 TF TP TS
open TP2
section
variable {n:Nat}{jD:List (Nat×Nat)}
def JC (n:Nat)(p:Nat->Bool):List Nat:=(qp n).filter p
theorem Zd1 (n:Nat)(p:Nat->Bool):(JC n p).Pairwise (· < ·):=(U2 n).sublist zh
theorem Zdt {p:Nat->Bool}{x:Nat}:x∈JC n p↔x<n/\p x=true:=by unfold JC;rw[qB,qP]
end
end TP3
namespace TQ
open L2 TF TS
open TP
open TP2
open TP3
theorem Zn6 (n:Nat)(jD:List (Nat×Nat))(hn:n<=1000)(hl:jD.length<=100000)(s:Pn):Uu [Zt n jD] s=some (Wa n jD,s):=Zcc n jD hn hl s
theorem ZnB {n:Nat}{jD:List (Nat×Nat)}{p:Nat}{qs:List Nat}{f:Nat->Nat}(hn:n<=24)(hpn:p<n)(hp:p∉qs)(hq:∀q∈qs,q<n)(hl:qs.length<=1000)(o1:Option D)(s:Pn) :
  (VO 3 (fun ρ=>(Za 4) (Ye [3] ρ)) (WW true (Zv JG (Zc (Yg [none,some 3] (Yk (Zd Zj (Za 2) (Za 4))) (ZE 0) (Zz (Zd YZ (Za 0) (Za 1))) (Zd Vp (Za 1) (Za 0))) Zg)))) [some (Zt n jD),o1,some (Wa n jD),some (.dk (ZS qs f)),some (nD p)] s
   = some (.nx [some (Zt n jD),o1,some (Wa n jD),some (.dk (ZS (qs ++ [p]) fun x=>if x=p then X1 ((qs.filter fun o=>tied jD p o).map f) else f x)),some (nD p)],s):=by
 have hc:=Xk (src:=[none,some 3]) (fi:=Yk (Zd Zj (Za 2) (Za 4))) (τ:=ZE 0) (ft:=Zz (Zd YZ (Za 0) (Za 1))) (fe:=Zd Vp (Za 1) (Za 0)) (ρ:=[some (Zt n jD),o1,some (Wa n jD),some (.dk (ZS qs f)),some (nD p)]) (s:=s) (ds:=(Yx n jD p).map nD) (fun d=>[some d,some (.dk (ZS qs f))]) (fun d=>decide (Yc d∈qs)) (fun d=>nD (f (Yc d)))
  (X9 (Zq (d:=Wa n jD) (e:=nD p) rfl rfl (Zjb hpn))) (by
   have:=zk (fun o=>tied jD p o) (qp n);rw[qd,YG];rw[qO] at this;show(Yx n jD p).length<=_;unfold Yx;omega) (fun d hd=>by
  obtain⟨x,hx,rfl⟩:=qC.mp hd;exact⟨rfl,ZV (Zq (d:=nD x) (e:=.dk (ZS qs f)) rfl rfl (Zik qs f x)),fun hb=>Zq (d:=.dk (ZS qs f)) (e:=nD x) rfl rfl (ZfP (of_decide_eq_true hb))⟩)
 have e:(((Yx n jD p).map nD).filter fun d=>decide (Yc d∈qs)).map (fun d=>nD (f (Yc d)))=(((Yx n jD p).filter fun o=>decide (o∈qs)).map f).map nD:=by
  rw[yi,qH,qH];rfl
 rw[e] at hc;have jO:(((Yx n jD p).filter fun o=>decide (o∈qs)).map f).length<=1000:=by
  rw[qd];have h1:=zk (fun o=>decide (o∈qs)) (Yx n jD p);have h2:=zk (fun o=>tied jD p o) (qp n);rw[qO] at h2;unfold Yx at h1;unfold Yx;omega
 have hm:X1 (((Yx n jD p).filter fun o=>decide (o∈qs)).map f)=X1 ((qs.filter fun o=>tied jD p o).map f):=Ze1 fun x=>by
  simp only[Yx,qC,qB,qP,decide_eq_true_eq];constructor
  ·rintro⟨a,⟨⟨_,h2⟩,h3⟩,rfl⟩;exact⟨a,⟨h3,h2⟩,rfl⟩
  ·rintro⟨a,⟨h3,h2⟩,rfl⟩;exact⟨a,⟨⟨hq a h3,h2⟩,h3⟩,rfl⟩
 have hf:=Zet (((Yx n jD p).filter fun o=>decide (o∈qs)).map f) jO s;rw[hm] at hf;have hv:(WW true (Zv JG (Zc (Yg [none,some 3] (Yk (Zd Zj (Za 2) (Za 4))) (ZE 0) (Zz (Zd YZ (Za 0) (Za 1))) (Zd Vp (Za 1) (Za 0))) Zg))) [some (Zt n jD),o1,some (Wa n jD),some (.dk (ZS qs f)),some (nD p)] s=some (nD (X1 ((qs.filter fun o=>tied jD p o).map f)),s):=Zfi (Z4 (Ze hc rfl) hf) rfl;rw[Zds hv (x:=nD p) rfl (kvs:=ZS qs f) rfl rfl rfl (by unfold ZS;rw[qd,YG];omega),Zdr hp];rfl
theorem Zmm (n:Nat)(jD:List (Nat×Nat))(hw:IsWeb n jD)(hn:n<=24){ps:List Nat}(hp:ps.Perm (qp n))(s:Pn):ZaD [Zt n jD,.lst (ps.map nD)] s=some (Zi (Vm n jD ps),s):=by
 have nd:ps.Nodup:=hp.nodup_iff.mpr zV;have hl:ps.length=n:=by rw[hp.length_eq,qO]
 have hlt:∀q∈ps,q<n:=fun q hq=>qP.mp (hp.mem_iff.mp hq);have hlt2:=hw.len hn;refine jo (Ok.runB rfl (Ok.seq (.sset (.eq (Z4 (Ze rfl rfl) (Zn6 n jD (by omega) (by omega) s)) (Ok.seq (Ok.sown (.eq (a:=.dk []) rfl ⟨rfl,?_⟩)))))));refine Ok.seq (.sfor (fun k ρ s'=>s'=s/\k<=ps.length/\∃o3,ρ=[some (Zt n jD),some (.lst (ps.map nD)),some (Wa n jD),some (.dk (ZS (ps.take k) (hr jD (ps.take k).reverse))),o3]) (.eq (a:=ps.map nD) (s':=s) (X9 rfl) ⟨⟨rfl,za _,none,by rw[yk];rfl⟩,fun k d ρ s' hd hI=>?_,fun ρ' s' hI=>?_⟩))
 ·obtain⟨rfl,_,o3,rfl⟩:=hI
  rw[qy] at hd
  cases e:ps[k]? with
  | none=>rw[e] at hd;cases hd
  | some p=>
   rw[e] at hd
   cases hd
   refine⟨_,rfl,Ok.seq (.eq (ZnB (f:=hr jD (ps.take k).reverse) hn (hlt p (zm e)) (Zil nd e) (fun q hq=>hlt q (List.take_subset _ _ hq)) (by rw[zt];omega) _ s') (.next ⟨_,rfl,rfl,?_,some (nD p),?_⟩))⟩
   ·have:=(qD.mp e).1;omega
   ·rw[Znw jD e,JN e]
 ·obtain⟨rfl,_,o3,rfl⟩:=hI
  rw[qd,zN];have hc:=Xk (src:=[none,some 3]) (fi:=Y0 (Zd Zj (Za 0) (dC (.int 0)))) (τ:=ZE 0) (ft:=Yq) (fe:=Zd Vp (Za 1) (Za 0)) (ρ:=[some (Zt n jD),some (.lst (ps.map nD)),some (Wa n jD),some (.dk (ZS ps (hr jD ps.reverse))),o3]) (s:=s') (ds:=Yp 0 n) (fun d=>[some d,some (.dk (ZS ps (hr jD ps.reverse)))]) (fun _=>true) (fun d=>nD (hr jD ps.reverse (Yc d)))
   (Wp (Zq (d:=Zt n jD) (e:=.int 0) rfl rfl WT) (by omega)) (by rw[X2,YG];omega) (fun d hd=>by
   obtain⟨i,hi,rfl⟩:=U1 hd;exact⟨rfl,rfl,fun _=>Zq (d:=.dk (ZS ps (hr jD ps.reverse))) (e:=nD i) rfl rfl (ZfP (hp.mem_iff.mpr (qP.mpr hi)))⟩)
  rw[WY,V8,qH] at hc;refine Ok.seq (.sret (.eq (Z1 (Ze hc rfl) (c:=Zi (Vm n jD ps)) ?_) ⟨rfl,rfl⟩));show some (D.tup _)=some (D.tup _);unfold Vm;rw[qH];rfl
end TQ
namespace TQ
open L2 TF TS
open TP
open TP2
open TP3
theorem Ze8 {w:Nat->Nat}{x:Nat}:∀{b:List Nat},x∈b->(b.map w).sum=w x+((b.erase x).map w).sum
 | y::r,h=>by
  by_cases e:y=x
  ·subst e;rw[List.erase_cons_head];simp
  ·rw[List.erase_cons_tail (by simpa using e)]
   have hx:x∈r:=by
    rcases qq.mp h with z | z
    ·exact absurd z.symm e
    ·exact z
   have:=Ze8 (w:=w) hx;simp only[qW,y6];omega
theorem ZfV {w:Nat->Nat}:∀{a b:List Nat},a.Nodup->(∀x∈a,x∈b)->(a.map w).sum<=(b.map w).sum
 | [],b,_,_=>by simp
 | x::r,b,nd,h=>by
  have nd':=zD.mp nd;have:=ZfV (w:=w) (b:=b.erase x) nd'.2 fun y hy=>(qbN (by rintro rfl;exact nd'.1 hy)).mpr (h y (by simp[hy]));rw[Ze8 (w:=w) (h x (by simp))];simp only[qW,y6];omega
theorem Zhf {w:Nat->Nat}{a b:List Nat}(h:a.Perm b):(a.map w).sum=(b.map w).sum:=(h.map w).sum_nat
section
variable {jD:List (Nat×Nat)}{ws:List Wb}
end
end TQ
namespace TQ
open L2 TF TS
open TP
open TP2
open TP3
section
variable {n m:Nat}{t1 t2 T:List (Nat×Nat)}
end
end TQ
namespace TQ
open L2 TF TS
open TP
open TP2
open TP3
section
variable {jD:List (Nat×Nat)}
theorem Zjc (p:Nat)(b:List Nat):hr jD (p::b) p=X1 ((b.filter fun o=>tied jD p o).map (hr jD b)):=by
 show(if p=p then _ else _)=_;rw[if_pos rfl]
theorem Zdu {p x:Nat}{b:List Nat}(h:x≠p):hr jD (p::b) x=hr jD b x:=by
 show(if x=p then _ else _)=_;rw[if_neg h]
theorem Zhg:∀{qs:List Nat},qs.Nodup->∀x∈qs,∀y∈qs,x≠y->tied jD x y=true->hr jD qs x≠hr jD qs y
 | [],_,x,hx,_,_,_,_=>by simp at hx
 | p::b,nd,x,hx,y,hy,ne,ht=>by
  have nd':=zD.mp nd;have key:∀z∈b,tied jD p z=true->hr jD (p::b) p≠hr jD (p::b) z:=fun z hz hp=>by
   have hzp:z≠p:=fun e=>nd'.1 (e▸hz);rw[Zjc,Zdu hzp];intro e;exact(Zca _).1 (by rw[e];exact qC.mpr ⟨z,qB.mpr ⟨hz,hp⟩,rfl⟩)
  by_cases ex:x=p
  ·subst ex
   have hy':y∈b:=(qq.mp hy).resolve_left fun z=>ne z.symm;exact key y hy' ht
  ·have hx':x∈b:=(qq.mp hx).resolve_left ex
   by_cases ey:y=p
   ·subst ey
    exact(key x hx' (by rw[Uv];exact ht)).symm
   ·have hy':y∈b:=(qq.mp hy).resolve_left ey
    rw[Zdu ex,Zdu ey];exact Zhg nd'.2 x hx' y hy' ne ht
theorem Zn7:∀{qs:List Nat},∀x∈qs,hr jD qs x<qs.length
 | [],x,hx=>by simp at hx
 | p::b,x,hx=>by
  by_cases ex:x=p
  ·subst ex
   rw[Zjc];have h1:=Zo3 ((b.filter fun o=>tied jD x o).map (hr jD b));have h2:=zk (fun o=>tied jD x o) b;rw[qd] at h1;rw[qY];omega
  ·have hx':x∈b:=(qq.mp hx).resolve_left ex
   rw[Zdu ex,qY];have:=Zn7 x hx';omega
variable {n:Nat}{ps:List Nat}
theorem ZbE:(Vm n jD ps).length=n:=by unfold Vm;simp
theorem Zcy {i:Nat}(h:i<n):(Vm n jD ps).getD i 0=hr jD ps.reverse i:=by
 unfold Vm;rw[qj,qy,zE h];rfl
theorem Zjd (hp:ps.Perm (qp n)):ps.reverse.Nodup/\(∀i,i∈ps.reverse↔i<n)/\ps.reverse.length=n:=
 ⟨(List.reverse_perm ps).nodup_iff.mpr (hp.nodup_iff.mpr zV),fun i=>by rw[qba,hp.mem_iff,qP],by rw[List.length_reverse,hp.length_eq,qO]⟩
theorem Zhh (hp:ps.Perm (qp n)){a b:Nat}(ha:a<n)(hb:b<n)(ne:a≠b)(ht:tied jD a b=true):(Vm n jD ps).getD a 0≠(Vm n jD ps).getD b 0:=by
 obtain⟨nd,mm,_⟩:=Zjd hp;rw[Zcy ha,Zcy hb];exact Zhg nd a ((mm a).mpr ha) b ((mm b).mpr hb) ne ht
theorem Zmn (hp:ps.Perm (qp n)){a:Nat}(ha:a<n):(Vm n jD ps).getD a 0<n:=by
 obtain⟨nd,mm,ll⟩:=Zjd hp;rw[Zcy ha];have:=Zn7 (jD:=jD) a ((mm a).mpr ha);omega
structure RightH (n:Nat)(jD:List (Nat×Nat))(f:List Nat):Prop where
 len:f.length=n
 lt:∀a<n,f.getD a 0<n
 ri:∀a<n,∀b<n,a≠b->tied jD a b=true->f.getD a 0≠f.getD b 0
theorem ZfW (hp:ps.Perm (qp n)):RightH n jD (Vm n jD ps):=⟨ZbE,fun a ha=>Zmn hp ha,fun a ha b hb ne ht=>Zhh hp ha hb ne ht⟩
theorem RightH.hueB {f:List Nat}(R:RightH n jD f)(hw:IsWeb n jD):hueB n jD (Zi f)=true:=by
 rw[Ze4 hw R.len,qL,zo,zo];constructor
 ·intro y hy
  obtain⟨i,hi,rfl⟩:=qbO.mp hy;have:=R.lt i (by rw[<-R.len];exact hi);rw[qj,qk hi] at this;exact decide_eq_true this
 ·intro p hp
  obtain⟨q1,q2⟩:=hw.mem hp;have:=R.ri p.1 (by omega) p.2 q2 (by omega) (by rw[JS,qbs (by omega),yZ (by omega)];exact hp);simpa using this
end
def Z2 (f:List Nat):List Nat:=f.foldl (fun a x=>if x∈a then a else a ++ [x]) []
def Z9 (W f:List Nat)(k h:Nat):Nat:=Xd (((qp k).filter fun p=>decide (f.getD p 0=h)).map fun p=>W.getD p 0)
def VW (W f:List Nat):Nat:=((Z2 f).map (Z9 W f f.length)).sum
theorem Zcd (f:List Nat)(x:Nat):Z2 (f ++ [x])=if x∈Z2 f then Z2 f else Z2 f ++ [x]:=by
 unfold Z2;rw[qax];rfl
theorem keys_fold:∀(f a:List Nat),a.Nodup->(f.foldl (fun a x=>if x∈a then a else a ++ [x]) a).Nodup/\∀x,x∈f.foldl (fun a x=>if x∈a then a else a ++ [x]) a↔x∈a∨x∈f
 | [],a,h=>⟨h,fun x=>by simp⟩
 | y::f,a,h=>by
  rw[List.foldl_cons];by_cases hy:y∈a
  ·rw[if_pos hy]
   obtain⟨h1,h2⟩:=keys_fold f a h;refine⟨h1,fun x=>?_⟩;rw[h2,qq];constructor
   ·rintro(z | z)
    ·exact .inl z
    ·exact .inr (.inr z)
   ·rintro(z | rfl | z)
    ·exact .inl z
    ·exact .inl hy
    ·exact .inr z
  ·rw[if_neg hy]
   obtain⟨h1,h2⟩:=keys_fold f (a ++ [y]) (qav.mpr ⟨h,by simp,fun u hu v hv=>by rw[qQ.mp hv];rintro rfl;exact hy hu⟩);refine⟨h1,fun x=>?_⟩;rw[h2,zg,qQ,qq,or_assoc]
theorem Uq (f:List Nat):(Z2 f).Nodup/\∀x,x∈Z2 f↔x∈f:=by
 obtain⟨h1,h2⟩:=keys_fold f [] qao;exact⟨h1,fun x=>(h2 x).trans (by simp)⟩
theorem ZcR (W f:List Nat)(k h:Nat):Z9 W f (k+1) h=if f.getD k 0=h then max (Z9 W f k h) (W.getD k 0) else Z9 W f k h:=by
 unfold Z9;rw[qac,yP];by_cases e:f.getD k 0=h
 ·rw[if_pos e,qas (by simpa using e),qaP,zj]
  unfold Xd;rw[qax];rfl
 ·rw[if_neg e,yF (by simpa using e),qaP,zx]
theorem Zkt {W f:List Nat}{k h b:Nat}(hb:∀p<k,W.getD p 0<=b):Z9 W f k h<=b:=Zo6 fun x hx=>by
 obtain⟨p,hp,rfl⟩:=qC.mp hx;exact hb p (qP.mp (qB.mp hp).1)
theorem Zje {g:Nat->Nat}{x v:Nat}{qs:List Nat}(h:x∈qs):Yo (ZS qs g) (qZ (x:Int)) (.int (v:Int))=ZS qs fun y=>if y=x then v else g y:=by
 unfold Yo;rw[if_pos]
 ·unfold ZS
  rw[qH];refine zF fun q _=>?_;show(if (qZ (q:Int):Zy)=qZ (x:Int) then (qZ (q:Int),V.int (v:Int)) else (qZ (q:Int),V.int (g q:Int)))=(qZ (q:Int),V.int ((if q=x then v else g q:Nat):Int));by_cases e:q=x
  ·subst e;rw[if_pos rfl,if_pos rfl]
  ·rw[if_neg (fun z=>e (by injection z with z;omega)),if_neg e]
 ·rw[qbf]
  exact⟨_,qC.mpr ⟨x,h,rfl⟩,by simp⟩
theorem Zjf (qs:List Nat)(g:Nat->Nat):Vl (ZS qs g)=some (Yl (qs.map g)):=by
 induction qs with
 | nil=>rfl
 | cons q qs ih=>
  show(Vl (ZS qs g)).map (((g q:Nat):Int) :: ·)=_;rw[ih];rfl
theorem Zce:∀l:List Nat,(Yl l).sum=((l.sum:Nat):Int)
 | []=>rfl
 | x::r=>by
  show((x:Nat):Int)+(Yl r).sum=_;rw[Zce r,y6];omega
theorem WE {f:List Nat}{i:Nat}(h:i<f.length):Zj (Zi f) (nD i)=some (nD (f.getD i 0)):=by
 refine WL ?_;rw[qy,qk h,qj,qk h];rfl
theorem Zir (W f:List Nat)(hl:W.length=f.length)(hs:f.length<=1000)(s:Pn):Zac [Zi W,Zi f] s=some (nD (VW W f),s):=by
 refine jo (Ok.runB rfl (Ok.seq (Ok.sown (.eq (a:=.dk []) rfl ⟨rfl,?_⟩))));refine Ok.seq (.sfor (fun k ρ s'=>s'=s/\k<=f.length/\∃o3,ρ=[some (Zi W),some (Zi f),some (.dk (ZS (Z2 (f.take k)) (Z9 W f k))),o3]) (.eq (a:=Yp 0 f.length) (s':=s) (Wp (n:=f.length) (Z1 (Ze rfl rfl) (by show some (D.int _)=_;rw[qd])) (by omega)) ⟨⟨rfl,za _,none,by rw[yk];rfl⟩,fun k d ρ s' hd hI=>?_,fun ρ' s' hI=>?_⟩))
 ·obtain⟨rfl,_,o3,rfl⟩:=hI
  obtain⟨hk,rfl⟩:=JH hd;refine⟨_,rfl,?_⟩;have hfk:f[k]?=some (f.getD k 0):=by rw[qj,qk hk];rfl
  have hkeys:Z2 (f.take (k+1))=if f.getD k 0∈Z2 (f.take k) then Z2 (f.take k) else Z2 (f.take k) ++ [f.getD k 0]:=by rw[JN hfk,Zcd]
  have jO:(Z2 (f.take k)).length<=1000:=by
   have:=JM (Uq (f.take k)).1 fun x hx=>((Uq (f.take k)).2 x).mp hx;rw[zt] at this;omega
  have hget:Ug (Za 2) (Zd Zj (Za 1) (Za 3)) (dC (.int 0)) [some (Zi W),some (Zi f),some (.dk (ZS (Z2 (f.take k)) (Z9 W f k))),some (nD k)] s'=some (nD (if f.getD k 0∈Z2 (f.take k) then Z9 W f k (f.getD k 0) else 0),s'):=by
   unfold Ug Zn;rw[show Za 2 [some (Zi W),some (Zi f),some (.dk (ZS (Z2 (f.take k)) (Z9 W f k))),some (nD k)] s'=some (.dk (ZS (Z2 (f.take k)) (Z9 W f k)),s') from rfl];dsimp only;rw[Zq (d:=Zi f) (e:=nD k) rfl rfl (WE hk)];show(match Z6 (ZS (Z2 (f.take k)) (Z9 W f k)) (qZ ((f.getD k 0:Nat):Int)) with | some v=>YF (vD v) | none=>Zx (D.int 0)) s'=_;rw[JV];by_cases h:f.getD k 0∈Z2 (f.take k)
   ·rw[if_pos h,if_pos h];rfl
   ·rw[if_neg h,if_neg h];rfl
  have hnone:f.getD k 0∉Z2 (f.take k)->Z9 W f k (f.getD k 0)=0:=fun h=>by
   have:((qp k).filter fun p=>decide (f.getD p 0=f.getD k 0))=[]:=qby.mpr fun p hp z=>by
    have hp:=qP.mp hp;refine h (((Uq _).2 _).mpr ?_);rw[<-of_decide_eq_true z];refine zm (i:=p) ?_;rw[List.getElem?_take,if_pos hp,qj,qk (by omega)];rfl
   unfold Z9;rw[this];rfl
  have hval:(if f.getD k 0∈Z2 (f.take k) then Z9 W f k (f.getD k 0) else 0)=Z9 W f k (f.getD k 0):=by
   by_cases h:f.getD k 0∈Z2 (f.take k)
   ·rw[if_pos h]
   ·rw[if_neg h,hnone h]
  rw[hval] at hget;have hv:(WW true (Zw WP (Zc (Zd Zj (Za 0) (Za 3)) (Zc (Ug (Za 2) (Zd Zj (Za 1) (Za 3)) (dC (.int 0))) Zg)))) [some (Zi W),some (Zi f),some (.dk (ZS (Z2 (f.take k)) (Z9 W f k))),some (nD k)] s'=some (nD (max (W.getD k 0) (Z9 W f k (f.getD k 0))),s'):=
   Zfi (Z1 (Ze (Zq (d:=Zi W) (e:=nD k) rfl rfl (WE (by omega))) (Ze hget rfl)) (maxN _ _)) rfl
  have hx:(fun ρ=>(Zd Zj (Za 1) (Za 3)) (Ye [2] ρ)) [some (Zi W),some (Zi f),some (.dk (ZS (Z2 (f.take k)) (Z9 W f k))),some (nD k)] s'=some (nD (f.getD k 0),s'):=Zq (d:=Zi f) (e:=nD k) rfl rfl (WE hk);refine Ok.seq (.eq (Zds hv hx (kvs:=ZS (Z2 (f.take k)) (Z9 W f k)) rfl rfl rfl (by unfold ZS;rw[qd,YG];omega)) (.next ⟨_,rfl,rfl,by omega,some (nD k),?_⟩));have hput:Yo (ZS (Z2 (f.take k)) (Z9 W f k)) (qZ ((f.getD k 0:Nat):Int)) (.int ((max (W.getD k 0) (Z9 W f k (f.getD k 0)):Nat):Int))=ZS (Z2 (f.take (k+1))) (Z9 W f (k+1)):=by
   have hfun:(fun y=>if y=f.getD k 0 then max (W.getD k 0) (Z9 W f k (f.getD k 0)) else Z9 W f k y)=Z9 W f (k+1):=by
    funext y;rw[ZcR];by_cases e:y=f.getD k 0
    ·rw[if_pos e,if_pos e.symm,e,Nat.max_comm]
    ·rw[if_neg e,if_neg fun z=>e z.symm]
   rw[hkeys];by_cases h:f.getD k 0∈Z2 (f.take k)
   ·rw[if_pos h,Zje h,hfun]
   ·rw[if_neg h,Zdr h,hfun]
  rw[<-hput];rfl
 ·obtain⟨rfl,_,o3,rfl⟩:=hI
  rw[X2,zN];refine Ok.seq (.sret (.eq (a:=nD (VW W f)) ?_ ⟨rfl,rfl⟩));unfold ZdU Zn;rw[show Za 2 [some (Zi W),some (Zi f),some (.dk (ZS (Z2 f) (Z9 W f f.length))),o3] s'=some (.dk (ZS (Z2 f) (Z9 W f f.length)),s') from rfl];show(match Vl (ZS (Z2 f) (Z9 W f f.length)) with | some ns=>Zx (D.int ns.sum) | none=>ZC) s'=_;rw[Zjf];show some (D.int (Yl ((Z2 f).map (Z9 W f f.length))).sum,s')=_;rw[Zce];rfl
end TQ
namespace TQ
open L2 TF TS
open TP
open TP2
open TP3
inductive Paper where
 | all | hues (f:List Nat) | place (v:Nat) (a b:Paper)
def YB (pl:Str):Paper->D
 | .all=>.tup [.str pl]
 | .hues f=>.tup [.str (qA "hues"),Zi f]
 | .place v a b=>.tup [.str (qA "place"),nD v,YB pl a,YB pl b]
abbrev Yh (n v:Nat):List Nat:=JC n fun x=>!decide (x=v)
abbrev Yf (n:Nat)(jD:List (Nat×Nat))(v:Nat):List Nat:=JC n fun x=>tied jD v x
abbrev Yu (W ps:List Nat):List Nat:=ps.map fun p=>W.getD p 0
def wt (W K:List Nat):Nat:=(K.map fun p=>W.getD p 0).sum
def VX:Paper->Nat->List (Nat×Nat)->List Nat->Int->Bool
 | .all,_,_,W,w=>decide (((W.sum:Nat):Int)<=w)
 | .hues f,n,jD,W,w=>hueB n jD (Zi f)&&decide (((VW W f:Nat):Int)<=w)
 | .place v a b,n,jD,W,w=>decide (v<n)&&(decide (((W.getD v 0:Nat):Int)<=w)&&(VX a (Yh n v).length (YY jD (Yh n v)) (Yu W (Yh n v)) w&&VX b (Yf n jD v).length (YY jD (Yf n jD v)) (Yu W (Yf n jD v)) (w-((W.getD v 0:Nat):Int))))
def Zmo:Paper->Prop
 | .all=>True
 | .hues f=>f.length<=1000
 | .place v a b=>v<1000/\Zmo a/\Zmo b
theorem ZfX {n v:Nat}(h:v<n):(Yh n v).length<n:=by
 have:=ZbC (ps:=qp n) (p:=v) (qP.mpr h) (fun x=>!decide (x=v)) (by simp);rw[qO] at this;exact this
theorem ZfY {n v:Nat}{jD:List (Nat×Nat)}(hw:IsWeb n jD)(h:v<n):(Yf n jD v).length<n:=by
 have:=ZbC (ps:=qp n) (p:=v) (qP.mpr h) (fun x=>tied jD v x) (by
  cases e:tied jD v v with
  | false=>rfl
  | true=>
   have:=hw.mem (JS.mp e);simp at this)
 rw[qO] at this;exact this
theorem UC (n:Nat)(p:Nat->Bool):(JC n p).Nodup/\∀o∈JC n p,o<n:=⟨U3 (Zd1 n p),fun o ho=>(Zdt.mp ho).1⟩
theorem ZnC {W ps:List Nat}{i:Nat}(h:i<ps.length):(Yu W ps).getD i 0=W.getD (ps.getD i 0) 0:=by
 rw[qj,qy,qj (l:=ps),qk h];rfl
theorem Zd2 {n:Nat}{jD:List (Nat×Nat)}{W ps:List Nat}(hw:IsWeb n jD)(nd:ps.Nodup)(hp:∀o∈ps,o<n){k:List Nat}(hk:k∈kn (YY jD ps) ps.length):∃K∈kn jD n,(∀x∈K,x∈ps)/\wt W K=wt (Yu W ps) k:=by
 have E:=Zl8 hw nd hp;obtain⟨k1,k2,k3⟩:=WD.mp hk;refine⟨JB n (fun i=>ps.getD i 0) k,(Zo1 E k1 k2).mpr hk,fun x hx=>?_,?_⟩
 ·obtain⟨_,a,ha,rfl⟩:=Ja.mp hx
  have:=k2 a ha;rw[qj,qk this];exact zu _
 ·have:=Zhf (w:=fun p=>W.getD p 0) (Zl7 E k1 k2)
  rw[qH] at this;show((JB n (fun i=>ps.getD i 0) k).map fun p=>W.getD p 0).sum=(k.map fun p=>(Yu W ps).getD p 0).sum;rw[this];congr 1;exact zF fun i hi=>(ZnC (k2 i hi)).symm
theorem Zku {n:Nat}{jD:List (Nat×Nat)}(hw:IsWeb n jD){f:List Nat}(h:hueB n jD (Zi f)=true):RightH n jD f:=by
 have hl:f.length=n:=by
  have h':(decide ((f.map nD).length=n)&&_)=true:=h;have:=of_decide_eq_true (zZ.mp h').1;rw[qd] at this;exact this
 rw[Ze4 hw hl,qL,zo,zo] at h;refine⟨hl,fun a ha=>?_,fun a ha b hb ne ht=>?_⟩
 ·refine of_decide_eq_true (h.1 _ ?_)
  rw[qj,qk (by omega)];exact zu _
 ·rcases Nat.lt_or_gt_of_ne ne with z | z
  ·have:=h.2 (a,b) (by have:=JS.mp ht;rw[qbs (by omega),yZ (by omega)] at this;exact this)
   rw[yS] at this;exact of_decide_eq_false this
  ·have:=h.2 (b,a) (by have:=JS.mp ht;rw[Nat.min_eq_right (by omega),qbr (by omega)] at this;exact this)
   rw[yS] at this;exact fun e=>of_decide_eq_false this e.symm
def keyH (n:Nat)(jD:List (Nat×Nat))(W:List Nat)(p:Nat):List Int:=[-((W.getD p 0:Nat):Int),-(((Yx n jD p).length:Nat):Int)]
def B1 (n:Nat)(jD:List (Nat×Nat))(W:List Nat):List Nat:=YN (fun i j=>Y5 (((qp n).map (keyH n jD W)).getD i []) (((qp n).map (keyH n jD W)).getD j [])) n
theorem ZnD (jN:List (List Int)):OrdW fun i j=>Y5 (jN.getD i []) (jN.getD j []):=by
 refine⟨fun a b c h1 h2=>?_,fun a b h=>Bz h⟩;have t:=Zh6 (jN.getD c []) (jN.getD b []) (jN.getD a []) (by unfold Xc;rw[h2];rfl) (by unfold Xc;rw[h1];rfl);unfold Xc at t;simpa using t
theorem Zcz (n:Nat)(jD:List (Nat×Nat))(W:List Nat):(B1 n jD W).Perm (qp n):=Bk (ZnD _)
abbrev Yy (n:Nat)(jD:List (Nat×Nat))(W:List Nat):List Nat:=Vm n jD (B1 n jD W)
def Wv:Nat->Nat->List (Nat×Nat)->List Nat->Int->Paper
 | 0,_,_,_,_=>.all
 | m+1,n,jD,W,w=>if ((W.sum:Nat):Int)<=w then .all else if ((VW W (Yy n jD W):Nat):Int)<=w then .hues (Yy n jD W) else
  .place ((Yy n jD W).idxOf (Xd (Yy n jD W))) (Wv m (Yh n ((Yy n jD W).idxOf (Xd (Yy n jD W)))).length (YY jD (Yh n ((Yy n jD W).idxOf (Xd (Yy n jD W))))) (Yu W (Yh n ((Yy n jD W).idxOf (Xd (Yy n jD W))))) w)
   (Wv m (Yf n jD ((Yy n jD W).idxOf (Xd (Yy n jD W)))).length (YY jD (Yf n jD ((Yy n jD W).idxOf (Xd (Yy n jD W))))) (Yu W (Yf n jD ((Yy n jD W).idxOf (Xd (Yy n jD W))))) (w-((W.getD ((Yy n jD W).idxOf (Xd (Yy n jD W))) 0:Nat):Int)))
theorem ZcS {n:Nat}{jD:List (Nat×Nat)}{W:List Nat}{w:Int}(hw:IsWeb n jD)(hk:∀K∈kn jD n,((wt W K:Nat):Int)<=w){v:Nat}(hv:v<n) :
  ((W.getD v 0:Nat):Int)<=w/\(∀k∈kn (YY jD (Yh n v)) (Yh n v).length,((wt (Yu W (Yh n v)) k:Nat):Int)<=w)/\∀k∈kn (YY jD (Yf n jD v)) (Yf n jD v).length,((wt (Yu W (Yf n jD v)) k:Nat):Int)<=w-((W.getD v 0:Nat):Int):=by
 refine⟨?_,fun k hkk=>?_,fun k hkk=>?_⟩
 ·have:=hk [v] (WD.mpr ⟨List.pairwise_singleton _ _,fun o ho=>by rw[qQ.mp ho];exact hv,fun a ha b hb ne=>absurd ((qQ.mp ha).trans (qQ.mp hb).symm) ne⟩)
  have e:wt W [v]=W.getD v 0:=by
   show([v].map fun p=>W.getD p 0).sum=_;rw[List.map_singleton,List.sum_singleton]
  rw[e] at this;exact this
 ·obtain⟨K,hK,_,e⟩:=Zd2 (W:=W) hw (UC n _).1 (UC n _).2 hkk
  rw[<-e];exact hk K hK
 ·obtain⟨K,hK,hs,e⟩:=Zd2 (W:=W) hw (UC n _).1 (UC n _).2 hkk
  obtain⟨q1,q2,q3⟩:=WD.mp hK;have hvK:v∉K:=fun z=>by
   have:=(Zdt.mp (hs v z)).2;have:=hw.mem (JS.mp this);simp at this
  have hJ:(qp n).filter (fun x=>decide (x∈v::K))∈kn jD n:=by
   refine WD.mpr ⟨(U2 _).sublist zh,fun o ho=>qP.mp (qB.mp ho).1,fun a ha b hb ne=>?_⟩;rcases qq.mp (of_decide_eq_true (qB.mp ha).2) with h1 | h1
   ·rcases qq.mp (of_decide_eq_true (qB.mp hb).2) with h2 | h2
    ·exact absurd (h1.trans h2.symm) ne
    ·rw[h1];exact(Zdt.mp (hs b h2)).2
   ·rcases qq.mp (of_decide_eq_true (qB.mp hb).2) with h2 | h2
    ·rw[h2,Uv];exact(Zdt.mp (hs a h1)).2
    ·exact q3 a h1 b h2 ne
  have hperm:((qp n).filter fun x=>decide (x∈v::K)).Perm (v::K):=(z7 (zV.sublist zh) (zD.mpr ⟨hvK,U3 q1⟩)).mpr fun x=>by
   rw[qB,qP,decide_eq_true_iff];exact⟨fun h=>h.2,fun h=>⟨(qq.mp h).elim (fun z=>z▸hv) (q2 x),h⟩⟩
  have h1:=hk _ hJ;have h2:=Zhf (w:=fun p=>W.getD p 0) hperm;rw[qW,y6] at h2;have h3:wt W ((qp n).filter fun x=>decide (x∈v::K))=W.getD v 0+wt W K:=h2;have h5:((W.getD v 0+wt (Yu W (Yf n jD v)) k:Nat):Int)<=w:=by rw[<-e,<-h3];exact h1
  clear h1 h2 h3;generalize wt (Yu W (Yf n jD v)) k=a at h5⊢;generalize W.getD v 0=b at h5⊢;omega
theorem Zjg {n:Nat}{jD:List (Nat×Nat)}{W:List Nat}(h:0<n):(Yy n jD W).idxOf (Xd (Yy n jD W))<n:=by
 have hl:(Yy n jD W).length=n:=ZbE;have:=zW.mpr (BM (l:=Yy n jD W) (fun z=>by rw[z] at hl;simp at hl;omega));omega
theorem Zjh {n:Nat}{jD:List (Nat×Nat)}{W:List Nat}{w:Int}(hl:W.length=n)(hk:∀K∈kn jD n,((wt W K:Nat):Int)<=w)(h:¬((W.sum:Nat):Int)<=w):0<n:=by
 rcases Nat.eq_zero_or_pos n with z | z
 ·subst z
  have hW:W=[]:=qar.mp hl;subst hW;have:=hk [] (WD.mpr ⟨yI.nil,(fun o h=>by cases h),fun a h=>by cases h⟩);simp at this h;omega
 ·exact z
theorem Zis:∀(m n:Nat) (jD:List (Nat×Nat)) (W:List Nat) (w:Int),IsWeb n jD->n<m->n<=1000->W.length=n->(∀K∈kn jD n,((wt W K:Nat):Int)<=w)->VX (Wv m n jD W w) n jD W w=true/\Zmo (Wv m n jD W w)
 | 0,n,jD,W,w,_,h,_,_,_=>by omega
 | m+1,n,jD,W,w,hw,hm,hn,hl,hk=>by
  unfold Wv;by_cases h1:((W.sum:Nat):Int)<=w
  ·rw[if_pos h1]
   exact⟨decide_eq_true h1,trivial⟩
  ·rw[if_neg h1]
   by_cases h2:((VW W (Yy n jD W):Nat):Int)<=w
   ·rw[if_pos h2]
    refine⟨?_,by show(Yy n jD W).length<=1000;rw[ZbE];exact hn⟩;show(hueB n jD (Zi (Yy n jD W))&&decide _)=true;rw[(ZfW (Zcz n jD W)).hueB hw,decide_eq_true h2];rfl
   ·rw[if_neg h2]
    have h0:=Zjh hl hk h1;have hv:=Zjg (jD:=jD) (W:=W) h0;generalize (Yy n jD W).idxOf (Xd (Yy n jD W))=v at hv⊢;obtain⟨p1,p2,p3⟩:=ZcS hw hk hv;have l1:=ZfX hv;have l2:=ZfY hw hv;obtain⟨a1,a2⟩:=Zis m (Yh n v).length (YY jD (Yh n v)) (Yu W (Yh n v)) w (VF _ _) (by omega) (by omega) (by simp) p2;obtain⟨b1,b2⟩:=Zis m (Yf n jD v).length (YY jD (Yf n jD v)) (Yu W (Yf n jD v)) (w-((W.getD v 0:Nat):Int)) (VF _ _) (by omega) (by omega) (by simp) p3;refine⟨?_,by show v<1000/\_/\_;exact⟨by omega,a2,b2⟩⟩;show(decide (v<n)&&(decide _&&(_&&_)))=true;rw[decide_eq_true hv,decide_eq_true p1,a1,b1];rfl
end TQ
namespace TF
open L2
section
variable {X:Cx}{G:Gh}{f:Zb->M D}
def UI (f:Zb->M D):Zb->M (List D):=fun ρ=>Zn (f ρ) fun d=>match d with | .lst ds=>Zx ds | .tup ds=>Zx ds | _=>ZC
theorem Zmp {tg l:Expr}{r1:Bool}(hl:PD X G r1 l f):Xn X G tg l (UI f):=by
 obtain⟨t1,p1,q1⟩:=X3 (tg:=tg) hl;obtain⟨t2,p2,q2⟩:=Vr (tg:=tg) hl;refine⟨fun σ H R=>t1 σ H R∨t2 σ H R,fun jE s σ H R I h=>h.elim (p1 jE s σ H R I) (p2 jE s σ H R I),fun σ Hf H ρ s ds s' R e1 e2 e3 e4 k=>?_⟩;obtain⟨d,s1,a1,a2⟩:=ZB e4
 cases d with
 | lst es=>exact .inl (q1 σ Hf H ρ s ds s' R e1 e2 e3 (by show Zn (f ρ) _ s=_;unfold Zn;rw[a1];exact a2) k)
 | tup es=>exact .inr (q2 σ Hf H ρ s ds s' R e1 e2 e3 (by show Zn (f ρ) _ s=_;unfold Zn;rw[a1];exact a2) k)
 | _=>cases a2
end
end TF
namespace TQ
open L2 TF TS
open TP
open TP2
open TP3
section
variable (ap:Nat->Nat->Bool)(W:List Nat)
def UD (ps:List Nat)(p:Nat):Bool:=decide (wt W (ps.filter fun o=>ap p o)<=W.getD p 0)
def light? (ps:List Nat):Option Nat:=ps.find? fun p=>UD ap W ps p
def Yz:Nat->List Nat->List Nat
 | 0,_=>[]
 | m+1,ps=>if ps=[] then [] else match light? ap W ps with
  | some p=>p::Yz m (Xa ap ps p)
  | none=>if wt W (Yz m (ps.filter fun o=>!decide (o=YE ap ps)))<=wt W (YE ap ps::Yz m (Xa ap ps (YE ap ps))) then YE ap ps::Yz m (Xa ap ps (YE ap ps))
   else Yz m (ps.filter fun o=>!decide (o=YE ap ps))
end
section
variable {ap:Nat->Nat->Bool}{W:List Nat}
theorem Za6 {ps:List Nat}{p:Nat}(h:light? ap W ps=some p):p∈ps/\wt W (ps.filter fun o=>ap p o)<=W.getD p 0:=⟨List.mem_of_find?_eq_some h,by have:=List.find?_some h;simpa[UD] using this⟩
theorem Zcf (sy:∀a b,ap a b=ap b a):∀(m:Nat) (ps:List Nat),KnA ap ps (Yz ap W m ps)
 | 0,ps=>⟨qao,fun x hx=>by simp[Yz] at hx,fun x hx=>by simp[Yz] at hx⟩
 | m+1,ps=>by
  unfold Yz;by_cases h0:ps=[]
  ·rw[if_pos h0];exact⟨qao,fun x hx=>by simp at hx,fun x hx=>by simp at hx⟩
  ·rw[if_neg h0]
   have w:=fun p (hp:p∈ps)=>jC sy hp (Zcf sy m (Xa ap ps p));split
   ·rename_i p hp
    exact w _ (Za6 hp).1
   ·split
    ·exact w _ (ZaE h0)
    ·exact(Zcf sy m _).mono fun x hx=>(qB.mp hx).1
theorem ZfZ (p:Nat)(K:List Nat):wt W (p::K)=W.getD p 0+wt W K:=by unfold wt;rw[qW,y6]
theorem Zhi (q:Nat->Bool):∀K:List Nat,wt W K=wt W (K.filter q)+wt W (K.filter fun x=>!q x)
 | []=>rfl
 | a::K=>by
  have:=Zhi q K
  cases h:q a with
  | true=>simp only[qaC,h,if_true,Bool.not_true,zU,if_false,ZfZ];omega
  | false=>simp only[qaC,h,if_true,Bool.not_false,zU,if_false,ZfZ];omega
theorem Zit (ir:∀a,ap a a=false){K:List Nat}{p:Nat}{ps:List Nat}(h:KnA ap ps K)(hm:p∈K∨wt W (ps.filter fun o=>ap p o)<=W.getD p 0):wt W K<=wt W (K.filter fun o=>!decide (o=p) && !ap p o)+W.getD p 0:=by
 have e:=Zhi (W:=W) (fun o=>!decide (o=p) && !ap p o) K;have nd:(K.filter fun o=>!(!decide (o=p) && !ap p o)).Nodup:=h.nd.sublist zh;have hd:wt W (K.filter fun o=>!(!decide (o=p) && !ap p o))<=W.getD p 0:=by
  by_cases hp:p∈K
  ·have:=ZfV (w:=fun p=>W.getD p 0) (b:=[p]) nd fun x hx=>by
    obtain⟨h1,h2⟩:=qB.mp hx;by_cases hx2:x=p
    ·simp[hx2]
    ·have:=h.two p hp x h1 (fun z=>hx2 z.symm)
     simp[hx2,this] at h2
   simpa[wt] using this
  ·rcases hm with hm | hm
   ·exact absurd hm hp
   ·refine qJ (ZfV (w:=fun p=>W.getD p 0) (b:=ps.filter fun o=>ap p o) nd fun x hx=>?_) hm
    obtain⟨h1,h2⟩:=qB.mp hx;refine qB.mpr ⟨h.sub x h1,?_⟩;have hx2:x≠p:=fun z=>hp (z▸h1);simpa[hx2] using h2
 omega
theorem Zd3 (sy:∀a b,ap a b=ap b a)(ir:∀a,ap a a=false):∀(m:Nat) (ps K:List Nat),ps.length<m->KnA ap ps K->wt W K<=wt W (Yz ap W m ps)
 | 0,ps,K,h,_=>by omega
 | m+1,ps,K,hl,h=>by
  unfold Yz;by_cases h0:ps=[]
  ·rw[if_pos h0]
   cases K with
   | nil=>exact qu _
   | cons a r=>have:=h.sub a (by simp);rw[h0] at this;simp at this
  ·rw[if_neg h0]
   have w:∀p,p∈ps->(p∈K∨wt W (ps.filter fun o=>ap p o)<=W.getD p 0)->wt W K<=wt W (p::Yz ap W m (Xa ap ps p)):=fun p hp hm=>by
    have h1:=Zit ir h hm;have h2:=Zd3 sy ir m (Xa ap ps p) _ (by have:=Zg9 (ap:=ap) hp;omega) (h.rest (p:=p));rw[ZfZ];omega
   split
   ·rename_i p hp
    exact w _ (Za6 hp).1 (.inr (Za6 hp).2)
   ·have hb:=ZaE (ap:=ap) h0
    by_cases hk:YE ap ps∈K
    ·have:=w _ hb (.inl hk)
     split
     ·exact this
     ·omega
    ·have h3:=Zd3 sy ir m (ps.filter fun o=>!decide (o=YE ap ps)) K (by have:=ZdY hb;omega) ⟨h.nd,fun x hx=>qB.mpr ⟨h.sub x hx,by
      have:x≠YE ap ps:=fun z=>hk (z▸hx);simpa using this⟩,h.two⟩
     split
     ·omega
     ·exact h3
theorem Zdv (m:Nat):∀(ps:List Nat),(Yz ap W m ps).length<=m:=by
 induction m with
 | zero=>intro ps;simp[Yz]
 | succ m ih=>
  intro ps;unfold Yz;split
  ·simp
  ·split
   ·rename_i p hp
    have:=ih (Xa ap ps p);simp only[qY];omega
   ·split
    ·have:=ih (Xa ap ps (YE ap ps));simp only[qY];omega
    ·have:=ih (ps.filter fun o=>!decide (o=YE ap ps));omega
theorem Zji (m:Nat)(ps:List Nat):∀x∈Yz ap W m ps,x∈ps:=by
 induction m generalizing ps with
 | zero=>intro x hx;simp[Yz] at hx
 | succ m ih=>
  intro x hx;unfold Yz at hx;by_cases h0:ps=[]
  ·rw[if_pos h0] at hx;cases hx
  ·rw[if_neg h0] at hx
   have w:=fun p (hp:p∈ps) (h:x∈p::Yz ap W m (Xa ap ps p))=>show x∈ps from by
    rcases qq.mp h with e | h
    ·rw[e];exact hp
    ·exact(U7 x (ih _ x h)).1
   split at hx
   ·rename_i p hp
    exact w _ (Za6 hp).1 hx
   ·split at hx
    ·exact w _ (ZaE h0) hx
    ·exact(qB.mp (ih _ x hx)).1
end
theorem Zdw (l:List Nat)(h:∀x∈l,x<=4294967296):Jv [.lst (l.map nD)]=some (nD l.sum):=by
 have h1:ZM (l.map nD)=some (Yl l):=by
  rw[show l.map nD=(Yl l).map D.int by unfold Yl;rw[qH];rfl];exact Bo _
 show(match ZM (l.map nD) with | some ns=>if Vy ns=true then some (D.int ns.sum) else none | none=>none)=_;rw[h1];have h2:Vy (Yl l)=true:=zo.mpr fun x hx=>by
  obtain⟨y,hy,rfl⟩:=qC.mp hx;have:=h y hy;simp only[qL,decide_eq_true_eq];omega
 show(if Vy (Yl l)=true then some (D.int (Yl l).sum) else none)=_;rw[if_pos h2,Zce]
def Zkv:Zb->M Out:=(Zh (ZF (Zw Jv (Zc (Yg [none,some 0] (UI (Za 1)) (ZE 0) Yq (Zd Zj (Za 1) (Za 0))) Zg)))
 Zl)
def Zkw:List D->M D:=runB 2 2 Zkv
theorem Zpa {f:Zb->M D}{ρ:Zb}{s s':Pn}{ds:List D}(h:f ρ s=some (.lst ds,s')):UI f ρ s=some (ds,s'):=by
 unfold UI Zn;rw[h];rfl
theorem Zpb {f:Zb->M D}{ρ:Zb}{s s':Pn}{ds:List D}(h:f ρ s=some (.tup ds,s')):UI f ρ s=some (ds,s'):=by
 unfold UI Zn;rw[h];rfl
theorem ZcT {n:Nat}{W:List Nat}(hW:W.length=n)(hb:∀x∈W,x<=4294967296){ps:List Nat}(hp:∀p∈ps,p<n)(hl:ps.length<=1000){c:D}(hc0:c=.lst (ps.map nD)∨c=.tup (ps.map nD))(s:Pn):Zkw [Zi W,c] s=some (nD (wt W ps),s):=by
 have hc:=Xk (src:=[none,some 0]) (fi:=UI (Za 1)) (τ:=ZE 0) (ft:=Yq) (fe:=Zd Zj (Za 1) (Za 0)) (ρ:=[some (Zi W),some c]) (s:=s) (ds:=ps.map nD) (fun d=>[some d,some (Zi W)]) (fun _=>true) (fun d=>nD (W.getD (Yc d) 0)) (by rcases hc0 with e | e <;> subst e;exact Zpa rfl;exact Zpb rfl) (by rw[qd,YG];omega) (fun d hd=>by
  obtain⟨x,hx,rfl⟩:=qC.mp hd;exact⟨rfl,rfl,fun _=>Zq (d:=Zi W) (e:=nD x) rfl rfl (WE (by rw[hW];exact hp x hx))⟩)
 rw[WY,qH] at hc;have e:ps.map ((fun d=>nD (W.getD (Yc d) 0))∘nD)=(ps.map fun p=>W.getD p 0).map nD:=by rw[qH];rfl
 rw[e] at hc;refine Y7 rfl (YW (Y8 (Z1 (Ze hc rfl) (Zdw _ fun x hx=>?_))));obtain⟨p,hpp,rfl⟩:=qC.mp hx;refine hb _ ?_;rw[qj,qk (by rw[hW];exact hp p hpp)];exact zu _
def Zmq (Fw Fs:List D->M D):Zb->M Out:=(Zh (Yn (Zz (Zd XS (Zv Fw (Zc (Za 1) (Zc (Zd Zj (Za 3) (Za 4)) Zg))) (Zd Zj (Za 1) (Zd Zj (Za 2) (Za 4)))))
 (Zh (ZF (Zv (FHW Fs) (Zc (Za 0) (Zc (Za 1) (Zc (Zd Zj (Za 2) (Za 4)) (Zc (Za 2) Zg))))))
 Zl)
 Zl)
 Zl)
def gHAW (Fw Fs:List D->M D):Zb->M Out:=(Zh (Yn (Zz (Zd Ys (Za 2) (Xf Zg)))
 (Zh (ZF (Xf Zg))
 Zl)
 Zl)
 (Zh (Ya 3 (Yg [none,some 0,some 2] (Yk (Za 2)) (ZE 0) Yq (Zv Zip (Zc (Za 1) (Zc (Za 0) (Zc (Za 2) Zg))))))
 (Zh (Y2 (Y0 (Zw YR (Zc (Za 2) Zg))) (ZE 4) (Zmq Fw Fs))
 (Zh (Ya 5 (Yg [none] (Yk (Za 3)) (ZE 0) Yq (Zw YR (Zc (Za 0) Zg))))
 (Zh (Ya 6 (Zd Zj (Za 2) (Zd Zfx (Za 5) (Zw Zi0 (Zc (Za 5) Zg)))))
 (Zh (Ya 7 (Zv (FHW Fs) (Zc (Za 0) (Zc (Za 1) (Zc (Za 6) (Zc (Za 2) Zg))))))
 (Zh (Ya 8 (Zv Fs (Zc (Za 0) (Zc (Za 1) (Zc (Yg [none,some 6] (Yk (Za 2)) (ZE 0) (Zz (Zd Xg (Za 0) (Za 1))) (Za 0)) Zg)))))
 (Zh (ZF (B6 (Zz (Zd VY (Zv Fw (Zc (Za 1) (Zc (Za 7) Zg))) (Zv Fw (Zc (Za 1) (Zc (Za 8) Zg))))) (Za 7) (Za 8)))
 Zl))))))))
def Jw (Fw:List D->M D):Nat->List D->M D
 | 0=>fun _=>ZC
 | n+1=>runB 9 3 (gHAW Fw (Jw Fw n))
section
variable {n:Nat}{A:Nat->List Nat}{ap:Nat->Nat->Bool}
theorem Zpc {W:List Nat}(hA:∀p o,ap p o=decide (o∈A p)){Fs:List D->M D}{p:Nat}(hp:p<n){ps r:List Nat}(hl:ps.length<=1000)(hr:r.length<=1000){s:Pn}(hF:Fs [Xm n A,Zi W,.lst ((Xa ap ps p).map nD)] s=some (.lst (r.map nD),s)):FHW Fs [Xm n A,Zi W,nD p,.lst (ps.map nD)] s=some (.lst ((p::r).map nD),s):=by
 have hc:=Xk (src:=[none,some 2,some 0]) (fi:=Yk (Za 3)) (τ:=ZE 0) (ft:=XZ (Zz (Zd Xg (Za 0) (Za 1))) (Zz (Zd W3 (Za 0) (Zd Zj (Za 2) (Za 1))))) (fe:=Za 0) (ρ:=[some (Xm n A),some (Zi W),some (nD p),some (.lst (ps.map nD)),none]) (s:=s) (ds:=ps.map nD) (fun d=>[some d,some (nD p),some (Xm n A)]) (fun d=>!decide (Yc d=p) && !ap p (Yc d)) (fun d=>d) (X9 rfl) (by rw[qd,YG];omega) (fun d hd=>by
  obtain⟨x,hx,rfl⟩:=qC.mp hd;refine⟨rfl,ZiY (ZV (Zq (d:=nD x) (e:=nD p) rfl rfl (BN x p))) fun _=>ZV (Zq (d:=nD x) (e:=.dk (XI (A p))) rfl (Zq (d:=Xm n A) (e:=nD p) rfl rfl (Zmc hp)) (by rw[Zkl,<-hA];rfl)),fun _=>rfl⟩)
 rw[yi,qH] at hc;have e:(ps.filter ((fun d=>!decide (Yc d=p) && !ap p (Yc d))∘nD)).map ((fun d=>d)∘nD)=(Xa ap ps p).map nD:=rfl;rw[e] at hc;refine Y7 rfl (XV (WC hc) (YW (Y8 (Zq (d:=.lst [nD p]) (e:=.lst (r.map nD)) (Ud (Ze rfl rfl) (by show 1<=sizeLine;decide)) (Z4 (Ze rfl (Ze rfl (Ze rfl rfl))) hF) ?_))));rw[Zny (by rw[qd];simp;omega)];rfl
set_option maxHeartbeats 1000000 in
theorem ZcA {W:List Nat}{Fw:List D->M D}(hA:∀p o,ap p o=decide (o∈A p))(hW:W.length=n)(s:Pn)(hFw:∀ps:List Nat,(∀p∈ps,p<n)->ps.length<=1000->Fw [Zi W,.lst (ps.map nD)] s=some (nD (wt W ps),s)):∀(m:Nat) (ps:List Nat),ps.length<m->m<=100->(∀p∈ps,p<n)->Jw Fw m [Xm n A,Zi W,.lst (ps.map nD)] s=some (.lst ((Yz ap W m ps).map nD),s)
 | 0,_,h,_,_=>by omega
 | m+1,ps,hl,hm,hn=>by
  have hpl:Yv (ps.map nD)=true:=Br ps;have hdp:Xb (ps.map nD)<=10:=by rw[BF];omega
  have heq:=Zo5 (ps.map nD) hpl hdp;by_cases h0:ps=[]
  ·subst h0
   refine Y7 rfl (YW (Zlu (ZV (Zq (d:=.lst []) (e:=.lst []) rfl (Ud rfl (za _)) heq)) (YW (Y8 (d:=.lst []) (Ud rfl (za _))))))
  ·have hf:decide (ps.map nD=[])=false:=by simpa using h0
   rw[hf] at heq;have hcs:ps.map (VC ap ps)≠[]:=by simpa using h0
   have hc:=Xk (src:=[none,some 0,some 2]) (fi:=Yk (Za 2)) (τ:=ZE 0) (ft:=Yq) (fe:=Zv Zip (Zc (Za 1) (Zc (Za 0) (Zc (Za 2) Zg)))) (ρ:=[some (Xm n A),some (Zi W),some (.lst (ps.map nD)),none,none,none,none,none,none]) (s:=s) (ds:=ps.map nD) (fun d=>[some d,some (Xm n A),some (.lst (ps.map nD))]) (fun _=>true) (fun d=>.lst ((ps.filter fun o=>ap (Yc d) o).map nD)) (X9 rfl) (by rw[qd,YG];omega) (fun d hd=>by
    obtain⟨x,hx,rfl⟩:=qC.mp hd;exact⟨rfl,rfl,fun _=>Z4 (Ze rfl (Ze rfl (Ze rfl rfl))) (Zml hA (hn x hx) ps (by omega) s)⟩)
   rw[WY,qH] at hc;generalize hR:ps.map ((fun d=>D.lst ((ps.filter fun o=>ap (Yc d) o).map nD))∘nD)=R at hc;have kw:∀p,p∈ps->FHW (Jw Fw m) [Xm n A,Zi W,nD p,.lst (ps.map nD)] s=some (.lst ((p::Yz ap W m (Xa ap ps p)).map nD),s):=fun p hp=>by
    have hlt:=Zg9 (ap:=ap) hp;have hb:=Zdv (ap:=ap) (W:=W) m (Xa ap ps p);exact Zpc hA (hn p hp) (by omega) (by omega) (ZcA hA hW s hFw m (Xa ap ps p) (by omega) (by omega) fun x hx=>hn x (U7 x hx).1)
   have hrow:∀i,i<ps.length->Zj (.lst R) (nD i)=some (.lst ((ps.filter fun o=>ap (ps.getD i 0) o).map nD)):=fun i hi=>by
    refine WL ?_;rw[<-hR,qy,qj,qk hi];rfl
   have hpl2:∀i,i<ps.length->Zj (.lst (ps.map nD)) (nD i)=some (nD (ps.getD i 0)):=fun i hi=>ZfN hi;have hgm:∀i,i<ps.length->ps.getD i 0∈ps:=fun i hi=>by
    rw[qj,qk hi];exact zu hi
   have hfind:=Ze3 (τ:=ZE 4) (body:=Zmq Fw (Jw Fw m)) (s:=s) (fun ρ=>∃o4,ρ=[some (Xm n A),some (Zi W),some (.lst (ps.map nD)),some (.lst R),o4,none,none,none,none]) (fun i=>if UD ap W ps (ps.getD i 0)=true then some (.lst ((ps.getD i 0::Yz ap W m (Xa ap ps (ps.getD i 0))).map nD)) else none) (qp ps.length) [some (Xm n A),some (Zi W),some (.lst (ps.map nD)),some (.lst R),none,none,none,none,none] ⟨none,rfl⟩ (fun i hi ρ hρ=>by
    obtain⟨o4,rfl⟩:=hρ;have hi:=qP.mp hi;refine⟨_,rfl,?_⟩;have hcond:Zz (Zd XS (Zv Fw (Zc (Za 1) (Zc (Zd Zj (Za 3) (Za 4)) Zg))) (Zd Zj (Za 1) (Zd Zj (Za 2) (Za 4)))) [some (Xm n A),some (Zi W),some (.lst (ps.map nD)),some (.lst R),some (nD i),none,none,none,none] s=some (UD ap W ps (ps.getD i 0),s):=by
     refine ZV (Zq (Z4 (Ze rfl (Ze (Zq (d:=.lst R) (e:=nD i) rfl rfl (hrow i hi)) rfl)) (hFw _ (fun p hp=>hn p (qB.mp hp).1) (by have:=zk (fun o=>ap (ps.getD i 0) o) ps;omega))) (Zq (d:=Zi W) rfl (Zq (d:=.lst (ps.map nD)) (e:=nD i) rfl rfl (hpl2 i hi)) (WE (by rw[hW];exact hn _ (hgm i hi)))) ?_);show some (D.bl (decide (((wt W (ps.filter fun o=>ap (ps.getD i 0) o):Nat):Int)<=((W.getD (ps.getD i 0) 0:Nat):Int))))=_;congr 2;exact decide_eq_decide.mpr (by omega)
    by_cases hq:UD ap W ps (ps.getD i 0)=true
    ·rw[hq] at hcond⊢
     rw[if_pos rfl];exact YW (Zlu hcond (YW (Y8 (Z4 (Ze rfl (Ze rfl (Ze (Zq (d:=.lst (ps.map nD)) (e:=nD i) rfl rfl (hpl2 i hi)) (Ze rfl rfl)))) (kw _ (hgm i hi))))))
    ·rw[Bool.eq_false_iff.mpr hq] at hcond⊢
     rw[if_neg z8];exact⟨_,XV (Zlv hcond rfl) rfl,some (nD i),rfl⟩)
   rw[Ziq (fun p=>UD ap W ps p) (fun p=>.lst ((p::Yz ap W m (Xa ap ps p)).map nD)) ps] at hfind;have hit:Y0 (Zw YR (Zc (Za 2) Zg)) [some (Xm n A),some (Zi W),some (.lst (ps.map nD)),some (.lst R),none,none,none,none,none] s=some ((qp ps.length).map nD,s):=by
    have:=Wp (f:=Zw YR (Zc (Za 2) Zg)) (ρ:=[some (Xm n A),some (Zi W),some (.lst (ps.map nD)),some (.lst R),none,none,none,none,none]) (s:=s) (n:=ps.length) (Z1 (Ze rfl rfl) (Ze0 ps)) (by omega);rw[V8] at this;exact this
   unfold Yz;rw[if_neg h0];refine Y7 rfl (XV (Zlv (ZV (Zq (d:=.lst (ps.map nD)) (e:=.lst []) rfl (Ud rfl (za _)) heq)) rfl) (XV (WC hc) ?_));show Zh _ _ [some (Xm n A),some (Zi W),some (.lst (ps.map nD)),some (.lst R),none,none,none,none,none] s=_
   cases ho:light? ap W ps with
   | some p=>
    have ho':ps.find? (fun p=>UD ap W ps p)=some p:=ho;rw[ho'] at hfind;exact YW (ZiZ hit hfind)
   | none=>
    have ho':ps.find? (fun p=>UD ap W ps p)=none:=ho;rw[ho'] at hfind;obtain⟨ρ2,hf2,o4,rfl⟩:=hfind;refine XV (ZiZ hit hf2) ?_;have hmax:=Zmd hcs;have hp1:=ZaE (ap:=ap) h0;have hix:Zj (.lst (ps.map nD)) (nD ((ps.map (VC ap ps)).idxOf (Xd (ps.map (VC ap ps)))))=some (nD (YE ap ps)):=ZfN (by
     have:=zW.mpr (BM hcs);simpa using this)
    have hcc:=Xk (src:=[none]) (fi:=Yk (Za 3)) (τ:=ZE 0) (ft:=Yq) (fe:=Zw YR (Zc (Za 0) Zg)) (ρ:=[some (Xm n A),some (Zi W),some (.lst (ps.map nD)),some (.lst R),o4,none,none,none,none]) (s:=s) (ds:=R) (fun d=>[some d]) (fun _=>true) (fun d=>match d with | .lst l=>nD l.length | _=>.non) (X9 rfl) (by rw[<-hR,qd,YG];omega) (fun d hd=>by
     rw[<-hR] at hd;obtain⟨x,hx,rfl⟩:=qC.mp hd;exact⟨rfl,rfl,fun _=>Z1 (Ze rfl rfl) rfl⟩)
    rw[WY,<-hR,qH] at hcc;have e5:ps.map ((fun d=>match d with | .lst l=>nD l.length | _=>D.non)∘((fun d=>D.lst ((ps.filter fun o=>ap (Yc d) o).map nD))∘nD))=(ps.map (VC ap ps)).map nD:=by
     rw[qH];refine zF fun x _=>?_;show nD ((ps.filter fun o=>ap x o).map nD).length=nD (VC ap ps x);rw[qd];rfl
    rw[e5,hR] at hcc;have hwo:=ZdY hp1;have ih2:=ZcA hA hW s hFw m (ps.filter fun o=>!decide (o=YE ap ps)) (by omega) (by omega) fun x hx=>hn x (qB.mp hx).1;have hc2:=Xk (src:=[none,some 6]) (fi:=Yk (Za 2)) (τ:=ZE 0) (ft:=Zz (Zd Xg (Za 0) (Za 1))) (fe:=Za 0) (ρ:=[some (Xm n A),some (Zi W),some (.lst (ps.map nD)),some (.lst R),o4,some (.lst ((ps.map (VC ap ps)).map nD)),some (nD (YE ap ps)),some (.lst ((YE ap ps::Yz ap W m (Xa ap ps (YE ap ps))).map nD)),none]) (s:=s) (ds:=ps.map nD) (fun d=>[some d,some (nD (YE ap ps))]) (fun d=>!decide (Yc d=YE ap ps)) (fun d=>d) (X9 rfl) (by rw[qd,YG];omega) (fun d hd=>by
     obtain⟨x,hx,rfl⟩:=qC.mp hd;exact⟨rfl,ZV (Zq (d:=nD x) (e:=nD (YE ap ps)) rfl rfl (BN _ _)),fun _=>rfl⟩)
    have e2:((ps.map nD).filter fun d=>!decide (Yc d=YE ap ps)).map (fun d=>d)=(ps.filter fun o=>!decide (o=YE ap ps)).map nD:=by rw[yi,qH];rfl
    rw[e2] at hc2;have bl1:=Zdv (ap:=ap) (W:=W) m (Xa ap ps (YE ap ps));have bl2:=Zdv (ap:=ap) (W:=W) m (ps.filter fun o=>!decide (o=YE ap ps));have w1:=hFw (YE ap ps::Yz ap W m (Xa ap ps (YE ap ps))) (fun p hp=>by
     rcases qq.mp hp with e | hp
     ·rw[e];exact hn _ hp1
     ·exact hn p (U7 p (Zji m _ p hp)).1) (by simp only[qY];omega)
    have w2:=hFw (Yz ap W m (ps.filter fun o=>!decide (o=YE ap ps))) (fun p hp=>hn p (qB.mp (Zji m _ p hp)).1) (by omega);refine XV (WC hcc) (XV (WC (Zq (d:=.lst (ps.map nD)) rfl (Zq (d:=.lst ((ps.map (VC ap ps)).map nD)) rfl (Z1 (Ze rfl rfl) hmax) (Zim (BM hcs))) hix)) (XV (WC (Z4 (Ze rfl (Ze rfl (Ze rfl (Ze rfl rfl)))) (kw _ hp1))) (XV (WC (Z4 (Ze rfl (Ze rfl (Ze hc2 rfl))) ih2)) (YW (Y8 ?_)))));have hge:=geN (wt W (YE ap ps::Yz ap W m (Xa ap ps (YE ap ps)))) (wt W (Yz ap W m (ps.filter fun o=>!decide (o=YE ap ps))));have ht:=ZV (Zq (g:=VY) (ρ:=[some (Xm n A),some (Zi W),some (.lst (ps.map nD)),some (.lst R),o4,some (.lst ((ps.map (VC ap ps)).map nD)),some (nD (YE ap ps)),some (.lst ((YE ap ps::Yz ap W m (Xa ap ps (YE ap ps))).map nD)),some (.lst ((Yz ap W m (ps.filter fun o=>!decide (o=YE ap ps))).map nD))]) (s:=s) (Z4 (F:=Fw) (fs:=Zc (Za 1) (Zc (Za 7) Zg)) (Ze rfl (Ze rfl rfl)) w1) (Z4 (F:=Fw) (fs:=Zc (Za 1) (Zc (Za 8) Zg)) (Ze rfl (Ze rfl rfl)) w2) hge);generalize hX:YE ap ps::Yz ap W m (Xa ap ps (YE ap ps))=X at ht⊢;generalize hY:Yz ap W m (ps.filter fun o=>!decide (o=YE ap ps))=Y at ht⊢;have hfin:∀ρ:Zb,(ρ[7]?).bind id=some (.lst (X.map nD))->(ρ[8]?).bind id=some (.lst (Y.map nD))->Zz (Zd VY (Zv Fw (Zc (Za 1) (Zc (Za 7) Zg))) (Zv Fw (Zc (Za 1) (Zc (Za 8) Zg)))) ρ s=some (decide (wt W Y<=wt W X),s)->B6 (Zz (Zd VY (Zv Fw (Zc (Za 1) (Zc (Za 7) Zg))) (Zv Fw (Zc (Za 1) (Zc (Za 8) Zg))))) (Za 7) (Za 8) ρ s=some (.lst ((if wt W Y<=wt W X then X else Y).map nD),s):=fun ρ h7 h8 ht=>by
     unfold B6 Zn;rw[ht];by_cases hq:wt W Y<=wt W X
     ·simp only[hq,decide_true,if_true]
      unfold Za YF;rw[h7]
     ·simp only[hq,decide_false,if_false,zU]
      unfold Za YF;rw[h8]
    exact hfin _ rfl rfl ht
end
def Yj (n:Nat)(jD:List (Nat×Nat))(W:List Nat):List Nat:=Jg n (Yz (tied (Yw n jD)) W 26 (qp n))
def gHKW (Fw:List D->M D):Zb->M Out:=(Zh (Ya 2 (Yg [none] (Yk (Zv (runB 2 1 gN) (Zc (Zv JQ (Zc (Za 0) Zg)) Zg))) (ZE 0) Yq (Zw Zfn (Zc (Yg [none] (Yk (Za 0)) (ZE 0) Yq (Yr (Zc (Za 0) (Zc (dC (.bl true)) Zg)))) Zg))))
 (Zh (ZF (Zw WN (Zc (Zw Zdn (Zc (Zv (Jw Fw 26) (Zc (Za 2) (Zc (Za 1) (Zc (V4 (Zd Zj (Za 0) (dC (.int 0)))) Zg)))) Zg)) Zg)))
 Zl))
theorem Bn {n:Nat}{jD:List (Nat×Nat)}{W:List Nat}(hw:IsWeb n jD)(hn:n<=24):Yj n jD W∈kn jD n/\∀K∈kn jD n,wt W K<=wt W (Yj n jD W):=by
 have sy:∀a b,tied (Yw n jD) a b=tied (Yw n jD) b a:=Uv _;have hk:=Zcf (W:=W) sy 26 (qp n);have hlt:∀x∈Yz (tied (Yw n jD)) W 26 (qp n),x<n:=fun x hx=>qP.mp (hk.sub x hx);have hp:=Zbk hk.nd hlt;constructor
 ·refine WD.mpr ⟨ZcQ _ _,fun o ho=>hlt o (hp.mem_iff.mp ho),fun a ha b hb ne=>?_⟩
  have ha':=hp.mem_iff.mp ha;have hb':=hp.mem_iff.mp hb;have:=hk.two a ha' b hb' ne
  cases h:tied jD a b with
  | true=>rfl
  | false=>
   have:=ZbD.mpr ⟨hlt a ha',hlt b hb',ne,h⟩;simp_all
 ·intro K hK
  obtain⟨h1,h2,h3⟩:=WD.mp hK;have:=Zd3 (W:=W) sy Zme 26 (qp n) K (by rw[qO];omega) ⟨U3 h1,fun x hx=>qP.mpr (h2 x hx),fun x hx y hy ne=>by
   cases h:tied (Yw n jD) x y with
   | false=>rfl
   | true=>
    have h4:=(ZbD.mp h).2.2.2;rw[h3 x hx y hy ne] at h4;cases h4⟩
  have e:wt W (Jg n (Yz (tied (Yw n jD)) W 26 (qp n)))=wt W (Yz (tied (Yw n jD)) W 26 (qp n)):=(hp.map fun p=>W.getD p 0).sum_nat;show wt W K<=wt W (Jg n _);omega
theorem Zd4 {n:Nat}{jD:List (Nat×Nat)}{W:List Nat}:(Yj n jD W).length<=n:=by
 have:=zk (fun x=>decide (x∈Yz (tied (Yw n jD)) W 26 (qp n))) (qp n);rw[qO] at this;exact this
theorem Zkx {Fw:List D->M D}(n:Nat)(jD:List (Nat×Nat))(W:List Nat)(hn:n<=24)(hl:jD.length<=100000)(hW:W.length=n)(s:Pn)(hFw:∀ps:List Nat,(∀p∈ps,p<n)->ps.length<=1000->Fw [Zi W,.lst (ps.map nD)] s=some (nD (wt W ps),s)):runB 3 2 (gHKW Fw) [Zt n jD,Zi W] s=some (Zi (Yj n jD W),s):=by
 have sy:∀a b,tied (Yw n jD) a b=tied (Yw n jD) b a:=Uv _;have hk:=Zcf (W:=W) sy 26 (qp n);have hlt:∀x∈Yz (tied (Yw n jD)) W 26 (qp n),x<n:=fun x hx=>qP.mp (hk.sub x hx);have hp:=Zbk hk.nd hlt;have htl:=(Zkm n jD).len hn;have hc:=Xk (src:=[none]) (fi:=Yk (Zv (runB 2 1 gN) (Zc (Zv JQ (Zc (Za 0) Zg)) Zg))) (τ:=ZE 0) (ft:=Yq) (fe:=Zw Zfn (Zc (Yg [none] (Yk (Za 0)) (ZE 0) Yq (Yr (Zc (Za 0) (Zc (dC (.bl true)) Zg)))) Zg)) (ρ:=[some (Zt n jD),some (Zi W),none]) (s:=s) (ds:=(qp n).map fun p=>D.lst ((Yx n (Yw n jD) p).map nD)) (fun d=>[some d]) (fun _=>true) (fun d=>match d with | .lst ds=>.dk (XI (ds.map Yc)) | _=>.non)
  (X9 (Z4 (Ze (Z4 (Ze rfl rfl) (Zio n jD s (by omega) hl)) rfl) (Zcc n (Yw n jD) (by omega) (by omega) s))) (by rw[qd,qO,YG];omega) (fun d hd=>by
  obtain⟨p,hp,rfl⟩:=qC.mp hd;refine⟨rfl,rfl,fun _=>?_⟩;have hnl:(Yx n (Yw n jD) p).length<=n:=by
   have:=zk (fun o=>tied (Yw n jD) p o) (qp n);rw[qO] at this;exact this
  have hc2:=Xk (src:=[none]) (fi:=Yk (Za 0)) (τ:=ZE 0) (ft:=Yq) (fe:=Yr (Zc (Za 0) (Zc (dC (.bl true)) Zg))) (ρ:=[some (D.lst ((Yx n (Yw n jD) p).map nD))]) (s:=s) (ds:=(Yx n (Yw n jD) p).map nD) (fun d=>[some d]) (fun _=>true) (fun d=>D.tup [d,.bl true]) (X9 rfl) (by rw[qd,YG];omega) (fun d hd=>⟨rfl,rfl,fun _=>Xz (Ze rfl (Ze rfl rfl)) two_le⟩);rw[WY,qH] at hc2;refine Z1 (Ze hc2 rfl) ?_;show(if ((Yx n (Yw n jD) p).map ((fun d=>D.tup [d,.bl true])∘nD)).length<=sizeLine then (Vi [] _).map D.dk else none)=_;rw[if_pos (by rw[qd,YG];omega)];have e:=Zmb (Yx n (Yw n jD) p) [] (zV.sublist zh) fun _ _=>rfl;show(Vi [] ((Yx n (Yw n jD) p).map fun o=>D.tup [nD o,.bl true])).map D.dk=_;rw[e];show some (D.dk (XI (Yx n (Yw n jD) p)))=some (D.dk (XI (((Yx n (Yw n jD) p).map nD).map Yc)));rw[qH];have:(Yx n (Yw n jD) p).map (Yc∘nD)=Yx n (Yw n jD) p:=qbz _;rw[this])
 rw[WY,qH] at hc;have e1:(qp n).map ((fun d=>match d with | .lst ds=>D.dk (XI (ds.map Yc)) | _=>.non)∘fun p=>D.lst ((Yx n (Yw n jD) p).map nD))=(qp n).map fun p=>.dk (XI (Yx n (Yw n jD) p)):=by
  refine zF fun p _=>?_;show D.dk (XI (((Yx n (Yw n jD) p).map nD).map Yc))=_;rw[qH];have:(Yx n (Yw n jD) p).map (Yc∘nD)=Yx n (Yw n jD) p:=qbz _;rw[this]
 rw[e1] at hc;have hb:=ZcA (n:=n) (A:=Yx n (Yw n jD)) (ap:=tied (Yw n jD)) (W:=W) Zeu hW s hFw 26 (qp n) (by rw[qO];omega) (by omega) fun p hp=>qP.mp hp;have hlr:V4 (Zd Zj (Za 0) (dC (.int 0))) [some (Zt n jD),some (Zi W),some (Xm n (Yx n (Yw n jD)))] s=some (.lst ((qp n).map nD),s):=by
  unfold V4 Zn;rw[Zq (d:=Zt n jD) (e:=.int 0) rfl rfl WT];show(if -(2 ^ 62)<=(n:Int)/\(n:Int)<=2 ^ 24 then Zx (D.lst (Yp 0 (n:Int).toNat)) else ZC) s=_;rw[if_pos ⟨by omega,by omega⟩,qaw,V8];rfl
 have hbl:=Zdv (ap:=tied (Yw n jD)) (W:=W) 26 (qp n);have hs:=Zkn hk.nd hlt (by omega);exact Y7 rfl (XV (WC hc) (YW (Y8 (Z1 (c:=Zi (Yj n jD W)) (Ze (Z1 (Ze (Z4 (Ze rfl (Ze rfl (Ze hlr rfl))) hb) rfl) hs) rfl) rfl))))
end TQ
namespace TF
open L2
section
variable {X:Cx}{G:Gh}
theorem va (i:Nat){x:Str}{pos:Pos}(hN:X.N[i]?=some x:=by rfl)(hv:B3 X.env.scope x:=by first | exact qI rfl | exact yL (qI rfl) | exact yL (yL rfl))(hd:(x==("__debug__" : Str))=false:=by decide)(hcd:(x==("__classdict__" : Str))=false:=by decide):PD X G false (.Name x pos) (Za i):=ZhG i (pv i hN hv hd hcd)
theorem bk (XN:List Str)(NS:List (Str×NameKind))(N':List Str)(src:List (Option Nat)){scope:Scope}(a:X.N=XN:=by rfl)(b:X.env.scope.names=NS:=by rfl)(c:∀y∈scope.names,y.2≠.cell:=by decide +kernel)(d:scope.kind=.function:=by rfl)(e:∀y∈scope.names,y.2=.local->scope.names.lookup y.1=some .local:=by decide +kernel)(f:src.length=N'.length:=by rfl)(g:∀y∈scope.names,y.2=.free->NS.lookup y.1=some .cell∨NS.lookup y.1=some .free:=by decide +kernel)
  (h:(src.zip N').all (fun p=>match p.1 with | some j=>decide (XN[j]?=some p.2)&&(decide (NS.lookup p.2=some .cell)||decide (NS.lookup p.2=some .free))&&decide (scope.names.lookup p.2=some .free) | none=>true)=true:=by decide +kernel):BlkS X XN NS N' src scope:=⟨a,b,c,d,e,f,g,h⟩
theorem YA {N P:List Str}{sc:Scope}(a:sc.kind=.function:=by rfl)(b:sc.isCoroutine=false:=by rfl)(c:sc.isGenerator=false:=by rfl)(d:N.Nodup:=by decide +kernel)(e:N.take P.length=P:=by rfl)(f:∀x∈P,sc.names.lookup x=some .local∨sc.names.lookup x=some .cell:=by decide +kernel)(g:∀y∈sc.names,y.2≠.free:=by decide +kernel):FnScope N P sc:=⟨a,b,c,d,e,f,g⟩
end
section
variable {X:Cx}{G:Gh}{elt tg iter:Expr}{ifs:List Expr}{scope:Scope}{pos pos' spos:Pos}{XN:List Str}{NS:List (Str×NameKind)}{N':List Str}{src:List (Option Nat)}{fi:Zb->M (List D)}{τ:D->Zb->Option Zb}{ft:Zb->M Bool}{fe:Zb->M D}{r1:Bool}{i:Nat}{x:Str}
theorem Xj {cl:_}{jE:_}{C:_}{s:_}{H:_}{fp:_}{x:Str}{pos:Pos}{ok:Nat->Prop}(nd:N'.Nodup:=by decide +kernel)(hi:N'[i]?=some x:=by rfl)(hx:VD (YU X jE N' scope cl C s H fp).env.scope x:=by exact qI rfl)(oi:ok i:=by rfl)(hf:(YU X jE N' scope cl C s H fp).fn x=true∨(YU X jE N' scope cl C s H fp).env.scope.names.lookup x=some .local:=by first | exact .inl rfl | exact .inr rfl | assumption):Uo (YU X jE N' scope cl C s H fp) G (.Name x pos) ok (ZE i):=XJ nd hi hx oi hf
theorem XX (B:BlkS X XN NS N' src scope)(hi:Xn X G tg iter fi)
  (hg:∀{cl jE C s H fp},Uo (YU X jE N' scope cl C s H fp) G tg (fun i=>src[i]?=some none) τ) (ht:∀{cl jE C s H fp},VR (YU X jE N' scope cl C s H fp) ifs (Jp G ft)) (he:∀{cl jE C s H fp},PD (YU X jE N' scope cl C s H fp) G r1 elt fe)
  (hc:X.calm=true:=by rfl) (hs:∀x,foldedSetIterable iter X.env x=pure x:=by intro _;rfl):PD X G true (.ListComp elt [⟨tg,iter,ifs,0⟩] scope pos) (Yg src fi τ ft fe):=Zlb hc B hi (fun _ _ _ _ _ _=>hg) (fun _ _ _ _ _ _=>ht) (fun _ _ _ _ _ _=>he) hs
end
theorem Z0 {X:Cx}{G:Gh}{k:Nat}{x:Str}{n:Nat}{fr:Bool}{GG:Gh->Prop}{F:List D->M D}{p pos:Pos}{e:Expr}{es:List Expr}{fs:Zb->M (List D)}(c:ZN X.prog X.w X.K X.mg X.base k x n fr GG F)(hG:GG G)(hr:Room k X.A)
  (ha:W7 X G (e::es) fs) (hg:Gl X x:=by rfl) (hal:∀ρ s ds s',fs ρ s=some (ds,s')->ds.length=(e::es).length:=by first | exact Xe Uw | exact Xe (Xe Uw) | exact Xe (Xe (Xe Uw)) | exact Xe (Xe (Xe (Xe Uw))) | exact Xe (Xe (Xe (Xe (Xe Uw)))) | exact Xe (Xe (Xe (Xe (Xe (Xe Uw)))))) (jO:(e::es).length=n:=by rfl)
  (hdb:(x==("__debug__" : Str))=false:=by decide) (he:starEach (e::es) X.env=(false,eval e X.env)::starEach es X.env:=by rfl) (hpl:(backTo pos (starEach es X.env)).any (·.1)=false:=by rfl) :
  PD X G fr (.Call (.Name x p) (e::es) [] pos) (Zv F fs):=Zlc c hG hr hg ha hal jO hdb he hpl
section
variable {X:Cx}{G:Gh}{ob own own':List Nat}{fr:Bool}
theorem Zs {st:Stmt}{sts:List Stmt}{g1 g2:Zb->M Out}(h:Xi X G ob own [] fr st g1)(h2:WJ X G ob [] own' fr sts g2):WJ X G ob own own' fr (st::sts) (Zh g1 g2):=Yi h h2
theorem ZY (hs:∀k,k∈own'->k∈([]:List Nat):=by decide):WJ X G ob [] own' fr [] Zl:=Yd hs
theorem Xo {c:Expr}{a b:List Stmt}{pos:Pos}{fc:Zb->M Bool}{g1 g2:Zb->M Out}(hc:Wu X G c fc)(ha:WJ X G ob own [] fr a g1)(hb:WJ X G ob own [] fr b g2):Xi X G ob own [] fr (.If c a b pos) (Yn fc g1 g2):=JY hc ha hb
theorem Wn {f:Zb->M (List D)}{p pos:Pos}{e:Expr}(hm:X.mg "len" = none)(ha:W7 X G [e] f)(hg:Gl X "len":=by rfl)(h1:starEach [e] X.env=(false,eval e X.env)::starEach [] X.env:=by rfl)(h2:(backTo pos (starEach [] X.env)).any (·.1)=false:=by rfl):PD X G true (.Call (.Name "len" p) [e] [] pos) (Zw YR f):=YT ZhN hg hm boot_len ha (he:=h1)
end
end TF
namespace K41
open L2 TF TQ
open TP
open TP2
open TP3
def Yb (i:Nat):Stmt:=PySem.Challenge.pw_tiefold_k41_settled_by_weight.main.body.getD i (.Pass ⟨0,0,0,0⟩)
abbrev Zd5:Stmt:=Yb 1
abbrev Ziu:Stmt:=Yb 3
abbrev ZbS:Stmt:=Yb 4
abbrev Zd6:Stmt:=Yb 5
abbrev ZaQ:Stmt:=Yb 6
abbrev Zcg:Stmt:=Yb 7
abbrev Zmr:Stmt:=Yb 8
abbrev Zai:Stmt:=Yb 9
abbrev Zbm:Stmt:=Yb 10
abbrev Zas:Stmt:=Yb 12
abbrev Bg:Stmt:=Yb 13
abbrev ZaR:Stmt:=Yb 14
abbrev Zat:Stmt:=Yb 15
abbrev ZcB:Stmt:=Yb 16
abbrev ZaF:Stmt:=Yb 18
abbrev Za7:Stmt:=Yb 19
abbrev ZaM:Stmt:=Yb 21
abbrev Zam:Stmt:=Yb 22
abbrev Zau:Stmt:=Yb 23
abbrev Zjj:Stmt:=Yb 24
abbrev Zbb:Stmt:=Yb 25
abbrev Zap:Stmt:=Yb 26
abbrev Zd7:Stmt:=Yb 28
abbrev Zay:Stmt:=Yb 29
abbrev ZcU:Stmt:=Yb 31
abbrev ZcV:Stmt:=Yb 32
abbrev ZbT:Stmt:=Yb 33
abbrev ZcW:Stmt:=Yb 34
abbrev Zbn:Stmt:=Yb 35
abbrev Za8:Stmt:=Yb 36
abbrev Zaz:Stmt:=Yb 38
abbrev Zbo:Stmt:=Yb 39
abbrev Zav:Stmt:=Yb 40
abbrev ZcX:Stmt:=Yb 41
abbrev Zbp:Stmt:=Yb 42
abbrev Zbq:Stmt:=Yb 43
abbrev ZcY:Stmt:=Yb 44
abbrev Zbc:Stmt:=Yb 45
abbrev Zaa:Stmt:=Yb 46
abbrev s_law:Stmt:=Yb 47
structure Txt (mg:Str->Option Value):Prop where
 b_bool:mg "bool" = none
 b_dict:mg "dict" = none
 b_int:mg "int" = none
 b_isinstance:mg "isinstance" = none
 b_len:mg "len" = none
 b_list:mg "list" = none
 b_max:mg "max" = none
 b_min:mg "min" = none
 b_range:mg "range" = none
 b_set:mg "set" = none
 b_sorted:mg "sorted" = none
 b_str:mg "str" = none
 b_sum:mg "sum" = none
 b_tuple:mg "tuple" = none
 b_zip:mg "zip" = none
set_option maxHeartbeats 4000000
variable {P:Program}{w:World}{K:qm}{mg:Str->Option Value}{base:Heap}{jY:Addr}{jI:FuncData}
theorem Zbr:FnScope ["web"] ["web"] (ZD ZaQ):=YA
theorem Zd8 (F:Fun K "marked_ties" "marked_ties" ZaQ jY jI)(T:Txt mg) :
  FnOk P w K mg base ZX 1 jY jI ["web"] (Ym 1 true ZU V2):=
 have jH:=Zbr.nd
 YL (own:=[]) F Zbr fun cdv A outer s H E hr G hG=>
 (Zs (Z3 (Vb (ZhS rfl hr.units) rfl T.b_dict TF.boot_dict (Zf (XX (bk ["web"] (ZD ZaQ).names ["tie"] [none]) (Vr (ZO ZQ (va 0) ZA)) Xj WG (Xy (Zf (va 0) (Zf Xr Zk)))) Zk)))
 ZY)
theorem ZcZ:FnScope ["row","pairs","i","j"] ["row"] (ZD Zd5):=YA
theorem Zhj (F:Fun K "pairs_of" "pairs_of" Zd5 jY jI)(T:Txt mg) :
  FnOk P w K mg base ZX 1 jY jI ["row"] (Ym 1 true ZU Bp):=
 have jH:=ZcZ.nd
 YL (own:=[]) F ZcZ fun cdv A outer s H E hr G hG=>
 (Yi (own2:=[1]) (V6 (Yt jH rfl (qI rfl) (W1 Zk)))
 (Yi (own2:=[1]) (Xx (own:=[1]) qX rfl (Ur rfl T.b_range (Wn T.b_len (Zf (va 0) Zk))) (XJ jH rfl (qI rfl) (by decide))
 (Yi (own2:=[1]) (Xx (own:=[1]) qX rfl (ZcK rfl T.b_range (YO WB (va 2) ZA) (Wn T.b_len (Zf (va 0) Zk))) (XJ jH rfl (qI rfl) (by decide))
 (Yi (own2:=[1]) (By (own:=[1]) (i:=1) (by decide) (Xy (Zf (ZO ZQ (va 0) (va 2)) (Zf (ZO ZQ (va 0) (va 3)) Zk))) (fun _ h=>Bs (pv 1) h))
 (Yd (own:=[1]))))
 (Yd (own:=[1]))))
 (Yi (own2:=[1]) (ZhK (i:=1) (by decide) (pv 1))
 (Yd (own:=[1])))))
theorem Zch:FnScope ["row","tied","pairs"] ["row","tied"] (ZD Zbm):=YA
theorem Zf0 (F:Fun K "web_where" "web_where" Zbm jY jI)(T:Txt mg)(kP:ZN P w K mg base 1 "pairs_of" 1 true ZU Bp) :
  FnOk P w K mg base ZX 5 jY jI ["row","tied"] (Ym 2 false (Js P w K mg 4 2 Tl base) UZ):=
 have jH:=Zch.nd
 YL (own:=[]) F Zch fun cdv A outer s H E hr G hG=>
 (Zs (YM (Yt jH rfl (qI rfl) (Z0 (kP.mono) trivial hr (Zf (Za0 rfl rfl T.b_range rfl T.b_list TF.boot_list (Wn T.b_len (Zf (va 0) Zk))) Zk))))
 (Zs (Z3 (PD.weak (Xy (Zf (Wn T.b_len (Zf (va 0) Zk)) (Zf (Vb (Up) rfl T.b_tuple TF.boot_tuple (Zf (XX (bk ["row","tied","pairs"] (ZD Zbm).names ["pair","tied","row"] [none,some 1,some 0]) (X3 (va 2)) Xj (VN (XU (Zlg hG (hr.mono (by decide)) (pv 1) (Zf (ZO ZQ (va 2) (ZO ZQ (va 0) ZA)) (Zf (ZO ZQ (va 2) (ZO ZQ (va 0) ZA)) Zk)) (Xe (Xe Uw))))) (va 0)) Zk)) Zk)))))
 ZY))
theorem Zc0:FnScope ["ties","a","b"] ["ties","a","b"] (ZD Zd6):=YA
theorem Zhk (F:Fun K "are_tied" "are_tied" Zd6 jY jI)(T:Txt mg) :
  FnOk P w K mg base ZX 1 jY jI ["ties","a","b"] (Ym 3 false ZU Wy):=
 have jH:=Zc0.nd
 YL (own:=[]) F Zc0 fun cdv A outer s H E hr G hG=>
 (Zs (Z3 (PD.weak (VH (Jd hr.units) (Xy (Zf (YT (ZdC rfl) rfl T.b_min TF.boot_min (Zf (va 1) (Zf (va 2) Zk))) (Zf (YT (JJ rfl) rfl T.b_max TF.boot_max (Zf (va 1) (Zf (va 2) Zk))) Zk))) (va 0))))
 ZY)
theorem Ze9:FnScope ["web","ties"] ["web"] (ZD Zcg):=YA
theorem Zky (F:Fun K "turned" "turned" Zcg jY jI)(T:Txt mg){L:List (Addr×Str)}(lo:Wm L)(jQ:ZN P w K mg base 1 "marked_ties" 1 true ZU V2)(kc:Ju P w K mg 5 "web_where" 2 false (Js P w K mg 4 2 Tl) UZ)(j8:∀base,ZN P w K mg base 1 "are_tied" 3 false ZU Wy){tc tP:Addr}(hcode:jI.code=.ref tc)(hCd:zK base tc tP)(hBm:UU mg base)(hL:(tP,(qA "turned.<locals>.<lambda>"))∈L) :
  FnOk P w K mg base ZX 6 jY jI ["web"] (Ym 1 false (YK L) JQ):=
 have jH:=Ze9.nd
 fnDC (own:=[]) F Ze9 fun A outer s H E hr G hG=>
 have hT:YK L G:=hG;have TG9:=hT _ _ hL;have M9:Mk0 (Vn ZX P w K mg base ["web","ties"] "turned" (ZD Zcg) jY jI.code A outer s H E).nox tc tP:=⟨hcode,hCd,hBm⟩
 (Zs (YM (Yt jH rfl (yL rfl) (Z0 (jQ.mono) trivial hr (Zf (va 0) Zk))))
 (Zs (Z3 (ZdI (kl:=3) (frb:=true) (N:=["a","b","ties"]) (ps:=["a","b"]) (cix:=[1]) (T:=Tl) (t:=0) (q:="turned.<locals>.<lambda>") M9 TG9 (kc.mono) (fun _=>rfl) hr rfl (Za0 rfl rfl T.b_range rfl T.b_list TF.boot_list (ZO ZQ (va 0) ZA)) rfl (⟨rfl,rfl,rfl,by decide +kernel,rfl,by decide +kernel,by decide +kernel⟩:CloScope ["a","b","ties"] ["a","b"] _) (⟨rfl,rfl,rfl,by decide +kernel,by decide +kernel⟩:CapS _ ["web","ties"] (ZD Zcg).names ["a","b","ties"] ["a","b"] [1] _) rfl (fun _ _ _ _ us hl=>match us,hl with | [_,_],_=>rfl) (fun base f c cl G A outer s H E hr=>(ZkY (Z0 ((j8 base).mono) trivial hr (Zf (va 2) (Zf (va 0) (Zf (va 1) Zk))))))))
 ZY))
theorem Zjk:FnScope ["web","place"] ["web","place"] (ZD Ziu):=YA
theorem ZnE (F:Fun K "near" "near" Ziu jY jI)(T:Txt mg)(kK:ZN P w K mg base 1 "are_tied" 3 false ZU Wy) :
  FnOk P w K mg base ZX 2 jY jI ["web","place"] (Ym 2 true ZU VJ):=
 have jH:=Zjk.nd
 YL (own:=[]) F Zjk fun cdv A outer s H E hr G hG=>
 (Zs (Z3 (XX (bk ["web","place"] (ZD Ziu).names ["other","web","place"] [none,some 0,some 1]) (Ut rfl T.b_range (ZO ZQ (va 0) ZA)) Xj (VN (XU (Z0 (kK.mono) trivial hr (Zf (ZO ZQ (va 1) ZA) (Zf (va 2) (Zf (va 0) Zk)))))) (va 0)))
 ZY)
theorem Zc1:FnScope ["web","marked"] ["web"] (ZD ZbS):=YA
theorem Zhl (F:Fun K "all_near" "all_near" ZbS jY jI)(T:Txt mg)(jQ:ZN P w K mg base 1 "marked_ties" 1 true ZU V2)(kN:ZN P w K mg base 2 "near" 2 true ZU VJ) :
  FnOk P w K mg base ZX 3 jY jI ["web"] (Ym 1 true ZU Uu):=
 have jH:=Zc1.nd
 YL (own:=[]) F Zc1 fun cdv A outer s H E hr G hG=>
 (Zs (YM (Yt jH rfl (yL rfl) (Xy (Zf (ZO ZQ (va 0) ZA) (Zf (Z0 (jQ.mono) trivial hr (Zf (va 0) Zk)) Zk)))))
 (Zs (Z3 (XX (bk ["web","marked"] (ZD ZbS).names ["place","marked"] [none,some 1]) (Ut rfl T.b_range (ZO ZQ (va 0) ZA)) Xj WG (Z0 (kN.mono) trivial hr (Zf (va 1) (Zf (va 0) Zk)))))
 ZY))
def Zdd (Fs:List D->M D):Zb->M Out:=(Zh (Ya 4 (Yg [none,some 2,some 0] (Yk (Za 3)) (ZE 0) (XZ (Zz (Zd Xg (Za 0) (Za 1))) (Zz (Zd W3 (Za 0) (Zd Zj (Za 2) (Za 1))))) (Za 0)))
 (Zh (ZF (Zd Y4 (Xf (Zc (Za 2) Zg)) (Zv Fs (Zc (Za 0) (Zc (Za 1) (Zc (Za 4) Zg))))))
 Zl))
def Zaj (Fs:List D->M D):List D->M D:=runB 5 4 (Zdd Fs)
theorem ZaT:FnScope ["aparts","weights","place","places","others"] ["aparts","weights","place","places"] (ZD Zat):=YA
theorem ZcC (F:Fun K "heaviest_with" "heaviest_with" Zat jY jI)(T:Txt mg){Fs:List D->M D}{lv:Nat}(hlv:0<=lv)(jP:ZN P w K mg base lv "heaviest_among" 3 false ZU Fs) :
  FnOk P w K mg base ZX (lv+1) jY jI ["aparts","weights","place","places"] (Ym 4 false ZU (Zaj Fs)):=
 have jH:=ZaT.nd
 YL (own:=[]) F ZaT fun cdv A outer s H E hr G hG=>
 (Zs (YM (JK jH rfl (qI rfl) rfl (bk ["aparts","weights","place","places","others"] (ZD Zat).names ["other","place","aparts"] [none,some 2,some 0]) (X3 (va 3)) (fun _ _ _ _ _ _=>Xj) (fun _ _ _ _ _ _=>(VN (XH.pt (BB (YD (Vs hr.units) (va 0) (va 1)) (ZbW (YD (Zcs hr.units) (va 0) (ZO ZQ (va 2) (va 1)))))))) (fun _ _ _ _ _ _=>(va 0))))
 (Zs (Z3 (PD.weak (YO WB (W1 (Zf (va 2) Zk)) (Z0 (jP) trivial hr (Zf (va 0) (Zf (va 1) (Zf (va 4) Zk)))))))
 ZY))
theorem Zbs:FnScope ["aparts","place","places"] ["aparts","place","places"] (ZD ZaR):=YA
theorem Zd9 (F:Fun K "apart_among" "apart_among" ZaR jY jI)(T:Txt mg) :
  FnOk P w K mg base ZX 1 jY jI ["aparts","place","places"] (Ym 3 true ZU ZaP):=
 have jH:=Zbs.nd
 YL (own:=[]) F Zbs fun cdv A outer s H E hr G hG=>
 (Zs (Z3 (XX (bk ["aparts","place","places"] (ZD ZaR).names ["other","aparts","place"] [none,some 0,some 1]) (X3 (va 2)) Xj (VN (YD (Jd hr.units) (va 0) (ZO ZQ (va 1) (va 2)))) (va 0)))
 ZY)
def Zkz:Zb->M Out:=(Zh (ZF (Zw Jv (Zc (Yg [none,some 0] (UI (Za 1)) (ZE 0) Yq (Zd Zj (Za 1) (Za 0))) Zg)))
 Zl)
def Vc:List D->M D:=runB 2 2 Zkz
theorem Zea:FnScope ["weights","places"] ["weights","places"] (ZD ZcB):=YA
theorem Ziv (F:Fun K "weighed" "weighed" ZcB jY jI)(T:Txt mg) :
  FnOk P w K mg base ZX 1 jY jI ["weights","places"] (Ym 2 false ZU Vc):=
 have jH:=Zea.nd
 YL (own:=[]) F Zea fun cdv A outer s H E hr G hG=>
 (Zs (Z3 (PD.weak (YT (Zbz rfl) rfl T.b_sum TF.boot_sum (Zf (XX (bk ["weights","places"] (ZD ZcB).names ["place","weights"] [none,some 0]) (Zmp (va 1)) Xj WG (ZO ZQ (va 1) (va 0))) Zk))))
 ZY)
def Zan (Fs:List D->M D):Zb->M Out:=(Zh (Yn (Zz (Zd Ys (Za 2) (Xf Zg)))
 (Zh (ZF (Xf Zg))
 Zl)
 Zl)
 (Zh (Ya 3 (Yg [none,some 0,some 2] (Yk (Za 2)) (ZE 0) Yq (Zv ZaP (Zc (Za 1) (Zc (Za 0) (Zc (Za 2) Zg))))))
 (Zh (Y2 (Y0 (Zw YR (Zc (Za 2) Zg))) (ZE 4)
 (Zh (Yn (Zz (Zd XS (Zv Vc (Zc (Za 1) (Zc (Zd Zj (Za 3) (Za 4)) Zg))) (Zd Zj (Za 1) (Zd Zj (Za 2) (Za 4)))))
 (Zh (ZF (Zv (Zaj Fs) (Zc (Za 0) (Zc (Za 1) (Zc (Zd Zj (Za 2) (Za 4)) (Zc (Za 2) Zg))))))
 Zl)
 Zl)
 Zl))
 (Zh (Ya 5 (Yg [none] (Yk (Za 3)) (ZE 0) Yq (Zw YR (Zc (Za 0) Zg))))
 (Zh (Ya 6 (Zd Zj (Za 2) (Zd Zfx (Za 5) (Zw Zi0 (Zc (Za 5) Zg)))))
 (Zh (Ya 7 (Zv (Zaj Fs) (Zc (Za 0) (Zc (Za 1) (Zc (Za 6) (Zc (Za 2) Zg))))))
 (Zh (Ya 8 (Zv Fs (Zc (Za 0) (Zc (Za 1) (Zc (Yg [none,some 6] (Yk (Za 2)) (ZE 0) (Zz (Zd Xg (Za 0) (Za 1))) (Za 0)) Zg)))))
 (Zh (ZF (B6 (Zz (Zd VY (Zv Vc (Zc (Za 1) (Zc (Za 7) Zg))) (Zv Vc (Zc (Za 1) (Zc (Za 8) Zg))))) (Za 7) (Za 8)))
 Zl))))))))
def UW:Nat->List D->M D
 | 0=>fun _=>ZC
 | n+1=>runB 9 3 (Zan (UW n))
theorem ZaN:FnScope ["aparts","weights","places","rows","i","counts","branching","with_it","without_it"] ["aparts","weights","places"] (ZD Bg):=YA
theorem Zci (F:Fun K "heaviest_among" "heaviest_among" Bg jY jI)(T:Txt mg){Fs:List D->M D}{lv:Nat}(hlv:1<=lv)(kA:ZN P w K mg base 1 "apart_among" 3 true ZU ZaP)(jP:ZN P w K mg base lv "heaviest_among" 3 false ZU Fs)(ka:ZN P w K mg base (lv+1) "heaviest_with" 4 false ZU (Zaj Fs))(kd:ZN P w K mg base 1 "weighed" 2 false ZU Vc) :
  FnOk P w K mg base ZX (lv+2) jY jI ["aparts","weights","places"] (Ym 3 false ZU (runB 9 3 (Zan Fs))):=
 have jH:=ZaN.nd
 YL (own:=[]) F ZaN fun cdv A outer s H E hr G hG=>
 (Zs (Xo (YD (WO hr.units) (va 2) (W1 Zk))
 (Zs (Z3 (PD.weak (W1 Zk)))
 ZY)
 Yd)
 (Zs (YM (JK jH rfl (qI rfl) rfl (bk ["aparts","weights","places","rows","i","counts","branching","with_it","without_it"] (ZD Bg).names ["place","aparts","places"] [none,some 0,some 2]) (X3 (va 2)) (fun _ _ _ _ _ _=>Xj) (fun _ _ _ _ _ _=>WG) (fun _ _ _ _ _ _=>(Z0 (kA.mono (h:=qJ (by decide) (z5 hlv))) trivial hr (Zf (va 1) (Zf (va 0) (Zf (va 2) Zk)))))))
 (Zs (Xx (own:=[]) qX rfl (Ur rfl T.b_range (Wn T.b_len (Zf (va 2) Zk))) (XJ jH rfl (qI rfl) (by decide))
 (Zs (Xo (YD (VI) (Z0 (kd.mono (h:=qJ (by decide) (z5 hlv))) trivial hr (Zf (va 1) (Zf (ZO ZQ (va 3) (va 4)) Zk))) (ZO ZQ (va 1) (ZO ZQ (va 2) (va 4))))
 (Zs (Z3 (Z0 (ka) trivial hr (Zf (va 0) (Zf (va 1) (Zf (ZO ZQ (va 2) (va 4)) (Zf (va 2) Zk))))))
 ZY)
 Yd)
 ZY))
 (Zs (YM (JK jH rfl (qI rfl) rfl (bk ["aparts","weights","places","rows","i","counts","branching","with_it","without_it"] (ZD Bg).names ["row"] [none]) (X3 (va 3)) (fun _ _ _ _ _ _=>Xj) (fun _ _ _ _ _ _=>WG) (fun _ _ _ _ _ _=>(Wn T.b_len (Zf (va 0) Zk)))))
 (Zs (YM (Yt jH rfl (yL rfl) (ZO ZQ (va 2) (ZlQ (va 5) (YT (Zh1 rfl) rfl T.b_max TF.boot_max (Zf (va 5) Zk))))))
 (Zs (YM (Yt jH rfl (qI rfl) (Z0 (ka) trivial hr (Zf (va 0) (Zf (va 1) (Zf (va 6) (Zf (va 2) Zk)))))))
 (Zs (YM (Yt jH rfl (qI rfl) (Z0 (jP.mono (h:=qbx _)) trivial hr (Zf (va 0) (Zf (va 1) (Zf (XX (bk ["aparts","weights","places","rows","i","counts","branching","with_it","without_it"] (ZD Bg).names ["other","branching"] [none,some 6]) (X3 (va 2)) Xj (VN (YD (Vs hr.units) (va 0) (va 1))) (va 0)) Zk))))))
 (Zs (Z3 (ZpG (YD (Zk3) (Z0 (kd.mono (h:=qJ (by decide) (z5 hlv))) trivial hr (Zf (va 1) (Zf (va 7) Zk))) (Z0 (kd.mono (h:=qJ (by decide) (z5 hlv))) trivial hr (Zf (va 1) (Zf (va 8) Zk)))) (va 7) (va 8)))
 ZY))))))))
def Zbd:Zb->M Out:=(Zh (Ya 2 (Yg [none] (Yk (Zv Uu (Zc (Zv JQ (Zc (Za 0) Zg)) Zg))) (ZE 0) Yq (Zw Zfn (Zc (Yg [none] (Yk (Za 0)) (ZE 0) Yq (Yr (Zc (Za 0) (Zc (dC (.bl true)) Zg)))) Zg))))
 (Zh (ZF (Zw WN (Zc (Zw Zdn (Zc (Zv (UW 26) (Zc (Za 2) (Zc (Za 1) (Zc (V4 (Zd Zj (Za 0) (dC (.int 0)))) Zg)))) Zg)) Zg)))
 Zl))
def Bi:List D->M D:=runB 3 2 Zbd
theorem ZaU:FnScope ["web","weights","aparts"] ["web","weights"] (ZD Zas):=YA
theorem ZcD (F:Fun K "heaviest_knot" "heaviest_knot" Zas jY jI)(T:Txt mg){L:List (Addr×Str)}(lo:Wm L)(jZ:ZN P w K mg base 3 "all_near" 1 true ZU Uu)(jP:ZN P w K mg base 53 "heaviest_among" 3 false ZU (UW 26))(kQ:ZN P w K mg base 6 "turned" 1 false (YK L) JQ) :
  FnOk P w K mg base ZX 54 jY jI ["web","weights"] (Ym 2 true (YK L) Bi):=
 have jH:=ZaU.nd
 YL (own:=[]) F ZaU fun cdv A outer s H E hr G hG=>
 have hT:YK L G:=hG
 (Zs (YM (JK jH rfl (qI rfl) rfl (bk ["web","weights","aparts"] (ZD Zas).names ["row"] [none]) (X3 (Z0 (jZ.mono) trivial hr (Zf (Z0 (kQ.mono) hT hr (Zf (va 0) Zk)) Zk))) (fun _ _ _ _ _ _=>Xj) (fun _ _ _ _ _ _=>WG) (fun _ _ _ _ _ _=>(Vb (ZhT rfl hr.units) rfl T.b_dict TF.boot_dict (Zf (XX (bk ["row"] [((ye ".0"),PySem.NameKind.local),((ye "row"),PySem.NameKind.local),((ye "dict"),qaQ)] ["other"] [none]) (X3 (va 0)) Xj WG (Xy (Zf (va 0) (Zf Xr Zk)))) Zk)))))
 (Zs (Z3 (Vb (Up) rfl T.b_tuple TF.boot_tuple (Zf (YT (Zfs) rfl T.b_sorted TF.boot_sorted (Zf (Z0 (jP.mono) trivial hr (Zf (va 2) (Zf (va 1) (Zf (Za0 rfl rfl T.b_range rfl T.b_list TF.boot_list (ZO ZQ (va 0) ZA)) Zk)))) Zk)) Zk)))
 ZY))
def Ziw:Zb->M Out:=(Zh (Ya 2 (Zv Bi (Zc (Za 0) (Zc (Za 1) Zg))))
 (Zh (ZF (Yr (Zc (Zv Vc (Zc (Za 1) (Zc (Za 2) Zg))) (Zc (Za 2) Zg))))
 Zl))
def Za9:List D->M D:=runB 3 2 Ziw
theorem Zc2:FnScope ["web","weights","knot"] ["web","weights"] (ZD Zd7):=YA
theorem Zhm (F:Fun K "heaviest" "heaviest" Zd7 jY jI)(T:Txt mg){L:List (Addr×Str)}(lo:Wm L)(kh:ZN P w K mg base 54 "heaviest_knot" 2 true (YK L) Bi)(kd:ZN P w K mg base 1 "weighed" 2 false ZU Vc) :
  FnOk P w K mg base ZX 55 jY jI ["web","weights"] (Ym 2 true (YK L) Za9):=
 have jH:=Zc2.nd
 YL (own:=[]) F Zc2 fun cdv A outer s H E hr G hG=>
 have hT:YK L G:=hG
 (Zs (YM (Yt jH rfl (qI rfl) (Z0 (kh.mono) hT hr (Zf (va 0) (Zf (va 1) Zk)))))
 (Zs (Z3 (Xy (Zf (Z0 (kd.mono) trivial hr (Zf (va 1) (Zf (va 2) Zk))) (Zf (va 2) Zk))))
 ZY))
theorem ZbH:FnScope ["taken"] ["taken"] (ZD Za7):=YA
theorem Zev (F:Fun K "least_free" "least_free" Za7 jY jI)(T:Txt mg) :
  FnOk P w K mg base ZX 1 jY jI ["taken"] (Ym 1 true ZU JG):=
 have jH:=ZbH.nd
 YL (own:=[]) F ZbH fun cdv A outer s H E hr G hG=>
 (Zs (Z3 (YT (Zh8 rfl) rfl T.b_min TF.boot_min (Zf (XX (bk ["taken"] (ZD Za7).names ["hue","taken"] [none,some 0]) (Ut rfl T.b_range (YO WB (Wn T.b_len (Zf (va 0) Zk)) ZA)) Xj (VN (YD (Zcs hr.units) (va 0) (va 1))) (va 0)) Zk)))
 ZY)
theorem ZbI:FnScope ["web","order","nears","hues","place"] ["web","order"] (ZD ZaF):=YA
theorem Zew (F:Fun K "hued_along" "hued_along" ZaF jY jI)(T:Txt mg)(jZ:ZN P w K mg base 3 "all_near" 1 true ZU Uu)(kC:ZN P w K mg base 1 "least_free" 1 true ZU JG) :
  FnOk P w K mg base ZX 4 jY jI ["web","order"] (Ym 2 true ZU ZaD):=
 have jH:=ZbI.nd
 YL (own:=[]) F ZbI fun cdv A outer s H E hr G hG=>
 (Zs (YM (Yt jH rfl (qI rfl) (Z0 (jZ.mono) trivial hr (Zf (va 0) Zk))))
 (Yi (own2:=[3]) (V6 (Yt jH rfl (yL rfl) Zb5))
 (Yi (own2:=[3]) (Xx (own:=[3]) qX rfl (Xn.a (own:=[3]) (X3 (va 1))) (XJ jH rfl (qI rfl) (by decide))
 (Yi (own2:=[3]) (Zby (own:=[3]) (i:=3) (L2.hu_of hr) (by decide) (pv 3) (va 4) (Z0 (kC.mono) trivial hr (Zf (XX (bk ["web","order","nears","hues","place"] (ZD ZaF).names ["other","hues"] [none,some 3]) (X3 (ZO ZQ (va 2) (va 4))) Xj (VN (YD (Jd hr.units) (va 0) (va 1))) (Zdp (L2.hu_of hr) (va 1) (va 0))) Zk)))
 (Yd (own:=[3]))))
 (Yi (own2:=[3]) (Z3 (Vb (Up) rfl T.b_tuple TF.boot_tuple (Zf (XX (bk ["web","order","nears","hues","place"] (ZD ZaF).names ["place","hues"] [none,some 3]) (Ut rfl T.b_range (ZO ZQ (va 0) ZA)) Xj WG (Zdp (L2.hu_of hr) (va 1) (va 0))) Zk)))
 (Yd (own:=[3]))))))
theorem Zbt:FnScope ["web","weights","nears"] ["web","weights"] (ZD Zap):=YA
theorem Zeb (F:Fun K "heavy_first" "heavy_first" Zap jY jI)(T:Txt mg){L:List (Addr×Str)}(lo:Wm L)(jZ:ZN P w K mg base 3 "all_near" 1 true ZU Uu)(kD:ZN P w K mg base 4 "hued_along" 2 true ZU ZaD){tc tP:Addr}(hcode:jI.code=.ref tc)(hCd:zK base tc tP)(hBm:UU mg base)(hL:(tP,(qA "heavy_first.<locals>.<lambda>"))∈L) :
  FnOk P w K mg base ZX 7 jY jI ["web","weights"] (Ym 2 false (YK L) Zao):=
 have jH:=Zbt.nd
 fnDC (own:=[]) F Zbt fun A outer s H E hr G hG=>
 have hT:YK L G:=hG;have TG9:=hT _ _ hL;have M9:Mk0 (Vn ZX P w K mg base ["web","weights","nears"] "heavy_first" (ZD Zap) jY jI.code A outer s H E).nox tc tP:=⟨hcode,hCd,hBm⟩
 (Zs (YM (Yt jH rfl (yL rfl) (Z0 (jZ.mono) trivial hr (Zf (va 0) Zk))))
 (Zs (Z3 (PD.weak (Z0 (kD.mono) trivial hr (Zf (va 0) (Zf (ZgZ (kl:=3) (frb:=true) (N:=["place","weights","nears"]) (ps:=["place"]) (cix:=[1,2]) (q:="heavy_first.<locals>.<lambda>") rfl rfl T.b_sorted TF.boot_sorted rfl T.b_range M9 TG9 (fun _=>rfl) (hr.mono (by decide)) (ZO ZQ (va 0) ZA) rfl (⟨rfl,rfl,rfl,by decide +kernel,rfl,by decide +kernel,by decide +kernel⟩:CloScope ["place","weights","nears"] ["place"] _) (⟨rfl,rfl,rfl,by decide +kernel,by decide +kernel⟩:CapS _ ["web","weights","nears"] (ZD Zap).names ["place","weights","nears"] ["place"] [1,2] _) rfl (fun _ _ _ _ us hl=>match us,hl with | [_],_=>rfl) (fun base f c cl G A outer s H E hr=>(Xy (Zf (Zi1 (ZO ZQ (va 1) (va 0))) (Zf (Zi1 (Wn T.b_len (Zf (ZO ZQ (va 2) (va 0)) Zk))) Zk))))) Zk)))))
 ZY))
theorem ZaG:FnScope ["weights","hueing","heaviest","place"] ["weights","hueing"] (ZD ZaM):=YA
theorem ZbU (F:Fun K "weighed_by_hues" "weighed_by_hues" ZaM jY jI)(T:Txt mg) :
  FnOk P w K mg base ZX 1 jY jI ["weights","hueing"] (Ym 2 false ZU Zac):=
 have jH:=ZaG.nd
 YL (own:=[]) F ZaG fun cdv A outer s H E hr G hG=>
 (Yi (own2:=[2]) (V6 (Yt jH rfl (qI rfl) Zb5))
 (Yi (own2:=[2]) (Xx (own:=[2]) qX rfl (Ur rfl T.b_range (Wn T.b_len (Zf (va 1) Zk))) (XJ jH rfl (qI rfl) (by decide))
 (Yi (own2:=[2]) (Zby (own:=[2]) (i:=2) (L2.hu_of hr) (by decide) (pv 2) (ZO ZQ (va 1) (va 3)) (YT (JJ rfl) rfl T.b_max TF.boot_max (Zf (ZO ZQ (va 0) (va 3)) (Zf (Zi4 (L2.hu_of hr) (va 2) (ZO ZQ (va 1) (va 3)) ZA) Zk))))
 (Yd (own:=[2]))))
 (Yi (own2:=[2]) (Z3 (PD.weak (Zid rfl rfl T.b_sum TF.boot_sum (va 2))))
 (Yd (own:=[2])))))
theorem ZaO:FnScope ["web","v"] ["web","v"] (ZD Zam):=YA
theorem Zcj (F:Fun K "places_without" "places_without" Zam jY jI)(T:Txt mg) :
  FnOk P w K mg base ZX 1 jY jI ["web","v"] (Ym 2 true ZU Zad):=
 have jH:=ZaO.nd
 YL (own:=[]) F ZaO fun cdv A outer s H E hr G hG=>
 (Zs (Z3 (XX (bk ["web","v"] (ZD Zam).names ["place","v"] [none,some 1]) (Ut rfl T.b_range (ZO ZQ (va 0) ZA)) Xj (VN (YD (Vs hr.units) (va 0) (va 1))) (va 0)))
 ZY)
theorem ZaV:FnScope ["web","places","ties"] ["web","places"] (ZD Zai):=YA
theorem ZcE (F:Fun K "numbered_anew" "numbered_anew" Zai jY jI)(T:Txt mg){L:List (Addr×Str)}(lo:Wm L)(jQ:ZN P w K mg base 1 "marked_ties" 1 true ZU V2)(kc:Ju P w K mg 5 "web_where" 2 false (Js P w K mg 4 2 Tl) UZ)(j8:∀base,ZN P w K mg base 1 "are_tied" 3 false ZU Wy){tc tP:Addr}(hcode:jI.code=.ref tc)(hCd:zK base tc tP)(hBm:UU mg base)(hL:(tP,(qA "numbered_anew.<locals>.<lambda>"))∈L) :
  FnOk P w K mg base ZX 6 jY jI ["web","places"] (Ym 2 false (YK L) Zaf):=
 have jH:=ZaV.nd
 fnDC (own:=[]) F ZaV fun A outer s H E hr G hG=>
 have hT:YK L G:=hG;have TG9:=hT _ _ hL;have M9:Mk0 (Vn ZX P w K mg base ["web","places","ties"] "numbered_anew" (ZD Zai) jY jI.code A outer s H E).nox tc tP:=⟨hcode,hCd,hBm⟩
 (Zs (YM (Yt jH rfl (yL rfl) (Z0 (jQ.mono) trivial hr (Zf (va 0) Zk))))
 (Zs (Z3 (ZdI (kl:=3) (frb:=false) (N:=["a","b","ties"]) (ps:=["a","b"]) (cix:=[2]) (T:=Tl) (t:=1) (q:="numbered_anew.<locals>.<lambda>") M9 TG9 (kc.mono) (fun _=>rfl) hr rfl (va 1) rfl (⟨rfl,rfl,rfl,by decide +kernel,rfl,by decide +kernel,by decide +kernel⟩:CloScope ["a","b","ties"] ["a","b"] _) (⟨rfl,rfl,rfl,by decide +kernel,by decide +kernel⟩:CapS _ ["web","places","ties"] (ZD Zai).names ["a","b","ties"] ["a","b"] [2] _) rfl (fun _ _ _ _ us hl=>match us,hl with | [_,_],_=>rfl) (fun base f c cl G A outer s H E hr=>(Z0 ((j8 base).mono) trivial hr (Zf (va 2) (Zf (va 0) (Zf (va 1) Zk)))))))
 ZY))
theorem Zjl:FnScope ["web","places"] ["web","places"] (ZD Zmr):=YA
theorem ZnF (F:Fun K "part" "part" Zmr jY jI)(T:Txt mg){L:List (Addr×Str)}(lo:Wm L)(ki:ZN P w K mg base 6 "numbered_anew" 2 false (YK L) Zaf) :
  FnOk P w K mg base ZX 7 jY jI ["web","places"] (Ym 2 false (YK L) ZfC):=
 have jH:=Zjl.nd
 YL (own:=[]) F Zjl fun cdv A outer s H E hr G hG=>
 have hT:YK L G:=hG
 (Zs (Z3 (Z0 (ki.mono) hT hr (Zf (va 0) (Zf (va 1) Zk))))
 ZY)
theorem ZaW:FnScope ["weights","places"] ["weights","places"] (ZD Zau):=YA
theorem ZcF (F:Fun K "weights_along" "weights_along" Zau jY jI)(T:Txt mg) :
  FnOk P w K mg base ZX 1 jY jI ["weights","places"] (Ym 2 true ZU Zag):=
 have jH:=ZaW.nd
 YL (own:=[]) F ZaW fun cdv A outer s H E hr G hG=>
 (Zs (Z3 (Vb (Up) rfl T.b_tuple TF.boot_tuple (Zf (XX (bk ["weights","places"] (ZD Zau).names ["place","weights"] [none,some 0]) (X3 (va 1)) Xj WG (ZO ZQ (va 1) (va 0))) Zk)))
 ZY)
theorem ZaX:FnScope ["plainest","web","weights","places","w"] ["plainest","web","weights","places","w"] (ZD Zbb):=YA
theorem ZcG (F:Fun K "bound_of_part" "bound_of_part" Zbb jY jI)(T:Txt mg){L:List (Addr×Str)}(lo:Wm L){Fs:List D->M D}{lv:Nat}(hlv:7<=lv)(kM:ZN P w K mg base lv "bound" 4 true (YK L) Fs)(kU:ZN P w K mg base 7 "part" 2 false (YK L) ZfC)(kj:ZN P w K mg base 1 "weights_along" 2 true ZU Zag) :
  FnOk P w K mg base ZX (lv+1) jY jI ["plainest","web","weights","places","w"] (Ym 5 true (YK L) (JF Fs)):=
 have jH:=ZaX.nd
 YL (own:=[]) F ZaX fun cdv A outer s H E hr G hG=>
 have hT:YK L G:=hG
 (Zs (Z3 (Z0 (kM) hT hr (Zf (va 0) (Zf (Z0 (kU.mono (h:=qJ (by decide) hlv)) hT hr (Zf (va 1) (Zf (va 3) Zk))) (Zf (Z0 (kj.mono (h:=qJ (by decide) hlv)) trivial hr (Zf (va 2) (Zf (va 3) Zk))) (Zf (va 4) Zk))))))
 ZY)
theorem Zhn:FnScope ["plainest","web","weights","w","hueing","v"] ["plainest","web","weights","w"] (ZD Zjj):=YA
theorem Zms (F:Fun K "bound" "bound" Zjj jY jI)(T:Txt mg){L:List (Addr×Str)}(lo:Wm L){Fs:List D->M D}{lv:Nat}(hlv:7<=lv)(kb:ZN P w K mg base (lv+1) "bound_of_part" 5 true (YK L) (JF Fs))(kB:ZN P w K mg base 7 "heavy_first" 2 false (YK L) Zao)(kN:ZN P w K mg base 2 "near" 2 true ZU VJ)(kg:ZN P w K mg base 1 "places_without" 2 true ZU Zad)(kf:ZN P w K mg base 1 "weighed_by_hues" 2 false ZU Zac) :
  FnOk P w K mg base ZX (lv+2) jY jI ["plainest","web","weights","w"] (Ym 4 true (YK L) (runB 6 4 (ZfK Fs))):=
 have jH:=Zhn.nd
 YL (own:=[]) F Zhn fun cdv A outer s H E hr G hG=>
 have hT:YK L G:=hG
 (Zs (Xo (YD (VI) (YT (ZeW rfl) rfl T.b_sum TF.boot_sum (Zf (va 2) Zk)) (va 3))
 (Zs (Z3 (Xy (Zf (va 0) Zk)))
 ZY)
 Yd)
 (Zs (YM (Yt jH rfl (qI rfl) (Z0 (kB.mono (h:=qJ (by decide) (z5 hlv))) hT hr (Zf (va 1) (Zf (va 2) Zk)))))
 (Zs (Xo (YD (VI) (Z0 (kf.mono (h:=qJ (by decide) (z5 hlv))) trivial hr (Zf (va 2) (Zf (va 4) Zk))) (va 3))
 (Zs (Z3 (Xy (Zf VG (Zf (va 4) Zk))))
 ZY)
 Yd)
 (Zs (YM (Yt jH rfl (qI rfl) (Zki (va 4) (YT (Zig rfl) rfl T.b_max TF.boot_max (Zf (va 4) Zk)))))
 (Zs (Z3 (Xy (Zf VG (Zf (va 5) (Zf (Z0 (kb) hT hr (Zf (va 0) (Zf (va 1) (Zf (va 2) (Zf (Z0 (kg.mono (h:=qJ (by decide) (z5 hlv))) trivial hr (Zf (va 1) (Zf (va 5) Zk))) (Zf (va 3) Zk)))))) (Zf (Z0 (kb) hT hr (Zf (va 0) (Zf (va 1) (Zf (va 2) (Zf (Z0 (kN.mono (h:=qJ (by decide) (z5 hlv))) trivial hr (Zf (va 1) (Zf (va 5) Zk))) (Zf (YO JT (va 3) (ZO ZQ (va 2) (va 5))) Zk)))))) Zk))))))
 ZY)))))
def ZbG:Zb->M Out:=(Zh (Ya 3 (Zv Za9 (Zc (Za 0) (Zc (Za 1) Zg))))
 (Zh (Yn (Zz (Zd B7 (Zd Zj (Za 3) (dC (.int 0))) (Za 2)))
 (Zh (ZF (Yr (Zc (dC (.str (qA "knot"))) (Zc (Zd Zj (Za 3) (dC (.int 1))) Zg))))
 Zl)
 Zl)
 (Zh (ZF (Yr (Zc (dC (.str (qA "none"))) (Zc (Zv (Ua 26) (Zc (dC (.str (qA "all"))) (Zc (Za 0) (Zc (Za 1) (Zc (Za 2) Zg))))) Zg))))
 Zl)))
def JE:List D->M D:=runB 4 3 ZbG
theorem Zaq:FnScope ["web","weights","w","told"] ["web","weights","w"] (ZD Zay):=YA
theorem Zbu (F:Fun K "settled_by_weight" "settled_by_weight" Zay jY jI)(T:Txt mg){L:List (Addr×Str)}(lo:Wm L)(kM:ZN P w K mg base 59 "bound" 4 true (YK L) (Ua 26))(kL:ZN P w K mg base 55 "heaviest" 2 true (YK L) Za9) :
  FnOk P w K mg base ZX 60 jY jI ["web","weights","w"] (Ym 3 true (YK L) JE):=
 have jH:=Zaq.nd
 YL (own:=[]) F Zaq fun cdv A outer s H E hr G hG=>
 have hT:YK L G:=hG
 (Zs (YM (Yt jH rfl (qI rfl) (Z0 (kL.mono) hT hr (Zf (va 0) (Zf (va 1) Zk)))))
 (Zs (Xo (YD (Zk2) (ZO ZQ (va 3) ZA) (va 2))
 (Zs (Z3 (Xy (Zf VG (Zf (ZO ZQ (va 3) ZA) Zk))))
 ZY)
 Yd)
 (Zs (Z3 (Xy (Zf VG (Zf (Z0 (kM.mono) hT hr (Zf VG (Zf (va 0) (Zf (va 1) (Zf (va 2) Zk))))) Zk))))
 ZY)))
theorem Zck:FnScope ["_law_cell","_law_at","_law_x"] ["_law_cell","_law_at"] (ZD ZcU):=YA
theorem Zf1 (F:Fun K "_law_fill" "_law_fill" ZcU jY jI)(T:Txt mg) :
  FnOk P w K mg base ZX 1 jY jI ["_law_cell","_law_at"] (Ym 2 false ZU UY):=
 have jH:=Zck.nd
 YL (own:=[]) F Zck fun cdv A outer s H E hr G hG=>
 (Zs (Xo (YD (Zk3) (va 0) (YO ZiN ZA ZA))
 (Zs (Z3 (va 0))
 ZY)
 Yd)
 (Zs (YM (Yt jH rfl (qI rfl) (YO Zdj (YO WB (YO WB (YO U9 (YO Zdj (va 0) ZA) ZA) (YO U9 (va 1) ZA)) ZA) ZA)))
 (Zs (YM (Yt jH rfl (qI rfl) (YO Zdj (YO WB (YO WB (YO U9 (va 2) (va 2)) (YO U9 ZA (va 2))) (va 1)) ZA)))
 (Zs (Z3 (PD.weak (YO WB (YO U9 (va 2) ZA) (YO Zdj (YO WB (YO U9 (va 2) (va 2)) (YO U9 ZA (va 1))) ZA))))
 ZY))))
theorem Zc3:FnScope ["_law_pen","_law_most","_law_n","_law_way","_law_rate","_law_some","_law_ties","_law_a","_law_b","_law_tied"] ["_law_pen","_law_most"] (ZD ZbT):=YA
theorem Zho (F:Fun K "_law_web" "_law_web" ZbT jY jI)(T:Txt mg){L:List (Addr×Str)}(lo:Wm L)(jJ:ZN P w K mg base 2 "_law_next" 2 true (X8 (Wt K) L) Xt) :
  FnOk P w K mg base ZX 3 jY jI ["_law_pen","_law_most"] (Ym 2 true (X8 (Wt K) L) Bq):=
 have jH:=Zc3.nd
 YL (own:=[]) F Zc3 fun cdv A outer s H E hr G hG=>
 have hT:YK L G:=jw lo hG
 (Zs (YM (Yt jH rfl (qI rfl) (Z0 (jJ.mono) hG hr (Zf (va 0) (Zf (YO WB (va 1) ZA) Zk)))))
 (Zs (ZmW (own:=[]) rfl jH rfl rfl (by decide) (by decide) (by decide) rfl rfl (Zf (Z0 (jJ.mono) hG hr (Zf (va 0) (Zf ZA Zk))) (Zf (YO WB ZA (Z0 (jJ.mono) hG hr (Zf (va 0) (Zf ZA Zk)))) Zk)) (by with_unfolding_all rfl))
 (Zs (YM (JK jH rfl (qI rfl) rfl (bk ["_law_pen","_law_most","_law_n","_law_way","_law_rate","_law_some","_law_ties","_law_a","_law_b","_law_tied"] (ZD ZbT).names ["_law_place","_law_pen"] [none,some 0]) (Ut rfl T.b_range (va 2)) (fun _ _ _ _ _ _=>Xj) (fun _ _ _ _ _ _=>WG) (fun _ _ _ _ _ _=>(Z0 (jJ.mono) hG hr (Zf (va 1) (Zf ZA Zk))))))
 (Yi (own2:=[6]) (V6 (Yt jH rfl (qI rfl) (W1 Zk)))
 (Yi (own2:=[6]) (Xx (own:=[6]) qX rfl (Ur rfl T.b_range (va 2)) (XJ jH rfl (qI rfl) (by decide))
 (Yi (own2:=[6]) (Xx (own:=[6]) qX rfl (ZcK rfl T.b_range (YO WB (va 7) ZA) (va 2)) (XJ jH rfl (qI rfl) (by decide))
 (Yi (own2:=[6]) (ZbX (own:=[6]) (Yt jH rfl (qI rfl) (VH (Zfl hr.units0) (Z0 (jJ.mono) hG hr (Zf (va 0) (Zf ZA Zk))) (va 4))))
 (Yi (own2:=[6]) (JY (own':=[6]) (XH.pt (BB (YD (WO hr.units) (va 3) ZA) (BB (YD (WO hr.units) (ZO ZQ (va 5) (va 7)) ZA) (ZbW (YD (WO hr.units) (ZO ZQ (va 5) (va 8)) ZA)))))
 (Yi (own2:=[6]) (ZbX (own:=[6]) (Yt jH rfl (qI rfl) Xr))
 (Yd (own:=[6])))
 Yd)
 (Yi (own2:=[6]) (JY (own':=[6]) (YD (WO hr.units) (va 3) ZA)
 (Yi (own2:=[6]) (ZbX (own:=[6]) (Yt jH rfl (qI rfl) (ZpF (VH (WO hr.units) (YO JT (va 8) (va 7)) ZA) (ZhH (VH (WO hr.units) (YO JT (va 8) (va 7)) (YO JT (va 2) ZA))))))
 (Yd (own:=[6])))
 Yd)
 (Yi (own2:=[6]) (JY (own':=[6]) (XU (va 9))
 (Yi (own2:=[6]) (By (own:=[6]) (i:=6) (by decide) (Xy (Zf (va 7) (Zf (va 8) Zk))) (fun _ h=>Bs (pv 6) h))
 (Yd (own:=[6])))
 Yd)
 (Yd (own:=[6])))))))
 (Yd (own:=[6]))))
 (Yi (own2:=[6]) (Z3 (Xy (Zf (va 2) (Zf (Vb (Up) rfl T.b_tuple TF.boot_tuple (Zf (va 6) Zk)) Zk))))
 (Yd (own:=[6]))))))))
theorem Zbe:FnScope ["_law_pen","_law_told","_law_way","_law_found","_law_place"] ["_law_pen","_law_told"] (ZD Zbo):=YA
theorem Zde (F:Fun K "_law_weighed" "_law_weighed" Zbo jY jI)(T:Txt mg){L:List (Addr×Str)}(lo:Wm L)(jJ:ZN P w K mg base 2 "_law_next" 2 true (X8 (Wt K) L) Xt) :
  FnOk P w K mg base ZX 3 jY jI ["_law_pen","_law_told"] (Ym 2 true (X8 (Wt K) L) Bj):=
 have jH:=Zbe.nd
 YL (own:=[]) F Zbe fun cdv A outer s H E hr G hG=>
 have hT:YK L G:=jw lo hG
 (Zs (YM (Yt jH rfl (qI rfl) (Z0 (jJ.mono) hG hr (Zf (va 0) (Zf ZA Zk)))))
 (Yi (own2:=[3]) (V6 (Yt jH rfl (qI rfl) (W1 Zk)))
 (Yi (own2:=[3]) (Xx (own:=[3]) qX rfl (Ur rfl T.b_range (ZO ZQ (va 1) ZA)) (XJ jH rfl (qI rfl) (by decide))
 (Yi (own2:=[3]) (By (own:=[3]) (i:=3) (by decide) (ZO ZQ (W1 (Zf (Z0 (jJ.mono) hG hr (Zf (va 0) (Zf ZA Zk))) (Zf (Z0 (jJ.mono) hG hr (Zf (va 0) (Zf ZA Zk))) (Zf ZA Zk)))) (va 2)) (fun _ h=>Bs (pv 3) h))
 (Yd (own:=[3]))))
 (Yi (own2:=[3]) (Z3 (Vb (Up) rfl T.b_tuple TF.boot_tuple (Zf (va 3) Zk)))
 (Yd (own:=[3]))))))
theorem ZbJ:FnScope ["_law_web_here","_law_pairs","_law_pair","_law_found","_law_place","_law_more","_law_knot"] ["_law_web_here"] (ZD Za8):=YA
theorem Zex (F:Fun K "_law_knots" "_law_knots" Za8 jY jI)(T:Txt mg) :
  FnOk P w K mg base ZX 1 jY jI ["_law_web_here"] (Ym 1 false ZU ZaC):=
 have jH:=ZbJ.nd
 YL (own:=[]) F ZbJ fun cdv A outer s H E hr G hG=>
 (Yi (own2:=[1]) (V6 (Yt jH rfl (yL rfl) ZlR))
 (Yi (own2:=[1]) (Xx (own:=[1]) qX rfl (Xn.a (own:=[1]) (Vr (ZO ZQ (va 0) ZA))) (XJ jH rfl (qI rfl) (by decide))
 (Yi (own2:=[1]) (Zh9 (own:=[1]) (i:=1) (L2.hu_of hr) (by decide) (pv 1) (va 2) Xr)
 (Yd (own:=[1]))))
 (Yi (own2:=[1]) (ZbX (own:=[1]) (Yt jH rfl (qI rfl) (W1 (Zf (Xy Zk) Zk))))
 (Zs (Xi.frz (own:=[1]) (own2:=[]) (Xx (own:=[]) qX rfl (Ur rfl T.b_range (ZO ZQ (va 0) ZA)) (XJ jH rfl (yL rfl) (by decide))
 (Yi (own2:=[5]) (V6 (Yt jH rfl (qI rfl) (W1 Zk)))
 (Yi (own2:=[5]) (Xx (own:=[5]) qX rfl (Xn.a (own:=[5]) (X3 (va 3))) (XJ jH rfl (qI rfl) (by decide))
 (Yi (own2:=[5]) (JY (own':=[5]) (YD (Zcs hr.units) Xr (XX (bk ["_law_web_here","_law_pairs","_law_pair","_law_found","_law_place","_law_more","_law_knot"] (ZD Za8).names ["_law_other","_law_place","_law_pairs"] [none,some 4,some 1]) (Vr (va 6)) Xj WG (VH (Jd hr.units) (Xy (Zf (va 0) (Zf (va 1) Zk))) (va 2))))
 (Yi (own2:=[5]) (By (own:=[5]) (i:=5) (by decide) (YO WB (va 6) (Xy (Zf (va 4) Zk))) (fun _ h=>Bs (pv 5) h))
 (Yd (own:=[5])))
 Yd)
 (Yd (own:=[5]))))
 (Zs (Xi.frz (own:=[5]) (own2:=[]) (YM (Yt jH rfl (qI rfl) (YO WB (va 3) (va 5)))))
 ZY)))))
 (Zs (Z3 (va 3))
 ZY)))))
theorem ZaY:FnScope ["_law_told","_law_weights","_law_found","_law_knot"] ["_law_told","_law_weights"] (ZD Zav):=YA
theorem ZcH (F:Fun K "_law_heaviest" "_law_heaviest" Zav jY jI)(T:Txt mg)(kE:ZN P w K mg base 1 "_law_knots" 1 false ZU ZaC) :
  FnOk P w K mg base ZX 2 jY jI ["_law_told","_law_weights"] (Ym 2 false ZU Bh):=
 have jH:=ZaY.nd
 YL (own:=[]) F ZaY fun cdv A outer s H E hr G hG=>
 (Zs (YM (Yt jH rfl (qI rfl) ZA))
 (Zs (Xx (own:=[]) qX rfl (Xn.n (X3 (Z0 (kE.mono) trivial hr (Zf (va 0) Zk)))) (XJ jH rfl (qI rfl) (by decide))
 (Zs (YM (Yt jH rfl (qI rfl) (YT (JJ rfl) rfl T.b_max TF.boot_max (Zf (va 2) (Zf (YT (Zbz rfl) rfl T.b_sum TF.boot_sum (Zf (XX (bk ["_law_told","_law_weights","_law_found","_law_knot"] (ZD Zav).names ["_law_place","_law_weights"] [none,some 1]) (Vr (va 3)) Xj WG (ZO ZQ (va 1) (va 0))) Zk)) Zk)))))
 ZY))
 (Zs (Z3 (va 2))
 ZY)))
theorem Zcl:FnScope ["_law_told","_law_thing","_law_one","_law_a","_law_b"] ["_law_told","_law_thing"] (ZD ZcY):=YA
theorem Zf2 (F:Fun K "_law_hued" "_law_hued" ZcY jY jI)(T:Txt mg) :
  FnOk P w K mg base ZX 1 jY jI ["_law_told","_law_thing"] (Ym 2 true ZU ZaJ):=
 have jH:=Zcl.nd
 YL (own:=[]) F Zcl fun cdv A outer s H E hr G hG=>
 (Zs (Xo (XH.pt (W2 (WA (XU (YT (Vq) rfl T.b_isinstance TF.boot_isinstance (Zf (va 1) (Zf (Vv rfl T.b_tuple TF.boot_tuple) Zk))))) (V7 (YD (Vs hr.units) (Wn T.b_len (Zf (va 1) Zk)) (ZO ZQ (va 0) ZA)))))
 (Zs (Z3 Xr)
 ZY)
 Yd)
 (Zs (Xx (own:=[]) qX rfl (Xn.n (Vr (va 1))) (XJ jH rfl (qI rfl) (by decide))
 (Zs (Xo (XH.pt (W2 (WA (XU (YT (Vq) rfl T.b_isinstance TF.boot_isinstance (Zf (va 2) (Zf (Vv rfl T.b_int TF.boot_int) Zk))))) (W2 (XU (YT (Vq) rfl T.b_isinstance TF.boot_isinstance (Zf (va 2) (Zf (Vv rfl T.b_bool TF.boot_bool) Zk)))) (V7 (WA (ZeR ZA (ZeQ (VI) (va 2) (ZgF (Zfl hr.units0) (ZO ZQ (va 0) ZA)))))))))
 (Zs (Z3 Xr)
 ZY)
 Yd)
 ZY))
 (Zs (Xx (own:=[]) qX rfl (Xn.n (Vr (ZO ZQ (va 0) ZA))) (ZdB rfl jH rfl rfl (qI rfl) (qI rfl) (by decide) (by decide) (hp:=JO (Uy jH rfl (qI rfl)) (JO (Uy jH rfl (qI rfl)) Zfd)))
 (Zs (Xo (YD (WO hr.units) (ZO ZQ (va 1) (va 3)) (ZO ZQ (va 1) (va 4)))
 (Zs (Z3 Xr)
 ZY)
 Yd)
 ZY))
 (Zs (Z3 Xr)
 ZY))))
theorem ZaZ:FnScope ["_law_told","_law_v"] ["_law_told","_law_v"] (ZD Zbc):=YA
theorem ZcI (F:Fun K "_law_is_place" "_law_is_place" Zbc jY jI)(T:Txt mg) :
  FnOk P w K mg base ZX 1 jY jI ["_law_told","_law_v"] (Ym 2 false ZU Zah):=
 have jH:=ZaZ.nd
 YL (own:=[]) F ZaZ fun cdv A outer s H E hr G hG=>
 (Zs (Z3 (ZhI (YT (Vq) rfl T.b_isinstance TF.boot_isinstance (Zf (va 1) (Zf (Vv rfl T.b_int TF.boot_int) Zk))) (ZhI (ZkY (YT (Vq) rfl T.b_isinstance TF.boot_isinstance (Zf (va 1) (Zf (Vv rfl T.b_bool TF.boot_bool) Zk)))) (ZhH (Zkh (VI) (Zfl hr.units0) ZA (va 1) (ZO ZQ (va 0) ZA))))))
 ZY)
theorem Zcm:FnScope ["_law_told","_law_v"] ["_law_told","_law_v"] (ZD Zbp):=YA
theorem Zf3 (F:Fun K "_law_rest" "_law_rest" Zbp jY jI)(T:Txt mg) :
  FnOk P w K mg base ZX 1 jY jI ["_law_told","_law_v"] (Ym 2 true ZU ZaK):=
 have jH:=Zcm.nd
 YL (own:=[]) F Zcm fun cdv A outer s H E hr G hG=>
 (Zs (Z3 (XX (bk ["_law_told","_law_v"] (ZD Zbp).names ["_law_other","_law_v"] [none,some 1]) (Ut rfl T.b_range (ZO ZQ (va 0) ZA)) Xj (VN (YD (Vs hr.units) (va 0) (va 1))) (va 0)))
 ZY)
theorem Zcn:FnScope ["_law_web_here","_law_a","_law_b"] ["_law_web_here","_law_a","_law_b"] (ZD ZcW):=YA
theorem Zf4 (F:Fun K "_law_tied" "_law_tied" ZcW jY jI)(T:Txt mg) :
  FnOk P w K mg base ZX 1 jY jI ["_law_web_here","_law_a","_law_b"] (Ym 3 false ZU Us):=
 have jH:=Zcn.nd
 YL (own:=[]) F Zcn fun cdv A outer s H E hr G hG=>
 (Zs (Z3 (PD.weak (VH (Jd hr.units) (Xy (Zf (YT (ZdC rfl) rfl T.b_min TF.boot_min (Zf (va 1) (Zf (va 2) Zk))) (Zf (YT (JJ rfl) rfl T.b_max TF.boot_max (Zf (va 1) (Zf (va 2) Zk))) Zk))) (ZO ZQ (va 0) ZA))))
 ZY)
theorem Zco:FnScope ["_law_told","_law_v"] ["_law_told","_law_v"] (ZD Zbq):=YA
theorem Zf5 (F:Fun K "_law_near" "_law_near" Zbq jY jI)(T:Txt mg)(ke:ZN P w K mg base 1 "_law_tied" 3 false ZU Us) :
  FnOk P w K mg base ZX 2 jY jI ["_law_told","_law_v"] (Ym 2 true ZU ZaL):=
 have jH:=Zco.nd
 YL (own:=[]) F Zco fun cdv A outer s H E hr G hG=>
 (Zs (Z3 (XX (bk ["_law_told","_law_v"] (ZD Zbq).names ["_law_other","_law_told","_law_v"] [none,some 0,some 1]) (Ut rfl T.b_range (ZO ZQ (va 0) ZA)) Xj (VN (XU (Z0 (ke.mono) trivial hr (Zf (va 1) (Zf (va 0) (Zf (va 2) Zk)))))) (va 0)))
 ZY)
theorem Zcp:FnScope ["_law_told","_law_places","_law_numbers","_law_place","_law_ties","_law_a","_law_b"] ["_law_told","_law_places"] (ZD ZcX):=YA
theorem Zf6 (F:Fun K "_law_part" "_law_part" ZcX jY jI)(T:Txt mg) :
  FnOk P w K mg base ZX 1 jY jI ["_law_told","_law_places"] (Ym 2 true ZU Bm):=
 have jH:=Zcp.nd
 YL (own:=[]) F Zcp fun cdv A outer s H E hr G hG=>
 (Yi (own2:=[2]) (V6 (Yt jH rfl (qI rfl) Zb5))
 (Yi (own2:=[2]) (Xx (own:=[2]) qX rfl (Xn.a (own:=[2]) (X3 (va 1))) (XJ jH rfl (qI rfl) (by decide))
 (Yi (own2:=[2]) (Zby (own:=[2]) (i:=2) (L2.hu_of hr) (by decide) (pv 2) (va 3) (YT Zkf rfl T.b_len TF.boot_len (Zf (va 2) Zk)))
 (Yd (own:=[2]))))
 (Yi (own2:=[4,2]) (Zk0 (own:=[2]) (own':=[4,2]) (Yt jH rfl (qI rfl) (W1 Zk)))
 (Yi (own2:=[4]) (Xi.frz (own:=[4,2]) (own2:=[4]) (Xx (own:=[4]) qX rfl (Xn.a (own:=[4]) (Vr (ZO ZQ (va 0) ZA))) (ZdB rfl jH rfl rfl (qI rfl) (qI rfl) (by decide) (by decide) (hp:=JO (Uy jH rfl (qI rfl)) (JO (Uy jH rfl (qI rfl)) Zfd)))
 (Yi (own2:=[4]) (JY (own':=[4]) (XH.pt (BB (YD (Jd hr.units) (va 5) (va 2)) (ZbW (YD (Jd hr.units) (va 6) (va 2)))))
 (Yi (own2:=[4]) (By (own:=[4]) (i:=4) (by decide) (Xy (Zf (Zdp (L2.hu_of hr) (va 2) (va 5)) (Zf (Zdp (L2.hu_of hr) (va 2) (va 6)) Zk))) (fun _ h=>Bs (pv 4) h))
 (Yd (own:=[4])))
 Yd)
 (Yd (own:=[4])))))
 (Yi (own2:=[4]) (Z3 (Xy (Zf (Wn T.b_len (Zf (va 1) Zk)) (Zf (Vb (Up) rfl T.b_tuple TF.boot_tuple (Zf (YT Zem rfl T.b_sorted TF.boot_sorted (Zf (va 4) Zk)) Zk)) Zk))))
 (Yd (own:=[4])))))))
theorem Zal:FnScope ["_law_told","_law_weights","_law_w","_law_thing","_law_greatest","_law_hue","_law_one","_law_v","_law_places","_law_more","_law_left"] ["_law_told","_law_weights","_law_w","_law_thing"] (ZD Zaa):=YA
theorem Zba (F:Fun K "_law_is_heavy_paper" "_law_is_heavy_paper" Zaa jY jI)(T:Txt mg){Fs:List D->M D}{lv:Nat}(hlv:2<=lv)(kG:ZN P w K mg base 1 "_law_hued" 2 true ZU ZaJ)(jK:ZN P w K mg base lv "_law_is_heavy_paper" 4 false ZU Fs)(km:ZN P w K mg base 1 "_law_is_place" 2 false ZU Zah)(kH:ZN P w K mg base 2 "_law_near" 2 true ZU ZaL)(kx:ZN P w K mg base 1 "_law_part" 2 true ZU Bm)(kI:ZN P w K mg base 1 "_law_rest" 2 true ZU ZaK) :
  FnOk P w K mg base ZX (lv+1) jY jI ["_law_told","_law_weights","_law_w","_law_thing"] (Ym 4 false ZU (runB 11 4 (Be Fs))):=
 have jH:=Zal.nd
 YL (own:=[]) F Zal fun cdv A outer s H E hr G hG=>
 (Zs (Xo (XH.pt (W2 (WA (XU (YT (Vq) rfl T.b_isinstance TF.boot_isinstance (Zf (va 3) (Zf (Vv rfl T.b_tuple TF.boot_tuple) Zk))))) (W2 (YD (WO hr.units) (Wn T.b_len (Zf (va 3) Zk)) ZA) (V7 (WA (XU (YT (Vq) rfl T.b_isinstance TF.boot_isinstance (Zf (ZO ZQ (va 3) ZA) (Zf (Vv rfl T.b_str TF.boot_str) Zk)))))))))
 (Zs (Z3 (PD.weak Xr))
 ZY)
 Yd)
 (Zs (Xo (YD (WO hr.units) (va 3) (Xy (Zf VG Zk)))
 (Zs (Z3 (PD.weak (VH (VI) (YT (ZeW rfl) rfl T.b_sum TF.boot_sum (Zf (va 1) Zk)) (va 2))))
 ZY)
 Yd)
 (Zs (Xo (XH.pt (BB (YD (WO hr.units) (ZO ZQ (va 3) ZA) VG) (ZbW (YD (WO hr.units) (Wn T.b_len (Zf (va 3) Zk)) ZA))))
 (Zs (Xo (WA (XU (Z0 (kG.mono (h:=qJ (by decide) hlv)) trivial hr (Zf (va 0) (Zf (ZO ZQ (va 3) ZA) Zk)))))
 (Zs (Z3 (PD.weak Xr))
 ZY)
 Yd)
 (Yi (own2:=[4]) (V6 (Yt jH rfl (qI rfl) Zb5))
 (Yi (own2:=[4]) (Xx (own:=[4]) qX rfl (Xn.a (own:=[4]) (ZlE rfl T.b_zip (ZO ZQ (va 3) ZA) (va 1))) (ZdB rfl jH rfl rfl (qI rfl) (qI rfl) (by decide) (by decide) (hp:=JO (Uy jH rfl (qI rfl)) (JO (Uy jH rfl (qI rfl)) Zfd)))
 (Yi (own2:=[4]) (Zby (own:=[4]) (i:=4) (L2.hu_of hr) (by decide) (pv 4) (va 5) (YT (JJ rfl) rfl T.b_max TF.boot_max (Zf (va 6) (Zf (Zi4 (L2.hu_of hr) (va 4) (va 5) ZA) Zk))))
 (Yd (own:=[4]))))
 (Yi (own2:=[4]) (Z3 (PD.weak (VH (VI) (YT (Zbz rfl) rfl T.b_sum TF.boot_sum (Zf (Zg0 rfl rfl T.b_list TF.boot_list (va 4)) Zk)) (va 2))))
 (Yd (own:=[4]))))))
 Yd)
 (Zs (Xo (XH.pt (W2 (YD (Vs hr.units) (ZO ZQ (va 3) ZA) VG) (W2 (YD (Vs hr.units) (Wn T.b_len (Zf (va 3) Zk)) ZA) (V7 (WA (XU (Z0 (km.mono (h:=qJ (by decide) hlv)) trivial hr (Zf (va 0) (Zf (ZO ZQ (va 3) ZA) Zk)))))))))
 (Zs (Z3 (PD.weak Xr))
 ZY)
 Yd)
 (Zs (YM (Yt jH rfl (qI rfl) (ZO ZQ (va 3) ZA)))
 (Zs (YM (Yt jH rfl (qI rfl) (W1 (Zf (Z0 (kI.mono (h:=qJ (by decide) hlv)) trivial hr (Zf (va 0) (Zf (va 7) Zk))) (Zf (Z0 (kH.mono (h:=qJ (by decide) hlv)) trivial hr (Zf (va 0) (Zf (va 7) Zk))) Zk)))))
 (Zs (YM (JK jH rfl (qI rfl) rfl (bk ["_law_told","_law_weights","_law_w","_law_thing","_law_greatest","_law_hue","_law_one","_law_v","_law_places","_law_more","_law_left"] (ZD Zaa).names ["_law_some","_law_weights"] [none,some 1]) (X3 (va 8)) (fun _ _ _ _ _ _=>Xj) (fun _ _ _ _ _ _=>WG) (fun _ _ _ _ _ _=>(Vb (Up) rfl T.b_tuple TF.boot_tuple (Zf (XX (bk ["_law_some","_law_weights"] [((ye ".0"),PySem.NameKind.local),((ye "_law_some"),PySem.NameKind.local),((ye "tuple"),qaQ),((ye "_law_weights"),PySem.NameKind.cell)] ["_law_one","_law_weights"] [none,some 1]) (X3 (va 0)) Xj WG (ZO ZQ (va 1) (va 0))) Zk)))))
 (Zs (Xo (YD (Zk2) (ZO ZQ (va 1) (va 7)) (va 2))
 (Zs (Z3 (PD.weak Xr))
 ZY)
 Yd)
 (Zs (Xo (WA (XU (Z0 (jK) trivial hr (Zf (Z0 (kx.mono (h:=qJ (by decide) hlv)) trivial hr (Zf (va 0) (Zf (ZO ZQ (va 8) ZA) Zk))) (Zf (ZO ZQ (va 9) ZA) (Zf (va 2) (Zf (ZO ZQ (va 3) ZA) Zk)))))))
 (Zs (Z3 (PD.weak Xr))
 ZY)
 Yd)
 (Zs (YM (Yt jH rfl (qI rfl) (YO JT (va 2) (ZO ZQ (va 1) (va 7)))))
 (Zs (Z3 (Z0 (jK) trivial hr (Zf (Z0 (kx.mono (h:=qJ (by decide) hlv)) trivial hr (Zf (va 0) (Zf (ZO ZQ (va 8) ZA) Zk))) (Zf (ZO ZQ (va 9) ZA) (Zf (va 10) (Zf (ZO ZQ (va 3) ZA) Zk))))))
 ZY)))))))))))
theorem Zbf:FnScope ["_law_web_here","_law_places","_law_k","_law_other"] ["_law_web_here","_law_places"] (ZD Zbn):=YA
theorem Zdf (F:Fun K "_law_is_knot" "_law_is_knot" Zbn jY jI)(T:Txt mg)(ke:ZN P w K mg base 1 "_law_tied" 3 false ZU Us) :
  FnOk P w K mg base ZX 2 jY jI ["_law_web_here","_law_places"] (Ym 2 true ZU Zak):=
 have jH:=Zbf.nd
 YL (own:=[]) F Zbf fun cdv A outer s H E hr G hG=>
 (Zs (Xx (own:=[]) qX rfl (Ur rfl T.b_range (Wn T.b_len (Zf (va 1) Zk))) (XJ jH rfl (qI rfl) (by decide))
 (Zs (Xx (own:=[]) qX rfl (Xn.n (Vr (Zlq (va 1) Zln (Zlo (va 2))))) (XJ jH rfl (qI rfl) (by decide))
 (Zs (Xo (WA (XU (Z0 (ke.mono) trivial hr (Zf (va 0) (Zf (va 3) (Zf (ZO ZQ (va 1) (va 2)) Zk))))))
 (Zs (Z3 Xr)
 ZY)
 Yd)
 ZY))
 ZY))
 (Zs (Z3 Xr)
 ZY))
theorem Zar:FnScope ["_law_web_here","_law_found","_law_one"] ["_law_web_here","_law_found"] (ZD Zaz):=YA
theorem Zbv (F:Fun K "_law_places_right" "_law_places_right" Zaz jY jI)(T:Txt mg)(kq:ZN P w K mg base 2 "_law_is_knot" 2 true ZU Zak) :
  FnOk P w K mg base ZX 3 jY jI ["_law_web_here","_law_found"] (Ym 2 false ZU Bf):=
 have jH:=Zar.nd
 YL (own:=[]) F Zar fun cdv A outer s H E hr G hG=>
 (Zs (Xo (XH.pt (W2 (WA (XU (YT (Vq) rfl T.b_isinstance TF.boot_isinstance (Zf (va 1) (Zf (Vv rfl T.b_tuple TF.boot_tuple) Zk))))) (V7 (YD (Vs hr.units) (Zj7 rfl rfl T.b_len TF.boot_len rfl T.b_set TF.boot_set (va 1)) (Wn T.b_len (Zf (va 1) Zk))))))
 (Zs (Z3 (PD.weak Xr))
 ZY)
 Yd)
 (Zs (Xx (own:=[]) qX rfl (Xn.n (Vr (va 1))) (XJ jH rfl (qI rfl) (by decide))
 (Zs (Xo (XH.pt (W2 (WA (XU (YT (Vq) rfl T.b_isinstance TF.boot_isinstance (Zf (va 2) (Zf (Vv rfl T.b_int TF.boot_int) Zk))))) (W2 (XU (YT (Vq) rfl T.b_isinstance TF.boot_isinstance (Zf (va 2) (Zf (Vv rfl T.b_bool TF.boot_bool) Zk)))) (V7 (WA (ZeR ZA (ZeQ (VI) (va 2) (ZgF (Zfl hr.units0) (ZO ZQ (va 0) ZA)))))))))
 (Zs (Z3 (PD.weak Xr))
 ZY)
 Yd)
 ZY))
 (Zs (Z3 (ZhI (VH (WO hr.units) (Vb (Zgu) rfl T.b_list TF.boot_list (Zf (va 1) Zk)) (YT Zfu rfl T.b_sorted TF.boot_sorted (Zf (va 1) Zk))) (ZhH (Z0 (kq.mono) trivial hr (Zf (va 0) (Zf (va 1) Zk))))))
 ZY)))
def Zmt:Zb->M Out:=(Zh (Y2 (Y0 (dC (.int 3))) (ZE 2)
 (Zh (Ya 3 (Zv Bq (Zc (Za 1) (Zc (dC (.int 8)) Zg))))
 (Zh (Ya 4 (Zv Bj (Zc (Za 1) (Zc (Za 3) Zg))))
 (Zh (Ya 5 (Zv Bh (Zc (Za 3) (Zc (Za 4) Zg))))
 (Zh (Ya 6 (Zd Zj (Xf (Zc (Zv Xt (Zc (Za 1) (Zc (dC (.int 8001)) Zg))) (Zc (Zd Jq (dC (.int 10)) (dC (.int 30))) Zg))) (Zw Zk4 (Zc (Zd Ys (Zv Xt (Zc (Za 1) (Zc (dC (.int 8)) Zg))) (dC (.int 0))) Zg))))
 (Zh (Y2 (Yk (Xf (Zc (Za 5) (Zc (Zw WP (Zc (dC (.int 0)) (Zc (Zd We (Za 5) (dC (.int 1))) Zg))) (Zc (Zd Y4 (Za 5) (dC (.int 1))) (Zc (Za 6) Zg)))))) (ZE 7)
 (Zh (Ya 8 (Zv JE (Zc (Za 3) (Zc (Za 4) (Zc (Za 7) Zg)))))
 (Zh (Yn (Wk (XY (Zz (Zw Vo (Zc (Za 8) (Zc (dC (.ty "tuple")) Zg))))) (Zz (Zd Xg (Zw YR (Zc (Za 8) Zg)) (dC (.int 2)))))
 (Zh (ZF (dC (.bl false)))
 Zl)
 Zl)
 (Zh (Yn (Zz (Zd XS (Za 5) (Za 7)))
 (Zh (Yn (Wk (Zz (Zd Xg (Zd Zj (Za 8) (dC (.int 0))) (dC (.str (qA "none"))))) (XY (Zz (Zv (V1 26) (Zc (Za 3) (Zc (Za 4) (Zc (Za 7) (Zc (Zd Zj (Za 8) (dC (.int 1))) Zg))))))))
 (Zh (ZF (dC (.bl false)))
 Zl)
 Zl)
 Zl)
 (Zh (Yn (Wk (Zz (Zd Xg (Zd Zj (Za 8) (dC (.int 0))) (dC (.str (qA "knot"))))) (XY (Zz (Zv Bf (Zc (Za 3) (Zc (Zd Zj (Za 8) (dC (.int 1))) Zg))))))
 (Zh (ZF (dC (.bl false)))
 Zl)
 (Zh (Yn (Zz (Zd XS (Zw Jv (Zc (Yg [none,some 4] (XR (Zd Zj (Za 8) (dC (.int 1)))) (ZE 0) Yq (Zd Zj (Za 1) (Za 0))) Zg)) (Za 7)))
 (Zh (ZF (dC (.bl false)))
 Zl)
 Zl)
 Zl))
 Zl))
 Zl))))
 Zl))))))
 (Zh (ZF (dC (.bl true)))
 Zl))
theorem Zix:FnScope ["script","_law_pen","_law_turn","_law_told","_law_weights","_law_due","_law_far","_law_w","_law_found"] ["script"] (ZD s_law):=YA
theorem ZnG {cdv:Value}{A:Around}{outer:List Env}{s:Shared}{H:Hp}{E:XK}{L:List (Addr×Str)}(lo:Wm L)(T:Txt mg)(hr:Room 60 (A.deeper (envOfC "law" (ZD s_law) s.heap.objs.size jY cdv)))(j7:ZN P w K mg base 2 "_law_heaviest" 2 false ZU Bh)(jK:ZN P w K mg base 29 "_law_is_heavy_paper" 4 false ZU (V1 26))(jJ:ZN P w K mg base 2 "_law_next" 2 true (X8 (Wt K) L) Xt)(jR:ZN P w K mg base 3 "_law_places_right" 2 false ZU Bf)(kr:ZN P w K mg base 3 "_law_web" 2 true (X8 (Wt K) L) Bq)(j9:ZN P w K mg base 3 "_law_weighed" 2 true (X8 (Wt K) L) Bj)(jS:ZN P w K mg base 60 "settled_by_weight" 3 true (YK L) JE)(G:Gh)(hG:(X8 (Wt K) L) G) :
  WJ (Vn ZX P w K mg base ["script","_law_pen","_law_turn","_law_told","_law_weights","_law_due","_law_far","_law_w","_law_found"] "law" (ZD s_law) jY cdv A outer s H E).nox G [] [] [] false ((WM s_law).drop 1) Zmt:=
 have jH:=Zix.nd;have hT:YK L G:=jw lo hG
 (Zs (Xx (own:=[]) qX rfl (Ur rfl T.b_range ZA) (XJ jH rfl (qI rfl) (by decide))
 (Zs (YM (Yt jH rfl (qI rfl) (Z0 (kr.mono) hG hr (Zf (va 1) (Zf ZA Zk)))))
 (Zs (YM (Yt jH rfl (yL rfl) (Z0 (j9.mono) hG hr (Zf (va 1) (Zf (va 3) Zk)))))
 (Zs (YM (Yt jH rfl (qI rfl) (Z0 (j7.mono) trivial hr (Zf (va 3) (Zf (va 4) Zk)))))
 (Zs (YM (Yt jH rfl (qI rfl) (ZO ZQ (W1 (Zf (Z0 (jJ.mono) hG hr (Zf (va 1) (Zf ZA Zk))) (Zf (YO ZiN ZA ZA) Zk))) (Vb (ZhO) rfl T.b_int TF.boot_int (Zf (VH (WO hr.units) (Z0 (jJ.mono) hG hr (Zf (va 1) (Zf ZA Zk))) ZA) Zk)))))
 (Zs (Xx (own:=[]) qX rfl (Xn.n (X3 (W1 (Zf (va 5) (Zf (YT (JJ rfl) rfl T.b_max TF.boot_max (Zf ZA (Zf (YO JT (va 5) ZA) Zk))) (Zf (YO WB (va 5) ZA) (Zf (va 6) Zk))))))) (XJ jH rfl (qI rfl) (by decide))
 (Zs (YM (Yt jH rfl (qI rfl) (Z0 (jS.mono) hT hr (Zf (va 3) (Zf (va 4) (Zf (va 7) Zk))))))
 (Zs (Xo (XH.pt (W2 (WA (XU (YT (Vq) rfl T.b_isinstance TF.boot_isinstance (Zf (va 8) (Zf (Vv rfl T.b_tuple TF.boot_tuple) Zk))))) (V7 (YD (Vs hr.units) (Wn T.b_len (Zf (va 8) Zk)) ZA))))
 (Zs (Z3 (PD.weak Xr))
 ZY)
 Yd)
 (Zs (Xo (YD (VI) (va 5) (va 7))
 (Zs (Xo (XH.pt (W2 (YD (Vs hr.units) (ZO ZQ (va 8) ZA) VG) (V7 (WA (XU (Z0 (jK.mono) trivial hr (Zf (va 3) (Zf (va 4) (Zf (va 7) (Zf (ZO ZQ (va 8) ZA) Zk))))))))))
 (Zs (Z3 (PD.weak Xr))
 ZY)
 Yd)
 ZY)
 (Zs (Xo (XH.pt (W2 (YD (Vs hr.units) (ZO ZQ (va 8) ZA) VG) (V7 (WA (XU (Z0 (jR.mono) trivial hr (Zf (va 3) (Zf (ZO ZQ (va 8) ZA) Zk))))))))
 (Zs (Z3 (PD.weak Xr))
 ZY)
 (Zs (Xo (YD (VI) (YT (Zbz rfl) rfl T.b_sum TF.boot_sum (Zf (XX (bk ["script","_law_pen","_law_turn","_law_told","_law_weights","_law_due","_law_far","_law_w","_law_found"] (ZD s_law).names ["_law_place","_law_weights"] [none,some 4]) (Vr (ZO ZQ (va 8) ZA)) Xj WG (ZO ZQ (va 1) (va 0))) Zk)) (va 7))
 (Zs (Z3 (PD.weak Xr))
 ZY)
 Yd)
 ZY))
 ZY))
 ZY))))
 ZY))))))
 (Zs (Z3 (PD.weak Xr))
 ZY))
end K41
namespace K41
open L2 TF TQ
open TP
open TP2
open TP3
theorem Zcq:FnScope ["_law_pen","_law_many","_law_at","_law_cell","_law_found"] ["_law_pen","_law_many"] (ZD ZcV):=⟨rfl,rfl,rfl,by decide +kernel,rfl,by decide +kernel,by decide +kernel⟩
theorem Ziy {ds:List D}{s s':Pn}{d:D}(h:Xt ds s=some (d,s')):∃m a hd ns,ds=[.pen,.int m]/\s=([a,hd],ns)/\0<m/\m<1073741824/\0<=a/\d=.int ((X4 m a hd ns).2 % m)/\s'=([(X4 m a hd ns).1,(X4 m a hd ns).2 / m],ns):=by
 unfold Xt at h;split at h
 ·split at h
  ·rename_i m a hd ns c
   cases h
   exact⟨m,a,hd,ns,rfl,rfl,c.1,c.2.1,c.2.2,rfl,rfl⟩
  ·cases h
 ·cases h
set_option maxHeartbeats 4000000 in
theorem Zf7 {P:Program}{w:World}{K:qm}{mg:Str->Option Value}{base:Heap}{jY:Addr}{jI:FuncData}(F:Fun K "_law_next" "_law_next" ZcV jY jI)(T:Txt mg)
  (kJ:ZN P w K mg base 1 "_law_fill" 2 false ZU UY) (Zmu:∀c a s,0<=a->UY [.int c,.int a] s=some (.int (Vx c a),s)) :
  FnOk P w K mg base ZX 2 jY jI ["_law_pen","_law_many"] (Ym 2 true (Wt K) Xt):=by
 have nd:=Zcq.nd;refine F.ok Zcq (fun vs H Q E h=>?_) fun cdv A outer s0 H vs Q E hr h=>?_
 ·obtain⟨G,Hf,ds,pn,d,pn',_,e,_⟩:=h
  exact e
 ·obtain⟨G,Hf,ds,pn,d,pn',hG,el,e1,r,st',eF,k'⟩:=h
  obtain⟨p,sa,tr,rfl⟩:=hG;obtain⟨m,a,hd,ns,rfl,rfl,m0,m1,a0,rfl,rfl⟩:=Ziy eF;obtain⟨v1,v2,rfl,r1,r2⟩:=jp r
  cases (jq.mp r1)
  cases (ja.mp r2)
  obtain⟨a',h',ea,hp,ne,sq,t1,t2⟩:=st';simp only[qaK,and_true] at ea;obtain⟨rfl,rfl⟩:=ea
  -- behind: the pen's two numbers
  have fin:∀(H1:Hp) (x0 y0 x y:Int),B9 K p sa tr ([x0,y0],ns) H1->B9 K p sa tr ([x,y],ns) (Zo H1 p (.lst [.ref sa,.int x,.int y])):=fun H1 x0 y0 x y ⟨_,_,_,_,_,sq,t1,t2⟩=>by
   refine⟨x,y,rfl,Z8,ne,?_,fun ht=>?_,t2⟩
   ·rcases sq with(q | ⟨o,q⟩) | q
    ·exact .inl (.inl (by rw[Zu ne];exact q))
    ·exact .inl (.inr ⟨o,by rw[Zu ne];exact q⟩)
    ·exact .inr q
   ·obtain⟨o,q⟩:=t1 ht
    exact⟨o,by rw[Zu ne];exact q⟩
  have st0:B9 K p sa tr ([a,hd],ns) H:=⟨a,hd,rfl,hp,ne,sq,t1,t2⟩;have grH:∀(jM H1:Hp) o,ZL (UO K p sa tr) jM H1->Gr (UO K p sa tr) jM H1 jM (Zo H1 p o):=fun jM H1 o e1=>
   ⟨fun b u n q=>by rw[Zu (show b≠p from n)];exact q,.refl _ _,fun b u n q=>by rw[Zu (show b≠p from n)];exact e1 b u n q,fun b n h1 h2=>h1⟩
  refine⟨_,V5 (ZiG (Zdg ZkJ (Vh Ve (pv 0) XB (fun _ _=>rfl)) (pv 1) (BH _))
   (V5 (Jb (i:=2) nd rfl (qI rfl) (Vh Ve (pv 0) XB (fun _ _=>rfl)))
   (V5 (Jb (i:=3) nd rfl (qI rfl) XB)
   (V5 (ZiG (Zdg ZkJ (pv 2) (JP ZaA rfl T.b_len TF.boot_len (Y6 (Vh Ve (pv 0) XB (fun _ _=>rfl)) XC)) (BH _))
    (BA (Jb (i:=3) nd rfl (qI rfl) (Vh Ve (Vh Ve (pv 0) XB (fun _ _=>rfl)) (pv 2) (fun _ _=>rfl))))
    (BA (ZiG (Zdg ZnK (JP ZaA rfl T.b_len TF.boot_len (Y6 (Vh Ve (pv 0) XB (fun _ _=>rfl)) XC)) XB (BH _))
     (BA (Jb (i:=3) nd rfl (qI rfl) (Ue ZhA (Ue Zfe (Vh Ve (Vh Ve (pv 0) XB (fun _ _=>rfl)) (Ue Zfe (Ue ZhB (pv 2) XB) (JP ZaA rfl T.b_len TF.boot_len (Y6 (Vh Ve (pv 0) XB (fun _ _=>rfl)) XC))) (fun _ _=>rfl)) XB) (Ue ZhB (pv 2) XB))))
     Zfc)))
   (V5 (Zhx (Ue ZhA (pv 2) XB) (Zhw (pv 0) XB ZdA))
   (BA (Zhx (PD.canon (Zlc (G:=UO K p sa tr) kJ trivial hr rfl (Zf (ZhG 3 (pv 3)) (Zf (ZhG 2 (pv 2)) Zk)) (Xe (Xe Uw)))) (Zhw (pv 0) XB ZdA)))))))
   Zfc)
   (V5 (Jb (i:=4) nd rfl (qI rfl) (Ue Zfe (Vh Ve (pv 0) XB (fun _ _=>rfl)) (pv 1)))
   (V5 (Zhx (Ue ZmE (Vh Ve (pv 0) XB (fun _ _=>rfl)) (pv 1)) (Zhw (pv 0) XB ZdA))
   (BA (Zhv (pv 4))))),?_⟩
  -- pen[2]<many
  refine⟨_,rfl,p,[.ref sa,.int a,.int hd],2,.int hd,rfl,rfl,ZH.of hp,rfl,_,rfl,hd,m,rfl,rfl,_,rfl,?_⟩
  -- the last three rows,from any state of the pen
  have last:∀(x y:Int) (o2 o3 o4:Option V) (jM H1:Hp),Gr (UO K p sa tr) Hf H jM H1->B9 K p sa tr ([x,y],ns) H1->x=(X4 m a hd ns).1->y=(X4 m a hd ns).2->
    J6 (UJ (WV (rI (fun _ j=>0<j) fun i j=>.int (i % j)) (WV (BX K) (Y1 0) (tC (.int 2))) (Y1 1)) (J4 4))
     (J6 (UJ (WV (rI CDiv fun i j=>.int (i / j)) (WV (BX K) (Y1 0) (tC (.int 2))) (Y1 1)) (BW (Y1 0) (tC (.int 2)) BO)) (tRet (Y1 4))) { nx:=fun _ H'=>Q .non H',rt:=Q } [some (.ref p),some (.int m),o2,o3,o4] H1:=by
   intro x y o2 o3 o4 jM H1 g1 jW ex ey;obtain⟨x1,y1,exy,hp1,_⟩:=id jW;simp only[qaK,and_true] at exy;obtain⟨rfl,rfl⟩:=exy;refine⟨_,rfl,p,[.ref sa,.int x,.int y],2,.int y,rfl,rfl,ZH.of hp1,rfl,_,rfl,y,m,rfl,rfl,m0,?_⟩;refine⟨_,rfl,p,[.ref sa,.int x,.int y],2,.int y,rfl,rfl,ZH.of hp1,rfl,_,rfl,y,m,rfl,rfl,⟨m0,m1⟩,_,rfl,p,[.ref sa,.int x,.int y],2,2,rfl,rfl,hp1,rfl,?_⟩;refine⟨_,rfl,?_⟩;have jV:=fin H1 x y x (y / m) jW;subst ex ey;exact k' _ jM _ (g1.trans (grH _ _ _ g1.fh)) jV (ja.mpr rfl) fun _=>.scal fun z=>z
  by_cases hlt:hd<m
  ·rw[decide_eq_true hlt]
   refine UM ?_;refine⟨_,rfl,p,[.ref sa,.int a,.int hd],1,.int a,rfl,rfl,ZH.of hp,rfl,?_⟩
   -- the rest behind the cell
   have rest:∀c:Int,c=BS ns a->
     J6 (UJ (WV (VE fun i j=>.int (i+j)) (Y1 2) (tC (.int 1))) (BW (Y1 0) (tC (.int 1)) BO)) (UJ (tOf (UO K p sa tr) false (Zv UY (Zc (Za 3) (Zc (Za 2) Zg)))) (BW (Y1 0) (tC (.int 2)) BO)) ({ nx:=(J6 (UJ (WV (rI (fun _ j=>0<j) fun i j=>.int (i % j)) (WV (BX K) (Y1 0) (tC (.int 2))) (Y1 1)) (J4 4)) (J6 (UJ (WV (rI CDiv fun i j=>.int (i / j)) (WV (BX K) (Y1 0) (tC (.int 2))) (Y1 1)) (BW (Y1 0) (tC (.int 2)) BO)) (tRet (Y1 4))) { nx:=fun _ H'=>Q .non H',rt:=Q }),rt:=Q }:Ends) [some (.ref p),some (.int m),some (.int a),some (.int c),none] H:=by
    intro c ec;refine⟨_,rfl,a,1,rfl,rfl,_,rfl,p,[.ref sa,.int a,.int hd],1,1,rfl,rfl,hp,rfl,?_⟩;have g1:=grH Hf H (.lst [.ref sa,.int (a+1),.int hd]) e1;refine⟨Hf,[none,none,some (.int a),some (.int c)],([a+1,hd],ns),.int (Vx c a),([a+1,hd],ns),g1.fh,fun i d e=>?_,fin H a hd (a+1) hd st0,?_,fun v Hf' H' g st r _=>?_⟩
    ·match i,e with
     | 0,e=>cases e
     | 1,e=>cases e
     | 2,e=>cases e;exact⟨_,rfl,ja.mpr rfl⟩
     | 3,e=>cases e;exact⟨_,rfl,ja.mpr rfl⟩
     | i+4,e=>simp at e
    ·exact Zmu c a _ a0
    ·rw[ja.mp r]
     obtain⟨x1,y1,exy,hp1,_⟩:=id st;simp only[qaK,and_true] at exy;obtain⟨rfl,rfl⟩:=exy;refine⟨_,rfl,p,[.ref sa,.int (a+1),.int hd],2,2,rfl,rfl,hp1,rfl,?_⟩;refine last (a+1) (Vx c a) _ _ _ Hf' _ ((g1.trans g).trans (grH _ _ _ g.fh)) (fin H' _ _ _ _ st) ?_ ?_
     ·unfold X4;rw[if_pos hlt]
     ·unfold X4;rw[if_pos hlt,ec]
   refine⟨_,rfl,_,rfl,p,[.ref sa,.int a,.int hd],0,.ref sa,rfl,rfl,ZH.of hp,rfl,sa,ns.map V.int,rfl,.inl sq,a,_,rfl,rfl,_,rfl,?_⟩;have lm:((ns.map V.int).length:Int)=(ns.length:Int):=by simp
   by_cases h2:a<ns.length
   ·rw[lm,decide_eq_true h2]
    refine UM ?_;have hi:a.toNat<ns.length:=by omega
    have gi:(ns.map V.int)[a.toNat]?=some (.int (ns.getD a.toNat 0)):=by simp[qaF,hi]
    have ai:Xu (ns.map V.int) a=some (.int (ns.getD a.toNat 0)):=by
     have q:=WL gi
     rwa[qbZ a0] at q
    refine⟨_,rfl,p,[.ref sa,.int a,.int hd],0,.ref sa,rfl,rfl,ZH.of hp,rfl,_,rfl,sa,ns.map V.int,a,_,rfl,rfl,sq,ai,?_⟩;exact rest _ (by unfold BS;rw[if_pos h2])
   ·rw[lm,decide_eq_false h2]
    refine UL ?_;refine⟨_,rfl,p,[.ref sa,.int a,.int hd],0,.ref sa,rfl,rfl,ZH.of hp,rfl,sa,ns.map V.int,rfl,.inl sq,_,0,rfl,rfl,_,rfl,?_⟩;by_cases h3:(0:Int)<ns.length
    ·rw[lm,decide_eq_true h3]
     refine UM ?_;have j0:=yN (a*7) (show(ns.length:Int)≠0 by omega);have j1:=qai (a*7) h3;have hi:(a*7 % (ns.length:Int)).toNat<ns.length:=by omega
     have gi:(ns.map V.int)[(a*7 % (ns.length:Int)).toNat]?=some (.int (ns.getD (a*7 % (ns.length:Int)).toNat 0)):=by simp[qaF,hi]
     have ai:Xu (ns.map V.int) (a*7 % (ns.length:Int))=some (.int (ns.getD (a*7 % (ns.length:Int)).toNat 0)):=by
      have q:=WL gi
      rwa[qbZ j0] at q
     refine⟨_,rfl,p,[.ref sa,.int a,.int hd],0,.ref sa,rfl,rfl,ZH.of hp,rfl,_,rfl,a,7,rfl,rfl,.inr ⟨by decide,by decide⟩,_,rfl,p,[.ref sa,.int a,.int hd],0,.ref sa,rfl,rfl,ZH.of hp,rfl,sa,ns.map V.int,rfl,.inl sq,a*7,_,rfl,rfl,(by rw[lm];exact h3),sa,ns.map V.int,_,_,rfl,rfl,sq,(by rw[lm];exact ai),_,1000003,rfl,rfl,(by show(0:Int)<1000003;decide),_,rfl,a,1000003,rfl,rfl,.inr ⟨by decide,by decide⟩,_,_,rfl,rfl,?_⟩;exact rest _ (by unfold BS;rw[if_neg h2,if_pos (by omega)])
    ·rw[lm,decide_eq_false h3]
     refine UL ?_;exact rest 0 (by unfold BS;rw[if_neg h2,if_neg (by omega)])
  ·rw[decide_eq_false hlt]
   refine UL ?_;exact last a hd none none none Hf H (.refl e1) st0 (by unfold X4;rw[if_neg hlt]) (by unfold X4;rw[if_neg hlt])
end K41
namespace TF
open L2
theorem ux0 {α:Type}(us:List α)(e:us.length=0):us=[]:=by cases us with | nil=>rfl | cons=>cases e
theorem ux1 {α:Type}(us:List α)(e:us.length=1):∃a,us=[a]:=by
 cases us with | nil=>cases e | cons a r=>cases ux0 r (qal e);exact⟨a,rfl⟩
theorem ux2 {α:Type}(us:List α)(e:us.length=2):∃a b,us=[a,b]:=by
 cases us with | nil=>cases e | cons a r=>obtain⟨b,rfl⟩:=ux1 r (qal e);exact⟨a,b,rfl⟩
theorem ux3 {α:Type}(us:List α)(e:us.length=3):∃a b c,us=[a,b,c]:=by
 cases us with | nil=>cases e | cons a r=>obtain⟨b,c,rfl⟩:=ux2 r (qal e);exact⟨a,b,c,rfl⟩
theorem ux4 {α:Type}(us:List α)(e:us.length=4):∃a b c d,us=[a,b,c,d]:=by
 cases us with | nil=>cases e | cons a r=>obtain⟨b,c,d,rfl⟩:=ux3 r (qal e);exact⟨a,b,c,d,rfl⟩
theorem ux5 {α:Type}(us:List α)(e:us.length=5):∃a b c d f,us=[a,b,c,d,f]:=by
 cases us with | nil=>cases e | cons a r=>obtain⟨b,c,d,f,rfl⟩:=ux4 r (qal e);exact⟨a,b,c,d,f,rfl⟩
def IsC (K:qm)(x:Str)(st:Stmt)(c:Addr):Prop:=∃(f:Addr) (fd:FuncData),qbi K mainGlobals x=some (some (.ref f))/\Fun K x x st f fd/\fd.code=.ref c
def fnO (x:Str)(st:Stmt)(pm:Value)(c:Addr):Obj:=⟨.type "function",none,.func (yg x x (Vf st) (WM st) (ZD st) .none .none .none pm none (.ref c) .none),#[]⟩
def cdO (x:Str)(t:Nat)(ln ac:Int)(a:Addr)(tx k:Nat)(v:Bool):Obj:=
 ⟨.type "code",none,.fields #[.str x t,.str x (t+1),.str "/claim/cut.py" (t+2),.int ln 0,.int ac 0,.int 0 0,.int 0 0,.int 3 0,.ref a,.bool true,.int tx 0,.ref (a+1),.none,
  (match v with | true=>.ref (a+2) | false=>.none),(match v with | true=>.ref (a+3) | false=>.none),.ref (match v with | true=>a+4 | false=>a+2),.int k 0,.int ln 0,.str "/claim/cut.py" (k+1)],#[]⟩
structure DRow where
 x:Str
 i:Nat
 t:Nat
 ln:Int
 ac:Int
 a:Addr
 k:Nat
 v:Bool
 pm:Str
 pt:Nat
def DRow.c (r:DRow):Addr:=match r.v with | true=>r.a+5 | false=>r.a+3
def dE (P:Params)(x:Str)(t:Nat)(v:Value):DictEntry:=⟨PyData.keyHash P x,.str x t,v⟩
abbrev nE (x:Str)(t:Nat)(a:Addr):Str×Nat×Addr:=(x,t,a)
abbrev dR (x:Str)(i t:Nat)(ln ac:Int)(a:Addr)(k:Nat)(v:Bool)(pm:Str)(pt:Nat):DRow:=⟨x,i,t,ln,ac,a,k,v,pm,pt⟩
def dRs (P:Params)(l:List (Str×Nat×Addr)):List DictEntry:=l.map fun e=>dE P e.1 e.2.1 (.ref e.2.2)
def ZpP (Yb:Nat->Stmt)(tx:Nat)(m:List DictEntry)(n:Nat)(rs:List DRow):qm:=
 (mainNs,⟨.type "dict",none,.dict m.toArray n,#[]⟩)::rs.flatMap fun r=>[(r.c,cdO r.x r.t r.ln r.ac r.a tx r.k r.v),(r.c+1,fnO r.x (Yb r.i) (.str r.pm r.pt) r.c)]
theorem ZpQ {K:qm}{x:Str}{st:Stmt}{pm:Value}{c f:Addr}(a:qbi K mainGlobals x=some (some (.ref f)))(l:K.lookup f=some (fnO x st pm c))(cd:qan K (.ref c) x=true):IsC K x st c:=
 ⟨f,_,a,ZoI l cd (by unfold z9;dsimp only;rw[l];rfl),rfl⟩
def Zpd:Stmt->Pos
 | .FunctionDef _ _ _ _ _ _ _ _ _ p=>p
 | _=>⟨0,0,0,0⟩
abbrev Ziz (st:Stmt):DefRec:=⟨"law",Vf st,WM st,ZD st,Zpd st⟩
theorem head_of {l:PySem.W.OpenLaw}{q:Program}{K:Params->qm}{as:List Addr}{e:∀P,as=(K P).map (·.1)}{N:Nat}{st:Stmt}(said:l.wellSaid=true)
  (left:PySem.W.LeftO l.prog q [] (fun s=>PySem.W.xlAt q [] s&&PySem.W.recOk l.row.records s) (yJ K as e).obs (yJ K as e).val N)
  (hdef:PySem.W.defOf q l.row.name=some (Ziz st,[])) (hp:l.row.prog.theDef l.row.name=some (Vf st,WM st,ZD st))
  (hk:PySem.W.kwWritten? (Vf st).kwonlyargs (Vf st).kw_defaults=some [])
  (ok:(PySem.W.chainsOk q&&PySem.W.opensWell l.row.prog&&(PySem.W.frees l.row.toRowW&&l.row.within.isEmpty))=true) (hb:l.row.prog.bare) (hw:l.row.toRowW.promised) (hwr:(!l.row.writes||l.row.records.isEmpty)=true)
  (call:qbP q [] (PySem.W.XL q []) (yJ K as e).says l.row.toRowW (Ziz st) [] fun f vs=>qbJ f vs):l.Holds:=
 PySem.W.holds_law said fun sd=>PySem.W.holds_open left (yJ K as e).of (yJ K as e).keeps (fun s z=>PySem.W.xl_of s (zZ.mp z).1) PySem.W.XL.keeps hdef hp hk (fun s z=>PySem.W.recFacts_of (zZ.mp z).2) hwr sd ok hb hw call
def AtR (K:qm)(mg:Str->Option Value)(Yb:Nat->Stmt)(r:DRow):Prop:=∃(f:Addr) (fd:FuncData),Fun K r.x r.x (Yb r.i) f fd/\mg r.x=some (.ref f)/\fd.code=.ref r.c
def Zn8 (K:qm)(Yb:Nat->Stmt)(r:DRow):Prop:=qbi K mainGlobals r.x=some (some (.ref (r.c+1)))/\K.lookup (r.c+1)=some (fnO r.x (Yb r.i) (.str r.pm r.pt) r.c)/\qan K (.ref r.c) r.x=true
def Zf8 (K:qm)(Yb:Nat->Stmt):List DRow->Prop
 | []=>True
 | r::l=>Zn8 K Yb r/\Zf8 K Yb l
theorem Zhp {K:qm}{Yb:Nat->Stmt}:∀{l:List DRow} {j:Nat} {r:DRow},Zf8 K Yb l->l[j]?=some r->Zn8 K Yb r
 | _::_,0,_,h,e=>by cases e;exact h.1
 | _::l,j+1,_,h,e=>Zhp (l:=l) h.2 e
theorem Zpe {K:qm}{h:Heap}{mg:Str->Option Value}{Yb:Nat->Stmt}{l:List DRow}(ok:Zf8 K Yb l)(X:K.In h)(G:h.Ns mainGlobals mg)(j:Nat){r:DRow}(e:l[j]?=some r:=by rfl):AtR K mg Yb r:=by
 obtain⟨a,b,c⟩:=Zhp ok e;obtain⟨f,fd,a,F,d⟩:=ZpQ a b c;exact⟨f,fd,F,PySem.W.mg_of X G a,d⟩
theorem bdc {K:qm}{x:Str}{st:Stmt}{f:Addr}{fd:FuncData}(ps:List Str)(F:Fun K x x st f fd)
  (h:∀(kV doc pm:Value) (an:Option Addr) (cdv ct:Value) (us:List Value),us.length=ps.length->bindArgs (yg x x (Vf st) (WM st) (ZD st) .none kV doc pm an cdv ct) ⟨us,[]⟩=pure (ps.zip us):=by
   intro _ _ _ _ _ _ us hl
   first
    | (obtain⟨_,rfl⟩:=TF.ux1 us hl;rfl)
    | (obtain⟨_,_,rfl⟩:=TF.ux2 us hl;rfl)
    | (obtain⟨_,_,_,rfl⟩:=TF.ux3 us hl;rfl)
    | (obtain⟨_,_,_,_,rfl⟩:=TF.ux4 us hl;rfl)
    | (obtain⟨_,_,_,_,_,rfl⟩:=TF.ux5 us hl;rfl)
    | (obtain⟨_,_,_,_,_,_,rfl⟩:=TF.ux6 us hl;rfl)
    | (obtain⟨_,_,_,_,_,_,_,rfl⟩:=TF.ux7 us hl;rfl)
    | (obtain rfl:=TF.ux0 us hl;rfl)):WF K fd ps []:=F.binds h
theorem mkc {P:Program}{w:World}{K:qm}{mg:Str->Option Value}(base:Heap){x:Str}{st:Stmt}{f:Addr}{fd:FuncData}{k n:Nat}{ps:List Str}{fr:Bool}{GG:Gh->Prop}{F9:List D->M D}(F:Fun K x x st f fd)(m:mg x=some (.ref f))(ok:FnOk P w K mg base ZX k f fd ps (Ym n fr GG F9))
  (h:∀(kV doc pm:Value) (an:Option Addr) (cdv ct:Value) (us:List Value),us.length=ps.length->bindArgs (yg x x (Vf st) (WM st) (ZD st) .none kV doc pm an cdv ct) ⟨us,[]⟩=pure (ps.zip us):=by
   intro _ _ _ _ _ _ us hl
   first
    | (obtain⟨_,rfl⟩:=TF.ux1 us hl;rfl)
    | (obtain⟨_,_,rfl⟩:=TF.ux2 us hl;rfl)
    | (obtain⟨_,_,_,rfl⟩:=TF.ux3 us hl;rfl)
    | (obtain⟨_,_,_,_,rfl⟩:=TF.ux4 us hl;rfl)
    | (obtain⟨_,_,_,_,_,rfl⟩:=TF.ux5 us hl;rfl)
    | (obtain⟨_,_,_,_,_,_,rfl⟩:=TF.ux6 us hl;rfl)
    | (obtain⟨_,_,_,_,_,_,_,rfl⟩:=TF.ux7 us hl;rfl)
    | (obtain rfl:=TF.ux0 us hl;rfl)):ZN P w K mg base k x n fr GG F9:=⟨f,fd,ps,ok,m,F.kp,F.binds h⟩
end TF
namespace TP
open TF L2
theorem Zmu:∀c a s,0<=a->UY [.int c,.int a] s=some (.int (Vx c a),s):=by
 intro c a s ha;have hx0:=yN (c % 2147483647*48271+a*69621+11) (show(2147483629:Int)≠0 by decide);have hx1:=qai (c % 2147483647*48271+a*69621+11) (show(0:Int)<2147483629 by decide);by_cases hc:10 ^ 18<=c
 ·have e:Vx c a=c:=by unfold Vx;rw[if_pos hc]
  rw[e];have:(1000000000000000000:Int)<=c:=by simpa using hc
  simp[UY,runB,Zbg,Zh,Yn,Zz,Zd,VY,dI,Za,dC,Zn,Zx,YF,Jq,ZF,Zl,this]
 ·have e:¬(1000000000000000000:Int)<=c:=fun z=>hc (by simpa using z)
  generalize hx:(c % 2147483647*48271+a*69621+11) % 2147483629=x at hx0 hx1;have hy0:=yN (x*x+48271*x+a) (show(2147483587:Int)≠0 by decide);have hy1:=qai (x*x+48271*x+a) (show(0:Int)<2147483587 by decide);generalize hy:(x*x+48271*x+a) % 2147483587=y at hy0 hy1;have ef:Vx c a=y*2147483579+(y*y+69621*a) % 2147483579:=by
   unfold Vx;rw[if_neg hc];dsimp only;rw[hx,hy]
  rw[ef];have m1:∀z:Int,0<=z->z<2147483648->∀w,J5 z w=true:=fun z h1 h2 w=>by
   unfold J5;simp;left;omega
  have m2:∀z w:Int,0<=z->z<2147483648->J5 w z=true:=fun z w h1 h2=>by
   unfold J5;simp;right;omega
  simp[UY,runB,Zbg,Zh,Yn,Zz,Zd,VY,dI,Za,dC,Zn,Zx,YF,Jq,ZF,Zl,Ya,UN,Uj,Y4,e,hx,hy,m1 x hx0 (by omega),m1 y hy0 (by omega),m2 48271 _ (by decide) (by decide),m2 69621 _ (by decide) (by decide),m1 48271 (by decide) (by decide),m1 69621 (by decide) (by decide),m2 2147483579 _ (by decide) (by decide)]
end TP
namespace TQ
open L2 TF TS
open TP
open TP2
open TP3
theorem JD (a b:Int):XS (.int a) (.int b)=some (.bl (decide (a<=b))):=rfl
theorem Zpf (x:Str):Ys (.str x) (.str x)=some (.bl true):=ZfO rfl (by simp[Z7])
theorem ZiA (x:Str):Xg (.str x) (.str x)=some (.bl false):=Znu rfl (by simp[Z7])
theorem Zjm (W:List Nat):Zi5 [Zi W]=some (nD W.sum):=by
 show(ZM (W.map nD)).map (fun ns=>D.int ns.sum)=_;rw[Bv];show some (D.int (Yl W).sum)=_;rw[Zce]
theorem Zec (n:Nat)(jD:List (Nat×Nat))(v:Nat)(hn:n<=1000)(s:Pn):Zad [Zt n jD,nD v] s=some (.lst ((Yh n v).map nD),s):=by
 have hc:=Xk (src:=[none,some 1]) (fi:=Y0 (Zd Zj (Za 0) (dC (.int 0)))) (τ:=ZE 0) (ft:=Zz (Zd Xg (Za 0) (Za 1))) (fe:=Za 0) (ρ:=[some (Zt n jD),some (nD v)]) (s:=s) (ds:=Yp 0 n) (fun d=>[some d,some (nD v)]) (fun d=>!decide (Yc d=v)) (fun d=>d) (Wp (Zq (d:=Zt n jD) (e:=.int 0) rfl rfl WT) (by omega)) (by rw[X2,YG];omega) (fun d hd=>by
  obtain⟨x,hx,rfl⟩:=U1 hd;exact⟨rfl,ZV (Zq (d:=nD x) (e:=nD v) rfl rfl (BN x v)),fun _=>rfl⟩)
 have e:((Yp 0 n).filter fun d=>!decide (Yc d=v)).map (fun d=>d)=(Yh n v).map nD:=by
  rw[V8,yi,qH];rfl
 rw[e] at hc;exact Y7 rfl (YW (Y8 hc))
theorem Zpg (n:Nat)(jD:List (Nat×Nat))(v:Nat)(hn:n<=1000)(s:Pn):VJ [Zt n jD,nD v] s=some (.lst ((Yf n jD v).map nD),s):=Zm8 n jD v s (by omega)
theorem Zhq {n:Nat}{W:List Nat}(hl:W.length=n){ps:List Nat}(hp:∀p∈ps,p<n)(hpl:ps.length<=1000)(s:Pn):Zag [Zi W,.lst (ps.map nD)] s=some (Zi (Yu W ps),s):=by
 have hc:=Xk (src:=[none,some 0]) (fi:=Yk (Za 1)) (τ:=ZE 0) (ft:=Yq) (fe:=Zd Zj (Za 1) (Za 0)) (ρ:=[some (Zi W),some (.lst (ps.map nD))]) (s:=s) (ds:=ps.map nD) (fun d=>[some d,some (Zi W)]) (fun _=>true) (fun d=>nD (W.getD (Yc d) 0)) (X9 rfl) (by rw[qd,YG];omega) (fun d hd=>by
  obtain⟨x,hx,rfl⟩:=qC.mp hd;exact⟨rfl,rfl,fun _=>Zq (d:=Zi W) (e:=nD x) rfl rfl (WE (by have:=hp x hx;omega))⟩)
 rw[WY,qH] at hc;refine Y7 rfl (YW (Y8 (Z1 (Ze hc rfl) ?_)));show some (D.tup _)=some (D.tup _);rw[qH];rfl
theorem ZpR (a b c:D)(r:List D):Xu (a::b::c::r) 2=some c:=by
 show Xu _ ((2:Nat):Int)=_;exact WL rfl
theorem ZpS (a b c d:D)(r:List D):Xu (a::b::c::d::r) 3=some d:=by
 show Xu _ ((3:Nat):Int)=_;exact WL rfl
end TQ
namespace TQ
open L2 TF TS
open TP
open TP2
open TP3
theorem Zmv (n:Nat)(jD:List (Nat×Nat))(v:Nat)(hn:n<=1000)(s:Pn):ZaK [Zt n jD,nD v] s=some (.lst ((Yh n v).map nD),s):=Zec n jD v hn s
theorem Zmw (n:Nat)(jD:List (Nat×Nat))(v:Nat)(hn:n<=1000)(s:Pn):ZaL [Zt n jD,nD v] s=some (.lst ((Yf n jD v).map nD),s):=by
 have hc:=Xk (src:=[none,some 0,some 1]) (fi:=Y0 (Zd Zj (Za 0) (dC (.int 0)))) (τ:=ZE 0) (ft:=Zz (Zv Us (Zc (Za 1) (Zc (Za 0) (Zc (Za 2) Zg))))) (fe:=Za 0) (ρ:=[some (Zt n jD),some (nD v)]) (s:=s) (ds:=Yp 0 n) (fun d=>[some d,some (Zt n jD),some (nD v)]) (fun d=>tied jD v (Yc d)) (fun d=>d) (Wp (Zq (d:=Zt n jD) (e:=.int 0) rfl rfl WT) (by omega)) (by rw[X2,YG];omega) (fun d hd=>by
  obtain⟨x,hx,rfl⟩:=U1 hd;refine⟨rfl,ZV (Z4 (Ze rfl (Ze rfl (Ze rfl rfl))) ?_),fun _=>rfl⟩;rw[show tied jD v (Yc (nD x))=tied jD x v from Uv jD v x];exact ZcO n jD x v s)
 have e:((Yp 0 n).filter fun d=>tied jD v (Yc d)).map (fun d=>d)=(Yf n jD v).map nD:=by
  rw[V8,yi,qH];rfl
 rw[e] at hc;exact Y7 rfl (YW (Y8 hc))
def Ww (ps:List Nat)(t:Nat×Nat):Bool:=decide (t.1∈ps)&&decide (t.2∈ps)
def Jx (ps:List Nat)(t:Nat×Nat):Nat×Nat:=(ps.idxOf t.1,ps.idxOf t.2)
theorem JW {ps:List Nat}{x:Nat}(h:x∈ps):ps.idxOf x<ps.length/\ps.getD (ps.idxOf x) 0=x:=by
 have hl:=zW.mpr h;refine⟨hl,?_⟩;rw[qj,qk hl];exact qak hl
theorem Zf9 {ps:List Nat}(nd:ps.Nodup){i:Nat}(h:i<ps.length):ps.idxOf (ps.getD i 0)=i:=by
 have e:ps.getD i 0=ps[i]:=by rw[qj,qk h];rfl
 rw[e];exact nd.idxOf_getElem i h
theorem ZkA {n:Nat}{jD:List (Nat×Nat)}(hw:IsWeb n jD){ps:List Nat}(hr:ps.Pairwise (· < ·)):((jD.filter (Ww ps)).map (Jx ps)).Perm (YY jD ps):=by
 have nd:=U3 hr;have hlt:∀t∈jD,t.1<t.2:=fun t ht=>(hw.mem ht).1;refine(z7 ?_ ((ZbP _).sublist zh)).mpr fun p=>?_
 ·refine zO.mpr (((yI.and_mem.mp (((ZbP n).sublist hw).sublist (zh (p:=Ww ps)))).imp fun {a b} h e=>?_))
  obtain⟨ha,hb,ne⟩:=h;have ha:=(qB.mp ha).2;have hb:=(qB.mp hb).2;simp only[Ww,qL,decide_eq_true_eq] at ha hb;injection e with e1 e2;refine ne (Prod.ext ?_ ?_)
  ·rw[<-(JW ha.1).2,<-(JW hb.1).2,e1]
  ·rw[<-(JW ha.2).2,<-(JW hb.2).2,e2]
 ·constructor
  ·intro h
   obtain⟨t,ht,rfl⟩:=qC.mp h;obtain⟨h1,h2⟩:=qB.mp ht;simp only[Ww,qL,decide_eq_true_eq] at h2;have i1:=JW h2.1;have i2:=JW h2.2;have l:=hlt t h1;have hij:ps.idxOf t.1<ps.idxOf t.2:=by
    rcases yt (ps.idxOf t.1) (ps.idxOf t.2) with z | z | z
    ·exact z
    ·rw[z,i2.2] at i1;omega
    ·have:=zw.mp hr _ _ i2.1 i1.1 z
     have e1:=i1.2;have e2:=i2.2;rw[qj,qk i1.1] at e1;rw[qj,qk i2.1] at e2;simp only[Option.getD_some] at e1 e2;omega
   refine qB.mpr ⟨Ux.mpr ⟨hij,i2.1⟩,?_⟩;show tied jD (ps.getD (ps.idxOf t.1) 0) (ps.getD (ps.idxOf t.2) 0)=true;rw[i1.2,i2.2,Uz l];simpa using h1
  ·intro h
   obtain⟨h1,h2⟩:=qB.mp h;obtain⟨h3,h4⟩:=Ux.mp h1;have hl:ps.getD p.1 0<ps.getD p.2 0:=by
    have:=zw.mp hr p.1 p.2 (by omega) h4 h3;rw[qj,qk (show p.1<ps.length by omega),qj,qk h4];exact this
   rw[Uz hl] at h2;have m1:ps.getD p.1 0∈ps:=by rw[qj,qk (show p.1<ps.length by omega)];exact zu _
   have m2:ps.getD p.2 0∈ps:=by rw[qj,qk h4];exact zu _
   refine qC.mpr ⟨(ps.getD p.1 0,ps.getD p.2 0),qB.mpr ⟨by simpa using h2,by simp only[Ww,qL,decide_eq_true_eq];exact⟨m1,m2⟩⟩,?_⟩;show(ps.idxOf (ps.getD p.1 0),ps.idxOf (ps.getD p.2 0))=p;rw[Zf9 nd (by omega),Zf9 nd h4]
theorem Zmx {n:Nat}{jD:List (Nat×Nat)}{ps:List Nat}(nd:ps.Nodup)(hp:ps.length<=1000)(hl:jD.length<=100000){srt:List D->Option D}{t':List (Nat×Nat)}
  (hsrt:srt [.lst (((jD.filter (Ww ps)).map (Jx ps)).map ZP)]=some (.lst (t'.map ZP))) (s:Pn) :
  runB 7 2 (Zh (Wr 2 (dC (.dk [])))
 (Zh (Y2 (fun ρ=>(Yk (Za 1)) (Ye [2] ρ)) (ZE 3)
 (Zh (VO 2 (fun ρ=>(Za 3) (Ye [2] ρ)) (WW true (Zw Zi8 (Zc (Za 2) Zg))))
 Zl))
 (Zh (Wr 4 (fun ρ=>(Xf Zg) (Ye [2] ρ)))
 (Zh (Y2 (fun ρ=>(XR (Zd Zj (Za 0) (dC (.int 1)))) (Ye [4] ρ)) (BP 5 6)
 (Zh (Yn (XZ (Zz (Zd YZ (Za 5) (Za 2))) (Zz (Zd YZ (Za 6) (Za 2))))
 (Zh (VU 4 (fun ρ=>(Yr (Zc (Zd Vp (Za 2) (Za 5)) (Zc (Zd Vp (Za 2) (Za 6)) Zg))) (Ye [4] ρ)))
 Zl)
 Zl)
 Zl))
 (Zh (ZF (Yr (Zc (Zw YR (Zc (Za 1) Zg)) (Zc (Zw WN (Zc (Zw srt (Zc (Za 4) Zg)) Zg)) Zg))))
 Zl))))) [Zt n jD,.lst (ps.map nD)] s=some (Zt ps.length t',s):=by
 refine jo (Ok.runB rfl (Ok.seq (Ok.sown (.eq (a:=.dk []) rfl ⟨rfl,?_⟩))));refine Ok.seq (.sfor (fun k ρ s'=>s'=s/\k<=ps.length/\∃o3,ρ=[some (Zt n jD),some (.lst (ps.map nD)),some (.dk (ZS (ps.take k) ps.idxOf)),o3,none,none,none]) (.eq (a:=ps.map nD) (s':=s) (X9 rfl) ⟨⟨rfl,za _,none,by rw[yk];rfl⟩,fun k d ρ s' hd hI=>?_,fun ρ' s' hI=>?_⟩))
 ·obtain⟨rfl,_,o3,rfl⟩:=hI
  rw[qy] at hd;obtain⟨x,hx,rfl⟩:=zi.mp hd;have hk:=(qD.mp hx).1;refine⟨_,rfl,?_⟩;have hxk:ps.getD k 0=x:=by rw[qj,hx];rfl
  have hix:ps.idxOf x=k:=by rw[<-hxk];exact Zf9 nd hk
  have hnot:x∉ps.take k:=fun z=>by
   obtain⟨j,hj,e⟩:=qbO.mp z;rw[zt] at hj;have e2:ps.getD j 0=x:=by rw[qj,qk (show j<ps.length by omega)];rw[List.getElem_take] at e;exact e
   have:=Zf9 nd (show j<ps.length by omega);rw[e2,hix] at this;omega
  have hv:(WW true (Zw Zi8 (Zc (Za 2) Zg))) [some (Zt n jD),some (.lst (ps.map nD)),some (.dk (ZS (ps.take k) ps.idxOf)),some (nD x),none,none,none] s'=some (nD k,s'):=
   Zfi (Z1 (Ze rfl rfl) (by
    show some (D.int ((ZS (ps.take k) ps.idxOf).length:Int))=_;unfold ZS;rw[qd,zt,qbs (by omega)])) rfl
  refine Ok.seq (.eq (Zds hv (x:=nD x) rfl (kvs:=ZS (ps.take k) ps.idxOf) rfl rfl rfl (by unfold ZS;rw[qd,zt,YG];omega)) (.next ⟨_,rfl,rfl,by omega,some (nD x),?_⟩));have hput:Yo (ZS (ps.take k) ps.idxOf) (qZ ((x:Nat):Int)) (.int ((k:Nat):Int))=ZS (ps.take (k+1)) ps.idxOf:=by
   rw[Zdr hnot,JN hx];refine Ze2 fun q _=>?_;by_cases e:q=x
   ·rw[if_pos e,e,hix]
   ·rw[if_neg e]
  rw[<-hput];rfl
 ·obtain⟨rfl,_,o3,rfl⟩:=hI
  rw[qd,zN];refine Ok.seq (Ok.sown (.eq (a:=.lst []) (Ud rfl (za _)) ⟨rfl,?_⟩));refine Ok.seq (.sfor (fun k ρ s1=>s1=s'/\k<=jD.length/\∃o5 o6,ρ=[some (Zt n jD),some (.lst (ps.map nD)),some (.dk (ZS ps ps.idxOf)),o3,some (.lst ((((jD.take k).filter (Ww ps)).map (Jx ps)).map ZP)),o5,o6]) (.eq (a:=jD.map ZP) (s':=s') (V9 (Zq (d:=Zt n jD) (e:=.int 1) rfl rfl web1)) ⟨⟨rfl,za _,none,none,by rw[yk];rfl⟩,fun k d ρ s1 hd hI=>?_,fun ρ' s1 hI=>?_⟩))
  ·obtain⟨rfl,_,o5,o6,rfl⟩:=hI
   rw[qy] at hd;obtain⟨t,ht,rfl⟩:=zi.mp hd;have hk:=(qD.mp ht).1;refine⟨_,rfl,?_⟩;have et:jD.take (k+1)=jD.take k ++ [t]:=by rw[qaV,ht];rfl
   have hL:(((jD.take k).filter (Ww ps)).map (Jx ps)).length<=100000:=by
    have:=zk (Ww ps) (jD.take k);rw[qd];rw[zt] at this;omega
   have hc:XZ (Zz (Zd YZ (Za 5) (Za 2))) (Zz (Zd YZ (Za 6) (Za 2))) [some (Zt n jD),some (.lst (ps.map nD)),some (.dk (ZS ps ps.idxOf)),o3,some (.lst ((((jD.take k).filter (Ww ps)).map (Jx ps)).map ZP)),some (nD t.1),some (nD t.2)] s1=some (Ww ps t,s1):=by
    unfold Ww;exact ZiY (ZV (Zq (d:=nD t.1) (e:=.dk (ZS ps ps.idxOf)) rfl rfl (Zik _ _ _))) fun _=>ZV (Zq (d:=nD t.2) (e:=.dk (ZS ps ps.idxOf)) rfl rfl (Zik _ _ _))
   refine Ok.seq (.sif (.eq hc ?_))
   cases hi:Ww ps t with
   | true=>
    rw[if_pos rfl];have hi':=hi;simp only[Ww,qL,decide_eq_true_eq] at hi';refine Ok.seq (Ok.sapp (ds:=((((jD.take k).filter (Ww ps)).map (Jx ps)).map ZP)) rfl (by rw[qd,YG];omega) (.eq (a:=ZP (Jx ps t)) (Xz (ds:=[nD (ps.idxOf t.1),nD (ps.idxOf t.2)]) (Ze (Zq (d:=.dk (ZS ps ps.idxOf)) (e:=nD t.1) rfl rfl (ZfP hi'.1)) (Ze (Zq (d:=.dk (ZS ps ps.idxOf)) (e:=nD t.2) rfl rfl (ZfP hi'.2)) rfl)) two_le) (.next (.next ⟨_,rfl,rfl,by omega,some (nD t.1),some (nD t.2),?_⟩))));rw[et,yP,zj,zj,qaC,if_pos hi];rfl
   | false=>
    rw[if_neg (by decide)];refine .next (.next ⟨_,rfl,rfl,by omega,some (nD t.1),some (nD t.2),?_⟩);rw[et,yP,zj,zj,qaC,if_neg (by rw[hi];decide)];simp
  ·obtain⟨rfl,_,o5,o6,rfl⟩:=hI
   rw[qd,zN];exact Ok.seq (.sret (.eq (a:=Zt ps.length t') (Xz (ds:=[nD ps.length,.tup (t'.map ZP)]) (Ze (Z1 (Ze rfl rfl) (Ze0 ps)) (Ze (Z1 (Ze (Z1 (Ze rfl rfl) hsrt) rfl) rfl) rfl)) two_le) ⟨rfl,rfl⟩))
theorem Zhr {n:Nat}{jD:List (Nat×Nat)}(hw:IsWeb n jD){ps:List Nat}(hr:ps.Pairwise (· < ·))(hp:ps.length<=1000)(hl:jD.length<64)(s:Pn):Bm [Zt n jD,.lst (ps.map nD)] s=some (Zt ps.length (YY jD ps),s):=
 Zmx (U3 hr) hp (by omega) (Zhd (VF jD ps) (ZkA hw hr) (by
  have:=zk (Ww ps) jD;rw[qd];omega)) s
end TQ
namespace TQ
open L2 TF TS
open TP
open TP2
open TP3
theorem ZiB {n:Nat}{jD:List (Nat×Nat)}(hw:IsWeb n jD){f:List Nat}(R:RightH n jD f)(s:Pn):ZaJ [Zt n jD,Zi f] s=some (.bl true,s):=by
 apply jo;refine Ok.runB rfl ?_;have jO:YR [Zi f]=some (nD f.length):=by show some (D.int _)=_;rw[qd]
 refine Ok.seq (.sif (.eq (a:=false) (X5 (XM (b:=true) (ZV (Z1 (Ze rfl (Ze rfl rfl)) rfl))) (ZV (Zq (d:=nD f.length) (e:=nD n) (Z1 (Ze rfl rfl) jO) (Zq (d:=Zt n jD) (e:=.int 0) rfl rfl WT) (by rw[BN,R.len];simp)))) (.next ?_)));refine Ok.seq (.sfor (fun i ρ s'=>s'=s/\∃o2,ρ=[some (Zt n jD),some (Zi f),o2,none,none]) (.eq (a:=f.map nD) (s':=s) (V9 rfl) ⟨⟨rfl,none,rfl⟩,fun i d ρ s' hd hI=>?_,fun ρ' s' hI=>?_⟩))
 ·obtain⟨rfl,o2,rfl⟩:=hI
  rw[qy] at hd;obtain⟨x,hx,rfl⟩:=zi.mp hd;refine⟨_,rfl,?_⟩;have hi:=(qD.mp hx).1;have hxn:x<n:=by
   have:=R.lt i (by rw[<-R.len];exact hi);rw[qj,hx] at this;exact this
  have e1:XS (.int 0) (nD x)=some (.bl true):=by show some (D.bl (decide _))=_;rw[decide_eq_true (by omega)]
  have e2:W9 (nD x) (nD n)=some (.bl true):=by show some (D.bl (decide _))=_;rw[decide_eq_true (by omega)]
  have hch:Je (dC (.int 0)) (Jm XS (Za 2) (Jl W9 (Zd Zj (Za 0) (dC (.int 0))))) [some (Zt n jD),some (Zi f),some (nD x),none,none] s'=some (true,s'):=ZeS rfl (ZgH (k:=true) (b:=true) rfl e1 fun _=>ZgG (Zq (d:=Zt n jD) (e:=.int 0) rfl rfl WT) e2);refine Ok.seq (.sif (.eq (a:=false) (X5 (XM (b:=true) (ZV (Z1 (Ze rfl (Ze rfl rfl)) rfl))) (X5 (ZV (Z1 (Ze rfl (Ze rfl rfl)) rfl)) (XM (b:=true) hch))) (.next ?_)));exact .next ⟨_,rfl,rfl,some (nD x),rfl⟩
 ·obtain⟨rfl,o2,rfl⟩:=hI
  refine Ok.seq (.sfor (fun i ρ s1=>s1=s'/\∃o3 o4,ρ=[some (Zt n jD),some (Zi f),o2,o3,o4]) (.eq (a:=jD.map ZP) (s':=s') (V9 (Zq (d:=Zt n jD) (e:=.int 1) rfl rfl web1)) ⟨⟨rfl,none,none,rfl⟩,fun i d ρ s1 hd hI=>?_,fun ρ' s1 hI=>?_⟩))
  ·obtain⟨rfl,o3,o4,rfl⟩:=hI
   obtain⟨t,ht,rfl⟩:=qC.mp (zm hd);obtain⟨h1,h2⟩:=hw.mem ht;refine⟨_,rfl,?_⟩;have hne:=R.ri t.1 (by omega) t.2 h2 (by omega) (by rw[Uz h1];simpa using ht);have heq:Ys (nD (f.getD t.1 0)) (nD (f.getD t.2 0))=some (.bl false):=by
    rw[Va];congr 2;simp only[beq_eq_false_iff_ne];omega
   refine Ok.seq (.sif (.eq (a:=false) (ZV (Zq (d:=nD (f.getD t.1 0)) (e:=nD (f.getD t.2 0)) (Zq (d:=Zi f) (e:=nD t.1) rfl rfl (WE (by rw[R.len];omega))) (Zq (d:=Zi f) (e:=nD t.2) rfl rfl (WE (by rw[R.len];omega))) heq)) (.next ?_)));exact .next ⟨_,rfl,rfl,some (nD t.1),some (nD t.2),rfl⟩
  ·obtain⟨rfl,o3,o4,rfl⟩:=hI
   exact Ok.seq (.sret (.eq (a:=.bl true) rfl ⟨rfl,rfl⟩))
theorem ZkB {g g':D->D->Option D}{fa fb fc:Zb->M D}{ρ:Zb}{s:Pn}{x y:D}{k k':Bool}(h1:fa ρ s=some (x,s))(h2:fb ρ s=some (y,s))(e1:g x y=some (.bl k))(h3:k=true->∃z,fc ρ s=some (z,s)/\g' y z=some (.bl k')):BE g g' fa fb fc ρ s=some (.bl (k&&k'),s):=by
 cases k with
 | false=>simp[BE,Zn,VZ,Zx,h1,h2,e1]
 | true=>
  obtain⟨z,h3,h4⟩:=h3 rfl;simp[BE,Zn,VZ,Zx,h1,h2,e1,h3,h4]
theorem Zhs {n:Nat}{jD:List (Nat×Nat)}{v:Nat}(hv:v<n)(s:Pn):Zah [Zt n jD,nD v] s=some (.bl true,s):=by
 have e1:XS (.int 0) (nD v)=some (.bl true):=by show some (D.bl (decide _))=_;rw[decide_eq_true (by omega)]
 have e2:W9 (nD v) (nD n)=some (.bl true):=by show some (D.bl (decide _))=_;rw[decide_eq_true (by omega)]
 have hch:=ZkB (g:=XS) (g':=W9) (fa:=dC (.int 0)) (fb:=Za 1) (fc:=Zd Zj (Za 0) (dC (.int 0))) (ρ:=[some (Zt n jD),some (nD v)]) (s:=s) rfl rfl e1 fun _=>⟨_,Zq (d:=Zt n jD) (e:=.int 0) rfl rfl WT,e2⟩;exact Y7 rfl (YW (Y8 (Zh0 (Z1 (Ze rfl (Ze rfl rfl)) rfl) (Zh0 (ZiX (a:=false) (Z1 (Ze rfl (Ze rfl rfl)) rfl)) hch))))
theorem ZkC {n:Nat}{jD:List (Nat×Nat)}{W:List Nat}(hw:IsWeb n jD)(hn:n<=10)(hW:W.length=n)(hb:∀x∈W,x<=4294967296)(s:Pn):Bh [Zt n jD,Zi W] s=some (nD (((kn jD n).map (wt W)).foldl max 0),s):=by
 have hl:=hw.len (show n<=24 by omega);have hk:=Zl6 (jD:=jD) hn;refine jo (Ok.runB rfl (Ok.seq (.sset (.eq (a:=.int 0) rfl ?_))));refine Ok.seq (.sfor (fun i ρ s'=>s'=s/\∃o3,ρ=[some (Zt n jD),some (Zi W),some (nD ((((kn jD n).take i).map (wt W)).foldl max 0)),o3]) (.eq (a:=(kn jD n).map Zi) (s':=s) (X9 (Z4 (Ze rfl rfl) (ZfS n jD (by omega) (by omega) (by omega) s))) ⟨⟨rfl,none,by rw[yk];rfl⟩,fun i d ρ s' hd hI=>?_,fun ρ' s' hI=>?_⟩))
 ·obtain⟨rfl,o3,rfl⟩:=hI
  rw[qy] at hd;obtain⟨K,hK,rfl⟩:=zi.mp hd;have hKm:=zm hK;obtain⟨k1,k2,k3⟩:=WD.mp hKm;have hkl:=(BK hKm).2;refine⟨_,rfl,?_⟩;have hc:=Xk (src:=[none,some 1]) (fi:=XR (Za 3)) (τ:=ZE 0) (ft:=Yq) (fe:=Zd Zj (Za 1) (Za 0)) (ρ:=[some (Zt n jD),some (Zi W),some (nD ((((kn jD n).take i).map (wt W)).foldl max 0)),some (Zi K)]) (s:=s') (ds:=K.map nD) (fun d=>[some d,some (Zi W)]) (fun _=>true) (fun d=>nD (W.getD (Yc d) 0)) (V9 rfl) (by rw[qd,YG];omega) (fun d hd=>by
   obtain⟨x,hx,rfl⟩:=qC.mp hd;exact⟨rfl,rfl,fun _=>Zq (d:=Zi W) (e:=nD x) rfl rfl (WE (by rw[hW];exact k2 x hx))⟩)
  rw[WY,qH] at hc;have e:K.map ((fun d=>nD (W.getD (Yc d) 0))∘nD)=(K.map fun p=>W.getD p 0).map nD:=by rw[qH];rfl
  rw[e] at hc;have hsum:=Zdw (K.map fun p=>W.getD p 0) fun x hx=>by
   obtain⟨p,hpp,rfl⟩:=qC.mp hx;refine hb _ ?_;rw[qj,qk (by rw[hW];exact k2 p hpp)];exact zu _
  refine Ok.seq (.sset (.eq (a:=nD (max ((((kn jD n).take i).map (wt W)).foldl max 0) (wt W K))) (Z1 (Ze rfl (Ze (Z1 (Ze hc rfl) hsum) rfl)) (maxN _ _)) (.next ⟨_,rfl,rfl,some (Zi K),?_⟩)));have et:(kn jD n).take (i+1)=(kn jD n).take i ++ [K]:=by rw[qaV,hK];rfl
  rw[et,zj,qax];rfl
 ·obtain⟨rfl,o3,rfl⟩:=hI
  rw[qd,zN];exact Ok.seq (.sret (.eq rfl ⟨rfl,rfl⟩))
theorem Zfa:∀(l:List Nat) (a:Nat),a<=l.foldl max a/\(∀x∈l,x<=l.foldl max a)/\(l.foldl max a=a∨l.foldl max a∈l)
 | [],a=>⟨qu _,fun x h=>(by cases h),.inl rfl⟩
 | b::l,a=>by
  obtain⟨h1,h2,h3⟩:=Zfa l (max a b);refine⟨by show a<=l.foldl max (max a b);omega,fun x hx=>?_,?_⟩
  ·show x<=l.foldl max (max a b)
   rcases qq.mp hx with e | hx
   ·subst e;omega
   ·exact h2 x hx
  ·show l.foldl max (max a b)=a∨l.foldl max (max a b)∈b::l
   rcases h3 with h3 | h3
   ·rw[h3]
    rcases Nat.le_total a b with z | z
    ·rw[yZ z];exact .inr (by simp)
    ·rw[qbr z];exact .inl rfl
   ·exact .inr (by simp[h3])
theorem ZiC {n:Nat}{jD:List (Nat×Nat)}{W:List Nat}(hw:IsWeb n jD)(hn:n<=24):((kn jD n).map (wt W)).foldl max 0=wt W (Yj n jD W):=by
 obtain⟨h1,h2⟩:=Bn (W:=W) hw hn;obtain⟨a1,a2,a3⟩:=Zfa ((kn jD n).map (wt W)) 0;refine Nat.le_antisymm ?_ (a2 _ (qC.mpr ⟨_,h1,rfl⟩));rcases a3 with a3 | a3
 ·rw[a3];exact za _
 ·obtain⟨K,hK,e⟩:=qC.mp a3
  rw[<-e];exact h2 K hK
theorem ZkD {n:Nat}{jD:List (Nat×Nat)}(hn:n<=24){s:Pn}(ok:X7 s):Ok (Bj [.pen,Zt n jD]) s fun d s'=>X7 s'/\∃W:List Nat,d=Zi W/\W.length=n/\∀x∈W,x<=1000:=by
 refine Ok.runB rfl ?_;refine Ok.seq (.sset (.draw (m:=3) ok (Ze rfl (Ze rfl rfl)) (by omega) (by omega) fun way s1 hw ok1=>?_));refine Ok.seq (.sown (.eq (a:=.lst []) rfl ⟨rfl,?_⟩));refine Ok.seq (.sfor (fun i ρ s'=>X7 s'/\i<=n/\∃(W:List Nat) (o4:Option D),W.length=i/\(∀x∈W,x<=1000)/\ρ=[some .pen,some (Zt n jD),some (nD way),some (.lst (W.map nD)),o4]) (.eq (Wp (Zq (d:=Zt n jD) (e:=.int 0) rfl rfl WT) (by omega)) ⟨⟨ok1,za _,[],none,rfl,fun x h=>(by cases h),rfl⟩,fun i d ρ s' hd hI=>?_,fun ρ' s' hI=>?_⟩))
 ·obtain⟨ok2,_,W,o4,hl,hb,rfl⟩:=hI
  obtain⟨hi,rfl⟩:=JH hd;refine⟨_,rfl,?_⟩;refine Ok.seq (.sapp (ds:=W.map nD) rfl (by rw[qd,YG];omega) (.op (.lst (.cons (.draw (m:=5) ok2 (Ze rfl (Ze rfl rfl)) (by omega) (by omega) fun a s3 ha ok3=>.cons (.draw (m:=1001) ok3 (Ze rfl (Ze rfl rfl)) (by omega) (by omega) fun b s4 hb4 ok4=>.cons (.eq (a:=.int 1) rfl (.nil ⟨by show 3<=sizeLine;decide,.eq (a:=nD way) rfl ?_⟩))))))));have fin:∀c:Nat,c<=1000->Zj (.lst [nD a,nD b,.int 1]) (nD way)=some (nD c)->∃c',Zj (.lst [nD a,nD b,.int 1]) (nD way)=some c'/\Ok (Zl ([some .pen,some (Zt n jD),some (nD way),some (.lst (W.map nD)),some (.int (i:Int))].set 3 (some (.lst (W.map nD ++ [c']))))) s4 fun o s'=>∃ρ',o=.nx ρ'/\X7 s'/\i+1<=n/\∃(W:List Nat) (o4:Option D),W.length=i+1/\(∀x∈W,x<=1000)/\ρ'=[some .pen,some (Zt n jD),some (nD way),some (.lst (W.map nD)),o4]:=fun c hc e=>⟨_,e,.next ⟨_,rfl,ok4,by omega,W ++ [c],some (.int (i:Int)),by simp[hl],fun x hx=>by
   rcases zg.mp hx with h | h
   ·exact hb x h
   ·rw[qQ.mp h];exact hc,by rw[zj];rfl⟩⟩
  have hix:Zj (.lst [nD a,nD b,.int 1]) (nD way)=some (nD (if way=0 then a else if way=1 then b else 1)):=by
   refine WL ?_;rcases (show way=0∨way=1∨way=2 by omega) with e | e | e <;> subst e <;> rfl
  exact fin _ (by split;omega;split <;> omega) hix
 ·obtain⟨ok2,_,W,o4,hl,hb,rfl⟩:=hI
  rw[X2] at hl;exact Ok.seq (.sret (.eq (a:=Zi W) (Z1 (Ze rfl rfl) rfl) ⟨ok2,W,rfl,hl,hb⟩))
end TQ
namespace TQ
open L2 TF TS
open TP
open TP2
open TP3
theorem Zht {F:List D->M D}{cds:List D}{s:Pn}(key:Nat->D):∀(ps:List Nat),(∀p∈ps,F (nD p::cds) s=some (key p,s))->BV F cds (ps.map fun(i:Nat)=>(i:Int)) s=some (ps.map key,s)
 | [],_=>rfl
 | p::ps,h=>by
  show Zn (F (nD p::cds)) (fun k=>Zn (BV F cds (ps.map fun(i:Nat)=>(i:Int))) fun ks=>Zx (k::ks)) s=_;unfold Zn;rw[h p zS];dsimp only;rw[Zht key ps fun q hq=>h q (qU _ hq)];rfl
theorem Zjn {f:Zb->M D}{ρ:Zb}{s s1:Pn}{i:Int}(h:f ρ s=some (.int i,s1)):Um f ρ s=some (.int (-i),s1):=by
 unfold Um Zn;rw[h];rfl
theorem Zhu (n:Nat)(jD:List (Nat×Nat)):YQ (Wa n jD)=true:=by
 show Xq ((qp n).map _)=true;refine Bw fun d hd=>?_;obtain⟨p,_,rfl⟩:=qC.mp hd;exact Zbl _
theorem ZiD (l:List Nat):YQ (Zi l)=true:=Zbl l
theorem Zed {n:Nat}{jD:List (Nat×Nat)}{W:List Nat}(hw:IsWeb n jD)(hn:n<=24)(hl:W.length=n)(s:Pn):Zao [Zt n jD,Zi W] s=some (Zi (Yy n jD W),s):=by
 have htl:=hw.len hn;refine Y7 rfl (XV (WC (Z4 (Ze rfl rfl) (Zn6 n jD (by omega) (by omega) s))) (YW (Y8 (Z4 (Ze rfl (Ze (d:=.lst ((B1 n jD W).map nD)) ?_ rfl)) (Zmm n jD hw hn (Zcz n jD W) s)))));have hk:=Zht (F:=WK 3 (Yr (Zc (Um (Zd Zj (Za 1) (Za 0))) (Zc (Um (Zw YR (Zc (Zd Zj (Za 2) (Za 0)) Zg))) Zg)))) (cds:=[Zi W,Wa n jD]) (s:=s) (fun p=>XA (keyH n jD W p)) (qp n) fun p hp=>by
  have hp:=qP.mp hp;refine ZfT rfl (Xz (ds:=[.int (-((W.getD p 0:Nat):Int)),.int (-(((Yx n jD p).length:Nat):Int))]) (Ze (Zjn (Zq (d:=Zi W) (e:=nD p) rfl rfl (WE (by omega)))) (Ze (Zjn (Z1 (Ze (Zq (d:=Wa n jD) (e:=nD p) rfl rfl (Zjb hp)) rfl) ?_)) rfl)) (by show 2<=sizeLine;decide));show some (D.int _)=_;rw[qd]
 have hlt:JA ((qp n).map fun p=>XA (keyH n jD W p))=some (fun i j=>Y5 (((qp n).map (keyH n jD W)).getD i []) (((qp n).map (keyH n jD W)).getD j []))∨n=0:=by
  rcases Nat.eq_zero_or_pos n with z | z
  ·exact .inr z
  ·left
   have e1:((qp n).map fun p=>XA (keyH n jD W p))=((qp n).map (keyH n jD W)).map XA:=by rw[qH];rfl
   have e2:ZM ((qp n).map fun p=>XA (keyH n jD W p))=none:=by
    obtain⟨k,rfl⟩:∃k,n=k+1:=⟨n-1,by omega⟩;rw[qaA];rfl
   unfold JA;rw[e2,e1,ZbR];show(if _ then _ else _)=_;rw[if_pos (by rw[zo];intro x hx;obtain⟨p,_,rfl⟩:=qC.mp hx;rfl)]
 have hso:JR (WK 3 (Yr (Zc (Um (Zd Zj (Za 1) (Za 0))) (Zc (Um (Zw YR (Zc (Zd Zj (Za 2) (Za 0)) Zg))) Zg)))) [Zi W,Wa n jD] ((qp n).map fun(i:Nat)=>(i:Int)) s=some (.lst ((B1 n jD W).map nD),s):=by
  unfold JR;rw[if_pos (by
   rw[qL];refine⟨decide_eq_true (by rw[qd,qO];omega),?_⟩;show(YQ _&&(YQ _&&true))=true;rw[ZiD,Zhu];rfl)]
  unfold Zn;rw[hk];have hmap:∀(l:List Nat),(∀i∈l,i<n)->l.map (fun i=>D.int (((qp n).map fun(i:Nat)=>(i:Int)).getD i 0))=l.map nD:=fun l h=>zF fun i hi=>by
   have:=h i hi;rw[qj,qy,zE this];rfl
  rcases hlt with e | rfl
  ·show(match JA ((qp n).map fun p=>XA (keyH n jD W p)) with | some lt=>Zx _ | none=>ZC) s=_
   rw[e];show some (D.lst ((YN _ ((qp n).map fun(i:Nat)=>(i:Int)).length).map _),s)=_;rw[qd,qO];exact congrArg (fun z=>some (D.lst z,s)) (hmap (B1 n jD W) fun i hi=>qP.mp ((Zcz n jD W).mem_iff.mp hi))
  ·rfl
 show ZbA _ _ _ [some (Zt n jD),some (Zi W),some (Wa n jD)] s=_;have e0:Zd Zj (Za 0) (dC (.int 0)) [some (Zt n jD),some (Zi W),some (Wa n jD)] s=some (nD n,s):=Zq (d:=Zt n jD) (e:=.int 0) rfl rfl WT;unfold ZbA Zn;rw[e0];show(match (some ([Zi W,Wa n jD],s):Option (List D×Pn)) with | none=>none | some p=>(if -(2 ^ 62)<=(n:Int)/\(n:Int)<=2 ^ 24 then JR (WK 3 _) p.1 ((qp ((n:Int)).toNat).map fun(i:Nat)=>(i:Int)) else ZC) p.2)=_;dsimp only;rw[if_pos (by omega),qaw,hso]
theorem ZnH {f:List Nat}(h:f≠[]):ZlW [Zi f]=some (nD (Xd f)):=by
 cases f with
 | nil=>exact absurd rfl h
 | cons a r=>
  show(match ZM ((a::r).map nD) with | some (n::r)=>some (D.int (Xh n r)) | _=>none)=_;rw[Bv];show some (D.int (Xh (a:Int) (r.map fun(i:Nat)=>(i:Int))))=_;rw[Zg5];show _=some (D.int (((a::r).foldl max 0:Nat):Int));rw[List.foldl_cons,Nat.zero_max]
theorem Zee (v:Nat):∀f:List Nat,(Yl f).idxOf (v:Int)=f.idxOf v
 | []=>rfl
 | a::r=>by
  show((a:Int)::Yl r).idxOf (v:Int)=_;rw[qaO,qaO,Zee v r];have:((a:Int)==(v:Int))=(a==v):=by
   rw[yo,beq_iff_eq,beq_iff_eq];omega
  rw[this]
theorem ZkE {f:List Nat}{v:Nat}(h:v∈f):ZfG (Zi f) (nD v)=some (nD (f.idxOf v)):=by
 show(ZM (f.map nD)).bind _=_;rw[Bv];show(if (v:Int)∈Yl f then some (D.int ((Yl f).idxOf (v:Int):Nat)) else none)=_;rw[if_pos (show(v:Int)∈Yl f from qC.mpr ⟨v,h,rfl⟩),Zee]
theorem Zef (pl:Str):∀(m n:Nat) (jD:List (Nat×Nat)) (W:List Nat) (w:Int) (s:Pn),IsWeb n jD->n<=24->W.length=n->n<m->(∀K∈kn jD n,((wt W K:Nat):Int)<=w)->Ua m [.str pl,Zt n jD,Zi W,.int w] s=some (YB pl (Wv m n jD W w),s)
 | 0,n,jD,W,w,s,_,_,_,h,_=>by omega
 | m+1,n,jD,W,w,s,hw,hn,hl,hm,hk=>by
  have htl:=hw.len hn;have hfl:(Yy n jD W).length=n:=ZbE;refine jo (Ok.runB (g:=ZfK (Ua m)) rfl ?_);refine Ok.seq (.sif (.eq (a:=decide (((W.sum:Nat):Int)<=w)) (ZV (Zq (d:=nD W.sum) (e:=.int w) (Z1 (Ze rfl rfl) (Zjm W)) rfl (JD _ _))) ?_));unfold Wv;by_cases h1:((W.sum:Nat):Int)<=w
  ·rw[decide_eq_true h1,if_pos rfl,if_pos h1]
   exact Ok.seq (.sret (.eq (Xz (ds:=[.str pl]) (Ze rfl rfl) (by show 1<=sizeLine;decide)) ⟨rfl,rfl⟩))
  ·rw[decide_eq_false h1,if_neg (by decide),if_neg h1]
   refine .next ?_;refine Ok.seq (.sset (.eq (Z4 (Ze rfl (Ze rfl rfl)) (Zed hw hn hl s)) ?_));refine Ok.seq (.sif (.eq (a:=decide (((VW W (Yy n jD W):Nat):Int)<=w)) (ZV (Zq (d:=nD (VW W (Yy n jD W))) (e:=.int w) (Z4 (Ze rfl (Ze rfl rfl)) (Zir W (Yy n jD W) (by omega) (by omega) s)) rfl (JD _ _))) ?_));by_cases h2:((VW W (Yy n jD W):Nat):Int)<=w
   ·rw[decide_eq_true h2,if_pos rfl,if_pos h2]
    exact Ok.seq (.sret (.eq (Xz (ds:=[.str (qA "hues"),Zi (Yy n jD W)]) (Ze rfl (Ze rfl rfl)) (by show 2<=sizeLine;decide)) ⟨rfl,rfl⟩))
   ·rw[decide_eq_false h2,if_neg (by decide),if_neg h2]
    refine .next ?_;have h0:=Zjh hl hk h1;have hv:=Zjg (jD:=jD) (W:=W) h0;have hne:Yy n jD W≠[]:=fun z=>by rw[z] at hfl;simp at hfl;omega
    refine Ok.seq (.sset (.eq (Zq (d:=Zi (Yy n jD W)) (e:=nD (Xd (Yy n jD W))) rfl (Z1 (Ze rfl rfl) (ZnH hne)) (ZkE (BM hne))) ?_));generalize (Yy n jD W).idxOf (Xd (Yy n jD W))=v at hv⊢;obtain⟨p1,p2,p3⟩:=ZcS hw hk hv;have l1:=ZfX hv;have l2:=ZfY hw hv;have ea:=Zef pl m (Yh n v).length (YY jD (Yh n v)) (Yu W (Yh n v)) w s (VF _ _) (by omega) (by simp) (by omega) p2;have eb:=Zef pl m (Yf n jD v).length (YY jD (Yf n jD v)) (Yu W (Yf n jD v)) (w-((W.getD v 0:Nat):Int)) s (VF _ _) (by omega) (by simp) (by omega) p3;have fa:JF (Ua m) [.str pl,Zt n jD,Zi W,.lst ((Yh n v).map nD),.int w] s=some (YB pl (Wv m (Yh n v).length (YY jD (Yh n v)) (Yu W (Yh n v)) w),s):=
     Y7 rfl (YW (Y8 (Z4 (Ze rfl (Ze (Z4 (Ze rfl (Ze rfl rfl)) (Zhe n jD (Yh n v) (qJ (yT l1) (by omega)) (by omega) s)) (Ze (Z4 (Ze rfl (Ze rfl rfl)) (Zhq hl (UC n _).2 (qJ (yT l1) (by omega)) s)) (Ze rfl rfl)))) ea)))
    have fb:JF (Ua m) [.str pl,Zt n jD,Zi W,.lst ((Yf n jD v).map nD),.int (w-((W.getD v 0:Nat):Int))] s=some (YB pl (Wv m (Yf n jD v).length (YY jD (Yf n jD v)) (Yu W (Yf n jD v)) (w-((W.getD v 0:Nat):Int))),s):=
     Y7 rfl (YW (Y8 (Z4 (Ze rfl (Ze (Z4 (Ze rfl (Ze rfl rfl)) (Zhe n jD (Yf n jD v) (qJ (yT l2) (by omega)) (by omega) s)) (Ze (Z4 (Ze rfl (Ze rfl rfl)) (Zhq hl (UC n _).2 (qJ (yT l2) (by omega)) s)) (Ze rfl rfl)))) eb)))
    exact Ok.seq (.sret (.eq (Xz (ds:=[.str (qA "place"),nD v,YB pl (Wv m (Yh n v).length (YY jD (Yh n v)) (Yu W (Yh n v)) w),YB pl (Wv m (Yf n jD v).length (YY jD (Yf n jD v)) (Yu W (Yf n jD v)) (w-((W.getD v 0:Nat):Int)))])
     (Ze rfl (Ze rfl (Ze (Z4 (Ze rfl (Ze rfl (Ze rfl (Ze (Z4 (Ze rfl (Ze rfl rfl)) (Zec n jD v (by omega) s)) (Ze rfl rfl))))) fa)
     (Ze (Z4 (Ze rfl (Ze rfl (Ze rfl (Ze (Z4 (Ze rfl (Ze rfl rfl)) (Zpg n jD v (by omega) s)) (Ze (Zq (d:=.int w) (e:=nD (W.getD v 0)) (c:=.int (w-((W.getD v 0:Nat):Int))) rfl (Zq (d:=Zi W) (e:=nD v) rfl rfl (WE (by omega))) rfl) rfl))))) fb) rfl)))) (by show 4<=sizeLine;decide)) ⟨rfl,rfl⟩))
end TQ
namespace TQ
open L2 TF TS
open TP
open TP2
open TP3
abbrev YS:Str:=qA "all"
theorem zipN {f W:List Nat}(h:f.length=W.length):VB (f.map nD) (W.map nD)=(qp f.length).map fun k=>D.tup [nD (f.getD k 0),nD (W.getD k 0)]:=by
 unfold VB;apply qat;intro i;rw[qy];by_cases hi:i<f.length
 ·rw[zE hi]
  show _=some (D.tup [nD (f.getD i 0),nD (W.getD i 0)]);rw[qj,qj,qk hi,qk (show i<W.length by omega)];rw[qaG,qy,qy,qk hi,qk (show i<W.length by omega)];rfl
 ·rw[yd (by simp;omega),yd (by simp;omega)];rfl
theorem ZnI (pl:Str):∀{P:Paper} {n:Nat} {jD:List (Nat×Nat)} {W:List Nat} {w:Int},IsWeb n jD->VX P n jD W w=true->Zr (YB pl P)=true/\Z7 (YB pl P)<=n+2:=by
 intro P
 induction P with
 | all=>intro n jD W w _ _;exact⟨rfl,by show Z7 (.tup [.str pl])<=_;simp only[Z7,Xb];omega⟩
 | hues f=>
  intro n jD W w _ _;constructor
  ·show Yv [.str (qA "hues"),Zi f]=true
   simp only[Yv,Zr,yq,qa1];exact Br f
  ·show Z7 (.tup [.str (qA "hues"),.tup (f.map nD)])<=_
   have:=BF f;simp only[Z7,Xb];omega
 | place v a b iha ihb=>
  intro n jD W w hw h;have h:(decide (v<n)&&(decide (((W.getD v 0:Nat):Int)<=w)&&(VX a (Yh n v).length (YY jD (Yh n v)) (Yu W (Yh n v)) w&&VX b (Yf n jD v).length (YY jD (Yf n jD v)) (Yu W (Yf n jD v)) (w-((W.getD v 0:Nat):Int)))))=true:=h;simp only[qL,decide_eq_true_eq] at h;obtain⟨hv,_,ha,hb⟩:=h;have l1:=ZfX hv;have l2:=ZfY hw hv;obtain⟨a1,a2⟩:=iha (VF _ _) ha;obtain⟨b1,b2⟩:=ihb (VF _ _) hb;constructor
  ·show Yv [.str (qA "place"),nD v,YB pl a,YB pl b]=true
   simp only[Yv,a1,b1,qa1,yq];rfl
  ·show Z7 (.tup [.str (qA "place"),.int (v:Int),YB pl a,YB pl b])<=_
   simp only[Z7,Xb];omega
theorem Zga:∀(P:Paper) (m n:Nat) (jD:List (Nat×Nat)) (W:List Nat) (w:Int) (s:Pn),IsWeb n jD->n<=8->W.length=n->(∀x∈W,x<=4294967296)->n<m->VX P n jD W w=true->V1 m [Zt n jD,Zi W,.int w,YB YS P] s=some (.bl true,s):=by
 intro P
 induction P with
 | all=>
  intro m n jD W w s hw hn hl hb hm hP;obtain⟨m,rfl⟩:∃k,m=k+1:=⟨m-1,by omega⟩;have hP:decide (((W.sum:Nat):Int)<=w)=true:=hP;refine jo (Ok.runB (g:=Be (V1 m)) rfl ?_);refine Ok.seq (.sif (.eq (a:=false) (X5 (XM (b:=true) (ZV (Z1 (Ze rfl (Ze rfl rfl)) rfl))) (X5 (ZV (Zq (d:=.int 1) (e:=.int 0) (Z1 (Ze rfl rfl) rfl) rfl (Va _ _))) (XM (b:=true) (ZV (Z1 (Ze (Zq (d:=.tup [.str YS]) (e:=.int 0) rfl rfl (Wd _ _)) (Ze rfl rfl)) rfl))))) (.next ?_)));refine Ok.seq (.sif (.eq (a:=true) (ZV (Zq (d:=.tup [.str YS]) (e:=.tup [.str YS]) rfl (Xz (Ze rfl rfl) (by show 1<=sizeLine;decide)) (ZfO rfl (by decide)))) ?_));refine Ok.seq (.sret (.eq (Zq (d:=nD W.sum) (e:=.int w) (Z1 (Ze rfl rfl) (Zjm W)) rfl (JD _ _)) ⟨?_,rfl⟩));rw[hP]
 | hues f=>
  intro m n jD W w s hw hn hl hb hm hP;obtain⟨m,rfl⟩:∃k,m=k+1:=⟨m-1,by omega⟩;have hP:(hueB n jD (Zi f)&&decide (((VW W f:Nat):Int)<=w))=true:=hP;rw[qL] at hP;have R:=Zku hw hP.1;have hfW:f.length=W.length:=by rw[R.len,hl]
  have i1:∀ρ:Zb,(ρ[3]?).bind id=some (YB YS (.hues f))->Zd Zj (Za 3) (dC (.int 1)) ρ s=some (Zi f,s):=fun ρ h=>Zq (d:=.tup [.str (qA "hues"),Zi f]) (e:=.int 1) (by unfold Za YF;rw[h];rfl) rfl (WH _ _ _);refine jo (Ok.runB (g:=Be (V1 m)) rfl ?_);refine Ok.seq (.sif (.eq (a:=false) (X5 (XM (b:=true) (ZV (Z1 (Ze rfl (Ze rfl rfl)) rfl))) (X5 (ZV (Zq (d:=.int 2) (e:=.int 0) (Z1 (Ze rfl rfl) rfl) rfl (Va _ _))) (XM (b:=true) (ZV (Z1 (Ze (Zq (d:=.tup [.str (qA "hues"),Zi f]) (e:=.int 0) rfl rfl (Wd _ _)) (Ze rfl rfl)) rfl))))) (.next ?_)));have hne:Ys (YB YS (.hues f)) (.tup [.str YS])=some (.bl false):=by
   have h1:Zr (YB YS (.hues f))=true:=by
    show Yv [.str (qA "hues"),Zi f]=true;have:=(Zkq f).1;simp only[Yv,Zr,yq,qa1];exact Br f
   have h2:Z7 (YB YS (.hues f))<=10:=by
    show Z7 (.tup [.str (qA "hues"),.tup (f.map nD)])<=10;have:=BF f;simp only[Z7,Xb];omega
   unfold Ys WS;rw[if_pos (by simp only[h1,yq,qL,decide_eq_true_eq];exact⟨⟨rfl,by omega⟩,by decide⟩)];rfl
  refine Ok.seq (.sif (.eq (a:=false) (ZV (Zq (d:=YB YS (.hues f)) (e:=.tup [.str YS]) rfl (Xz (Ze rfl rfl) (by show 1<=sizeLine;decide)) hne)) (.next ?_)));refine Ok.seq (.sif (.eq (a:=true) (Zlt (ZV (Zq (d:=.str (qA "hues")) (e:=.str (qA "hues")) (Zq (d:=.tup [.str (qA "hues"),Zi f]) (e:=.int 0) rfl rfl (Wd _ _)) rfl (Zpf _))) (ZV (Zq (d:=.int 2) (e:=.int 2) (Z1 (Ze rfl rfl) rfl) rfl (Va _ _)))) ?_));rw[if_pos rfl];refine Ok.seq (.sif (.eq (a:=false) (XM (b:=true) (ZV (Z4 (Ze rfl (Ze (i1 _ rfl) rfl)) (ZiB hw R s)))) (.next ?_)));refine Ok.seq (Ok.sown (.eq (a:=.dk []) rfl ⟨rfl,?_⟩));have hz:(fun ρ=>(BT (Zd Zj (Za 3) (dC (.int 1))) (Za 1)) (Ye [4] ρ)) [some (Zt n jD),some (Zi W),some (.int w),some (YB YS (.hues f)),some (.dk []),none,none,none,none,none,none] s=some ((qp f.length).map fun k=>D.tup [nD (f.getD k 0),nD (W.getD k 0)],s):=by
   show BT _ _ _ s=_;unfold BT Zn;rw[i1 _ rfl];dsimp only;rw[show Za 1 (Ye [4] [some (Zt n jD),some (Zi W),some (.int w),some (YB YS (.hues f)),some (.dk []),none,none,none,none,none,none]) s=some (Zi W,s) from rfl];show some (VB (f.map nD) (W.map nD),s)=_;rw[zipN hfW]
  refine Ok.seq (.sfor (fun k ρ s'=>s'=s/\k<=f.length/\∃o5 o6,ρ=[some (Zt n jD),some (Zi W),some (.int w),some (YB YS (.hues f)),some (.dk (ZS (Z2 (f.take k)) (Z9 W f k))),o5,o6,none,none,none,none]) (.eq hz ⟨⟨rfl,za _,none,none,by rw[yk];rfl⟩,fun k d ρ s' hd hI=>?_,fun ρ' s' hI=>?_⟩))
  ·obtain⟨rfl,_,o5,o6,rfl⟩:=hI
   rw[qy] at hd;obtain⟨k',hk',rfl⟩:=zi.mp hd;obtain⟨hk,ek⟩:=qD.mp hk';rw[List.getElem_range] at ek;subst ek;rw[qO] at hk;refine⟨_,rfl,?_⟩;have hfk:f[k]?=some (f.getD k 0):=by rw[qj,qk hk];rfl
   have hkeys:Z2 (f.take (k+1))=if f.getD k 0∈Z2 (f.take k) then Z2 (f.take k) else Z2 (f.take k) ++ [f.getD k 0]:=by rw[JN hfk,Zcd]
   have jO:(Z2 (f.take k)).length<=1000:=by
    have:=JM (Uq (f.take k)).1 fun x hx=>((Uq (f.take k)).2 x).mp hx;rw[zt,R.len] at this;omega
   have hget:Ug (Za 4) (Za 5) (dC (.int 0)) [some (Zt n jD),some (Zi W),some (.int w),some (YB YS (.hues f)),some (.dk (ZS (Z2 (f.take k)) (Z9 W f k))),some (nD (f.getD k 0)),some (nD (W.getD k 0)),none,none,none,none] s'=some (nD (if f.getD k 0∈Z2 (f.take k) then Z9 W f k (f.getD k 0) else 0),s'):=by
    unfold Ug Zn;rw[show Za 4 [some (Zt n jD),some (Zi W),some (.int w),some (YB YS (.hues f)),some (.dk (ZS (Z2 (f.take k)) (Z9 W f k))),some (nD (f.getD k 0)),some (nD (W.getD k 0)),none,none,none,none] s'=some (.dk (ZS (Z2 (f.take k)) (Z9 W f k)),s') from rfl];dsimp only;rw[show Za 5 [some (Zt n jD),some (Zi W),some (.int w),some (YB YS (.hues f)),some (.dk (ZS (Z2 (f.take k)) (Z9 W f k))),some (nD (f.getD k 0)),some (nD (W.getD k 0)),none,none,none,none] s'=some (nD (f.getD k 0),s') from rfl];show(match Z6 (ZS (Z2 (f.take k)) (Z9 W f k)) (qZ ((f.getD k 0:Nat):Int)) with | some v=>YF (vD v) | none=>Zx (D.int 0)) s'=_;rw[JV];by_cases h:f.getD k 0∈Z2 (f.take k)
    ·rw[if_pos h,if_pos h];rfl
    ·rw[if_neg h,if_neg h];rfl
   have hnone:f.getD k 0∉Z2 (f.take k)->Z9 W f k (f.getD k 0)=0:=fun h=>by
    have:((qp k).filter fun p=>decide (f.getD p 0=f.getD k 0))=[]:=qby.mpr fun p hp z=>by
     have hp:=qP.mp hp;refine h (((Uq _).2 _).mpr ?_);rw[<-of_decide_eq_true z];refine zm (i:=p) ?_;rw[List.getElem?_take,if_pos hp,qj,qk (by omega)];rfl
    unfold Z9;rw[this];rfl
   have hval:(if f.getD k 0∈Z2 (f.take k) then Z9 W f k (f.getD k 0) else 0)=Z9 W f k (f.getD k 0):=by
    by_cases h:f.getD k 0∈Z2 (f.take k)
    ·rw[if_pos h]
    ·rw[if_neg h,hnone h]
   rw[hval] at hget;have hv:(WW true (Zw WP (Zc (Za 6) (Zc (Ug (Za 4) (Za 5) (dC (.int 0))) Zg)))) [some (Zt n jD),some (Zi W),some (.int w),some (YB YS (.hues f)),some (.dk (ZS (Z2 (f.take k)) (Z9 W f k))),some (nD (f.getD k 0)),some (nD (W.getD k 0)),none,none,none,none] s'=some (nD (max (W.getD k 0) (Z9 W f k (f.getD k 0))),s'):=
    Zfi (Z1 (Ze rfl (Ze hget rfl)) (maxN _ _)) rfl
   refine Ok.seq (.eq (Zds hv (x:=nD (f.getD k 0)) rfl (kvs:=ZS (Z2 (f.take k)) (Z9 W f k)) rfl rfl rfl (by unfold ZS;rw[qd,YG];omega)) (.next ⟨_,rfl,rfl,by omega,some (nD (f.getD k 0)),some (nD (W.getD k 0)),?_⟩));have hput:Yo (ZS (Z2 (f.take k)) (Z9 W f k)) (qZ ((f.getD k 0:Nat):Int)) (.int ((max (W.getD k 0) (Z9 W f k (f.getD k 0)):Nat):Int))=ZS (Z2 (f.take (k+1))) (Z9 W f (k+1)):=by
    have hfun:(fun y=>if y=f.getD k 0 then max (W.getD k 0) (Z9 W f k (f.getD k 0)) else Z9 W f k y)=Z9 W f (k+1):=by
     funext y;rw[ZcR];by_cases e:y=f.getD k 0
     ·rw[if_pos e,if_pos e.symm,e,Nat.max_comm]
     ·rw[if_neg e,if_neg fun z=>e z.symm]
    rw[hkeys];by_cases h:f.getD k 0∈Z2 (f.take k)
    ·rw[if_pos h,Zje h,hfun]
    ·rw[if_neg h,Zdr h,hfun]
   rw[<-hput];rfl
  ·obtain⟨rfl,_,o5,o6,rfl⟩:=hI
   rw[qd,qO,zN];have hkl:(Z2 f).length<=8:=by
    have:=JM (Uq f).1 fun x hx=>((Uq f).2 x).mp hx;rw[R.len] at this;omega
   have hlv:∀ρ:Zb,(ρ[4]?).bind id=some (.dk (ZS (Z2 f) (Z9 W f f.length)))->ZbB (Za 4) ρ s'=some (.lst (((Z2 f).map (Z9 W f f.length)).map nD),s'):=fun ρ h=>by
    unfold ZbB Zn;rw[show Za 4 ρ s'=some (.dk (ZS (Z2 f) (Z9 W f f.length)),s') by unfold Za YF;rw[h]];show(match Vl (ZS (Z2 f) (Z9 W f f.length)) with | some ns=>if ns.length<=sizeLine then Zx (D.lst (ns.map D.int)) else ZC | none=>ZC) s'=_;rw[Zjf];show(if (Yl ((Z2 f).map (Z9 W f f.length))).length<=sizeLine then Zx (D.lst ((Yl ((Z2 f).map (Z9 W f f.length))).map D.int)) else ZC) s'=_;rw[if_pos (by unfold Yl;rw[qd,qd,YG];omega)];unfold Yl;rw[qH];rfl
   have hsum:=Zdw ((Z2 f).map (Z9 W f f.length)) fun x hx=>by
    obtain⟨h,_,rfl⟩:=qC.mp hx;refine Zkt fun p hp=>hb _ ?_;rw[qj,qk (show p<W.length by omega)];exact zu _
   refine Ok.seq (.sret (.eq (Zq (d:=nD (VW W f)) (e:=.int w) (Z1 (Ze (hlv _ rfl) rfl) hsum) rfl (JD _ _)) ⟨?_,rfl⟩));rw[hP.2]
 | place v a b iha ihb=>
  intro m n jD W w s hw hn hl hb hm hP;obtain⟨m,rfl⟩:∃k,m=k+1:=⟨m-1,by omega⟩;have hP:(decide (v<n)&&(decide (((W.getD v 0:Nat):Int)<=w)&&(VX a (Yh n v).length (YY jD (Yh n v)) (Yu W (Yh n v)) w&&VX b (Yf n jD v).length (YY jD (Yf n jD v)) (Yu W (Yf n jD v)) (w-((W.getD v 0:Nat):Int)))))=true:=hP;simp only[qL,decide_eq_true_eq] at hP;obtain⟨hv,hwv,hPa,hPb⟩:=hP;have l1:=ZfX hv;have l2:=ZfY hw hv;have htl:jD.length<64:=by
   have h1:jD.length<=(XG n).length:=qb4.length_le hw;have h2:(XG n).length<=28:=by
    rcases (show n=0∨n=1∨n=2∨n=3∨n=4∨n=5∨n=6∨n=7∨n=8 by omega) with e | e | e | e | e | e | e | e | e <;> subst e <;> decide
   omega
  have bd:∀ps:List Nat,(∀p∈ps,p<n)->∀x∈Yu W ps,x<=4294967296:=fun ps hp x hx=>by
   obtain⟨p,hpp,rfl⟩:=qC.mp hx;refine hb _ ?_;rw[qj,qk (show p<W.length by have:=hp p hpp;omega)];exact zu _
  have r1:∀o∈Yh n v,o<n:=(UC n _).2;have r2:∀o∈Yf n jD v,o<n:=(UC n _).2;have ea:=iha m (Yh n v).length (YY jD (Yh n v)) (Yu W (Yh n v)) w s (VF _ _) (by omega) (by simp) (bd _ r1) (by omega) hPa;have eb:=ihb m (Yf n jD v).length (YY jD (Yf n jD v)) (Yu W (Yf n jD v)) (w-((W.getD v 0:Nat):Int)) s (VF _ _) (by omega) (by simp) (bd _ r2) (by omega) hPb;have i3:∀(k:Nat) (c:D) (ρ:Zb),(ρ[3]?).bind id=some (YB YS (.place v a b))->Xu [.str (qA "place"),nD v,YB YS a,YB YS b] (k:Int)=some c->Zd Zj (Za 3) (dC (.int (k:Int))) ρ s=some (c,s):=fun k c ρ h e=>Zq (d:=YB YS (.place v a b)) (e:=.int (k:Int)) (by unfold Za YF;rw[h]) rfl e;refine jo (Ok.runB (g:=Be (V1 m)) rfl ?_);refine Ok.seq (.sif (.eq (a:=false) (X5 (XM (b:=true) (ZV (Z1 (Ze rfl (Ze rfl rfl)) rfl))) (X5 (ZV (Zq (d:=.int 4) (e:=.int 0) (Z1 (Ze rfl rfl) rfl) rfl (Va _ _))) (XM (b:=true) (ZV (Z1 (Ze (i3 0 _ _ rfl (Wd _ _)) (Ze rfl rfl)) rfl))))) (.next ?_)));have hne:Ys (YB YS (.place v a b)) (.tup [.str YS])=some (.bl false):=by
   have hd:=ZnI YS (P:=.place v a b) hw (by unfold VX;simp only[qL,decide_eq_true_eq];exact⟨hv,hwv,hPa,hPb⟩);unfold Ys WS;rw[if_pos (by simp only[hd.1,yq,qL,decide_eq_true_eq];exact⟨⟨rfl,by omega⟩,by decide⟩)];rfl
  refine Ok.seq (.sif (.eq (a:=false) (ZV (Zq (d:=YB YS (.place v a b)) (e:=.tup [.str YS]) rfl (Xz (Ze rfl rfl) (by show 1<=sizeLine;decide)) hne)) (.next ?_)));refine Ok.seq (.sif (.eq (a:=false) (Zls (ZV (Zq (d:=.str (qA "place")) (e:=.str (qA "hues")) (i3 0 _ _ rfl (Wd _ _)) rfl rfl))) (.next ?_)));refine Ok.seq (.sif (.eq (a:=false) (X5 (ZV (Zq (d:=.str (qA "place")) (e:=.str (qA "place")) (i3 0 _ _ rfl (Wd _ _)) rfl (ZiA _))) (X5 (ZV (Zq (d:=.int 4) (e:=.int 4) (Z1 (Ze rfl rfl) rfl) rfl (nei _ _))) (XM (b:=true) (ZV (Z4 (Ze rfl (Ze (i3 1 _ _ rfl (WH _ _ _)) rfl)) (Zhs hv s)))))) (.next ?_)));refine Ok.seq (.sset (.eq (i3 1 _ _ rfl (WH _ _ _)) ?_));refine Ok.seq (.sset (.eq (a:=.lst [.lst ((Yh n v).map nD),.lst ((Yf n jD v).map nD)]) (Ud (Ze (Z4 (Ze rfl (Ze rfl rfl)) (Zmv n jD v (by omega) s)) (Ze (Z4 (Ze rfl (Ze rfl rfl)) (Zmw n jD v (by omega) s)) rfl)) (by show 2<=sizeLine;decide)) ?_));have hal:∀(ps:List Nat) (ρ:Zb),(∀p∈ps,p<n)->ps.length<=1000->(ρ[0]?).bind id=some (.lst (ps.map nD))->(ρ[1]?).bind id=some (Zi W)->Zw WN (Zc (Yg [none,some 1] (Yk (Za 0)) (ZE 0) Yq (Zd Zj (Za 1) (Za 0))) Zg) ρ s=some (Zi (Yu W ps),s):=fun ps ρ hp hpl h0 h1=>by
   have hc:=Xk (src:=[none,some 1]) (fi:=Yk (Za 0)) (τ:=ZE 0) (ft:=Yq) (fe:=Zd Zj (Za 1) (Za 0)) (ρ:=ρ) (s:=s) (ds:=ps.map nD) (fun d=>[some d,some (Zi W)]) (fun _=>true) (fun d=>nD (W.getD (Yc d) 0)) (X9 (by unfold Za YF;rw[h0])) (by rw[qd,YG];omega) (fun d hd=>by
    obtain⟨x,hx,rfl⟩:=qC.mp hd;refine⟨?_,rfl,fun _=>Zq (d:=Zi W) (e:=nD x) rfl rfl (WE (by have:=hp x hx;omega))⟩;show some ((Wq [none,some 1] ρ).set 0 (some _))=_;unfold Wq;simp only[qW,qaI,qa8,h1];rfl)
   rw[WY,qH] at hc;refine Z1 (Ze hc rfl) ?_;show some (D.tup _)=some (D.tup _);rw[qH];rfl
  have h9:Yg [none,some 1] (Yk (Za 8)) (ZE 0) Yq (Zw WN (Zc (Yg [none,some 1] (Yk (Za 0)) (ZE 0) Yq (Zd Zj (Za 1) (Za 0))) Zg)) [some (Zt n jD),some (Zi W),some (.int w),some (YB YS (.place v a b)),none,none,none,some (nD v),some (.lst [.lst ((Yh n v).map nD),.lst ((Yf n jD v).map nD)]),none,none] s=some (.lst [Zi (Yu W (Yh n v)),Zi (Yu W (Yf n jD v))],s):=by
   have hc:=Xk (src:=[none,some 1]) (fi:=Yk (Za 8)) (τ:=ZE 0) (ft:=Yq) (fe:=Zw WN (Zc (Yg [none,some 1] (Yk (Za 0)) (ZE 0) Yq (Zd Zj (Za 1) (Za 0))) Zg)) (ρ:=[some (Zt n jD),some (Zi W),some (.int w),some (YB YS (.place v a b)),none,none,none,some (nD v),some (.lst [.lst ((Yh n v).map nD),.lst ((Yf n jD v).map nD)]),none,none]) (s:=s) (ds:=[Yh n v,Yf n jD v].map fun ps=>D.lst (ps.map nD)) (fun d=>[some d,some (Zi W)]) (fun _=>true) (fun d=>match d with | .lst ds=>Zi (Yu W (ds.map Yc)) | _=>.non) (X9 rfl) (by show 2<=sizeLine;decide) (fun d hd=>by
    obtain⟨ps,hps,rfl⟩:=qC.mp hd;have hpp:(∀p∈ps,p<n)/\ps.length<=1000:=by
     rcases qq.mp hps with e | hps
     ·subst e;exact⟨r1,by omega⟩
     ·rw[qQ.mp hps];exact⟨r2,by omega⟩
    refine⟨rfl,rfl,fun _=>?_⟩;have e:=hal ps [some (.lst (ps.map nD)),some (Zi W)] hpp.1 hpp.2 rfl rfl;rw[e];show some (Zi (Yu W ps),s)=some (Zi (Yu W ((ps.map nD).map Yc)),s);rw[qH];have:ps.map (Yc∘nD)=ps:=qbz _;rw[this])
   rw[WY,qH] at hc;have en:∀ps:List Nat,(ps.map nD).map Yc=ps:=fun ps=>by rw[qH];exact qbz _
   have e2:[Yh n v,Yf n jD v].map ((fun d=>match d with | .lst ds=>Zi (Yu W (ds.map Yc)) | _=>.non)∘fun ps=>D.lst (ps.map nD))=[Zi (Yu W (Yh n v)),Zi (Yu W (Yf n jD v))]:=by
    show [Zi (Yu W (((Yh n v).map nD).map Yc)),Zi (Yu W (((Yf n jD v).map nD).map Yc))]=_;rw[en,en]
   rw[e2] at hc;exact hc
  refine Ok.seq (.sset (.eq h9 ?_));have hgt:B7 (nD (W.getD v 0)) (.int w)=some (.bl false):=by
   show some (D.bl (decide (w<((W.getD v 0:Nat):Int))))=_;rw[decide_eq_false (by omega)]
  refine Ok.seq (.sif (.eq (a:=false) (ZV (Zq (d:=nD (W.getD v 0)) (e:=.int w) (Zq (d:=Zi W) (e:=nD v) rfl rfl (WE (by omega))) rfl hgt)) (.next ?_)));have p1:=Zhr hw (ps:=Yh n v) (Zd1 n fun x=>!decide (x=v)) (by omega) htl s;have p2:=Zhr hw (ps:=Yf n jD v) (Zd1 n fun x=>tied jD v x) (by omega) htl s;refine Ok.seq (.sif (.eq (a:=false) (XM (b:=true) (ZV (Z4 (Ze (Z4 (Ze rfl (Ze (Zq (d:=.lst [.lst ((Yh n v).map nD),.lst ((Yf n jD v).map nD)]) (e:=.int 0) rfl rfl (Wd _ _)) rfl)) p1) (Ze (Zq (d:=.lst [Zi (Yu W (Yh n v)),Zi (Yu W (Yf n jD v))]) (e:=.int 0) rfl rfl (Wd _ _)) (Ze rfl (Ze (i3 2 _ _ rfl (ZpR _ _ _ _)) rfl)))) ea))) (.next ?_)));refine Ok.seq (.sset (.eq (Zq (d:=.int w) (e:=nD (W.getD v 0)) rfl (Zq (d:=Zi W) (e:=nD v) rfl rfl (WE (by omega))) rfl) ?_));exact Ok.seq (.sret (.eq (Z4 (Ze (Z4 (Ze rfl (Ze (Zq (d:=.lst [.lst ((Yh n v).map nD),.lst ((Yf n jD v).map nD)]) (e:=.int 1) rfl rfl (WH _ _ _)) rfl)) p2) (Ze (Zq (d:=.lst [Zi (Yu W (Yh n v)),Zi (Yu W (Yf n jD v))]) (e:=.int 1) rfl rfl (WH _ _ _)) (Ze rfl (Ze (i3 3 _ _ rfl (ZpS _ _ _ _ _)) rfl)))) eb) ⟨rfl,rfl⟩))
theorem Zph {f1:Zb->M D}{ρ:Zb}{s:Pn}(hp:(ρ[1]?).bind id=some .pen)(h1:Ok (f1 ρ) s fun d s'=>X7 s'/\∃a:Nat,d=nD a) :
  Ok (Zd Zj (Xf (Zc f1 (Zc (Zd Jq (dC (.int 10)) (dC (.int 30))) Zg))) (Zw Zk4 (Zc (Zd Ys (Zv Xt (Zc (Za 1) (Zc (dC (.int 8)) Zg))) (dC (.int 0))) Zg)) ρ) s fun d s'=>X7 s'/\∃a:Nat,d=nD a:=by
 have hv:∀s,Za 1 ρ s=some (.pen,s):=fun s=>by unfold Za YF;rw[hp]
 refine Ok.op (Ok.lst (Ok.cons (h1.mono fun d s1 q=>?_)));obtain⟨ok1,a,rfl⟩:=q;refine Ok.cons (.eq (a:=nD (10 ^ 30)) (s':=s1) ?_ (Ok.nil ⟨by show 2<=sizeLine;decide,?_⟩))
 ·exact Zq (d:=.int 10) (e:=.int 30) rfl rfl (by unfold Jq dI;exact if_pos (by decide))
 ·refine Ok.call (Ok.cons (Ok.op (Ok.draw (m:=8) ok1 (Ze (hv _) (Ze rfl rfl)) (by omega) (by omega) fun b s2 hb ok2=>.eq (a:=.int 0) (s':=s2) rfl ⟨_,Va _ _,Ok.nil ⟨_,rfl,?_⟩⟩)))
  cases hq:((b:Int)==0) with
  | true=>exact⟨nD (10 ^ 30),WH _ _ _,ok2,_,rfl⟩
  | false=>exact⟨nD a,Wd _ _,ok2,_,rfl⟩
end TQ
namespace K41
open L2 TF TQ TS
open TP
open TP2
open TP3
theorem Zn9:∀m,UW m=Jw Vc m
 | 0=>rfl
 | m+1=>by
  show runB 9 3 (Zan (UW m))=runB 9 3 (gHAW Vc (Jw Vc m));rw[Zn9 m];rfl
theorem ZpT:Bi=runB 3 2 (gHKW Vc):=by
 unfold Bi Zbd;rw[Zn9];rfl
theorem Zc4 {n:Nat}{jD:List (Nat×Nat)}{W:List Nat}(hw:IsWeb n jD)(hn:n<=24)(hW:W.length=n)(hb:∀x∈W,x<=4294967296)(s:Pn):Za9 [Zt n jD,Zi W] s=some (.tup [nD (wt W (Yj n jD W)),Zi (Yj n jD W)],s):=by
 have hl:=hw.len hn;have h:=Zkx (Fw:=Vc) n jD W hn (by omega) hW s fun ps hp hpl=>ZcT hW hb hp hpl (.inl rfl) s;rw[<-ZpT] at h;have hm:=(Bn (W:=W) hw hn).1;obtain⟨k1,k2,k3⟩:=WD.mp hm;exact Y7 rfl (XV (WC (Z4 (Ze rfl (Ze rfl rfl)) h)) (YW (Y8 (Xz (ds:=[nD (wt W (Yj n jD W)),Zi (Yj n jD W)]) (Ze (Z4 (Ze rfl (Ze rfl rfl)) (ZcT hW hb k2 (by have:=Zd4 (n:=n) (jD:=jD) (W:=W);omega) (.inr rfl) s)) (Ze rfl rfl)) two_le))))
theorem gtI (a b:Int):B7 (.int a) (.int b)=some (.bl (decide (b<a))):=rfl
theorem Zgb {n:Nat}{jD:List (Nat×Nat)}{W:List Nat}{w:Int}(hw:IsWeb n jD)(hn:n<=24)(hW:W.length=n)(hb:∀x∈W,x<=4294967296)(h:w<((wt W (Yj n jD W):Nat):Int))(s:Pn) :
  JE [Zt n jD,Zi W,.int w] s=some (.tup [.str (qA "knot"),Zi (Yj n jD W)],s):=
 Y7 rfl (XV (WC (Z4 (Ze rfl (Ze rfl rfl)) (Zc4 hw hn hW hb s))) (YW (Zlu (ZV (Zq (d:=nD (wt W (Yj n jD W))) (e:=.int w) (Zq (d:=.tup [nD (wt W (Yj n jD W)),Zi (Yj n jD W)]) (e:=.int 0) rfl rfl (Wd _ _)) rfl (by rw[gtI,decide_eq_true h]))) (YW (Y8 (Xz (ds:=[.str (qA "knot"),Zi (Yj n jD W)]) (Ze rfl (Ze (Zq (d:=.tup [nD (wt W (Yj n jD W)),Zi (Yj n jD W)]) (e:=.int 1) rfl rfl (WH _ _ _)) rfl)) two_le))))))
theorem Zgc {n:Nat}{jD:List (Nat×Nat)}{W:List Nat}{w:Int}(hw:IsWeb n jD)(hn:n<=24)(hW:W.length=n)(hb:∀x∈W,x<=4294967296)(h:((wt W (Yj n jD W):Nat):Int)<=w)(s:Pn) :
  JE [Zt n jD,Zi W,.int w] s=some (.tup [.str (qA "none"),YB YS (Wv 26 n jD W w)],s):=by
 have hk:∀K∈kn jD n,((wt W K:Nat):Int)<=w:=fun K hK=>by
  have:=(Bn (W:=W) hw hn).2 K hK;omega
 exact Y7 rfl (XV (WC (Z4 (Ze rfl (Ze rfl rfl)) (Zc4 hw hn hW hb s))) (XV (Zlv (ZV (Zq (d:=nD (wt W (Yj n jD W))) (e:=.int w) (Zq (d:=.tup [nD (wt W (Yj n jD W)),Zi (Yj n jD W)]) (e:=.int 0) rfl rfl (Wd _ _)) rfl (by rw[gtI,decide_eq_false (by omega)]))) rfl) (YW (Y8 (Xz (ds:=[.str (qA "none"),YB YS (Wv 26 n jD W w)]) (Ze rfl (Ze (Z4 (Ze rfl (Ze rfl (Ze rfl (Ze rfl rfl)))) (Zef YS 26 n jD W w s hw hn hW (by omega) hk)) rfl)) two_le)))))
set_option maxHeartbeats 4000000 in
theorem Zmy (ns:List Int)(h:ns.length<=63):∃s',Zmt (none::some .pen::zC 7 none) ([0,0],ns)=some (.rt (.bl true),s'):=by
 have ok0:X7 ([0,0],ns):=⟨0,0,rfl,by omega,by omega⟩;suffices hh:Ok (Zmt (none::some .pen::zC 7 none)) ([0,0],ns) fun o s'=>o=.rt (.bl true) by
  obtain⟨o,s',e,rfl⟩:=hh;exact⟨s',e⟩
 refine Ok.seq (.sfor (fun i ρ s'=>X7 s'/\∃o2 o3 o4 o5 o6 o7 o8,ρ=[none,some .pen,o2,o3,o4,o5,o6,o7,o8]) (.eq (Wp (n:=3) rfl (by omega)) ⟨⟨ok0,none,none,none,none,none,none,none,rfl⟩,fun i0 d ρ s' hd hI=>?_,fun ρ' s' hI=>?_⟩))
 ·obtain⟨ok1,o2,o3,o4,o5,o6,o7,o8,rfl⟩:=hI
  obtain⟨hi,rfl⟩:=JH hd;clear hd hi ok0;refine⟨_,rfl,?_⟩;refine Ok.seq (.sset (.fn (Ze rfl (Ze rfl rfl)) ((ZoS ok1 8 (by omega)).mono fun d s1 q=>?_)));obtain⟨ok2,n,jD,rfl,hn8,hw⟩:=q;have hn:n<=24:=by omega
  refine Ok.seq (.sset (.fn (Ze rfl (Ze rfl rfl)) ((ZkD (jD:=jD) hn ok2).mono fun d s2 q=>?_)));obtain⟨ok3,W,rfl,hW,hb0⟩:=q;have hb:∀x∈W,x<=4294967296:=fun x hx=>by have:=hb0 x hx;omega
  have hdue:=ZkC hw (by omega) hW hb s2;rw[ZiC hw hn] at hdue;refine Ok.seq (.sset (.eq (Z4 (Ze rfl (Ze rfl rfl)) hdue) ?_));refine Ok.seq (.sset ((Zph rfl (.draw (m:=8001) ok3 (Ze rfl (Ze rfl rfl)) (by omega) (by omega) fun a s3 ha ok4=>⟨ok4,a,rfl⟩)).mono fun d s4 q=>?_));obtain⟨ok5,far,rfl⟩:=q;have hlist:Xf (Zc (Za 5) (Zc (Zw WP (Zc (dC (.int 0)) (Zc (Zd We (Za 5) (dC (.int 1))) Zg))) (Zc (Zd Y4 (Za 5) (dC (.int 1))) (Zc (Za 6) Zg)))) [none,some .pen,some (.int (i0:Int)),some (Zt n jD),some (Zi W),some (nD (wt W (Yj n jD W))),some (nD far),o7,o8] s4=some (.lst (([((wt W (Yj n jD W):Nat):Int),max 0 (((wt W (Yj n jD W):Nat):Int)-1),((wt W (Yj n jD W):Nat):Int)+1,(far:Int)]:List Int).map D.int),s4):=by
   refine Ud (Ze rfl (Ze (Z1 (Ze rfl (Ze (Zq (d:=nD (wt W (Yj n jD W))) (e:=.int 1) rfl rfl rfl) rfl)) ?_) (Ze (Zq (d:=nD (wt W (Yj n jD W))) (e:=.int 1) rfl rfl rfl) (Ze rfl rfl)))) (by show 4<=sizeLine;decide);show some (D.int (if ((wt W (Yj n jD W):Nat):Int)-1 > 0 then ((wt W (Yj n jD W):Nat):Int)-1 else 0))=some (D.int (max 0 (((wt W (Yj n jD W):Nat):Int)-1)));congr 2;split <;> omega
  refine Ok.seq (.sfor (fun i ρ s'=>s'=s4/\∃o7 o8,ρ=[none,some .pen,some (.int (i0:Int)),some (Zt n jD),some (Zi W),some (nD (wt W (Yj n jD W))),some (nD far),o7,o8]) (.eq (X9 hlist) ⟨⟨rfl,_,_,rfl⟩,fun k d ρ s' hd hI=>?_,fun ρ' s' hI=>?_⟩))
  ·obtain⟨rfl,o7,o8,rfl⟩:=hI
   rw[qy] at hd;obtain⟨w,_,rfl⟩:=zi.mp hd;refine⟨_,rfl,?_⟩;clear hlist hd;by_cases hle:((wt W (Yj n jD W):Nat):Int)<=w
   ·refine Ok.seq (.sset (.eq (Z4 (Ze rfl (Ze rfl (Ze rfl rfl))) (Zgc hw hn hW hb hle s')) ?_))
    refine Ok.seq (.sif (.eq (a:=false) (X5 (XM (b:=true) (ZV (Z1 (Ze rfl (Ze rfl rfl)) rfl))) (ZV (Zq (d:=.int 2) (e:=.int 2) (Z1 (Ze rfl rfl) rfl) rfl (nei _ _)))) (.next ?_)));refine Ok.seq (.sif (.eq (a:=true) (ZV (Zq (d:=nD (wt W (Yj n jD W))) (e:=.int w) rfl rfl (by rw[JD,decide_eq_true hle]))) ?_));have hk:∀K∈kn jD n,((wt W K:Nat):Int)<=w:=fun K hK=>by
     have:=(Bn (W:=W) hw hn).2 K hK;omega
    have hp:=Zga (Wv 26 n jD W w) 26 n jD W w s' hw hn8 hW hb (by omega) (Zis 26 n jD W w hw (by omega) (by omega) hW hk).1;rw[if_pos rfl];refine Ok.seq (.sif (.eq (a:=false) (X5 (ZV (Zq (d:=.str (qA "none")) (e:=.str (qA "none")) (Zq (d:=.tup [.str (qA "none"),YB YS (Wv 26 n jD W w)]) (e:=.int 0) rfl rfl (Wd _ _)) rfl (ZiA _))) (XM (b:=true) (ZV (Z4 (Ze rfl (Ze rfl (Ze rfl (Ze (Zq (d:=.tup [.str (qA "none"),YB YS (Wv 26 n jD W w)]) (e:=.int 1) rfl rfl (WH _ _ _)) rfl)))) hp)))) (.next ?_)));exact .next (.next ⟨_,rfl,rfl,_,_,rfl⟩)
   ·have hgt:w<((wt W (Yj n jD W):Nat):Int):=by omega
    have hm:=(Bn (W:=W) hw hn).1;obtain⟨k1,k2,k3⟩:=WD.mp hm;have hkl:=Zd4 (n:=n) (jD:=jD) (W:=W);refine Ok.seq (.sset (.eq (Z4 (Ze rfl (Ze rfl (Ze rfl rfl))) (Zgb hw hn hW hb hgt s')) ?_));refine Ok.seq (.sif (.eq (a:=false) (X5 (XM (b:=true) (ZV (Z1 (Ze rfl (Ze rfl rfl)) rfl))) (ZV (Zq (d:=.int 2) (e:=.int 2) (Z1 (Ze rfl rfl) rfl) rfl (nei _ _)))) (.next ?_)));refine Ok.seq (.sif (.eq (a:=false) (ZV (Zq (d:=nD (wt W (Yj n jD W))) (e:=.int w) rfl rfl (by rw[JD,decide_eq_false hle]))) ?_));rw[if_neg (by decide)];have i1:∀ρ:Zb,(ρ[8]?).bind id=some (.tup [.str (qA "knot"),Zi (Yj n jD W)])->Zd Zj (Za 8) (dC (.int 1)) ρ s'=some (Zi (Yj n jD W),s'):=fun ρ h=>Zq (d:=.tup [.str (qA "knot"),Zi (Yj n jD W)]) (e:=.int 1) (by unfold Za YF;rw[h]) rfl (WH _ _ _);refine Ok.seq (.sif (.eq (a:=false) (X5 (ZV (Zq (d:=.str (qA "knot")) (e:=.str (qA "knot")) (Zq (d:=.tup [.str (qA "knot"),Zi (Yj n jD W)]) (e:=.int 0) rfl rfl (Wd _ _)) rfl (ZiA _))) (XM (b:=true) (ZV (Z4 (Ze rfl (Ze (i1 _ rfl) rfl)) (Zdc (by omega) hm s'))))) ?_));rw[if_neg (by decide)];have hc:=Xk (src:=[none,some 4]) (fi:=XR (Zd Zj (Za 8) (dC (.int 1)))) (τ:=ZE 0) (ft:=Yq) (fe:=Zd Zj (Za 1) (Za 0)) (ρ:=[none,some .pen,some (.int (i0:Int)),some (Zt n jD),some (Zi W),some (nD (wt W (Yj n jD W))),some (nD far),some (.int w),some (.tup [.str (qA "knot"),Zi (Yj n jD W)])]) (s:=s') (ds:=(Yj n jD W).map nD) (fun d=>[some d,some (Zi W)]) (fun _=>true) (fun d=>nD (W.getD (Yc d) 0)) (V9 (i1 _ rfl)) (by rw[qd,YG];omega) (fun d hd=>by
     obtain⟨x,hx,rfl⟩:=qC.mp hd;exact⟨rfl,rfl,fun _=>Zq (d:=Zi W) (e:=nD x) rfl rfl (WE (by rw[hW];exact k2 x hx))⟩)
    rw[WY,qH] at hc;have e:(Yj n jD W).map ((fun d=>nD (W.getD (Yc d) 0))∘nD)=((Yj n jD W).map fun p=>W.getD p 0).map nD:=by rw[qH];rfl
    rw[e] at hc;have hsum:=Zdw ((Yj n jD W).map fun p=>W.getD p 0) fun x hx=>by
     obtain⟨p,hpp,rfl⟩:=qC.mp hx;refine hb _ ?_;rw[qj,qk (by rw[hW];exact k2 p hpp)];exact zu _
    refine Ok.seq (.sif (.eq (a:=false) (ZV (Zq (d:=nD (wt W (Yj n jD W))) (e:=.int w) (Z1 (Ze hc rfl) hsum) rfl (by rw[JD,decide_eq_false hle]))) (.next ?_)));exact .next (.next (.next ⟨_,rfl,rfl,_,_,rfl⟩))
  ·obtain⟨rfl,o7,o8,rfl⟩:=hI
   exact .next ⟨_,rfl,ok5,_,_,_,_,_,_,_,rfl⟩
 ·obtain⟨ok1,o2,o3,o4,o5,o6,o7,o8,rfl⟩:=hI
  exact Ok.seq (.sret (.eq (a:=.bl true) rfl rfl))
end K41
namespace K41
open L2 TF TQ
open TP
open TP2
open TP3
set_option maxHeartbeats 4000000 in
theorem Zpi {P:Program}{w:World}{K:qm}{mg:Str->Option Value}{base:Heap}{jY:Addr}{jI:FuncData}{L:List (Addr×Str)}(lo:Wm L)(F:Fun K "law" "law" s_law jY jI)(T:Txt mg)(j7:ZN P w K mg base 2 "_law_heaviest" 2 false ZU Bh)(jK:ZN P w K mg base 29 "_law_is_heavy_paper" 4 false ZU (V1 26))(jJ:ZN P w K mg base 2 "_law_next" 2 true (X8 (Wt K) L) Xt)(jR:ZN P w K mg base 3 "_law_places_right" 2 false ZU Bf)(kr:ZN P w K mg base 3 "_law_web" 2 true (X8 (Wt K) L) Bq)(j9:ZN P w K mg base 3 "_law_weighed" 2 true (X8 (Wt K) L) Bj)(jS:ZN P w K mg base 60 "settled_by_weight" 3 true (YK L) JE) :
  FnOk P w K mg base ZX 61 jY jI ["script"] (Zia K L):=by
 have nd:=Zix.nd;refine F.ok Zix (fun vs H Q E h=>?_) fun cdv A outer s0 H vs Q E hr h=>?_
 ·obtain⟨a,ns,rfl,_⟩:=h
  rfl
 ·obtain⟨a,ns,rfl,sq,hl,hTb,hQ⟩:=h
  obtain⟨s',hs'⟩:=Zmy ns hl;refine⟨_,V5 (Jb (i:=1) nd rfl (qI rfl) (Zm7 (Y6 (pv 0) (Y6 XB (Y6 XB XC))))) (Zlx (GG:=X8 (Wt K) L) fun G hG=>ZnG lo T hr j7 jK jJ jR kr j9 jS G hG),?_⟩;refine⟨_,rfl,(by show 3<=sizeLine;decide),fun p hp hk=>?_⟩;exact ZlU (n:=7) (N:=["script","_law_pen","_law_turn","_law_told","_law_weights","_law_due","_law_far","_law_w","_law_found"]) sq hTb hp hk hQ hs'
def Zoa:List DRow:=[dR "pairs_of" 1 189 2 1 15 196 true "tiefold.things" 187,
 dR "near" 3 201 9 2 22 204 false "tiefold.webs" 199,
 dR "all_near" 4 207 11 1 27 210 false "tiefold.webs" 199,
 dR "are_tied" 5 213 14 3 32 219 true "tiefold.webs" 199,
 dR "marked_ties" 6 222 16 1 39 225 false "tiefold.webs" 199,
 dR "turned" 7 228 18 1 44 233 true "tiefold.webs" 199,
 dR "part" 8 236 21 2 51 241 true "tiefold.webs" 199,
 dR "numbered_anew" 9 244 23 2 58 250 true "tiefold.webs" 199,
 dR "web_where" 10 253 26 2 65 256 false "tiefold.webs" 199,
 dR "heaviest_knot" 12 261 30 2 70 264 false "tiefold.most" 259,
 dR "heaviest_among" 13 267 33 3 75 270 false "tiefold.most" 259,
 dR "apart_among" 14 273 45 3 80 276 false "tiefold.most" 259,
 dR "heaviest_with" 15 279 47 4 85 282 false "tiefold.most" 259,
 dR "weighed" 16 285 50 2 90 288 false "tiefold.most" 259,
 dR "hued_along" 18 293 53 2 95 296 false "tiefold.hues" 291,
 dR "least_free" 19 299 59 1 100 302 false "tiefold.hues" 291,
 dR "weighed_by_hues" 21 307 62 2 105 314 true "tiefold.papers" 305,
 dR "places_without" 22 317 67 2 112 320 false "tiefold.papers" 305,
 dR "weights_along" 23 323 69 2 117 326 false "tiefold.papers" 305,
 dR "bound" 24 329 71 4 122 338 true "tiefold.papers" 305,
 dR "bound_of_part" 25 341 79 5 129 349 true "tiefold.papers" 305,
 dR "heavy_first" 26 352 81 2 136 359 true "tiefold.papers" 305,
 dR "heaviest" 28 364 85 2 143 370 true "tiefold.weights" 362,
 dR "settled_by_weight" 29 373 88 3 150 380 true "tiefold.weights" 362,
 dR "_law_fill" 31 385 94 2 157 391 true "law_tiefold_k41_settled_by_weight" 383,
 dR "_law_next" 32 394 100 2 164 402 true "law_tiefold_k41_settled_by_weight" 383,
 dR "_law_web" 33 405 113 2 171 408 false "law_tiefold_k41_settled_by_weight" 383,
 dR "_law_tied" 34 411 128 3 176 417 true "law_tiefold_k41_settled_by_weight" 383,
 dR "_law_is_knot" 35 420 130 2 183 427 true "law_tiefold_k41_settled_by_weight" 383,
 dR "_law_knots" 36 430 136 1 190 433 false "law_tiefold_k41_settled_by_weight" 383,
 dR "_law_most" 37 436 148 1 195 439 false "law_tiefold_k41_settled_by_weight" 383,
 dR "_law_places_right" 38 442 150 2 200 448 true "law_tiefold_k41_settled_by_weight" 383,
 dR "_law_weighed" 39 451 157 2 207 459 true "law_tiefold_k41_settled_by_weight" 383,
 dR "_law_heaviest" 40 462 163 2 214 465 false "law_tiefold_k41_settled_by_weight" 383,
 dR "_law_part" 41 468 168 2 219 478 true "law_tiefold_k41_settled_by_weight" 383,
 dR "_law_rest" 42 481 177 2 226 484 false "law_tiefold_k41_settled_by_weight" 383,
 dR "_law_near" 43 487 179 2 231 490 false "law_tiefold_k41_settled_by_weight" 383,
 dR "_law_hued" 44 493 181 2 236 501 true "law_tiefold_k41_settled_by_weight" 383,
 dR "_law_is_place" 45 504 191 2 243 509 true "law_tiefold_k41_settled_by_weight" 383,
 dR "_law_is_heavy_paper" 46 512 193 4 250 515 false "law_tiefold_k41_settled_by_weight" 383,
 dR "law" 47 518 216 1 255 521 false "law_tiefold_k41_settled_by_weight" 383]
def KF (P:Params):qm:=ZpP Yb 181 ([dE P "__name__" 165 (.str "law_tiefold_k41_settled_by_weight" 383)] ++ [dE P "__doc__" 166 (.none)] ++ [dE P "__package__" 167 (.none)] ++ [dE P "__loader__" 168 (.builtin "__main__.__loader__#opaque")] ++ [dE P "__spec__" 169 (.none)]++dRs P [nE "__annotations__" 170 6,nE "__builtins__" 171 4] ++ [dE P "__file__" 173 (.str "/claim/cut.py" 172)] ++ [dE P "__cached__" 174 (.none)]++dRs P [nE "pairs_of" 198 21,nE "near" 206 26,nE "all_near" 212 31,nE "are_tied" 221 38,nE "marked_ties" 227 43,nE "turned" 235 50,nE "part" 243 57,nE "numbered_anew" 252 64,nE "web_where" 258 69,nE "heaviest_knot" 266 74,nE "heaviest_among" 272 79,nE "apart_among" 278 84,nE "heaviest_with" 284 89,nE "weighed" 290 94,nE "hued_along" 298 99,nE "least_free" 304 104,nE "weighed_by_hues" 316 111,nE "places_without" 322 116,nE "weights_along" 328 121,nE "bound" 340 128,nE "bound_of_part" 351 135,nE "heavy_first" 361 142,nE "heaviest" 372 149,nE "settled_by_weight" 382 156,nE "_law_fill" 393 163,nE "_law_next" 404 170,nE "_law_web" 410 175,nE "_law_tied" 419 182,nE "_law_is_knot" 429 189,nE "_law_knots" 435 194,nE "_law_most" 441 199,nE "_law_places_right" 450 206,nE "_law_weighed" 461 213,nE "_law_heaviest" 467 218,nE "_law_part" 480 225,nE "_law_rest" 486 230,nE "_law_near" 492 235,nE "_law_hued" 503 242,nE "_law_is_place" 511 249,nE "_law_is_heavy_paper" 517 254,nE "law" 523 259]) 50 Zoa
def asF:List Addr:=[3,20,21,25,26,30,31,37,38,42,43,49,50,56,57,63,64,68,69,73,74,78,79,83,84,88,89,93,94,98,99,103,104,110,111,115,116,120,121,127,128,134,135,141,142,148,149,155,156,162,163,169,170,174,175,181,182,188,189,193,194,198,199,205,206,212,213,217,218,224,225,229,230,234,235,241,242,248,249,253,254,258,259]
theorem eF:∀P,asF=(KF P).map (·.1):=fun _=>by kernel_rfl
theorem okF (P:Params):Zf8 (KF P) Yb Zoa:=by
 repeat refine⟨⟨by kernel_rfl,by kernel_rfl,by kernel_rfl⟩,?_⟩
 exact trivial
abbrev LF:List (Addr×Str):=[(137,(qA "heavy_first.<locals>.<lambda>")),(59,(qA "numbered_anew.<locals>.<lambda>")),(45,(qA "turned.<locals>.<lambda>"))]
set_option maxHeartbeats 4000000 in
theorem Zpj {P:Program}{w:World}{h:Heap}{mg:Str->Option Value}{fa:Addr}(X:(KF w.params).In h)(G:h.Ns mainGlobals mg)(hfa:mg "law" = some (.ref fa)) :
  ∃fd:FuncData,(∀(s:Shared) (v:Value),BindsTo s fd ⟨[v],[]⟩ [("script",v)])/\∀base:Heap,(KF w.params).In base->base.Ns mainGlobals mg->zK base 141 137->zK base 63 59->zK base 49 45->UU mg base->FnOk P w (KF w.params) mg base ZX 61 fa fd ["script"] (Zia (KF w.params) LF):=by
 have lo:Wm LF:=TF.lok_nd (by decide);have zn:∀x,qbi (KF w.params) mainGlobals x=some none->mg x=none:=fun _ z=>PySem.W.mg_none_of X G z;have T:Txt mg:=⟨zn _ (by kernel_rfl),zn _ (by kernel_rfl),zn _ (by kernel_rfl),zn _ (by kernel_rfl),zn _ (by kernel_rfl),zn _ (by kernel_rfl),zn _ (by kernel_rfl),zn _ (by kernel_rfl),zn _ (by kernel_rfl),zn _ (by kernel_rfl),zn _ (by kernel_rfl),zn _ (by kernel_rfl),zn _ (by kernel_rfl),zn _ (by kernel_rfl),zn _ (by kernel_rfl)⟩;have mk:=@mkc P w (KF w.params) mg;have at_:=fun j {r} e=>@Zpe _ h mg _ _ (okF w.params) X G j r e;obtain⟨f1,_,F1,m1,_⟩:=at_ 29 rfl;obtain⟨f2,_,F2,m2,_⟩:=at_ 33 rfl;obtain⟨f3,_,F3,m3,_⟩:=at_ 37 rfl;obtain⟨f4,_,F4,m4,_⟩:=at_ 38 rfl;obtain⟨f5,_,F5,m5,_⟩:=at_ 27 rfl;obtain⟨f6,_,F6,m6,_⟩:=at_ 36 rfl;obtain⟨f7,_,F7,m7,_⟩:=at_ 34 rfl;obtain⟨f8,_,F8,m8,_⟩:=at_ 35 rfl;obtain⟨f9,_,F9,m9,_⟩:=at_ 39 rfl;obtain⟨f10,_,F10,m10,_⟩:=at_ 24 rfl;obtain⟨f11,_,F11,m11,_⟩:=at_ 25 rfl;obtain⟨f12,_,F12,m12,_⟩:=at_ 28 rfl;obtain⟨f13,_,F13,m13,_⟩:=at_ 31 rfl;obtain⟨f14,_,F14,m14,_⟩:=at_ 26 rfl;obtain⟨f15,_,F15,m15,_⟩:=at_ 32 rfl;obtain⟨f16,_,F16,m16,_⟩:=at_ 4 rfl;obtain⟨f17,_,F17,m17,_⟩:=at_ 3 rfl;obtain⟨f18,_,F18,m18,_⟩:=at_ 1 rfl;obtain⟨f19,_,F19,m19,_⟩:=at_ 2 rfl;obtain⟨f20,_,F20,m20,_⟩:=at_ 15 rfl;obtain⟨f21,_,F21,m21,_⟩:=at_ 14 rfl;obtain⟨f22,_,F22,m22,e22⟩:=at_ 21 rfl;obtain⟨f23,_,F23,m23,_⟩:=at_ 17 rfl;obtain⟨f24,_,F24,m24,_⟩:=at_ 16 rfl;obtain⟨f25,_,F25,m25,_⟩:=at_ 0 rfl;obtain⟨f26,_,F26,m26,_⟩:=at_ 8 rfl;obtain⟨f27,_,F27,m27,e27⟩:=at_ 7 rfl;obtain⟨f28,_,F28,m28,_⟩:=at_ 6 rfl;obtain⟨f29,_,F29,m29,_⟩:=at_ 18 rfl;obtain⟨f30,_,F30,m30,_⟩:=at_ 20 rfl;obtain⟨f31,_,F31,m31,_⟩:=at_ 19 rfl;obtain⟨f32,_,F32,m32,_⟩:=at_ 11 rfl;obtain⟨f33,_,F33,m33,_⟩:=at_ 13 rfl;obtain⟨f34,_,F34,m34,_⟩:=at_ 12 rfl;obtain⟨f35,_,F35,m35,_⟩:=at_ 10 rfl;obtain⟨f36,_,F36,m36,e36⟩:=at_ 5 rfl;obtain⟨f37,_,F37,m37,_⟩:=at_ 9 rfl;obtain⟨f38,_,F38,m38,_⟩:=at_ 22 rfl;obtain⟨f39,_,F39,m39,_⟩:=at_ 23 rfl;obtain⟨f40,_,F40,m40,_⟩:=at_ 40 rfl
 cases hfa.symm.trans m40
 have j8:=fun b=>mk b F17 m17 (Zhk F17 T );have kO:=fun b=>mk b F25 m25 (Zhj F25 T );have kR:Ju P w (KF w.params) mg 5 "web_where" 2 false (Js P w (KF w.params) mg 4 2 Tl) UZ:=⟨f26,_,_,fun b=>Zf0 F26 T (kO b),m26,F26.kp,bdc ["row","tied"] F26⟩;obtain⟨oc,od,kV,doc,pm,an,cdv,ct,osl,rfl,lk,hcd⟩:=F40.ex;refine⟨yg "law" "law" (Vf s_law) (WM s_law) (ZD s_law) .none kV doc pm an cdv ct,fun s v=>.of_eq rfl,fun base _ _ hC22 hC27 hC36 hBm=>?_⟩;have kE:=mk base F1 m1 (Zex F1 T );have j7:=mk base F2 m2 (ZcH F2 T kE);have kG:=mk base F3 m3 (Zf2 F3 T );have km:=mk base F4 m4 (ZcI F4 T );have ke:=mk base F5 m5 (Zf4 F5 T );have kH:=mk base F6 m6 (Zf5 F6 T ke);have kx:=mk base F7 m7 (Zf6 F7 T );have kI:=mk base F8 m8 (Zf3 F8 T );have kF:∀j:Nat,ZN P w (KF w.params) mg base (2+j) "_law_is_heavy_paper" 4 false ZU (V1 j):=by
  intro j
  induction j with
  | zero=>exact ZN.none m9 F9.kp (bdc ["_law_told","_law_weights","_law_w","_law_thing"] F9)
  | succ j ih=>exact mk base F9 m9 (Zba F9 T (qbc _ _) kG ih km kH kx kI)
 have jK:=(kF 26).mono (k:=29);have kJ:=mk base F10 m10 (Zf1 F10 T );have kT:=mk base F11 m11 (Zf7 F11 T kJ Zmu);have jJ:ZN P w (KF w.params) mg base 2 "_law_next" 2 true (X8 (Wt (KF w.params)) LF) Xt:=Zly kT ZlV;have kq:=mk base F12 m12 (Zdf F12 T ke);have jR:=mk base F13 m13 (Zbv F13 T kq);have kr:=mk base F14 m14 (Zho F14 T lo jJ);have j9:=mk base F15 m15 (Zde F15 T lo jJ);have jQ:=mk base F16 m16 (Zd8 F16 T );have kK:=j8 base;have kN:=mk base F18 m18 (ZnE F18 T kK);have jZ:=mk base F19 m19 (Zhl F19 T jQ kN);have kC:=mk base F20 m20 (Zev F20 T );have kD:=mk base F21 m21 (Zew F21 T jZ kC);have kB:=mk base F22 m22 (Zeb F22 T lo jZ kD (tP:=137) e22 hC22 hBm (by simp));have kg:=mk base F23 m23 (Zcj F23 T );have kf:=mk base F24 m24 (ZbU F24 T );have kP:=kO base;have kc:=kR;have ki:=mk base F27 m27 (ZcE F27 T lo jQ kc j8 (tP:=59) e27 hC27 hBm (by simp));have kU:=mk base F28 m28 (ZnF F28 T lo ki);have kj:=mk base F29 m29 (ZcF F29 T );have rr:∀j:Nat,ZN P w (KF w.params) mg base (7+2*j) "bound" 4 true (YK LF) (Ua j):=by
  intro j
  induction j with
  | zero=>exact ZN.none m31 F31.kp (bdc ["plainest","web","weights","w"] F31)
  | succ j ih=>
   have kb:=mk base F30 m30 (ZcG F30 T lo (by omega) ih kU kj);have z:ZN P w (KF w.params) mg base (7+2*j+2) "bound" 4 true (YK LF) (Ua (j+1)):=mk base F31 m31 (Zms F31 T lo (by omega) kb kB kN kg kf);exact z.mono (h:=by omega)
 have kM:=(rr 26).mono (k:=59);have kA:=mk base F32 m32 (Zd9 F32 T );have kd:=mk base F33 m33 (Ziv F33 T );have rr:∀j:Nat,ZN P w (KF w.params) mg base (1+2*j) "heaviest_among" 3 false ZU (UW j):=by
  intro j
  induction j with
  | zero=>exact ZN.none m35 F35.kp (bdc ["aparts","weights","places"] F35)
  | succ j ih=>
   have ka:=mk base F34 m34 (ZcC F34 T (by omega) ih);have z:ZN P w (KF w.params) mg base (1+2*j+2) "heaviest_among" 3 false ZU (UW (j+1)):=mk base F35 m35 (Zci F35 T (by omega) kA ih ka kd);exact z.mono (h:=by omega)
 have jP:=(rr 26).mono (k:=53);have kQ:=mk base F36 m36 (Zky F36 T lo jQ kc j8 (tP:=45) e36 hC36 hBm (by simp));have kh:=mk base F37 m37 (ZcD F37 T lo jZ jP kQ);have kL:=mk base F38 m38 (Zhm F38 T lo kh kd);have jS:=mk base F39 m39 (Zbu F39 T lo kM kL);exact Zpi lo F40 T j7 jK jJ jR kr j9 jS
def tb:List (Str×Addr×Addr):=[("heavy_first",141,137),("numbered_anew",63,59),("turned",49,45)]
theorem Zpk:∀P q,(P,q)∈LF->∃x c,(x,c,P)∈tb:=by
 intro P q h;simp only[qq,Prod.mk.injEq,zd,or_false] at h;rcases h with⟨rfl,_⟩ | ⟨rfl,_⟩ | ⟨rfl,_⟩
 ·exact⟨"heavy_first",141,by simp[tb]⟩
 ·exact⟨"numbered_anew",63,by simp[tb]⟩
 ·exact⟨"turned",49,by simp[tb]⟩
def qF:Program:=PySem.W.view PySem.Challenge.pw_tiefold_k41_settled_by_weight [1,3,4,5,6,7,8,9,10,12,13,14,15,16,18,19,21,22,23,24,25,26,28,29,31,32,33,34,35,36,37,38,39,40,41,42,43,44,45,46,47]
theorem walk {loose:List Str}{XP:(Str->Option Value)->Heap->Prop}{YP:World->Heap->Prop}(hY:∀(w:World) (h:Heap),YP w h->(KF w.params).In h) :
  qbP qF loose XP YP PySem.Challenge.rw_tiefold_k41_settled_by_weight.row.toRowW (Ziz s_law) [] (fun f vs=>qbJ f vs):=
 ZlA (K:=KF) (tb:=tb) (n:=63) (k:=61) (x:="script") (CX:=fun _=>ZX) (sp:=fun w=>Zia (KF w.params) LF) rfl (by decide) rfl ⟨rfl,by decide,by decide,rfl⟩ hY
  (yj.mpr ⟨zT.mp (by kernel_rfl),yj.mpr ⟨zT.mp (by kernel_rfl),yj.mpr ⟨zT.mp (by kernel_rfl),(fun _ h=>nomatch h)⟩⟩⟩)
  (fun w=>yj.mpr ⟨by kernel_rfl,yj.mpr ⟨by kernel_rfl,yj.mpr ⟨by kernel_rfl,(fun _ h=>nomatch h)⟩⟩⟩) (fun w=>by kernel_rfl)
  (fun w mg fa h h1 h2 h3=>let ⟨fd,hb,hF⟩:=Zpj h1 h2 h3;⟨fd,hb,fun base g1 g2 g3 g4=>hF base g1 g2 (g3 ("heavy_first",141,137) (by simp[tb])) (g3 ("numbered_anew",63,59) (by simp[tb])) (g3 ("turned",49,45) (by simp[tb])) g4⟩)
  (fun _ _ a ns hl hS hTb=>⟨a,ns,rfl,hS,hl,Zib (tb:=tb) Zpk hTb,fun _=>rfl⟩) fun _ _ _ _ _ z=>z
theorem left:PySem.W.LeftO PySem.Challenge.rw_tiefold_k41_settled_by_weight.prog qF [] (fun s=>PySem.W.xlAt qF [] s&&PySem.W.recOk PySem.Challenge.rw_tiefold_k41_settled_by_weight.row.records s) (yJ KF asF eF).obs (yJ KF asF eF).val 2618:=fun w=>by kernel_rfl
theorem said:PySem.Challenge.rw_tiefold_k41_settled_by_weight.wellSaid=true:=by kernel_rfl
end K41
open PySem.W
set_option maxRecDepth 100000 in
set_option maxHeartbeats 0 in
theorem PySem.Challenge.cw_tiefold_k41_settled_by_weight_holds : PySem.Challenge.rw_tiefold_k41_settled_by_weight.Holds := by
 refine TF.head_of (q:=K41.qF) (K:=K41.KF) (st:=K41.s_law) K41.said K41.left (by kernel_rfl) (by kernel_rfl) (by kernel_rfl) (by decide +kernel) ⟨rfl,rfl,rfl,rfl,rfl,by decide +kernel⟩ ?hw rfl (K41.walk fun w h Y=>kIn_of Y)
 case hw=>w_witness2
