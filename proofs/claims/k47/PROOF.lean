import PyProof.Rows.All
import Wide.All
import OpenK.AllK
import Wide.FinOn
import Lean
import PyProof.EqAt
import PyProof.EqKinds
import PyProof.TupleCall
import KE.KLam
import PyProof.ExcClass2
import PyProof.ExcBaseAll.ValueError
import OpenK.KRaise
import KE.KTryMore
import PyProof.ExcAttrAll.ValueError
import PyProof.NsDelKeeps
import PyProof.ZipIter
import PyProof.WalksEnum
import PyProof.WalkInts
import PyProof.SeqI3
import PyProof.Rows.SeqMore
import PyProof.Rows.SortWalk
import PyProof.Draws
import PyProof.EnumMake
import PyProof.DictIter
import KE.KSortTup
import PyProof.Rows.SeqMore2
import PyProof.Rows.RuleIs
import PyProof.Rows.SetFrom
import PyProof.WalksMore
import PyProof.MinMaxWalk
import OpenK.KMore
import KE.KDictSum
import PyProof.DictFindH
import PyProof.DictRoadsH
import PyProof.Rows.CountFlat
import PyProof.Rows.SortRuns
import PyProof.Rows.SortRunsK
import PySem.Challenge.RW_tiefold_k47_kept_refusals
-- CHANGE: your row's module here,as the last of these rows
open PySem.Str renaming ofString->qd,ofString->qaz
open PySem.W renaming Frag->qf,kia_one->qT,keepIn->qY,fnOf->zi,findIn->zk,emptyDict->zr,instObj->zC,mg_of->zF,kla_fn->zK,CodeHd->zL,callWith_K->zN,envX->zW,kHook->z9,codeIn->yk,exmOne->ym,kitOne->yH,plainGet->yW,methodCall_KW->y6,hideAll->qab,nsIn->qaj,hideAll_get->qao,plainGet_of->qap,lookIn->qas,tabObj->qat,of_hideAll->qaw,Looks->qaB,hasDictIn->qaH,takerIn->qa9,cellsFrom_some->qbb,hideAll_size->qbl,hideAll_none->qbm,WalkO->qbz,isFn->qbF
open PySem.Heap renaming get?_push_of_some->qj,lt_size->qt,get?_push_size->qw,SameBut->zv,get?_update_self->y8,get?_update_other->qbd,size_push->qbf,get?_none_of_le->qbn,FlyingW->qbI
open List renaming replicate->qk,length_map->qp,range->qu,getElem?_set_ne->qv,getElem?_eq_some_iff->qx,mem_cons->qy,mem_map->qA,mem_filter->qC,getElem?_set_self->qD,getElem?_map->qE,mem_append_right->qH,map_map->qJ,map_cons->qK,mem_cons_of_mem->qL,mem_of_getElem?->qP,map_append->qQ,lookup_cons->qR,getElem?_append_left->qS,length_cons->qV,size_toArray->za,length_range->zb,append_nil->zg,nodup_cons->zh,toArray->zw,getElem?_append_right->zx,all_eq_true->zy,getElem?_eq_getElem->zE,getElem?_replicate->zG,filter_sublist->zI,mem_range->zJ,length_append->zO,length_take->zT,not_mem_nil->zV,idxOf_lt_length_iff->zX,filterMap_cons->zY,length_eq_zero_iff->zZ,filter_cons_of_pos->z5,filter_cons_of_neg->z6,mem_filterMap->yc,filter_map->yf,pairwise_cons->yg,mem_singleton->yh,getElem_map->yp,mem_map_of_mem->yr,mem_append->yw,length_nil->yx,drop_eq_getElem_cons->yy,getElem?_zip_eq_some->yz,pairwise_iff_getElem->yA,map_nil->yG,take_sublist->yN,pairwise_map->yP,lookup->yR,length_filter_le->y9,of_mem_zip->qac,foldl->qae,range_succ->qai,dropLast_concat->qal,pairwise_append->qam,filter_eq_self->qaq,map_congr_left->qar,mem_cons_self->qay,Pairwise->qaD,getD_eq_getElem?_getD->qaG,ext_getElem?->qaJ,append_assoc->qaK,nodup_append->qaL,getElem?_take_of_lt->qaS,nodup_range->qaY,getElem_mem->qaZ,sublist_append_left->qa0,pairwise_mergeSort->qa5,length->qbc,range_succ_eq_map->qbe,nodup_nil->qbg,mem_append_left->qbo,drop_eq_nil_iff->qbs,getElem_toArray->qbw,forall_mem_cons->qbx,any_cons->qby,mergeSort_perm->qbB,getElem_of_mem->qbC,findSome?_cons->qbD,filter->qbN
open PySem.Value renaming ref->qm,none->qO,bool->qZ,builtin->z8,int->qav,type->qaN,str->qa8,notImplemented->qbq,float->qbL
open Nat renaming le_refl->qq,lt_of_lt_of_le->qB,ne_of_lt->qG,le_trans->qI,zero_le->zc,lt_irrefl->zQ,le_succ_of_le->yQ,le_of_lt->qaa,lt_succ_of_lt->qaM,lt_succ_self->qaR,lt_trans->qaU,mul_le_mul->qbh,ne_of_gt->qbE,le_of_eq->qbG,mul_comm->qbH,le_succ->qbM
open Or renaming inl->qz,inr->qag
open False renaming elim->qM
open Ne renaming symm->qN
open Option renaming isSome_iff_exists->qU,isSome_map->qaI,map_some->qba
open PySem renaming mem_of_lookup->qW,Within->qaQ,call->qbr
open PyProof.Rows renaming slot_tuple_getitem->qX,callWith_type1->zM
open Bool renaming and_eq_true->zd,false_ne_true->zj,and_eq_true_iff->zo,false_eq_true->zB,noConfusion->yo
open PySem.NameKind renaming free->ze,cell->yq
open Option.some renaming inj->zf
open True renaming intro->zl
open PySem.Obj renaming mapSeq->zm,data_mapDictKeys->qbv
open PySem.F renaming slot_dict_keyiterator_next->zp,plainAttrs_list->zq,slot_int_rmul->zD,slot_list_index->z0,slot_tuple_mul->yi,args_tuple_add_2->yB,slot_list_getattribute->yD,args_tuple_mul_2->yF,entry_tuple_add->yI,entry_tuple_mul->yM,args_int_rmul_2->yO,slot_tuple_add->yS,slot_int_index->yX,entry_int_rmul->yY,fills_int_mul->qaf,args_dict_keyiterator_next_1->qak,entry_dict_keyiterator_next->qan,excBase_ValueError->qaF,args_list_index_2->qaP,slot_list_append->qaV,type_list_append->qaW,entry_list_index->qa2,type_list_index->qa6,slot_list_count->qa7,slot_dict_pop->qbk
open PySem.PassesOwn renaming never->zt
open Sum renaming inl->zu,inr->qbK
open Array renaming length_toList->zH,getElem?_eq_getElem->zS,getElem?_eq_none->yV,getElem?_toList->qbj,toList_append->qbA
open List.cons renaming injEq->zP
open PySem.Builtin.Slice renaming slicePlaces->zR,sliceAdjust->qaO
open PySem.AutoSeq1 renaming sub_tuple_tuple->zU,sub_tuple_list->yK,sub_list_tuple->yL,sub_list_list->yU,idx_int->qa1
open PySem.Paired renaming length->z7
open PySem.SeqAt renaming EqAt->yb,RcNeAt->qaX,RcAt->qbt
open ForInStep renaming yield->yd
open Int renaming toNat_natCast->yj,toNat_of_nonneg->yu,emod_lt_of_pos->yE,eq_ofNat_of_zero_le->yJ,emod_nonneg->qah
open PySem.Around renaming under_plainId->yn,frames_deeper->qbp
open PySem.Heap.SameBut renaming update->yt
open PySem.Builtin.List renaming listTooLong->yC
open PySem.Calls renaming callWith_builtin->yT,evalArgs_plain->qad,Name_function_global->qaA
open Prod renaming fst->yZ,ext->qaT,snd->qbO
open PySem.Builtin.Dict_items renaming ownsTuple->qau
open PyProof.Rows.IsTup renaming new->qax
open PySem.Builtin.Tuple renaming tupleItemsOf->qaC,tupleTooMany->qaE
open PySem.Builtin.Range renaming rangeSize->qa3
open PySem.Builtin.Dict renaming updateFrom->qa4,showsAll->qbi,takeOut->qbu
open Nat.succ renaming inj->qbJ
open PySem PySem.Spec PyProof.Rows
open PySem renaming wpAny_bind→xa,wpAny_pure→xb,wpAny_mono→xc,wpAny→xf,sizeLine→xg,starEach→xh,keywordEach→xi,bootBuiltins→xj,compareOp→xk,wpAny_newObj_type→xl,codeAny_builtin→xm,codeAny→xo,backToKw→xp,attributeBase→xq,swapsWith→xr,wpAny_holding→xt,wpAny_call→xu,model→xw,FuncData→xx,Program→xy,Around→xz
abbrev xA:=PySem.Value->PySem.Shared->Prop
set_option maxHeartbeats 8000000
abbrev Qa:=List (Nat×Nat)
abbrev Qb:=List (PySem.Addr×PySem.Obj)
set_option genSizeOfSpec false
set_option bootstrap.genMatcherCode false
local macro_rules|`(tactic|omega)=>`(tactic|first|with_reducible assumption|with_reducible exact qq _|with_reducible exact zc _|exact qI (by with_reducible assumption) (by decide)|exact qaa (by with_reducible assumption)|lia|omega (config:={}))
set_option Elab.async false
set_option linter.all false
set_option maxRecDepth 100000
namespace L2
noncomputable def Wc (s:Stmt):Arguments:=match s with
 | .FunctionDef _ a _ _ _ _ _ _ _ _=>a
 | _=>{ posonlyargs:=[],args:=[],vararg:=none,kwonlyargs:=[],kw_defaults:=[],kwarg:=none,defaults:=[] }
noncomputable def Y6 (s:Stmt):List Stmt:=match s with
 | .FunctionDef _ _ b _ _ _ _ _ _ _=>b
 | _=>[]
noncomputable def Zx (s:Stmt):Scope:=match s with
 | .FunctionDef _ _ _ _ _ _ sc _ _ _=>sc
 | _=>{ kind:=.function,names:=[],isGenerator:=false,isCoroutine:=false }
end L2
namespace TF
open PySem.Spec PyProof.Rows PySem L2
noncomputable def fnO (x:Str)(st:Stmt)(pm:Value)(c:Addr):Obj:=⟨.type "function",none,.func (zi x x (Wc st) (Y6 st) (Zx st) .none .none .none pm none (.ref c) .none),#[]⟩
noncomputable def cdO (x:Str)(t:Nat)(ln ac:Int)(a:Addr)(tx k:Nat)(v:Bool):Obj:=
 ⟨.type "code",none,.fields #[.str x t,.str x (t+1),.str "/claim/cut.py" (t+2),.int ln 0,.int ac 0,.int 0 0,.int 0 0,.int 3 0,.ref a,.bool true,.int tx 0,.ref (a+1),.none,
  (match v with | true=>.ref (a+2) | false=>.none),(match v with | true=>.ref (a+3) | false=>.none),.ref (match v with | true=>a+4 | false=>a+2),.int k 0,.int ln 0,.str "/claim/cut.py" (k+1)],#[]⟩
structure DRow where
 x:Str
 i:Nat
 t:Nat
 ln:Int
 ac:Int
 a:Addr
 k:Nat
 v:Bool
 pm:Str
 pt:Nat
noncomputable def DRow.c (r:DRow):Addr:=match r.v with | true=>r.a+5 | false=>r.a+3
noncomputable def dE (P:Params)(x:Str)(t:Nat)(v:Value):DictEntry:=⟨PyData.keyHash P x,.str x t,v⟩
noncomputable abbrev nE (x:Str)(t:Nat)(a:Addr):Str×Nat×Addr:=(x,t,a)
noncomputable abbrev dR (x:Str)(i t:Nat)(ln ac:Int)(a:Addr)(k:Nat)(v:Bool)(pm:Str)(pt:Nat):DRow:=⟨x,i,t,ln,ac,a,k,v,pm,pt⟩
noncomputable def dRs (P:Params)(l:List (Str×Nat×Addr)):List DictEntry:=l.map λe=>dE P e.1 e.2.1 (.ref e.2.2)
noncomputable def ZoI (ZV:Nat->Stmt)(tx:Nat)(m:List DictEntry)(n:Nat)(rs:List DRow):qf:=
 (mainNs,⟨.type "dict",none,.dict m.toArray n,#[]⟩)::rs.flatMap λr=>[(r.c,cdO r.x r.t r.ln r.ac r.a tx r.k r.v),(r.c+1,fnO r.x (ZV r.i) (.str r.pm r.pt) r.c)]
noncomputable def Uk (P:Params)(l:List (Str×Nat×Value))(n:Nat):Obj:=⟨.type "dict",none,.dict (l.map λe=>dE P e.1 e.2.1 e.2.2).toArray n,#[]⟩
noncomputable def Ji (nm:Str)(C N:Addr)(bs bm sub:List Value)(a t1 t2:Nat):Obj:=excClassObj nm nm C N bs bm true [] sub false none none (some (.ref a)) none (some (.str nm t1)) (some (.str nm t2)) (some (.bool true)) "ValueError.__new__"
noncomputable def WY (st:Stmt)(j:Nat):Stmt:=match st with | .ClassDef _ _ _ b _ _ _ _ _ _ _=>b.getD j (.Pass ⟨0,0,0,0⟩) | _=>.Pass ⟨0,0,0,0⟩
noncomputable def fnM (x q:Str)(st:Stmt)(pm:Value)(c:Addr):Obj:=⟨.type "function",none,.func (zi x q (Wc st) (Y6 st) (Zx st) .none .none .none pm none (.ref c) .none),#[]⟩
noncomputable def cdM (x q:Str)(t:Nat)(ln ac:Int)(a:Addr)(tx k:Nat):Obj:=
 ⟨.type "code",none,.fields #[.str x t,.str q (t+1),.str "/claim/cut.py" (t+2),.int ln 0,.int ac 0,.int 0 0,.int 0 0,.int 3 0,.ref a,.bool true,.int tx 0,.ref (a+1),.none,.ref (a+2),.ref (a+3),.ref (a+4),.int k 0,.int ln 0,.str "/claim/cut.py" (k+1)],#[]⟩
structure MRow where
 x:Str
 q:Str
 i:Nat
 t:Nat
 ln:Int
 ac:Int
 a:Addr
 k:Nat
noncomputable def MRow.c (r:MRow):Addr:=r.a+5
noncomputable def ZoM (cls:Stmt)(tx:Nat)(pm:Value)(rs:List MRow):qf:=rs.flatMap λr=>[(r.c,cdM r.x r.q r.t r.ln r.ac r.a tx r.k),(r.c+1,fnM r.x r.q (WY cls r.i) pm r.c)]
noncomputable def clsM (nm:Str)(C N:Addr)(t1 t2:Nat):Obj:=⟨.type "type",none,.cls { name:=nm,bases:=[.type "object"],mro:=[.ref C,.type "object"],ns:=N,qualname:=nm },#[none,none,some (.str nm t1),some (.str nm t2),some (.builtin "object.__new__"),some (.bool true)]⟩
end TF
namespace K47
open PySem.Spec PyProof.Rows PySem L2 TF
noncomputable def ZV (i:Nat):Stmt:=PySem.Challenge.pw_tiefold_k47_kept_refusals.main.body.getD i (.Pass ⟨0,0,0,0⟩)
noncomputable def Znd:List DRow:=[dR "_wall" 0 187 1 1 15 191 true "__main__" 164,
 dR "is_whole" 8 280 16 1 83 284 true "tiefold.things" 278,
 dR "pairs_of" 9 287 18 1 90 294 true "tiefold.things" 278,
 dR "is_place" 11 299 25 2 97 304 true "tiefold.webs" 297,
 dR "near" 12 307 27 2 104 310 false "tiefold.webs" 297,
 dR "all_near" 13 313 29 1 109 316 false "tiefold.webs" 297,
 dR "are_tied" 14 319 32 3 114 325 true "tiefold.webs" 297,
 dR "marked_ties" 15 328 34 1 121 331 false "tiefold.webs" 297,
 dR "turned" 16 334 36 1 126 339 true "tiefold.webs" 297,
 dR "web_where" 17 342 39 2 133 345 false "tiefold.webs" 297,
 dR "most" 19 350 43 1 138 355 true "tiefold.most" 348,
 dR "heaviest_knot" 21 359 47 2 145 362 false "tiefold.most" 348,
 dR "heaviest_among" 22 365 50 3 150 368 false "tiefold.most" 348,
 dR "apart_among" 23 371 62 3 155 374 false "tiefold.most" 348,
 dR "heaviest_with" 24 377 64 4 160 380 false "tiefold.most" 348,
 dR "weighed" 25 383 67 2 165 386 false "tiefold.most" 348,
 dR "_law_fill" 29 507 127 2 261 513 true "law_tiefold_k47_kept_refusals" 505,
 dR "_law_next" 30 516 133 2 268 524 true "law_tiefold_k47_kept_refusals" 505,
 dR "_law_web" 31 527 146 2 275 530 false "law_tiefold_k47_kept_refusals" 505,
 dR "_law_tied" 32 533 161 3 280 539 true "law_tiefold_k47_kept_refusals" 505,
 dR "_law_knots" 34 552 169 1 294 555 false "law_tiefold_k47_kept_refusals" 505,
 dR "_law_most" 35 558 181 1 299 561 false "law_tiefold_k47_kept_refusals" 505,
 dR "_law_is_place" 40 600 206 2 328 605 true "law_tiefold_k47_kept_refusals" 505,
 dR "_law_caught_kind" 41 608 208 4 335 618 true "law_tiefold_k47_kept_refusals" 505,
 dR "_law_classes_right" 42 621 221 1 342 624 false "law_tiefold_k47_kept_refusals" 505,
 dR "law" 43 627 232 1 347 644 true "law_tiefold_k47_kept_refusals" 505]
noncomputable def B1:List (Str×Nat×Value):=[("__module__",203,.str "tiefold.errors" 194),("__firstlineno__",207,.int 5 206),("__static_attributes__",208,.ref 29),("__weakref__",210,.ref 32),("__doc__",211,.none)]
noncomputable def KN43:List (Str×Nat×Value):=[("__module__",221,.str "tiefold.errors" 194),("__firstlineno__",225,.int 7 224),("__static_attributes__",226,.ref 42),("__doc__",227,.none)]
noncomputable def KN55:List (Str×Nat×Value):=[("__module__",237,.str "tiefold.errors" 194),("__firstlineno__",241,.int 9 240),("__static_attributes__",242,.ref 54),("__doc__",243,.none)]
noncomputable def KN67:List (Str×Nat×Value):=[("__module__",253,.str "tiefold.errors" 194),("__firstlineno__",257,.int 11 256),("__static_attributes__",258,.ref 66),("__doc__",259,.none)]
noncomputable def KN79:List (Str×Nat×Value):=[("__module__",269,.str "tiefold.errors" 194),("__firstlineno__",273,.int 13 272),("__static_attributes__",274,.ref 78),("__doc__",275,.none)]
noncomputable def ZoX:List (Str×Nat×Value):=[("__module__",398,.str "tiefold.kept" 389),("__firstlineno__",402,.int 70 401),("__init__",410,.ref 183),("tie",420,.ref 190),("loosen",430,.ref 197),("pair_of",439,.ref 204),("change",449,.ref 211),("exchange_tie",457,.ref 218),("back",465,.ref 225),("web",472,.ref 232),("most",479,.ref 239),("knot",486,.ref 246),("paper",493,.ref 253),("__static_attributes__",497,.ref 254),("__dict__",499,.ref 257),("__weakref__",501,.ref 258),("__doc__",502,.none)]
noncomputable def ZlH:List MRow:=[⟨"__init__","Kept.__init__",0,403,72,2,177,408⟩,
 ⟨"pair_of","Kept.pair_of",3,431,89,3,198,437⟩,
 ⟨"web","Kept.web",7,466,115,1,226,470⟩,
 ⟨"most","Kept.most",8,473,118,1,233,477⟩,
 ⟨"exchange_tie","Kept.exchange_tie",5,450,102,2,212,455⟩,
 ⟨"change","Kept.change",4,440,96,3,205,447⟩,
 ⟨"tie","Kept.tie",1,411,77,3,184,418⟩,
 ⟨"loosen","Kept.loosen",2,421,83,3,191,428⟩,
 ⟨"back","Kept.back",6,458,108,1,219,463⟩]
noncomputable def KF (P:Params):qf:=ZoI ZV 181 ([dE P "__name__" 165 (.str "law_tiefold_k47_kept_refusals" 505)] ++ [dE P "__doc__" 166 (.none)] ++ [dE P "__package__" 167 (.none)] ++ [dE P "__loader__" 168 (.builtin "__main__.__loader__#opaque")] ++ [dE P "__spec__" 169 (.none)]++dRs P [nE "__annotations__" 170 6,nE "__builtins__" 171 4] ++ [dE P "__file__" 173 (.str "/claim/cut.py" 172)] ++ [dE P "__cached__" 174 (.none)]++dRs P [nE "_wall" 193 21,nE "TieError" 213 31,nE "NoPlace" 229 44,nE "Tied" 245 56,nE "Loose" 261 68,nE "Round" 277 80,nE "is_whole" 286 89,nE "pairs_of" 296 96,nE "is_place" 306 103,nE "near" 312 108,nE "all_near" 318 113,nE "are_tied" 327 120,nE "marked_ties" 333 125,nE "turned" 341 132,nE "web_where" 347 137,nE "most" 357 144,nE "most_most" 358 144,nE "heaviest_knot" 364 149,nE "heaviest_among" 370 154,nE "apart_among" 376 159,nE "heaviest_with" 382 164,nE "weighed" 388 169,nE "Kept" 504 256,nE "_law_fill" 515 267,nE "_law_next" 526 274,nE "_law_web" 532 279,nE "_law_tied" 541 286,nE "_law_is_knot" 551 293,nE "_law_knots" 557 298,nE "_law_most" 563 303,nE "_law_part" 576 310,nE "_law_rest" 582 315,nE "_law_near" 588 320,nE "_law_hued" 599 327,nE "_law_is_place" 607 334,nE "_law_caught_kind" 620 341,nE "_law_classes_right" 626 346,nE "law" 646 353]) 47 Znd ++ [(30,Uk P B1 3),(31,Ji "TieError" 31 30 [.type "ValueError"] [.type "ValueError",.type "Exception",.type "BaseException",.type "object"] [.ref 44,.ref 56,.ref 68,.ref 80] 22 196 204),(43,Uk P KN43 2),(44,Ji "NoPlace" 44 43 [.ref 31] [.ref 31,.type "ValueError",.type "Exception",.type "BaseException",.type "object"] [] 35 214 222),(55,Uk P KN55 2),(56,Ji "Tied" 56 55 [.ref 31] [.ref 31,.type "ValueError",.type "Exception",.type "BaseException",.type "object"] [] 47 230 238),(67,Uk P KN67 2),(68,Ji "Loose" 68 67 [.ref 31] [.ref 31,.type "ValueError",.type "Exception",.type "BaseException",.type "object"] [] 59 246 254),(79,Uk P KN79 2),(80,Ji "Round" 80 79 [.ref 31] [.ref 31,.type "ValueError",.type "Exception",.type "BaseException",.type "object"] [] 71 262 270)]++ZoM (ZV 27) 181 (.str "tiefold.kept" 389) ZlH ++ [(255,Uk P ZoX 4),(256,clsM "Kept" 256 255 391 399)]
noncomputable def asF:List Addr:=[3,20,21,88,89,95,96,102,103,107,108,112,113,119,120,124,125,131,132,136,137,143,144,148,149,153,154,158,159,163,164,168,169,266,267,273,274,278,279,285,286,297,298,302,303,333,334,340,341,345,346,352,353,30,31,43,44,55,56,67,68,79,80,182,183,203,204,231,232,238,239,217,218,210,211,189,190,196,197,224,225,255,256]
theorem eF:∀P,asF=(KF P).map (·.1):=λ_=>by kernel_rfl
noncomputable def qF:xy:=PySem.W.view PySem.Challenge.pw_tiefold_k47_kept_refusals [0,2,3,4,5,6,8,9,11,12,13,14,15,16,17,19,20,21,22,23,24,25,27,29,30,31,32,33,34,35,36,37,38,39,40,41,42,43]
theorem left:PySem.W.LeftO PySem.Challenge.rw_tiefold_k47_kept_refusals.prog qF [(qd "most_most")] (λs=>PySem.W.xlAt qF [] s&&PySem.W.recOk PySem.Challenge.rw_tiefold_k47_kept_refusals.row.records s) (z9 KF asF eF).obs (z9 KF asF eF).val 5230:=λw=>by kernel_rfl
theorem said:PySem.Challenge.rw_tiefold_k47_kept_refusals.wellSaid=true:=by kernel_rfl
end K47
namespace L2
noncomputable abbrev ZC:=Sum Int Str
noncomputable def JO:ZC->Value->Bool
 | .inl k,v=>Value.isInt k v
 | .inr x,v=>Value.isStrOf x v
noncomputable def keyH (w:World):ZC->Int
 | .inl k=>hashInt k
 | .inr x=>hashStr w x
theorem VL:∀{k:ZC} {v:Value},JO k v=true->(∃i t,k=zu i/\v=qav i t)∨(∃x t,k=qbK x/\v=qa8 x t)
 | .inl i,v,h=>by
  obtain⟨t,e⟩:=Value.isInt_shape h;exact .inl ⟨i,t,rfl,e⟩
 | .inr x,v,h=>by
  obtain⟨t,e⟩:=Value.isStrOf_shape h;exact .inr ⟨x,t,rfl,e⟩
theorem Zig (i:Int)(t:Tok):JO (.inl i) (.int i t)=true:=by simp[JO,Value.isInt]
theorem Zih (x:Str)(t:Tok):JO (.inr x) (.str x t)=true:=by simp[JO,Value.isStrOf]
theorem Zne (a b:Int):decide ((zu a:ZC)=zu b)=(a==b):=by
 grind
theorem Znf (a b:Str):decide ((qbK a:ZC)=qbK b)=decide (a=b):=by
 simp
theorem Zng (a:Int)(b:Str):decide ((zu a:ZC)=qbK b)=false:=decide_eq_false (λq=>nomatch q)
theorem Znh (a:Str)(b:Int):decide ((qbK a:ZC)=zu b)=false:=decide_eq_false (λq=>nomatch q)
noncomputable def Wt (prog:xy)(w:World):PySem.KeyKind prog w ZC where
 is:=JO
 hash:=keyH w
 inj:=λv a b ha hb=>by
  rcases VL ha with⟨i,t,rfl,rfl⟩ | ⟨x,t,rfl,rfl⟩
  ·rcases VL hb with⟨j,u,rfl,e⟩ | ⟨y,u,rfl,e⟩
   ·injection e with e1 _;rw[e1]
   ·exact nomatch e
  ·rcases VL hb with⟨j,u,rfl,e⟩ | ⟨y,u,rfl,e⟩
   ·exact nomatch e
   ·injection e with e1 _;rw[e1]
 byValue:=λk v h=>by
  rcases VL h with⟨i,t,rfl,rfl⟩ | ⟨x,t,rfl,rfl⟩ <;> rfl
 pyHash:=λhv h=>by
  rcases VL hv with⟨i,t,rfl,rfl⟩ | ⟨x,t,rfl,rfl⟩
  ·exact wpAny_pyHash_int h
  ·exact wpAny_pyHash_str h
 eqBool:=λhu hv h=>by
  rcases VL hu with⟨i,t,rfl,rfl⟩ | ⟨x,t,rfl,rfl⟩
  ·rcases VL hv with⟨j,u,rfl,rfl⟩ | ⟨y,u,rfl,rfl⟩
   ·rw[Zne]at h;exact wpAny_eqBool_int h
   ·rw[Zng]at h;exact yb.int_str i t y u _ _ _ _ h
  ·rcases VL hv with⟨j,u,rfl,rfl⟩ | ⟨y,u,rfl,rfl⟩
   ·rw[Znh]at h;exact yb.str_int x t j u _ _ _ _ h
   ·rw[Znf]at h;exact wpAny_eqBool_str h
 «strs»:=λk x t v h=>by
  rcases VL h with⟨i,u,rfl,e⟩ | ⟨y,u,rfl,e⟩
  ·exact nomatch e
  ·injection e with e1 _
   subst e1
   cases v <;> rfl
theorem ZeZ (prog:xy)(w:World)(i:Int)(t:Tok):(Wt prog w).is (.inl i) (.int i t)=true:=Zig i t
theorem Ze0 (prog:xy)(w:World)(x:Str)(t:Tok):(Wt prog w).is (.inr x) (.str x t)=true:=Zih x t
inductive V where
 | non | bl (b:Bool) | int (i:Int) | str (x:Str) | byt (b:Array UInt8) | flt (b:UInt64) | ref (a:Addr) | ty (n:String)
 deriving DecidableEq
noncomputable def ZE:V->Value->Prop
 | .non,u=>u=qO
 | .bl b,u=>u=qZ b
 | .int i,u=>∃t,u=qav i t
 | .str x,u=>∃t,u=qa8 x t
 | .byt b,u=>∃t,u=Value.bytes b t
 | .flt b,u=>∃t,u=qbL b t
 | .ref a,u=>u=qm a
 | .ty n,u=>u=qaN n
noncomputable abbrev Zy:List V->List Value->Prop:=Paired ZE
theorem Zy.length (r:Zy xs us):xs.length=us.length:=z7 r
theorem Zy.get:∀{xs:List V} {us:List Value} {i:Nat} {x:V},Zy xs us->xs[i]?=some x->∃u,us[i]?=some u/\ZE x u
 | _,_,_,_,.nil,e=>by simp at e
 | _,_,0,_,.cons r _,e=>by simp_all
 | _,_,i+1,x,.cons _ t,e=>by
  obtain⟨u,h1,h2⟩:=Zy.get t (by simpa using e);simp_all
theorem Zy.set (r:ZE x u):∀{xs:List V} {us:List Value} (i:Nat),Zy xs us->Zy (xs.set i x) (us.set i u)
 | _,_,_,.nil=>.nil
 | _,_,0,.cons _ t=>.cons r t
 | _,_,i+1,.cons q t=>.cons q (Zy.set r i t)
theorem Zy.append:∀{xs ys:List V} {us ws:List Value},Zy xs us->Zy ys ws->Zy (xs++ys) (us++ws)
 | _,_,_,_,.nil,s=>s
 | _,_,_,_,.cons r t,s=>.cons r (Zy.append t s)
theorem Zy.take:∀{xs:List V} {us:List Value} (n:Nat),Zy xs us->Zy (xs.take n) (us.take n)
 | _,_,0,_=>.nil
 | _,_,_+1,.nil=>.nil
 | _,_,n+1,.cons r t=>.cons r (Zy.take n t)
theorem Zy.drop:∀{xs:List V} {us:List Value} (n:Nat),Zy xs us->Zy (xs.drop n) (us.drop n)
 | _,_,0,r=>r
 | _,_,_+1,.nil=>.nil
 | _,_,n+1,.cons _ t=>Zy.drop n t
noncomputable def Ub:Option V->Option Value->Prop
 | some v,some u=>ZE v u
 | none,none=>True
 | _,_=>False
noncomputable def KV {κ:Type}:List (κ×V)->List (κ×Value)->Prop:=Paired λ(p:κ×V) (q:κ×Value)=>p.1=q.1/\ZE p.2 q.2
noncomputable def kV:ZC->V
 | .inl i=>.int i
 | .inr x=>.str x
inductive HO where
 | lst (xs:List V)
 | tup (xs:List V)
 | dK (kvs:List (ZC×V)) | dT (kvs:List (List ZC×V))
 | set (S:Int->Bool) (n:Nat)
 | ins (C dx:Addr) (fs:List (Str×V))
 | own (x:Addr)
 | xd (fs:List (Str×V))
 | met (f x:Addr)
 | rng (lo hi:Int)
 | frz (o:Obj) (u:HO)
 | tbl (ps:Array Value)
 | ext (φ:Heap->Prop)
noncomputable abbrev Hp:=Addr->Option HO
noncomputable def upd (H:Hp)(a:Addr)(o:HO):Hp:=λb=>if b=a then some o else H b
theorem ZG:upd H a o a=some o:=by unfold upd;simp
theorem Zj (h:b≠a):upd H a o b=H b:=by unfold upd;simp_all
theorem Zed:upd (upd H a o) a u=upd H a u:=by
 unfold upd;simp_all
theorem Zjw {H:Hp}(h:H a=some o)(h':H b=some u)(d:o≠u):a≠b:=by
 intro e;simp_all
theorem ZY {H:Hp}(h:H a=some o)(h':H b=none):a≠b:=by
 intro e;simp_all
section
variable (P:xy)(w:World)
noncomputable def Ym (H:Hp)(h:Heap)(a:Addr):HO->Prop
 | .lst xs=>xs.length<=xg/\∃(jK:List Value) (n:Nat),Zy xs jK/\h.get? a=some { cls:=.type "list",data:=.seq jK.toArray n }
 | .tup xs=>xs.length<=xg/\∃jK:List Value,Zy xs jK/\IsTup h a jK.toArray
 | .dK kvs=>kvs.length<=xg/\(a==sysModules)=false/\∃vs,KV kvs vs/\h.DictOf (Wt P w) a vs
 | .dT kvs=>kvs.length<=xg/\(a==sysModules)=false/\∃xs:List (List ZC×Addr×Value),
   Paired (λ(p:List ZC×V) (q:List ZC×Addr×Value)=>p.1=q.1/\H q.2.1=some (.tup (p.1.map kV))/\ZE p.2 q.2.2) kvs xs/\
   ∃o es ep,h.get? a=some o/\o.ExactDict/\o.data=.dict es ep/\es.toList=xs.map (entryOfKey (tupleKind (Wt P w)))/\(xs.map (·.1)).Nodup
 | .set S n=>h.SetOf (intKind P w) a S n
 | .ins C dx fs=>H dx=some (.own a)/\fs.length<=1000/\dx≠a/\h.get? a=some (zC C dx)/\
   ∃mA,h.Ns1 dx mA/\(∀f,Ub (fs.lookup f) (mA f))/\qaQ mA (fs.map (·.1))
 | .own _=>∃o,h.get? a=some o
 | .xd fs=>∃mA,h.Ns1 a mA/\∀f,Ub (fs.lookup f) (mA f)
 | .rng lo hi=>∃t u v,h.get? a=some { cls:=.type "range",data:=.fields #[.int lo t,.int hi u,.int 1 v] }
 | .frz o u=>h.get? a=some o/\Ym H h a u
 | .tbl ps=>h.get? a=some { cls:=.none,data:=.fields ps }
 | .met f x=>h.get? a=some (PySem.W.methodObj (.ref f) (.ref x))
 | .ext φ=>φ h/\(∃o,h.get? a=some o)/\∀h1 h2:Heap,φ h1->(∀o,h1.get? a=some o->h2.get? a=some o)->φ h2
noncomputable def Yf (H:Hp)(h:Heap):Prop:=∀a o,H a=some o->Ym P w H h a o
end
section
variable {P:xy}{w:World}{H H':Hp}{h h':Heap}{a:Addr}{o:HO}
theorem Ym.lt (x:Ym P w H h a o):a<h.objs.size:=by
 cases o with
 | lst xs=>obtain⟨_,_,_,_,e⟩:=x;exact qt e
 | tup xs=>obtain⟨_,_,_,p⟩:=x;exact p.lt
 | dK kvs=>obtain⟨_,_,_,_,o,_,_,e,_⟩:=x;exact qt e
 | dT kvs=>obtain⟨_,_,_,_,o,_,_,e,_⟩:=x;exact qt e
 | set S n=>obtain⟨o,_,_,_,e,_⟩:=x;exact qt e
 | ins C dx fs=>obtain⟨_,_,_,e,_⟩:=x;exact qt e
 | own y=>obtain⟨_,e⟩:=x;exact qt e
 | xd fs=>obtain⟨_,⟨_,_,_,e,_⟩,_⟩:=x;exact qt e
 | rng lo hi=>obtain⟨_,_,_,e⟩:=x;exact qt e
 | frz ob u=>obtain⟨e,_⟩:=x;exact qt e
 | tbl ps=>exact qt (show h.get? a=some _ from x)
 | met f y=>exact qt (show h.get? a=some _ from x)
 | ext φ=>obtain⟨_,⟨_,e⟩,_⟩:=x;exact qt e
theorem Paired.mapP {F G:α->β->Prop}:∀{l₁:List α} {l₂:List β},Paired F l₁ l₂->(∀a b,F a b->G a b)->Paired G l₁ l₂
 | _,_,.nil,_=>.nil
 | _,_,.cons r t,f=>.cons (f _ _ r) (Paired.mapP t f)
theorem Ym.stay (x:Ym P w H h a o)(k:∀b u,(b=a∨H b=some (.own a))->h.get? b=some u->h'.get? b=some u)
  (ho:∀b,H b=some (.own a)->H' b=some (.own a)) (ht:∀b xs,H b=some (.tup xs)->H' b=some (.tup xs)):Ym P w H' h' a o:=by
 induction o with
 | lst xs=>obtain⟨z,jK,n,r,e⟩:=x;exact⟨z,jK,n,r,k _ _ (.inl rfl) e⟩
 | tup xs=>obtain⟨z,jK,r,ob,e,c⟩:=x;exact⟨z,jK,r,ob,k _ _ (.inl rfl) e,c⟩
 | dK kvs=>obtain⟨z,y,vs,r,ob,es,ep,e,c⟩:=x;exact⟨z,y,vs,r,ob,es,ep,k _ _ (.inl rfl) e,c⟩
 | dT kvs=>
  obtain⟨z,y,xs,r,ob,es,ep,e,c⟩:=x;exact⟨z,y,xs,Paired.mapP r λp q z=>⟨z.1,ht _ _ z.2.1,z.2.2⟩,ob,es,ep,k _ _ (.inl rfl) e,c⟩
 | set S n=>obtain⟨ob,es,ep,t,e,c⟩:=x;exact⟨ob,es,ep,t,k _ _ (.inl rfl) e,c⟩
 | ins C dx fs=>
  obtain⟨d,z,ne,e,mA,⟨od,es,ep,e2,c⟩,r⟩:=x;exact⟨ho _ d,z,ne,k _ _ (.inl rfl) e,mA,⟨od,es,ep,k _ _ (.inr d) e2,c⟩,r⟩
 | own y=>obtain⟨ob,e⟩:=x;exact⟨ob,k _ _ (.inl rfl) e⟩
 | xd fs=>obtain⟨mA,⟨od,es,ep,e,c⟩,r⟩:=x;exact⟨mA,⟨od,es,ep,k _ _ (.inl rfl) e,c⟩,r⟩
 | rng lo hi=>obtain⟨t,u,v,e⟩:=x;exact⟨t,u,v,k _ _ (.inl rfl) e⟩
 | frz ob u ih=>obtain⟨e,q⟩:=x;exact⟨k _ _ (.inl rfl) e,ih q⟩
 | tbl ps=>
  have e:=x;exact k a _ (.inl rfl) e
 | met f y=>
  have e:=x;exact k a _ (.inl rfl) e
 | ext φ=>obtain⟨p,⟨o,e⟩,st⟩:=x;exact⟨st _ _ p λo q=>k _ _ (.inl rfl) q,⟨o,k _ _ (.inl rfl) e⟩,st⟩
theorem Yf.lt (x:Yf P w H h)(e:H a=some o):a<h.objs.size:=(x a o e).lt
theorem Yf.fresh (x:Yf P w H h)(e:h.objs.size<=a):H a=none:=by
 cases q:H a with
 | none=>rfl
 | some u=>exact absurd (qB (x.lt q) e) (zQ _)
theorem Yf.kept (x:Yf P w H h)(k:∀b u,h.get? b=some u->h'.get? b=some u):Yf P w H h':=λa o e=>
 (x a o e).stay (λb u _ q=>k b u q) (λ_ q=>q) λ_ _ q=>q
theorem Yf.laid (x:Yf P w H h)(k:∀b u,h.get? b=some u->h'.get? b=some u)(hp:h.objs.size<=a)(new:Ym P w (upd H a o) h' a o):Yf P w (upd H a o) h':=λb u e=>by
 have hn:=x.fresh hp;by_cases hb:b=a
 ·subst hb;rw[ZG]at e;grind
 ·rw[Zj hb]at e
  exact(x b u e).stay (λc v _ q=>k c v q) (λc q=>by rw[Zj (ZY q hn)];exact q) λc xs q=>by rw[Zj (ZY q hn)];exact q
end
noncomputable def Rd (H:Hp)(a:Addr)(u:HO):Prop:=H a=some u∨∃o,H a=some (.frz o u)
theorem Rd.ok (r:Rd H a u)(x:Yf P w H h):Ym P w H h a u:=by
 rcases r with r | ⟨o,r⟩
 ·exact x a u r
 ·obtain⟨_,q⟩:=x a _ r
  exact q
noncomputable def B2:Option HO->Prop
 | some (.lst _)=>True
 | some (.dK _)=>True
 | some (.dT _)=>True
 | some (.set _ _)=>True
 | some (.ins _ _ _)=>True
 | some (.ext _)=>True
 | _=>False
section
variable {P:xy}{w:World}{H:Hp}{h h':Heap}{x e:Addr}{o':HO}
theorem Yf.write (ok:Yf P w H h)(mu:B2 (H x))(he:e=x∨H e=some (.own x))(k:∀b u,b≠e->h.get? b=some u->h'.get? b=some u)(heo:∃u,h'.get? e=some u)
  (new:Ym P w (upd H x o') h' x o'):Yf P w (upd H x o') h':=λb u q=>by
 have nown:∀c y,H c=some (.own y)->c≠x:=λc y r z=>by subst z;rw[r]at mu;exact mu
 have ntup:∀c xs,H c=some (.tup xs)->c≠x:=λc xs r z=>by subst z;rw[r]at mu;exact mu
 by_cases hb:b=x
 ·subst hb;rw[ZG]at q;grind
 ·rw[Zj hb]at q
  by_cases hbe:b=e
  ·have q':H b=some (.own x):=by
    grind
   rw[q]at q';cases q';obtain⟨v,hv⟩:=heo;exact⟨v,by simp_all⟩
  ·refine(ok b u q).stay (λc v hc r=>k c v ?_ r) (λc r=>by rw[Zj (nown c b r)];exact r) λc xs r=>by rw[Zj (ntup c xs r)];exact r
   grind
end
structure Un (fs ex:List Addr)(H H':Hp)(h h':Heap):Prop where
 keep:∀b o,h.get? b=some o->H b=none->b∉fs->b∉ex->h'.get? b=some o
 slot:∀b o,h.get? b=some o->H b=none->b∈fs->b∉ex->∃sl,h'.get? b=some { o with slots:=sl }
 free:∀b o,h.get? b=some o->H b=none->b∉ex->H' b=none
 there:∀b o,h.get? b=some o->b∉ex->∃o',h'.get? b=some o'
 tups:∀b xs,H b=some (.tup xs)->H' b=some (.tup xs)
 frzs:∀b o u,H b=some (.frz o u)->H' b=some (.frz o u)
 tbls:∀b ps,H b=some (.tbl ps)->∃more,H' b=some (.tbl (ps++more))
section
variable {fs fs' ex ex':List Addr}{H H1 H2:Hp}{h h1 h2 h':Heap}{a x e:Addr}{o:HO}
theorem Un.any (u:Un fs ex H H1 h h1)(q:h.get? b=some ob)(n:H b=none)(hx:b∉ex):∃sl,h1.get? b=some { ob with slots:=sl }:=by
 by_cases hb:b∈fs
 ·exact u.slot b ob q n hb hx
 ·exact⟨ob.slots,u.keep b ob q n hb hx⟩
theorem Un.trans (a:Un fs ex H H1 h h1)(b:Un fs ex H1 H2 h1 h2):Un fs ex H H2 h h2 where
 keep:=λc ob q n hc hx=>b.keep c ob (a.keep c ob q n hc hx) (a.free c ob q n hx) hc hx
 slot:=λc ob q n hc hx=>by
  obtain⟨sl,e1⟩:=a.slot c ob q n hc hx;obtain⟨sl',e2⟩:=b.slot c _ e1 (a.free c ob q n hx) hc hx;exact⟨sl',e2⟩
 free:=λc ob q n hx=>by
  obtain⟨o',e1⟩:=a.there c ob q hx;exact b.free c o' e1 (a.free c ob q n hx) hx
 there:=λc ob q hx=>by
  obtain⟨o',e1⟩:=a.there c ob q hx;exact b.there c o' e1 hx
 tups:=λc xs q=>b.tups c xs (a.tups c xs q)
 frzs:=λc ob xs q=>b.frzs c ob xs (a.frzs c ob xs q)
 tbls:=λc ps q=>by
  obtain⟨m1,e1⟩:=a.tbls c ps q;obtain⟨m2,e2⟩:=b.tbls c _ e1;exact⟨m1++m2,by simp_all⟩
theorem Un.kept (k:∀b u,h.get? b=some u->h'.get? b=some u):Un fs ex H H h h':=
 ⟨λb ob q _ _ _=>k b ob q,λb ob q _ _ _=>⟨ob.slots,k b ob q⟩,λ_ _ _ n _=>n,λb ob q _=>⟨ob,k b ob q⟩,λ_ _ q=>q,λ_ _ _ q=>q,λ_ ps q=>⟨#[],by rw[q];simp⟩⟩
theorem Un.refl:Un fs ex H H h h:=Un.kept λ_ _ q=>q
theorem Un.laid (k:∀b u,h.get? b=some u->h'.get? b=some u)(hp:h.objs.size<=a)(hn:H a=none):Un fs ex H (upd H a o) h h' where
 keep:=λb u q _ _ _=>k b u q
 slot:=λb u q _ _ _=>⟨u.slots,k b u q⟩
 free:=λb u q n _=>by rw[Zj (qG (qB (qt q) hp))];exact n
 there:=λb u q _=>⟨u,k b u q⟩
 tups:=λb xs q=>by rw[Zj (ZY q hn)];exact q
 frzs:=λb u xs q=>by rw[Zj (ZY q hn)];exact q
 tbls:=λb ps q=>⟨#[],by rw[Zj (ZY q hn),q];simp⟩
theorem Un.write (mu:B2 (H x))(he:e=x∨H e=some (.own x))(k:∀b u,b≠e->h.get? b=some u->h'.get? b=some u)(heo:∃u,h'.get? e=some u):Un fs ex H (upd H x o) h h':=by
 have hx:∀b,H b=none->b≠x:=λb n z=>by subst z;rw[n]at mu;exact mu
 have hb:∀b,H b=none->b≠e:=λb n z=>by
  simp_all
 have hm:∀b u,H b=some u->¬B2 (some u)->b≠x:=λb u q nm z=>by simp_all
 refine⟨λb u q n _ _=>k b u (hb b n) q,λb u q n _ _=>⟨u.slots,k b u (hb b n) q⟩,λb u q n _=>by rw[Zj (hx b n)];exact n,λb u q _=>?_,
  λb xs q=>by rw[Zj (hm b _ q λz=>z)];exact q,λb u xs q=>by rw[Zj (hm b _ q λz=>z)];exact q,λb ps q=>⟨#[],by rw[Zj (hm b _ q λz=>z),q];simp⟩⟩
 by_cases hbe:b=e
 ·simp_all
 ·exact⟨u,k b u hbe q⟩
theorem Un.mono (u:Un fs ex H H1 h h1)(hs:∀b∈fs,b∈fs')(hx:∀b∈ex,b∈ex'):Un fs' ex' H H1 h h1:=
 ⟨λb ob q n hb he=>u.keep b ob q n (λz=>hb (hs b z)) λz=>he (hx b z),λ_ _ q n _ he=>u.any q n λz=>he (hx _ z),λb ob q n he=>u.free b ob q n λz=>he (hx b z),λb ob q he=>u.there b ob q λz=>he (hx b z),u.tups,u.frzs,u.tbls⟩
end
noncomputable def trk (h:Heap)(H:Hp):List Addr:=(qu h.objs.size).filter λa=>(H a).isSome
noncomputable def Ve (h:Heap)(H:Hp):Heap:=qab h (trk h H)
theorem Zii (h:Heap)(H:Hp):(Ve h H).objs.size=h.objs.size:=qbl _ _
theorem Zjx (e:h.get? b=some o)(n:H b=none):(Ve h H).get? b=some o:=
 qao _ e λhm=>by
  have q:=(qC.mp hm).2;simp_all
theorem ZlI (e:(Ve h H).get? b=some o):h.get? b=some o/\H b=none:=by
 have e':=qaw (trk h H) e;refine⟨e',?_⟩
 cases q:H b with
 | none=>rfl
 | some x=>
  have hm:b∈trk h H:=qC.mpr ⟨zJ.mpr (qt e'),by simp[q]⟩;have z:(Ve h H).get? b=none:=qbm (trk h H) hm
  grind
structure Mod (K:qf)(mg:Str->Option Value)(base:Heap):Prop where
 kin:K.In base
 glob:base.Ns mainGlobals mg
 blt:∃mb,base.Ns builtinsNs mb/\∀x:Str,x≠"__name__"->mb x=xj x
 nolimit:base.NoLimit
structure Cx where
 prog:xy
 w:World
 K:qf
 mg:Str->Option Value
 base:Heap
 A:xz
 N:List Str
 s₀:Shared
 H₀:Hp
 env:Env
 outer:List Env
 stack:List Env
 ex:List Addr
 fn:Str->Bool
 calm:Bool
 pn:Qb
 xe:xA
noncomputable def Yp (l:List Env):List Addr:=l.filterMap (·.frame)
noncomputable abbrev Cx.fs (X:Cx):List Addr:=Yp X.outer
noncomputable def B3 (sc:Scope)(x:Str):Prop:=sc.names.lookup x=some .local∨sc.names.lookup x=some .cell∨sc.names.lookup x=some .free
noncomputable def Wn (sc:Scope)(x:Str):Prop:=sc.names.lookup x=some .local∨sc.names.lookup x=some .cell
noncomputable def Look (env:Env)(h:Heap)(m:Str->Option Value)(x:Str)(u:Value):Prop:=
 (env.kindOf x=some .local/\m x=some u)∨((env.kindOf x=some .cell∨env.kindOf x=some .free)/\∃c,env.cells.lookup x=some c/\h.IsCell c (some u))
structure Cx.Ok (X:Cx):Prop where
 mod:Mod X.K X.mg X.base
 kind:X.env.scope.kind=.function
 glob:X.env.globals=mainGlobals
 blt:X.env.builtins=builtinsNs
 above:X.s₀.heap.objs.size<=X.env.locals
 inj:∀x y c,X.env.cells.lookup x=some c->X.env.cells.lookup y=some c->x=y
 has:∀x,(X.env.kindOf x=some .cell∨X.env.kindOf x=some .free)->∃c,X.env.cells.lookup x=some c
 cab:∀x c,X.fn x=true->X.env.cells.lookup x=some c->X.s₀.heap.objs.size<=c
 hd:X.calm=true->X.A.handled=none
 frames:X.A.frames=some X.stack
 stk:X.stack=X.outer∨(X.stack=X.env::X.outer/\X.env.frame=some X.env.locals)
 exf:∀b∈X.ex,b≠X.env.locals/\∀x c,X.env.cells.lookup x=some c->c≠b
 bs:∀b o,X.base.get? b=some o->X.s₀.heap.get? b=some o/\X.H₀ b=none
 bsz:X.base.objs.size<=X.s₀.heap.objs.size
 noex:∀b o,X.base.get? b=some o->b∉X.ex
 exfs:∀b∈X.ex,b∉X.fs
 funs:X.s₀.heap.FunFrames X.base X.outer
 frf:∀b∈X.fs,X.H₀ b=none
structure Inv (X:Cx)(jJ:Qb)(σ:List (Option V))(H:Hp)(s:Shared):Prop where
 ok:X.Ok
 os:s.os=X.s₀.os
 bare:AllBare s.gens
 base:Un X.fs X.ex X.H₀ H X.s₀.heap s.heap
 loc:∃m,s.heap.Ns X.env.locals m/\∀(i:Nat) (x:Str) (v:V),X.N[i]?=some x->σ[i]?=some (some v)->B3 X.env.scope x->∃u,ZE v u/\Look X.env s.heap m x u
 cell:∀x c,X.env.cells.lookup x=some c->∃v,s.heap.IsCell c v
 free:H X.env.locals=none
 freeC:∀x c,X.env.cells.lookup x=some c->H c=none
 pin:∀p∈X.pn++jJ,s.heap.get? p.1=some p.2/\H p.1=none/\p.1≠X.env.locals/\p.1∉X.fs/\∀v,p.2.data≠.cell v
 hok:Yf X.prog X.w H s.heap
 len:σ.length=X.N.length
section
variable {X:Cx}{jJ:Qb}{σ:List (Option V)}{H H':Hp}{s:Shared}{h':Heap}
theorem Cx.Ok.nofr (ok:X.Ok)(e:X.base.get? b=some o):b∉X.fs:=λhb=>by
 have:=(ok.funs.mem hb).1
 grind
theorem Inv.bs (I:Inv X jJ σ H s):∀b o,X.base.get? b=some o->s.heap.get? b=some o/\H b=none:=λb o e=>
 ⟨I.base.keep b o (I.ok.bs b o e).1 (I.ok.bs b o e).2 (I.ok.nofr e) (I.ok.noex b o e),I.base.free b o (I.ok.bs b o e).1 (I.ok.bs b o e).2 (I.ok.noex b o e)⟩
theorem Inv.bk (I:Inv X jJ σ H s):∀b o,X.base.get? b=some o->s.heap.get? b=some o:=λb o e=>(I.bs b o e).1
theorem Inv.mod (I:Inv X jJ σ H s):Mod X.K X.mg X.base:=I.ok.mod
theorem Inv.kIn (I:Inv X jJ σ H s):X.K.In s.heap:=I.ok.mod.kin.keeps I.bk
theorem Inv.lt (I:Inv X jJ σ H s):X.env.locals<s.heap.objs.size:=let ⟨_,hn,_⟩:=I.loc;hn.lt
theorem Inv.sz (I:Inv X jJ σ H s):X.s₀.heap.objs.size<=s.heap.objs.size:=qI I.ok.above (qaa I.lt)
theorem Inv.nofs (I:Inv X jJ σ H s){a:Addr}(h:s.heap.objs.size<=a):a∉X.fs:=λhb=>by
 obtain⟨_,o,ho,_⟩:=I.ok.funs.mem hb;exact absurd (qB (qt ho) (qI I.sz h)) (zQ _)
theorem Inv.cne (I:Inv X jJ σ H s):∀x c,X.env.cells.lookup x=some c->c≠X.env.locals:=λx c e z=>by
 obtain⟨v,o,ho,hd⟩:=I.cell x c e;obtain⟨m,⟨o',es,ep,ho',hd',_⟩,_⟩:=I.loc
 grind
theorem Inv.funs (I:Inv X jJ σ H s):s.heap.FunFrames X.base X.outer:=by
 have all:∀(l:List Env),(∀b∈Yp l,b∈X.fs)->X.s₀.heap.FunFrames X.base l->s.heap.FunFrames X.base l:=by
  intro l
  induction l with
  | nil=>intro _ _;trivial
  | cons env r ih=>
   intro hs hl;obtain⟨hk,⟨L,o,hf,hn,ho,hd⟩,hr⟩:=hl;have hL:=hs L (by unfold Yp;simp_all);obtain⟨sl,e⟩:=I.base.slot L o ho (I.ok.frf L hL) hL λz=>I.ok.exfs L z hL;exact⟨hk,⟨L,_,hf,hn,e,hd⟩,ih (λb hb=>hs b (by unfold Yp;rw[zY,hf];exact qL _ hb)) hr⟩
 exact all X.outer (λ_ hb=>hb) I.ok.funs
theorem Inv.stack (I:Inv X jJ σ H s):s.heap.FunFrames X.base X.stack:=by
 rcases I.ok.stk with e | ⟨e,hf⟩
 ·rw[e];exact I.funs
 ·rw[e]
  obtain⟨m,hn,_⟩:=I.loc;refine .cons (by rw[I.ok.kind];decide) hf hn ?_ I.funs;exact qbn (qI I.ok.bsz I.ok.above)
theorem Inv.stkSub (I:Inv X jJ σ H s):∀b∈Yp X.stack,b∈X.env.locals::X.fs:=λb hb=>by
 rcases I.ok.stk with e | ⟨e,hf⟩
 ·simp_all
 ·rw[e]at hb
  unfold Yp at hb;rw[zY,hf]at hb;exact hb
theorem Inv.stkFree (I:Inv X jJ σ H s):∀b∈Yp X.stack,H b=none:=λb hb=>by
 rcases qy.mp (I.stkSub b hb)with e | hb
 ·rw[e];exact I.free
 ·obtain⟨_,o,ho,_⟩:=I.ok.funs.mem hb
  exact I.base.free b o ho (I.ok.frf b hb) λz=>I.ok.exfs b z hb
theorem Inv.step {ch:List Addr}(I:Inv X jJ σ H s)
  (hch:∀b∈ch,(b∈X.ex∨X.s₀.heap.objs.size<=b)/\b≠X.env.locals/\(∀x c,X.env.cells.lookup x=some c->c≠b)/\∀p∈X.pn++jJ,p.1≠b)
  (keep:∀b o,b≠X.env.locals->b∉X.fs->b∉ch->s.heap.get? b=some o->H b=none->h'.get? b=some o)
  (slot:∀b o,b≠X.env.locals->b∈X.fs->b∉ch->s.heap.get? b=some o->H b=none->∃sl,h'.get? b=some { o with slots:=sl }) (free:∀b o,b∉ch->s.heap.get? b=some o->H b=none->H' b=none)
  (there:∀b o,b∉ch->s.heap.get? b=some o->∃o',h'.get? b=some o')
  (tups:∀b xs,H b=some (.tup xs)->H' b=some (.tup xs)) (frzs:∀b o u,H b=some (.frz o u)->H' b=some (.frz o u)) (tbls:∀b ps,H b=some (.tbl ps)->∃more,H' b=some (.tbl (ps++more)))
  (ns:∀m,s.heap.Ns X.env.locals m->h'.Ns X.env.locals m) (hok:Yf X.prog X.w H' h') (hg:AllBare g') :
  Inv X jJ σ H' { s with heap:=h',gens:=g',drawn:=d',toks:=t' }:=by
 have neL:∀b o,X.s₀.heap.get? b=some o->b≠X.env.locals:=λb o e=>qG (qB (qt e) I.ok.above);have neC:∀b o,X.s₀.heap.get? b=some o->b∉X.ex->b∉ch:=λb o e hx hb=>by
  rcases (hch b hb).1 with z | z
  ·exact hx z
  ·exact absurd (qB (qt e) z) (zQ _)
 have cellK:∀x c,X.env.cells.lookup x=some c->∀v,s.heap.IsCell c v->h'.IsCell c v:=λx c e v ⟨o,ho,hd⟩=>by
  have nch:c∉ch:=λz=>(hch c z).2.2.1 x c e rfl;by_cases hc:c∈X.fs
  ·obtain⟨sl,q⟩:=slot c o (I.cne x c e) hc nch ho (I.freeC x c e)
   exact⟨_,q,hd⟩
  ·exact⟨o,keep c o (I.cne x c e) hc nch ho (I.freeC x c e),hd⟩
 refine⟨I.ok,I.os,hg,⟨λb o e n hb hx=>?_,λb o e n hb hx=>?_,λb o e n hx=>?_,λb o e hx=>?_,λb xs e=>tups b xs (I.base.tups b xs e),λb o xs e=>frzs b o xs (I.base.frzs b o xs e),λb ps e=>?_⟩,?_,λx c e=>?_,?_,λx c e=>?_,λp hp=>?_,hok,I.len⟩
 ·exact keep b o (neL b o e) hb (neC b o e hx) (I.base.keep b o e n hb hx) (I.base.free b o e n hx)
 ·obtain⟨sl,e1⟩:=I.base.slot b o e n hb hx
  obtain⟨sl',e2⟩:=slot b _ (neL b o e) hb (neC b o e hx) e1 (I.base.free b o e n hx);exact⟨sl',e2⟩
 ·obtain⟨o',e1⟩:=I.base.there b o e hx
  exact free b o' (neC b o e hx) e1 (I.base.free b o e n hx)
 ·obtain⟨o',e1⟩:=I.base.there b o e hx
  exact there b o' (neC b o e hx) e1
 ·obtain⟨m1,e1⟩:=I.base.tbls b ps e
  obtain⟨m2,e2⟩:=tbls b _ e1;exact⟨m1++m2,by rw[e2,Array.append_assoc]⟩
 ·obtain⟨m,hn,hl⟩:=I.loc
  refine⟨m,ns m hn,λi x v e1 e2 e3=>?_⟩;obtain⟨u,r,l⟩:=hl i x v e1 e2 e3;refine⟨u,r,?_⟩;rcases l with l | ⟨k,c,e,z⟩
  ·exact .inl l
  ·exact .inr ⟨k,c,e,cellK x c e _ z⟩
 ·obtain⟨v,z⟩:=I.cell x c e
  exact⟨v,cellK x c e v z⟩
 ·obtain⟨m,⟨o,_,_,ho,_⟩,_⟩:=I.loc
  exact free _ o (λz=>(hch _ z).2.1 rfl) ho I.free
 ·obtain⟨v,o,ho,hd⟩:=I.cell x c e
  exact free c o (λz=>(hch c z).2.2.1 x c e rfl) ho (I.freeC x c e)
 ·obtain⟨e,n,ne,nf,d⟩:=I.pin p hp
  have nch:=λz=>(hch p.1 z).2.2.2 p hp rfl;exact⟨keep p.1 p.2 ne nf nch e n,free p.1 p.2 nch e n,ne,nf,d⟩
theorem Inv.un (I:Inv X jJ σ H s)(u:Un X.fs [] H H' s.heap h')(hok:Yf X.prog X.w H' h'):Inv X jJ σ H' { s with heap:=h',toks:=t' }:=by
 obtain⟨m,⟨o,es,ep,ho,r⟩,_⟩:=id I.loc;obtain⟨sl,hL⟩:=u.any ho I.free (by simp);exact I.step (ch:=[]) (λ_ z=>nomatch z) (λb o _ hb _ e n=>u.keep b o e n hb (by simp)) (λb o _ hb _ e n=>u.slot b o e n hb (by simp)) (λb o _ e n=>u.free b o e n (by simp)) (λb o _ e=>u.there b o e (by simp)) u.tups u.frzs u.tbls (λm' hm=>by
  obtain⟨o',es',ep',ho',r'⟩:=hm;rw[ho]at ho';cases ho';exact⟨_,es',ep',hL,r'⟩) hok I.bare
theorem Inv.call (I:Inv X jJ σ H s)(u:Un (Yp X.stack) ch H H' s.heap h')(hok:Yf X.prog X.w H' h')(hg:AllBare g')
  (hch:∀b∈ch,(b∈X.ex∨X.s₀.heap.objs.size<=b)/\b≠X.env.locals/\(∀x c,X.env.cells.lookup x=some c->c≠b)/\∀p∈X.pn++jJ,p.1≠b) :
  Inv X jJ σ H' { s with heap:=h',gens:=g',drawn:=d',toks:=t' }:=by
 obtain⟨m,⟨o,es,ep,ho,r⟩,_⟩:=id I.loc;obtain⟨sl,hL⟩:=u.any ho I.free λz=>(hch _ z).2.1 rfl;exact I.step hch (λb o hL hb hc e n=>u.keep b o e n (λz=>(qy.mp (I.stkSub b z)).elim hL hb) hc) (λb o _ _ hc e n=>u.any e n hc) (λb o hc e n=>u.free b o e n hc) (λb o hc e=>u.there b o e hc) u.tups u.frzs u.tbls (λm' hm=>by
  obtain⟨o',es',ep',ho',r'⟩:=hm;rw[ho]at ho';cases ho';exact⟨_,es',ep',hL,r'⟩) hok hg
theorem Inv.turned (I:Inv X jJ σ H s)(k:∀b o,b≠it->s.heap.get? b=some o->h'.get? b=some o)(hn:H it=none)(hL:it≠X.env.locals)
  (h1:it∈X.ex∨X.s₀.heap.objs.size<=it) (h2:∀x c,X.env.cells.lookup x=some c->c≠it) (h3:∀p∈X.pn++jJ,p.1≠it):Inv X jJ σ H { s with heap:=h',toks:=t' }:=by
 have nit:∀b u,H b=some u->b≠it:=λb u e z=>by grind
 refine I.step (ch:=[it]) (λb hb=>?_) (λb o _ _ hc e _=>k b o (λz=>hc (by simp[z])) e) (λb o _ _ hc e _=>⟨o.slots,k b o (λz=>hc (by simp[z])) e⟩) (λ_ _ _ _ n=>n)
  (λb o hc e=>⟨o,k b o (λz=>hc (by simp[z])) e⟩) (λ_ _ e=>e) (λ_ _ _ e=>e) (λb ps e=>⟨#[],by rw[e];simp⟩) (λm hm=>?_) (λb u e=>?_) I.bare
 ·have e:=by simpa using hb
  subst e;exact⟨h1,hL,h2,h3⟩
 ·obtain⟨o,es,ep,ho,r⟩:=hm
  exact⟨o,es,ep,k _ o (qN hL) ho,r⟩
 ·refine(I.hok b u e).stay (λc v hc q=>k c v ?_ q) (λ_ q=>q) λ_ _ q=>q
  rcases hc with z | z
  ·rw[z];exact nit b u e
  ·exact nit c _ z
theorem Inv.tok (I:Inv X jJ σ H s)(t:Nat):Inv X jJ σ H { s with toks:=t }:=I.un Un.refl I.hok
theorem Inv.kept (I:Inv X jJ σ H s)(k:∀b u,s.heap.get? b=some u->h'.get? b=some u):Inv X jJ σ H { s with heap:=h',toks:=t' }:=I.un (Un.kept k) (I.hok.kept k)
theorem Inv.laid {a:Addr}(I:Inv X jJ σ H s)(k:∀b u,s.heap.get? b=some u->h'.get? b=some u)(hp:s.heap.objs.size<=a)(new:Ym X.prog X.w (upd H a o) h' a o) :
  Inv X jJ σ (upd H a o) { s with heap:=h',toks:=t' }:=I.un (Un.laid k hp (I.hok.fresh hp)) (I.hok.laid k hp new)
theorem Inv.write (I:Inv X jJ σ H s)(mu:B2 (H x))(he:e=x∨H e=some (.own x))(k:∀b u,b≠e->s.heap.get? b=some u->h'.get? b=some u)(heo:∃u,h'.get? e=some u)
  (new:Ym X.prog X.w (upd H x o) h' x o):Inv X jJ σ (upd H x o) { s with heap:=h',toks:=t' }:=I.un (Un.write mu he k heo) (I.hok.write mu he k heo new)
theorem Inv.pins_of (I:Inv X jJ σ H s)(h:∀p∈pins',s.heap.get? p.1=some p.2/\H p.1=none/\p.1≠X.env.locals/\p.1∉X.fs/\∀v,p.2.data≠.cell v):Inv X pins' σ H s:=
 ⟨I.ok,I.os,I.bare,I.base,I.loc,I.cell,I.free,I.freeC,λp hp=>(yw.mp hp).elim (λz=>I.pin p (qbo _ z)) (h p),I.hok,I.len⟩
theorem ZcL {N:List Str}(hN:N.Nodup){i:Nat}(a:N[i]?=some x)(b:N[j]?=some x):i=j:=by
 obtain⟨h1,e1⟩:=qx.mp a;obtain⟨h2,e2⟩:=qx.mp b;exact(List.getElem_inj hN).mp (e1.trans e2.symm)
theorem Zij (I:Inv X jJ σ H s)(hN:X.N.Nodup)(hi:X.N[i]?=some x)(hx:Wn X.env.scope x)(r:ZE v u)
  (h:∀s',Inv X jJ (σ.set i (some v)) H s'->(∃a,zv a s.heap s'.heap/\(a=X.env.locals∨X.env.cells.lookup x=some a))->Q () s') (hf:X.fn x=true∨X.env.scope.names.lookup x=some .local:=by first | exact .inl rfl | exact .inr rfl | assumption):xf M A (storeName X.env x u) Q E s:=by
 obtain⟨m,hn,hl⟩:=id I.loc;have hcls:(X.env.scope.kind == .class||(X.env.scope.kind == .module&&X.env.locals != X.env.globals))=false:=by rw[I.ok.kind];rfl
 have hiσ:i < σ.length:=by rw[I.len];exact(qx.mp hi).1
 have cne:=I.cne;have tracked:∀{a:Addr} {h':Heap},(∃o,s.heap.get? a=some o/\H a=none)->zv a s.heap h'->Yf X.prog X.w H h':=λ{a h'} ha hs b ob e=>by
  obtain⟨_,_,hfree⟩:=ha;refine(I.hok b ob e).stay (λc w' hc q=>(hs.2 c ?_).trans q) (λ_ q=>q) λ_ _ q=>q;rintro rfl;rcases hc with rfl | hc
  ·rw[hfree]at e;cases e
  ·rw[hfree]at hc;cases hc
 rcases hx with hk | hk
 ·refine wpAny_storeName_local hk hn (λh' hn' hs=>?_) hcls
  obtain⟨oL,_,_,hoL,_⟩:=id hn;refine h _ ⟨I.ok,I.os,I.bare,⟨λb o e n hb hx=>?_,λb o e n hb hx=>?_,I.base.free,λb o e hx=>?_,I.base.tups,I.base.frzs,I.base.tbls⟩,⟨_,hn',λj y v' e1 e2 e3=>?_⟩,λy c e=>?_,I.free,I.freeC,λp hp=>?_,tracked ⟨oL,hoL,I.free⟩ hs,by simpa using I.len⟩ ⟨_,hs,.inl rfl⟩
  ·exact(hs.2 b (qG (qB (qt e) I.ok.above))).trans (I.base.keep b o e n hb hx)
  ·obtain⟨sl,e1⟩:=I.base.slot b o e n hb hx
   exact⟨sl,(hs.2 b (qG (qB (qt e) I.ok.above))).trans e1⟩
  ·obtain⟨o',e1⟩:=I.base.there b o e hx
   exact⟨o',(hs.2 b (qG (qB (qt e) I.ok.above))).trans e1⟩
  ·by_cases hj:j=i
   ·subst hj
    rw[hi]at e1;cases e1;rw[qD hiσ]at e2
    cases e2
    exact⟨u,r,.inl ⟨hk,by simp⟩⟩
   ·rw[qv (qN hj)]at e2
    obtain⟨u',r',q⟩:=hl j y v' e1 e2 e3;refine⟨u',r',?_⟩;rcases q with⟨k,e⟩ | ⟨k,c,e,z⟩
    ·refine .inl ⟨k,?_⟩
     have:y≠x:=λe=>hj (ZcL hN e1 (e▸hi));simp[this,e]
    ·exact .inr ⟨k,c,e,z.sameBut hs (cne y c e)⟩
  ·obtain⟨w',z⟩:=I.cell y c e
   exact⟨w',z.sameBut hs (cne y c e)⟩
  ·obtain⟨e,n,ne,nf,d⟩:=I.pin p hp
   exact⟨(hs.2 p.1 ne).trans e,n,ne,nf,d⟩
 ·have hfn:X.fn x=true:=by
   rcases hf with z | z
   ·exact z
   ·rw[z]at hk;cases hk
  obtain⟨c,hc⟩:=I.ok.has x (.inl hk);obtain⟨w',z⟩:=I.cell x c hc;refine wpAny_storeName_cell I.ok.kind hk hc z (λh' hc' hs=>?_);obtain⟨oc,hoc,hocd⟩:=id z;refine h { s with heap:=h' } ⟨I.ok,I.os,I.bare,⟨λb o e n hb hx=>?_,λb o e n hb hx=>?_,I.base.free,λb o e hx=>?_,I.base.tups,I.base.frzs,I.base.tbls⟩,⟨m,hn.sameBut hs (qN (cne x c hc)),λj y v' e1 e2 e3=>?_⟩,λy c' e=>?_,I.free,I.freeC,λp hp=>?_,tracked ⟨oc,hoc,I.freeC x c hc⟩ hs,by simpa using I.len⟩ ⟨c,hs,.inr hc⟩
  ·exact(hs.2 b (qG (qB (qt e) (I.ok.cab x c hfn hc)))).trans (I.base.keep b o e n hb hx)
  ·obtain⟨sl,e1⟩:=I.base.slot b o e n hb hx
   exact⟨sl,(hs.2 b (qG (qB (qt e) (I.ok.cab x c hfn hc)))).trans e1⟩
  ·obtain⟨o',e1⟩:=I.base.there b o e hx
   exact⟨o',(hs.2 b (qG (qB (qt e) (I.ok.cab x c hfn hc)))).trans e1⟩
  ·by_cases hj:j=i
   ·subst hj
    rw[hi]at e1;cases e1;rw[qD hiσ]at e2
    cases e2
    exact⟨u,r,.inr ⟨.inl hk,c,hc,hc'⟩⟩
   ·rw[qv (qN hj)]at e2
    obtain⟨u',r',q⟩:=hl j y v' e1 e2 e3;refine⟨u',r',?_⟩;rcases q with q | ⟨k,c',e,z'⟩
    ·exact .inl q
    ·refine .inr ⟨k,c',e,z'.sameBut hs ?_⟩
     rintro rfl;exact hj (ZcL hN e1 (I.ok.inj _ _ _ e hc▸hi))
  ·by_cases hcc:c'=c
   ·subst hcc;exact⟨_,hc'⟩
   ·obtain⟨w2,z2⟩:=I.cell y c' e
    exact⟨w2,z2.sameBut hs hcc⟩
  ·obtain⟨e,n,ne,nf,d⟩:=I.pin p hp
   refine⟨(hs.2 p.1 ?_).trans e,n,ne,nf,d⟩;intro q;simp_all
theorem Js (I:Inv X jJ σ H s)(hN:X.N.Nodup)(hi:X.N[i]?=some x)(hx:Wn X.env.scope x)(r:ZE v u)
  (h:∀s',Inv X jJ (σ.set i (some v)) H s'->Q () s') (hf:X.fn x=true∨X.env.scope.names.lookup x=some .local:=by first | exact .inl rfl | exact .inr rfl | assumption):xf M A (storeName X.env x u) Q E s:=
 Zij I hN hi hx r (λs' I' _=>h s' I') hf
theorem Inv.call' (I:Inv X jJ σ H s)(ho:s'.os=s.os)(u:Un (Yp X.stack) ch H H' s.heap s'.heap)(hok:Yf X.prog X.w H' s'.heap)(hg:AllBare s'.gens)
  (hch:∀b∈ch,(b∈X.ex∨X.s₀.heap.objs.size<=b)/\b≠X.env.locals/\(∀x c,X.env.cells.lookup x=some c->c≠b)/\∀p∈X.pn++jJ,p.1≠b):Inv X jJ σ H' s':=by
 obtain⟨h',g',d',t',o'⟩:=s';have e:=ho;subst e;exact I.call u hok hg hch
end
noncomputable abbrev XK:=Value->Option Addr->Hp->Prop
noncomputable abbrev St:=List (Option V)
noncomputable abbrev VK:=V->Hp->Prop
noncomputable abbrev TE:=St->Hp->VK->Prop
noncomputable abbrev TT:=St->Hp->(Bool->Hp->Prop)->Prop
noncomputable abbrev TA:=St->Hp->(List V->Hp->Prop)->Prop
structure Ends where
 nx:St->Hp->Prop
 rt:VK
 bk:St->Hp->Prop:=λ_ _=>False
 ct:St->Hp->Prop:=λ_ _=>False
noncomputable abbrev TS:=Ends->St->Hp->Prop
noncomputable def EP (X:Cx)(jJ:Qb)(σ:St)(Q:VK)(u:Value)(s':Shared):Prop:=∃v H',Inv X jJ σ H' s'/\ZE v u/\Q v H'
noncomputable def TP (X:Cx)(jJ:Qb)(σ:St)(Q:Bool->Hp->Prop)(b:Bool)(s':Shared):Prop:=∃H',Inv X jJ σ H' s'/\Q b H'
noncomputable def AP (X:Cx)(jJ:Qb)(σ:St)(Q:List V->Hp->Prop)(us:List Value)(s':Shared):Prop:=∃vs H',Inv X jJ σ H' s'/\Zy vs us/\Q vs H'
noncomputable def SP (X:Cx)(jJ:Qb)(D:Ends)(f:Flow)(s':Shared):Prop:=
 match f with
 | .next=>∃σ' H',Inv X jJ σ' H' s'/\D.nx σ' H'
 | .brk=>∃σ' H',Inv X jJ σ' H' s'/\D.bk σ' H'
 | .cont=>∃σ' H',Inv X jJ σ' H' s'/\D.ct σ' H'
 | .ret u=>∃v σ' H',Inv X jJ σ' H' s'/\ZE v u/\D.rt v H'
noncomputable def PE (X:Cx)(e:Expr)(t:TE):Prop:=
 ∀(jJ:Qb) (s:Shared) (σ:St) (H:Hp) (Q:VK),Inv X jJ σ H s->t σ H Q->xf (xw X.prog X.w) X.A (eval e X.env) (EP X jJ σ Q) X.xe s
noncomputable def PT (X:Cx)(e:Expr)(t:TT):Prop:=
 ∀(jJ:Qb) (s:Shared) (σ:St) (H:Hp) (Q:Bool->Hp->Prop),Inv X jJ σ H s->t σ H Q->xf (xw X.prog X.w) X.A (isTrue e X.env (eval e X.env)) (TP X jJ σ Q) X.xe s
noncomputable def PW (X:Cx)(e:Expr)(t:TT):Prop:=
 ∀(whole:Sem Value) (jJ:Qb) (s:Shared) (σ:St) (H:Hp) (Q:Bool->Hp->Prop),Inv X jJ σ H s->t σ H Q->xf (xw X.prog X.w) X.A (isTrue e X.env whole) (TP X jJ σ Q) X.xe s
theorem PW.pt (h:PW X e t):PT X e t:=h _
noncomputable def PA (X:Cx)(es:List Expr)(t:TA):Prop:=
 ∀(pos:Pos) (jJ:Qb) (s:Shared) (σ:St) (H:Hp) (Q:List V->Hp->Prop),Inv X jJ σ H s->t σ H Q->xf (xw X.prog X.w) X.A (spliced (backTo pos (xh es X.env))) (AP X jJ σ Q) X.xe s
noncomputable def PS (X:Cx)(st:Stmt)(t:TS):Prop:=
 ∀(jJ:Qb) (s:Shared) (σ:St) (H:Hp) (D:Ends),Inv X jJ σ H s->t D σ H->xf (xw X.prog X.w) X.A (exec st X.env) (SP X jJ D) X.xe s
noncomputable def YU (X:Cx)(st:List Stmt)(t:TS):Prop:=
 ∀(jJ:Qb) (s:Shared) (σ:St) (H:Hp) (D:Ends),Inv X jJ σ H s->t D σ H->xf (xw X.prog X.w) X.A (execs st X.env) (SP X jJ D) X.xe s
theorem ZD {t:Sem α}{Q Q':α->Shared->Prop}(h:xf M A t Q E s)(hQ:∀a s,Q a s->Q' a s):xf M A t Q' E s:=xc h hQ λ_ _ x=>x
section
variable {X:Cx}
noncomputable def ZR (i:Nat):TE:=fun σ H Q=>∃v,σ[i]?=some (some v)/\Q v H
noncomputable def tC (v:V):TE:=λ_ H Q=>Q v H
theorem Zni {pos:Pos}(hN:X.N[i]?=some x)(hv:B3 X.env.scope x)(hd:(x==("__debug__" : Str))=false:=by decide)(hcd:(x==("__classdict__" : Str))=false:=by decide):PE X (.Name x pos) (ZR i):=by
 intro jJ s σ H Q I h;obtain⟨v,e,h⟩:=h;obtain⟨m,hn,hl⟩:=I.loc;obtain⟨u,r,l⟩:=hl i x v hN e hv;have fin:EP X jJ σ Q u s:=⟨v,H,I,r,h⟩;rcases l with⟨hk,hm⟩ | ⟨hk,c,hc,hcell⟩
 ·exact wpAny_Name (wpAny_loadName_local I.ok.kind hk hn hm fin) hd
 ·rcases hk with hk | hk
  ·exact wpAny_Name (wpAny_loadName_cell I.ok.kind hk hc hcell fin) hd
  ·exact wpAny_Name (wpAny_loadName_free I.ok.kind hk hc hcell fin hcd) hd
theorem Xf:PE X (.Constant (.int i) j pos) (tC (.int i)):=λ_ _ _ H _ I h=>wpAny_Constant_int ⟨.int i,H,I.tok _,⟨_,rfl⟩,h⟩
theorem ZmT:PE X (.Constant (.bool b) j pos) (tC (.bl b)):=λ_ _ _ H _ I h=>Constant_bool ⟨.bl b,H,I,rfl,h⟩
theorem Zgf:PE X (.Constant .none j pos) (tC .non):=λ_ _ _ H _ I h=>Constant_none ⟨.non,H,I,rfl,h⟩
theorem Zjy:PE X (.Constant (.str x) j pos) (tC (.str x)):=λ_ _ _ H _ I h=>Calls.Constant_str ⟨.str x,H,I.tok _,⟨_,rfl⟩,h⟩
noncomputable def Gl (X:Cx)(x:Str):Prop:=X.env.kindOf x=some .globalImplicit
theorem U0 {σ:St}(I:Inv X jJ σ H s)(hg:Gl X x)(hm:X.mg x=some u)(h:Q u s)
  (hd:(x==("__debug__" : Str))=false:=by decide):xf (xw X.prog X.w) X.A (eval (.Name x pos) X.env) Q E s:=
 qaA I.ok.kind hg (Calls.loadGlobal_global (by rw[I.ok.glob];exact I.mod.glob.keeps I.bk) hm h) hd
theorem JC {E:xA}{σ:St}{pos:Pos}(I:Inv X jJ σ H s)(hg:Gl X x)(hm:X.mg x=none)(hv:xj x=some u)(h:Q u s)
  (hn:x≠"__name__":=by decide) (hd:(x==("__debug__" : Str))=false:=by decide):xf (xw X.prog X.w) X.A (eval (.Name x pos) X.env) Q E s:=by
 obtain⟨mb,h1,h2⟩:=I.mod.blt;exact qaA I.ok.kind hg (Calls.loadGlobal_builtin (by rw[I.ok.glob];exact I.mod.glob.keeps I.bk) hm (by rw[I.ok.blt];exact h1.keeps I.bk) ((h2 x hn).trans hv) h) hd
theorem VU (hg:Gl X x)(hm:X.mg x=some u)(r:ZE v u)(hd:(x==("__debug__" : Str))=false:=by decide):PE X (.Name x pos) (tC v):=
 λ_ _ _ H _ I h=>U0 I hg hm ⟨v,H,I,r,h⟩ hd
theorem Zee {pos:Pos}(hg:Gl X x)(hm:X.mg x=none)(hv:xj x=some u)(r:ZE v u)(hn:x≠"__name__":=by decide)(hd:(x==("__debug__" : Str))=false:=by decide):PE X (.Name x pos) (tC v):=
 λ_ _ _ H _ I h=>JC I hg hm hv ⟨v,H,I,r,h⟩ hn hd
variable {a b:Expr}{ta tb:TE}{pos:Pos}
noncomputable def tB (t:TE):TT:=fun σ H Q=>t σ H λx H1=>∃c,x=.bl c/\Q c H1
theorem Znj (h:PE X e t)(he:∀whole,isTrue e X.env whole=(do let v<-whole;standAt e.pos;holding [v] (truthy v)):=by intro _;rfl):PT X e (tB t):=by
 intro jJ s σ H Q I hw;refine isTrue_plain (ZD (h jJ s σ H _ I hw) λv s1 ⟨x,H1,I1,r1,q1⟩=>?_) (he _);obtain⟨d,rfl,q⟩:=q1
 cases r1
 exact wpAny_truthy_bool ⟨H1,I1,q⟩
variable {tA tB':TT}{rest:List Expr}
noncomputable def tAnd (t u:TT):TT:=fun σ H Q=>t σ H λc H1=>if c=true then u σ H1 Q else Q false H1
noncomputable def tOr (t u:TT):TT:=fun σ H Q=>t σ H λc H1=>if c=true then Q true H1 else u σ H1 Q
noncomputable def tNot (t:TT):TT:=fun σ H Q=>t σ H λc H1=>Q (!c) H1
theorem ZlJ (ha:PT X a tA):PW X (.BoolOp .And [a] pos) tA:=by
 intro wh jJ s σ H Q I h;refine isTrue_and (ZD (ha jJ s σ H Q I h) λc s1 e=>?_)
 cases c with
 | true=>exact isTrue_and_nil e
 | false=>exact e
theorem Znk (ha:PT X a tA):PW X (.BoolOp .Or [a] pos) tA:=by
 intro wh jJ s σ H Q I h;refine isTrue_or (ZD (ha jJ s σ H Q I h) λc s1 e=>?_)
 cases c with
 | false=>exact isTrue_or_nil e
 | true=>exact e
theorem Znl (ha:PT X a tA)(hb:PW X (.BoolOp .And (b::rest) pos) tB'):PW X (.BoolOp .And (a::b::rest) pos) (tAnd tA tB'):=by
 intro wh jJ s σ H Q I h;refine isTrue_and (ZD (ha jJ s σ H _ I h) λc s1 ⟨H1,I1,q1⟩=>?_)
 cases c with
 | true=>exact hb wh jJ s1 σ H1 Q I1 q1
 | false=>exact⟨H1,I1,q1⟩
theorem Zoj (ha:PT X a tA)(hb:PW X (.BoolOp .Or (b::rest) pos) tB'):PW X (.BoolOp .Or (a::b::rest) pos) (tOr tA tB'):=by
 intro wh jJ s σ H Q I h;refine isTrue_or (ZD (ha jJ s σ H _ I h) λc s1 ⟨H1,I1,q1⟩=>?_)
 cases c with
 | true=>exact⟨H1,I1,q1⟩
 | false=>exact hb wh jJ s1 σ H1 Q I1 q1
theorem Znm (ha:PT X a tA):PT X (.UnaryOp .Not a pos) (tNot tA):=by
 intro jJ s σ H Q I h;exact isTrue_not (ha jJ s σ H (λc H1=>Q (!c) H1) I h)
noncomputable def Zok (ta tb:TE):TE:=fun σ H Q=>ta σ H λx H1=>∃c,x=.bl c/\if c=true then tb σ H1 Q else Q (.bl false) H1
noncomputable def tOrV (ta tb:TE):TE:=fun σ H Q=>ta σ H λx H1=>∃c,x=.bl c/\if c=true then Q (.bl true) H1 else tb σ H1 Q
noncomputable def Zol (ta:TE):TE:=fun σ H Q=>ta σ H λx H1=>∃c,x=.bl c/\Q (.bl (!c)) H1
theorem Znn (h:PE X a t):PE X (.BoolOp op [a] pos) t:=λjJ s σ H Q I hw=>BoolOp_one (h jJ s σ H Q I hw)
theorem Zno (ha:PE X a ta)(hb:PE X (.BoolOp .And (b::rest) pos) tb):PE X (.BoolOp .And (a::b::rest) pos) (Zok ta tb):=by
 intro jJ s σ H Q I h;refine BoolOp_and (ZD (ha jJ s σ H _ I h) λv s1 ⟨x,H1,I1,r1,q1⟩=>?_);obtain⟨c,rfl,q1⟩:=q1
 cases r1
 refine wpAny_truthy_bool ?_
 cases c with
 | true=>exact hb jJ s1 σ H1 Q I1 q1
 | false=>exact⟨.bl false,H1,I1,rfl,q1⟩
theorem Zom (ha:PE X a ta)(hb:PE X (.BoolOp .Or (b::rest) pos) tb):PE X (.BoolOp .Or (a::b::rest) pos) (tOrV ta tb):=by
 intro jJ s σ H Q I h;refine BoolOp_or (ZD (ha jJ s σ H _ I h) λv s1 ⟨x,H1,I1,r1,q1⟩=>?_);obtain⟨c,rfl,q1⟩:=q1
 cases r1
 refine wpAny_truthy_bool ?_
 cases c with
 | false=>exact hb jJ s1 σ H1 Q I1 q1
 | true=>exact⟨.bl true,H1,I1,rfl,q1⟩
theorem Znp (ha:PE X a ta):PE X (.UnaryOp .Not a pos) (Zol ta):=by
 intro jJ s σ H Q I h;refine UnaryOp_ (ZD (ha jJ s σ H _ I h) λv s1 ⟨x,H1,I1,r1,q1⟩=>?_);obtain⟨c,rfl,q1⟩:=q1
 cases r1
 exact not_of (wpAny_truthy_bool ⟨.bl (!c),H1,I1,rfl,q1⟩)
noncomputable def tIf (t:TT)(ta tb:TE):TE:=fun σ H Q=>t σ H λc H1=>if c=true then ta σ H1 Q else tb σ H1 Q
theorem Zjz (hc:PT X c tA)(ha:PE X a ta)(hb:PE X b tb):PE X (.IfExp c a b pos) (tIf tA ta tb):=by
 intro jJ s σ H Q I h;refine wpAny_IfExp (ZD (hc jJ s σ H _ I h) λd s1 ⟨H1,I1,q1⟩=>?_)
 cases d with
 | true=>exact ha jJ s1 σ H1 Q I1 q1
 | false=>exact hb jJ s1 σ H1 Q I1 q1
end
noncomputable def ZJ (K:qf)(H:Hp)(a:Addr)(xs:List V):Prop:=
 Rd H a (.lst xs)∨
  ∃(o:Obj) (jK:Array Value) (n:Nat),K.lookup a=some o/\o.cls=.type "list"/\o.dict=none/\o.data=.seq jK n/\jK.size<=xg/\Zy xs jK.toList
noncomputable def ZU (K:qf)(H:Hp)(a:Addr)(xs:List V):Prop:=
 Rd H a (.tup xs)∨
  ∃(o:Obj) (jK:Array Value) (n:Nat),K.lookup a=some o/\o.cls=.type "tuple"/\o.data=.seq jK n/\jK.size<=xg/\Zy xs jK.toList
noncomputable def absV:Value->Option V
 | .none=>some .non
 | .bool b=>some (.bl b)
 | .int i _=>some (.int i)
 | .str x _=>some (.str x)
 | .bytes b _=>some (.byt b)
 | .float b _=>some (.flt b)
 | .ref a=>some (.ref a)
 | .type n=>some (.ty n)
 | _=>none
theorem ZE.abs (r:ZE x u):absV u=some x:=by
 cases x with
 | non=>cases r;rfl
 | bl _=>cases r;rfl
 | int _=>obtain⟨t,rfl⟩:=r;rfl
 | str _=>obtain⟨t,rfl⟩:=r;rfl
 | byt _=>obtain⟨t,rfl⟩:=r;rfl
 | flt _=>obtain⟨t,rfl⟩:=r;rfl
 | ref _=>cases r;rfl
 | ty _=>cases r;rfl
theorem ZE.inj (r:ZE x u)(q:ZE y u):x=y:=zf (r.abs.symm.trans q.abs)
theorem Zy.inj:∀{xs ys:List V} {us:List Value},Zy xs us->Zy ys us->xs=ys
 | _,_,_,.nil,.nil=>rfl
 | _,_,_,.cons r t,.cons r' t'=>by rw[r.inj r',Zy.inj t t']
section
variable {X:Cx}{jJ:Qb}{σ:St}{H:Hp}{s:Shared}{a:Addr}{xs ys:List V}
theorem ZJ.of {K:qf}(h:H a=some (.lst xs)):ZJ K H a xs:=.inl (.inl h)
theorem ZU.of {K:qf}(h:H a=some (.tup xs)):ZU K H a xs:=.inl (.inl h)
theorem Inv.list (I:Inv X jJ σ H s)(h:ZJ X.K H a xs):∃jK:List Value,Zy xs jK/\PlainL s.heap a jK.toArray/\xs.length<=xg:=by
 rcases h with h | ⟨o,jK,n,hk,hc,hd,hs,hz,r⟩
 ·obtain⟨z,jK,n,r,e⟩:=h.ok I.hok
  exact⟨jK,r,⟨_,n,e,rfl,rfl,rfl⟩,z⟩
 ·refine⟨jK.toList,r,⟨o,n,I.kIn a o hk,hc,hd,by omega⟩,?_⟩
  have e:=r.length
  grind
theorem Inv.tuple (I:Inv X jJ σ H s)(h:ZU X.K H a xs):∃jK:List Value,Zy xs jK/\IsTup s.heap a jK.toArray/\xs.length<=xg:=by
 rcases h with h | ⟨o,jK,n,hk,hc,hs,hz,r⟩
 ·obtain⟨z,jK,r,p⟩:=h.ok I.hok
  exact⟨jK,r,p,z⟩
 ·refine⟨jK.toList,r,⟨o,I.kIn a o hk,hc,n,by omega⟩,?_⟩
  have e:=r.length;simp_all
theorem Inv.list_inj (I:Inv X jJ σ H s)(h:ZJ X.K H a xs)(h':ZJ X.K H a ys):xs=ys:=by
 obtain⟨jK,r,⟨o,n,e,_,_,d⟩,_⟩:=I.list h;obtain⟨its',r',⟨o',n',e',_,_,d'⟩,_⟩:=I.list h';have:jK=its':=by grind
 subst this;exact r.inj r'
theorem Inv.tuple_inj (I:Inv X jJ σ H s)(h:ZU X.K H a xs)(h':ZU X.K H a ys):xs=ys:=by
 obtain⟨jK,r,⟨o,e,_,n,d⟩,_⟩:=I.tuple h;obtain⟨its',r',⟨o',e',_,n',d'⟩,_⟩:=I.tuple h';have:jK=its':=by grind
 subst this;exact r.inj r'
end
noncomputable abbrev Cx.wish (X:Cx)(E:xA):Cx:={ X with xe:=E }
noncomputable abbrev Cx.nox (X:Cx):Cx:=X.wish λ_ _=>False
theorem Cx.Ok.wish {X:Cx}(ok:X.Ok)(E:xA):(X.wish E).Ok:=
 ⟨ok.mod,ok.kind,ok.glob,ok.blt,ok.above,ok.inj,ok.has,ok.cab,ok.hd,ok.frames,ok.stk,ok.exf,ok.bs,ok.bsz,ok.noex,ok.exfs,ok.funs,ok.frf⟩
theorem Cx.Ok.unwish {X:Cx}(ok:(X.wish E).Ok):X.Ok:=
 ⟨ok.mod,ok.kind,ok.glob,ok.blt,ok.above,ok.inj,ok.has,ok.cab,ok.hd,ok.frames,ok.stk,ok.exf,ok.bs,ok.bsz,ok.noex,ok.exfs,ok.funs,ok.frf⟩
section
variable {X:Cx}{jJ:Qb}{σ:St}{H:Hp}{s:Shared}{E:xA}
theorem Inv.wish (I:Inv X jJ σ H s)(E:xA):Inv (X.wish E) jJ σ H s:=⟨I.ok.wish E,I.os,I.bare,I.base,I.loc,I.cell,I.free,I.freeC,I.pin,I.hok,I.len⟩
theorem Inv.unwish (I:Inv (X.wish E) jJ σ H s):Inv X jJ σ H s:=⟨I.ok.unwish,I.os,I.bare,I.base,I.loc,I.cell,I.free,I.freeC,I.pin,I.hok,I.len⟩
theorem SP.unwish (h:SP (X.wish E) jJ D f s'):SP X jJ D f s':=by
 cases f with
 | next=>obtain⟨σ',H',I,q⟩:=h;exact⟨σ',H',I.unwish,q⟩
 | brk=>obtain⟨σ',H',I,q⟩:=h;exact⟨σ',H',I.unwish,q⟩
 | cont=>obtain⟨σ',H',I,q⟩:=h;exact⟨σ',H',I.unwish,q⟩
 | ret u=>obtain⟨v,σ',H',I,r,q⟩:=h;exact⟨v,σ',H',I.unwish,r,q⟩
theorem PE.nox (h:PE X.nox e t):PE X e t:=λjJ s σ H Q I hw=>
 xc (h jJ s σ H Q (I.wish _) hw) (λ_ _ ⟨v,H',I',r,q⟩=>⟨v,H',I'.unwish,r,q⟩) λ_ _ z=>qM z
theorem PT.nox (h:PT X.nox e t):PT X e t:=λjJ s σ H Q I hw=>
 xc (h jJ s σ H Q (I.wish _) hw) (λ_ _ ⟨H',I',q⟩=>⟨H',I'.unwish,q⟩) λ_ _ z=>qM z
theorem YU.nox {st:List Stmt}(h:YU X.nox st t):YU X st t:=λjJ s σ H D I hw=>
 xc (h jJ s σ H D (I.wish _) hw) (λ_ _ q=>q.unwish) λ_ _ z=>qM z
end
section
variable {X:Cx}{st:Stmt}{rest:List Stmt}{t u:TS}{e:Expr}{te:TE}{pos:Pos}
noncomputable def Zon:TS:=λD σ H=>D.nx σ H
noncomputable def WU (t u:TS):TS:=λD σ H=>t { D with nx:=u D } σ H
theorem Bn:YU X [] Zon:=λ_ _ σ H _ I h=>wpAny_execs_nil ⟨σ,H,I,h⟩
theorem Xo (h1:PS X st t)(h2:YU X rest u):YU X (st::rest) (WU t u):=by
 intro jJ s σ H D I h;refine wpAny_execs_cons (ZD (h1 jJ s σ H { D with nx:=u D } I h) λf s1 q=>?_)
 cases f with
 | next=>
  obtain⟨σ',H',I',q⟩:=q;exact h2 jJ s1 σ' H' D I' q
 | ret v=>exact q
 | brk=>exact q
 | cont=>exact q
theorem Vp (h1:PS X st t):YU X [st] t:=by
 intro jJ s σ H D I h;refine wpAny_execs_cons (ZD (h1 jJ s σ H D I h) λf s1 q=>?_)
 cases f with
 | next=>exact wpAny_execs_nil q
 | ret v=>exact q
 | brk=>exact q
 | cont=>exact q
theorem Inv.quiet {σ:St}(I:Inv X jJ σ H s):interactive X.env=false:=by simp[interactive,I.ok.kind]
noncomputable def Zht (te:TE):TS:=λD σ H=>te σ H λ_ H1=>D.nx σ H1
theorem Zcs (he:PE X e te)(hs:xr e none pos.line X.env=pure false:=by rfl):PS X (.Expr e pos) (Zht te):=by
 intro jJ s σ H D I h;exact wpAny_Expr_any (ZD (he jJ s σ H _ I h) λv s1 ⟨x,H1,I1,r1,q1⟩=>⟨σ,H1,I1,q1⟩) I.quiet hs
noncomputable def tRet (te:TE):TS:=λD σ H=>te σ H D.rt
theorem Zgg (he:PE X e te):PS X (.Return (some e) pos) (tRet te):=by
 intro jJ s σ H D I h;exact wpAny_Return_some (ZD (he jJ s σ H _ I h) λv s1 ⟨x,H1,I1,r1,q1⟩=>⟨x,σ,H1,I1,r1,q1⟩)
noncomputable def tIfS (c:TT)(t u:TS):TS:=λD σ H=>c σ H λb H1=>if b=true then t D σ H1 else u D σ H1
theorem JP (hc:PT X c tc)(ha:YU X a t)(hb:YU X b u):PS X (.If c a b pos) (tIfS tc t u):=by
 intro jJ s σ H D I h;refine wpAny_If (ZD (hc jJ s σ H _ I h) λd s1 ⟨H1,I1,q1⟩=>?_)
 cases d with
 | true=>exact ha jJ s1 σ H1 D I1 q1
 | false=>exact hb jJ s1 σ H1 D I1 q1
end
noncomputable abbrev TG:=V->St->Hp->(St->Hp->Prop)->Prop
noncomputable abbrev B4:=List V->St->Hp->(St->Hp->Prop)->Prop
noncomputable def PG (X:Cx)(target:Expr)(t:TG):Prop:=
 ∀(jJ:Qb) (s:Shared) (σ:St) (H:Hp) (v:V) (u:Value) (Q:St->Hp->Prop),Inv X jJ σ H s->ZE v u->t v σ H Q->
  xf (xw X.prog X.w) X.A (assign target X.env u) (λ_ s'=>∃σ' H',Inv X jJ σ' H' s'/\Q σ' H') X.xe s
noncomputable def B5 (X:Cx)(ts:List Expr)(t:B4):Prop:=
 ∀(jJ:Qb) (s:Shared) (σ:St) (H:Hp) (vs:List V) (us:List Value) (Q:St->Hp->Prop),Inv X jJ σ H s->Zy vs us->t vs σ H Q->
  xf (xw X.prog X.w) X.A (assignInOrder ((assignEach ts X.env).map (·.2)) us) (λ_ s'=>∃σ' H',Inv X jJ σ' H' s'/\Q σ' H') X.xe s
noncomputable abbrev TSet:=V->V->V->Hp->(Hp->Prop)->Prop
noncomputable def PSet (X:Cx)(t:TSet):Prop:=
 ∀(jJ:Qb) (s:Shared) (σ:St) (H:Hp) (o i v:V) (ov iv u:Value) (Q:Hp->Prop),Inv X jJ σ H s->ZE o ov->ZE i iv->ZE v u->t o i v H Q->
  xf (xw X.prog X.w) X.A (setItem ov iv u) (λ_ s'=>∃H',Inv X jJ σ H' s'/\Q H') X.xe s
section
variable {X:Cx}{pos:Pos}
noncomputable def JQ (i:Nat):TG:=λv σ H Q=>Q (σ.set i (some v)) H
theorem Zct (hN:X.N.Nodup)(hi:X.N[i]?=some x)(hx:Wn X.env.scope x)(hf:X.fn x=true∨X.env.scope.names.lookup x=some .local:=by first | exact .inl rfl | exact .inr rfl | assumption):PG X (.Name x pos) (JQ i):=by
 intro jJ s σ H v u Q I r h;exact wpAny_assign_Name (Js I hN hi hx r (λs' I'=>⟨_,H,I',h⟩) hf)
noncomputable def gNil:B4:=λvs σ H Q=>vs=[]/\Q σ H
noncomputable def ZjA (t:TG)(u:B4):B4:=λvs σ H Q=>∃v r,vs=v::r/\t v σ H fun σ' H'=>u r σ' H' Q
theorem ZlK:B5 X [] gNil:=by
 intro jJ s σ H vs us Q I r h;obtain⟨e,h⟩:=h;exact assignInOrder_nil ⟨σ,H,I,h⟩
theorem Ze1 (h1:PG X e t)(h2:B5 X es u)
  (hs:(assignEach (e::es) X.env).map (·.2)=assign e X.env::(assignEach es X.env).map (·.2):=by rfl):B5 X (e::es) (ZjA t u):=by
 intro jJ s σ H vs us Q I r h;obtain⟨v,vr,e1,h⟩:=h;subst e1
 cases r with
 | cons r rr=>
  rw[hs];refine assignInOrder_cons (ZD (h1 jJ s σ H _ _ _ I r h) λ_ s1 ⟨σ1,H1,I1,q1⟩=>?_);exact h2 jJ s1 σ1 H1 _ _ Q I1 rr q1
noncomputable def gTup (K:qf)(n:Nat)(t:B4):TG:=λv σ H Q=>∃a xs,v=.ref a/\ZU K H a xs/\xs.length=n/\t xs σ H Q
theorem Znq {k:Nat}(hc:X.calm=true)(h:B5 X es t)
  (hn:(assignEach es X.env).length=n:=by rfl) (hst:(assignEach es X.env).findIdx? (·.1)=none:=by rfl):PG X (.Tuple es k pos) (gTup X.K n t):=by
 intro jJ s σ H v u Q I r hw;obtain⟨a,xs,e1,hq,hl,hw⟩:=hw;subst e1
 cases r
 obtain⟨jK,rv,ht,hz⟩:=I.tuple hq;refine assign_Tuple_tuple (I.ok.hd hc) ht (by simp[hn,<-hl,rv.length]) hst λh' hx=>?_;have I1:Inv X jJ σ H { s with heap:=h' }:=I.kept λb o e=>hx b o (qG (qt e)) e;exact h jJ _ σ H xs _ Q I1 (by omega) hw
noncomputable def BQ (to ti:TE)(t:TSet):TG:=λv σ H Q=>to σ H λo H1=>ti σ H1 λi H2=>t o i v H2 λH3=>Q σ H3
theorem Zgh (ho:PE X o to)(hi:PE X i ti)(hs:PSet X t)
  (ha:∀v,assign (.Subscript o i pos) X.env v=(do
   let ov<-holding [v] (eval o X.env)
   let iv<-holding [v,ov] (eval i X.env)
   standAt pos
   holding [v,ov,iv] (setItem ov iv v)
   release [v,ov,iv] []):=by intro _;rfl):PG X (.Subscript o i pos) (BQ to ti t):=by
 intro jJ s σ H v u Q I r h;rw[ha];refine xa (xt (ZD (ho jJ s σ H _ I h) λov s1 ⟨x,H1,I1,r1,q1⟩=>?_));refine xa (xt (ZD (hi jJ s1 σ H1 _ I1 q1) λiv s2 ⟨y,H2,I2,r2,q2⟩=>?_));refine xa (wpAny_standAt (xa (xt (ZD (hs jJ s2 σ H2 x y v ov iv u _ I2 r1 r2 r q2) λ_ s3 ⟨H3,I3,q3⟩=>?_))));exact wpAny_release ⟨σ,H3,I3,q3⟩
noncomputable def UB (te:TE)(g:TG):TS:=λD σ H=>te σ H λx H1=>g x σ H1 D.nx
theorem Zgi (he:PE X e te)(hg:PG X tg g)(hs:swapsWithSole [tg] e pos.line X.env=pure false:=by rfl)(hw:swappedStores [tg] e X.env=pure none:=by rfl)
  (h1:(assignEach [tg] X.env).map (·.2)=[assign tg X.env]:=by rfl):PS X (.Assign [tg] e pos) (UB te g):=by
 intro jJ s σ H D I h;refine wpAny_Assign_stores (ZD (he jJ s σ H _ I h) λv s1 ⟨x,H1,I1,r1,q1⟩=>?_) hs hw;rw[h1];exact ZD (hg jJ s1 σ H1 x v _ I1 r1 q1) λ_ s2 q=>q
theorem We (hN:X.N.Nodup)(hi:X.N[i]?=some x)(hx:Wn X.env.scope x)(he:PE X e te)(hs:xr e (some (.Name x pos')) pos.line X.env=pure false:=by rfl)(hf:X.fn x=true∨X.env.scope.names.lookup x=some .local:=by first | exact .inl rfl | exact .inr rfl | assumption) :
  PS X (.Assign [.Name x pos'] e pos) (UB te (JQ i)):=by
 intro jJ s σ H D I h;refine wpAny_Assign_Name (ZD (he jJ s σ H _ I h) λv s1 ⟨y,H1,I1,r1,q1⟩=>?_) hs;exact Js I1 hN hi hx r1 (λs2 I2=>⟨_,H1,I2,q1⟩) hf
noncomputable def tPar (i j:Nat)(ta:TA):TS:=λD σ H=>ta σ H λvs H1=>∃v w,vs=[v,w]/\D.nx ((σ.set i (some v)).set j (some w)) H1
theorem Znr (hc:X.calm=true)(hN:X.N.Nodup)(hi:X.N[i]?=some x)(hj:X.N[j]?=some y)(hij:i≠j)
  (hx:X.env.scope.names.lookup x=some .local) (hy:X.env.scope.names.lookup y=some .local) (ha:PA X [a,b] ta)
  (hw:swappedStores [.Tuple [.Name x px,.Name y py] kt pt] (.Tuple [a,b] k2 pt2) X.env=pure (some [x,y]))
  (hs:swapsWithSole [.Tuple [.Name x px,.Name y py] kt pt] (.Tuple [a,b] k2 pt2) pos.line X.env=pure false:=by rfl) :
  PS X (.Assign [.Tuple [.Name x px,.Name y py] kt pt] (.Tuple [a,b] k2 pt2) pos) (tPar i j ta):=by
 intro jJ s σ H D I h;rw[exec_Assign_arm];refine xa (wpAny_standAt ?_);rw[hs];refine xa (xb ?_);rw[if_neg (by decide)];refine xa (Tuple_ (ZD (ha _ jJ s σ H _ I h) λus s1 ⟨vs,H1,I1,r1,q1⟩=>?_));obtain⟨v,w,e1,q1⟩:=q1;subst e1;obtain⟨u1,u2,rfl,rv,rw'⟩:∃u1 u2,us=[u1,u2]/\ZE v u1/\ZE w u2:=by
  cases r1 with
  | cons p q=>
   cases q with
   | cons p' q'=>
    cases q'
    exact⟨_,_,rfl,p,p'⟩
 refine xl ?_ (by show 2<=xg;decide);have I2:Inv X jJ σ H1 { s1 with heap:=s1.heap.push { cls:=.type "tuple",data:=.seq [u1,u2].toArray } }:=I1.kept (t':=s1.toks) λb o e=>qj _ e;rw[hw];refine xa (xb ?_);show xf (xw X.prog X.w) X.A (do rule "assign.swapped-stores";let items<-unpackItems (.ref s1.heap.objs.size) 2 none;assignInOrder [λv=>bindName X.env y v,λv=>bindName X.env x v] items.reverse;pure Flow.next) _ _ _;refine xa (wpAny_rule (xa (unpackItems_tuple (items:=#[u1,u2]) (I.ok.hd hc) (qax s1.heap _) λh' hx'=>?_)));have I3:=I2.kept (t':=s1.toks) λb o e=>hx' b o (qG (qt e)) e;refine xa (assignInOrder_cons (wpAny_bindName (Js I3 hN hj (.inl hy) rw' (λs2 I4=>?_) (.inr hy))));refine assignInOrder_cons (wpAny_bindName (Js I4 hN hi (.inl hx) rv (λs3 I5=>assignInOrder_nil (xb ?_)) (.inr hx)));rw[List.set_comm _ _ (qN hij)]at I5;exact⟨_,H1,I5,q1⟩
end
section
variable {X:Cx}{pos:Pos}
end
structure It where
 go:Nat->Hp->Prop
 yld:Nat->Hp->V->Hp->Prop
 stop:Nat->Hp->Prop
noncomputable def Wz (X:Cx)(jJ:Qb)(H:Hp)(b:Addr):Prop:=
 H b=none/\b≠X.env.locals/\b∉X.fs/\(b∈X.ex∨X.s₀.heap.objs.size<=b)/\(∀x c,X.env.cells.lookup x=some c->c≠b)/\∀p∈X.pn++jJ,p.1≠b
theorem Inv.fpOk {σ:St}{b:Addr}(I:Inv X jJ σ H s)(hb:s.heap.objs.size<=b)(hn:H' b=none):Wz X jJ H' b:=by
 refine⟨hn,qbE (qB I.lt hb),I.nofs hb,.inr (qI I.sz hb),λx c e z=>?_,λp hp z=>?_⟩
 ·obtain⟨v,q⟩:=I.cell x c e
  exact absurd (qB q.lt (by simp_all)) (zQ _)
 ·exact absurd (qB (qt (I.pin p hp).1) (by simp_all)) (zQ _)
structure Turn (P:xy)(w:World)(K:qf)(tg:Expr)(J:It)(fp:List Addr)(it:Addr)(tn:Nat->Heap->Prop):Prop where
 mem:it∈fp
 obj:∀i h,tn i h->∀b∈fp,∃o,h.get? b=some o/\∀v,o.data≠.cell v
 keep:∀i h h',tn i h->(∀b∈fp,∀o,h.get? b=some o->h'.get? b=some o)->tn i h'
 item:∀(X:Cx),X.prog=P->X.w=w->X.K=K->X.calm=true->∀(i:Nat) (jJ:Qb) (s:Shared) (σ:St) (H:Hp) (E:xA),Inv X jJ σ H s->(∀b∈fp,Wz X jJ H b)->tn i s.heap->J.go i H->
  xf (xw P w) X.A (pyNext (.ref it)) (λr s1=>∃u,r=some u/\
   xf (xw P w) X.A (letOwnedTupleGo tg (.ref it) u) (λ_ s2=>∃x H',Inv X jJ σ H' s2/\ZE x u/\J.yld i H x H'/\tn (i+1) s2.heap/\∀b∈fp,H' b=none) E s1) E s
 done:∀(X:Cx),X.prog=P->X.w=w->X.K=K->X.calm=true->∀(i:Nat) (jJ:Qb) (s:Shared) (σ:St) (H:Hp) (E:xA),Inv X jJ σ H s->(∀b∈fp,Wz X jJ H b)->tn i s.heap->J.stop i H->
  xf (xw P w) X.A (pyNext (.ref it)) (λr s1=>r=none/\Inv X jJ σ H s1) E s
 self:∀(A:xz) (i:Nat) (s:Shared) (Q:xA) (E:xA),tn i s.heap->Q (.ref it) s->xf (xw P w) A (pyIter (.ref it)) Q E s
noncomputable abbrev TI:=St->Hp->(It->Hp->Prop)->Prop
noncomputable def PIE (X:Cx)(jJ:Qb)(σ:St)(tg:Expr)(R:It->Hp->Prop)(itv:Value)(s2:Shared):Prop:=
 ∃(it:Addr) (fp:List Addr) (tn:Nat->Heap->Prop) (J:It) (H':Hp),itv=.ref it/\Inv X jJ σ H' s2/\Turn X.prog X.w X.K tg J fp it tn/\tn 0 s2.heap/\(∀b∈fp,Wz X jJ H' b)/\R J H'
noncomputable def PI (X:Cx)(tg iter:Expr)(wi:TI):Prop:=
 ∀(jJ:Qb) (s:Shared) (σ:St) (H:Hp) (R:It->Hp->Prop),Inv X jJ σ H s->wi σ H R->
  xf (xw X.prog X.w) X.A (eval iter X.env) (λv s1=>xf (xw X.prog X.w) X.A (pyIter v) (PIE X jJ σ tg R) X.xe s1) X.xe s
theorem ZjB (ho : s.heap.get? it = some o)(hc : o.cls = .type n)(hd : o.data = .fields vs)
    (hn : ["enumerate", "zip", "dict_itemiterator", "dict_reverseitemiterator", "odict_iterator", "itertools.zip_longest", "itertools.pairwise"].contains n = false) (hQ : Q () s) : xf M A (letOwnedTupleGo tg (.ref it) u) Q E s := by
  unfold letOwnedTupleGo
  cases tg <;> first
    | exact xb hQ
    | (cases u <;> first
        | exact xb hQ
        | (refine xa (wpAny_load ho ?_)
           rw[hc, hd];show xf M A (if (["enumerate", "zip", "dict_itemiterator", "dict_reverseitemiterator", "odict_iterator", "itertools.zip_longest", "itertools.pairwise"].contains n && vs[0]? == some (rawInt _)) = true then _ else _) Q E s;rw[if_neg (by intro h; rw[hn] at h; cases h)];exact xb hQ))
noncomputable def Itl (K:qf)(a:Addr):It:=
 ⟨λi H=>∃xs x,ZJ K H a xs/\xs[i]?=some x,λi H x H'=>H'=H/\∀xs,ZJ K H a xs->xs[i]?=some x,λi H=>∃xs,ZJ K H a xs/\xs.length<=i⟩
noncomputable def Itt (K:qf)(a:Addr):It:=
 ⟨λi H=>∃xs x,ZU K H a xs/\xs[i]?=some x,λi H x H'=>H'=H/\∀xs,ZU K H a xs->xs[i]?=some x,λi H=>∃xs,ZU K H a xs/\xs.length<=i⟩
noncomputable def B6 (lo:Int)(n:Nat):It:=⟨λi _=>i<n,λi H x H'=>H'=H/\x=.int (lo+i),λi _=>n<=i⟩
theorem Zik {K:qf}(a it:Addr):Turn P w K tg (Itl K a) [it] it (λi h=>h.IsListIter it a i) where
 mem:=by simp
 obj:=λi h st b hb=>by
  have e:b=it:=by simpa using hb
  subst e;obtain⟨o,e,c,d⟩:=st;exact⟨o,e,λv z=>by rw[d]at z;cases z⟩
 keep:=λi h h' st k=>st.at λo e=>k it (by simp) o e
 item:=by
  intro X hP hw hK hc i jJ s σ H E I hf st hg;subst hP hw hK;obtain⟨xs,x,hq,hx⟩:=hg;obtain⟨jK,rv,p,hz⟩:=I.list hq;obtain⟨u,hu,ru⟩:=rv.get hx;obtain⟨f0,f1,f2,f3,f4,f5⟩:=hf it (by simp);refine wpAny_pyNext_list_item st p.isList (x:=u) (by simpa using hu) λh' st' sb=>?_;have I1:Inv X jJ σ H { s with heap:=h' }:=I.turned (t':=s.toks) (λb o hb e=>(sb.2 b hb).trans e) f0 f1 f3 f4 f5;obtain⟨o,e,c,d⟩:=id st';exact⟨u,rfl,ZjB (s:={ s with heap:=h' }) e c d (by decide) ⟨x,H,I1,ru,⟨rfl,λys hy=>by rw[I.list_inj hy hq];exact hx⟩,st',λb hb=>(hf b hb).1⟩⟩
 done:=by
  intro X hP hw hK hc i jJ s σ H E I hf st hg;subst hP hw hK;obtain⟨xs,hq,hx⟩:=hg;obtain⟨jK,rv,p,hz⟩:=I.list hq;obtain⟨f0,f1,f2,f3,f4,f5⟩:=hf it (by simp);have hl:=rv.length;exact wpAny_pyNext_list_end (I.ok.hd hc) st p.isList (by simp;omega) λh' eb=>⟨rfl,I.turned (λb o hb e=>eb b o hb e) f0 f1 f3 f4 f5⟩
 self:=λ_ _ _ _ _ st h=>wpAny_pyIter_listiter st h
theorem Zgj {K:qf}(a it:Addr):Turn P w K tg (Itt K a) [it] it (λi h=>h.IsTupleIter it a i) where
 mem:=by simp
 obj:=λi h st b hb=>by
  have e:b=it:=by simpa using hb
  subst e;obtain⟨o,e,c,d⟩:=st;exact⟨o,e,λv z=>by rw[d]at z;cases z⟩
 keep:=λi h h' st k=>st.at λo e=>k it (by simp) o e
 item:=by
  intro X hP hw hK hc i jJ s σ H E I hf st hg;subst hP hw hK;obtain⟨xs,x,hq,hx⟩:=hg;obtain⟨jK,rv,p,hz⟩:=I.tuple hq;obtain⟨u,hu,ru⟩:=rv.get hx;obtain⟨f0,f1,f2,f3,f4,f5⟩:=hf it (by simp);refine wpAny_pyNext_tuple_item st (show s.heap.IsTuple a jK.toArray from p) (x:=u) (by simpa using hu) λh' st' sb=>?_;have I1:Inv X jJ σ H { s with heap:=h' }:=I.turned (t':=s.toks) (λb o hb e=>(sb.2 b hb).trans e) f0 f1 f3 f4 f5;obtain⟨o,e,c,d⟩:=id st';exact⟨u,rfl,ZjB (s:={ s with heap:=h' }) e c d (by decide) ⟨x,H,I1,ru,⟨rfl,λys hy=>by rw[I.tuple_inj hy hq];exact hx⟩,st',λb hb=>(hf b hb).1⟩⟩
 done:=by
  intro X hP hw hK hc i jJ s σ H E I hf st hg;subst hP hw hK;obtain⟨xs,hq,hx⟩:=hg;obtain⟨jK,rv,p,hz⟩:=I.tuple hq;obtain⟨f0,f1,f2,f3,f4,f5⟩:=hf it (by simp);have hl:=rv.length;exact wpAny_pyNext_tuple_end (I.ok.hd hc) st (show s.heap.IsTuple a jK.toArray from p) (by simp;omega) λh' eb=>⟨rfl,I.turned (λb o hb e=>eb b o hb e) f0 f1 f3 f4 f5⟩
 self:=λ_ _ _ _ _ st h=>wpAny_pyIter_tupleiter st h
theorem Zgk {K:qf}(it:Addr)(lo:Int)(n:Nat):Turn P w K tg (B6 lo n) [it] it (λi h=>IsRangeIter h it (lo+(i:Nat)*1) ((n:Int)-(i:Nat)) 1) where
 mem:=by simp
 obj:=λi h st b hb=>by
  have e:b=it:=by simpa using hb
  subst e;exact⟨_,st,λv z=>by
   have z':Data.fields _=Data.cell v:=z
   cases z'⟩
 keep:=λi h h' st k=>k it (by simp) _ st
 item:=by
  intro X hP hw hK hc i jJ s σ H E I hf st hg;subst hP hw hK;obtain⟨f0,f1,f2,f3,f4,f5⟩:=hf it (by simp);have W:=Walks.range (prog:=X.prog) (w:=X.w) (I.ok.hd hc) it lo 1 n;refine W.item i s _ _ hg st λv h' tk hv st' kk=>?_;obtain⟨t,rfl⟩:=hv;have I1:Inv X jJ σ H { s with heap:=h',toks:=tk }:=I.turned (λb o hb e=>kk b o (by simpa using hb) e) f0 f1 f3 f4 f5;refine⟨_,rfl,ZjB st' rfl rfl (by decide) ⟨.int (lo+i),H,I1,⟨t,?_⟩,⟨rfl,rfl⟩,st',λb hb=>(hf b hb).1⟩⟩;simp
 done:=by
  intro X hP hw hK hc i jJ s σ H E I hf st hg;obtain⟨f0,f1,f2,f3,f4,f5⟩:=hf it (by simp);exact wpAny_pyNext_range_end (I.ok.hd hc) st (by have:n<=i:=hg;omega) λh' eb=>⟨rfl,I.turned (λb o hb e=>eb b o hb e) f0 f1 f3 f4 f5⟩
 self:=λ_ _ _ _ _ st h=>wpAny_pyIter_rangeiter st h
section
variable {X:Cx}{tg:Expr}
noncomputable def Zoo (K:qf)(tl:TE):TI:=fun σ H R=>tl σ H λx H1=>∃a,x=.ref a/\(∃xs,ZJ K H1 a xs)/\R (Itl K a) H1
noncomputable def iTup (K:qf)(tl:TE):TI:=fun σ H R=>tl σ H λx H1=>∃a,x=.ref a/\(∃xs,ZU K H1 a xs)/\R (Itt K a) H1
theorem ZlL (hl:PE X l tl):PI X tg l (Zoo X.K tl):=by
 intro jJ s σ H R I h;refine ZD (hl jJ s σ H _ I h) λv s1 ⟨x,H1,I1,r1,q1⟩=>?_;obtain⟨a,e,⟨xs,hq⟩,q⟩:=q1;subst e
 cases r1
 obtain⟨jK,rv,p,hz⟩:=I1.list hq;refine wpAny_pyIter_list p.isList ?_;refine⟨s1.heap.objs.size,[s1.heap.objs.size],_,_,H1,rfl,I1.kept λb o e=>qj _ e,Zik a _,⟨_,qw _ rfl,rfl,rfl⟩,λb hb=>?_,q⟩;have e:=by simpa using hb
 subst e;exact I1.fpOk (qq _) (I1.hok.fresh (qq _))
theorem Zns (hl:PE X l tl):PI X tg l (iTup X.K tl):=by
 intro jJ s σ H R I h;refine ZD (hl jJ s σ H _ I h) λv s1 ⟨x,H1,I1,r1,q1⟩=>?_;obtain⟨a,e,⟨xs,hq⟩,q⟩:=q1;subst e
 cases r1
 obtain⟨jK,rv,p,hz⟩:=I1.tuple hq;refine wpAny_pyIter_tuple (show s1.heap.IsTuple a jK.toArray from p) ?_;refine⟨s1.heap.objs.size,[s1.heap.objs.size],_,_,H1,rfl,I1.kept λb o e=>qj _ e,Zgj a _,⟨_,qw _ rfl,rfl,rfl⟩,λb hb=>?_,q⟩;have e:=by simpa using hb
 subst e;exact I1.fpOk (qq _) (I1.hok.fresh (qq _))
theorem Ze2 {σ:St}{lo:Int}(I:Inv X jJ σ H s)(h1:-(2 ^ 62)<=lo)(h2:lo<2 ^ 62)(h3:-(2 ^ 62)<=hi)(h4:hi<2 ^ 62)
  (q:R (B6 lo (hi-lo).toNat) H):xf (xw X.prog X.w) X.A (pyIter (.ref s.heap.objs.size)) (PIE X jJ σ tg R) E { s with heap:=s.heap.push { cls:=.type "range",data:=.fields #[.int lo t,.int hi u,.int 1 v] },toks:=tk }:=by
 refine wpAny_pyIter_range (IsRange.new ..) (small_one h1 h2 h3 h4) ?_;have I1:Inv X jJ σ H { s with heap:=s.heap.push { cls:=.type "range",data:=.fields #[.int lo t,.int hi u,.int 1 v] },toks:=tk }:=I.kept λb o e=>qj _ e;refine⟨(s.heap.push { cls:=.type "range",data:=.fields #[.int lo t,.int hi u,.int 1 v] }).objs.size,[(s.heap.push { cls:=.type "range",data:=.fields #[.int lo t,.int hi u,.int 1 v] }).objs.size],_,_,H,rfl,
  I1.kept λb o e=>qj _ e,Zgk _ lo (hi-lo).toNat,?_,λb hb=>?_,q⟩
 ·have e1:lo+((0:Nat):Int)*1=lo:=by simp
  have e2:(((hi-lo).toNat:Nat):Int)-((0:Nat):Int)=qa3 lo hi 1:=by rw[rangeSize_one];grind
  rw[e1,e2];exact qw _ rfl
 ·have e:b=(s.heap.push { cls:=.type "range",data:=.fields #[.int lo t,.int hi u,.int 1 v] }).objs.size:=by simpa using hb
  subst e;exact I1.fpOk (qq _) (I1.hok.fresh (qq _))
noncomputable def Zop (ta:TA):TI:=fun σ H R=>ta σ H λvs H1=>∃j:Int,vs=[.int j]/\-(2 ^ 62)<=j/\j<2 ^ 62/\R (B6 0 j.toNat) H1
noncomputable def Zoq (ta:TA):TI:=fun σ H R=>ta σ H λvs H1=>∃i j:Int,vs=[.int i,.int j]/\(-(2 ^ 62)<=i/\i<2 ^ 62/\-(2 ^ 62)<=j/\j<2 ^ 62)/\R (B6 i (j-i).toNat) H1
theorem ZdE (hg:Gl X "range")(hm:X.mg "range" = none)(ha:PA X [a] ta)(hs:xh [a] X.env=[(false,eval a X.env)]:=by rfl):PI X tg (.Call (.Name "range" p) [a] [] pos) (Zop ta):=by
 intro jJ s σ H R I h;refine Call_ (JC I hg hm boot_range (zM (ZD (ha pos jJ s σ H _ I h) λus s1 ⟨vs,H1,I1,r1,q1⟩=>?_) hs rfl));obtain⟨j,e,q1,q2,q⟩:=q1;subst e
 cases r1 with
 | cons r rr=>
  cases rr
  obtain⟨t,rfl⟩:=r;exact call_range_1 (Ze2 I1 (by omega) (by omega) q1 q2 (by simp_all))
theorem Zil {p pos:Pos}(hg:Gl X "range")(hm:X.mg "range" = none)(ha:PA X [a,b] ta)(hs:xh [a,b] X.env=[(false,eval a X.env),(false,eval b X.env)]:=by rfl)(hs2:xh [b] X.env=[(false,eval b X.env)]:=by rfl) :
  PI X tg (.Call (.Name "range" p) [a,b] [] pos) (Zoq ta):=by
 intro jJ s σ H R I h;refine Call_ (JC I hg hm boot_range (zM (ZD (ha pos jJ s σ H _ I h) λus s1 ⟨vs,H1,I1,r1,q1⟩=>?_) (by rw[hs,hs2]) (by rw[hs2];rfl)));obtain⟨i,j,e,⟨q1,q2,q3,q4⟩,q⟩:=q1;subst e
 cases r1 with
 | cons r rr=>
  cases rr with
  | cons r' rr=>
   cases rr
   obtain⟨t,rfl⟩:=r;obtain⟨t',rfl⟩:=r';exact call_range_2 (Ze2 I1 q1 q2 q3 q4 q)
noncomputable def tFor (wi:TI)(g:TG)(tb:TS):TS:=λD σ H=>wi σ H λJ H1=>∃W:Nat->Nat->St->Hp->Prop,(∃m,W 0 m σ H1)/\∀i m σ H,W i m σ H->
 (J.stop i H/\D.nx σ H)∨(J.go i H/\∃N:St->Hp->Prop,(∀σ' H',N σ' H'->∃m',m'<m/\W (i+1) m' σ' H')/\∀x H',J.yld i H x H'->g x σ H' fun σ2 H2=>tb { D with nx:=N,ct:=N,bk:=D.nx } σ2 H2)
noncomputable def Bw (fp:List Addr)(h:Heap):Qb:=fp.filterMap λb=>(h.get? b).map λo=>(b,o)
theorem Jp (hb:b∈fp)(e:h.get? b=some o):(b,o)∈Bw fp h:=yc.mpr ⟨b,hb,by rw[e];rfl⟩
theorem Zim (hp:p∈Bw fp h):p.1∈fp/\h.get? p.1=some p.2:=by
 obtain⟨b,hb,e⟩:=yc.mp hp
 cases q:h.get? b with
 | none=>simp_all
 | some o=>
  rw[q]at e;have e':=zf e;subst e';exact⟨hb,q⟩
theorem Inv.pinned {σ:St}(I:Inv X jJ σ H s)(hf:∀b∈fp,Wz X jJ H b)(ho:∀b∈fp,∃o,s.heap.get? b=some o/\∀v,o.data≠.cell v):Inv X (jJ++Bw fp s.heap) σ H s:=
 I.pins_of λp hp=>(yw.mp hp).elim (λz=>I.pin p (qH _ z)) λz=>by
  obtain⟨hb,e⟩:=Zim z;obtain⟨f0,f1,f2,_⟩:=hf p.1 hb;obtain⟨o,e',d⟩:=ho p.1 hb;simp_all
theorem Inv.unpinned {σ:St}(I:Inv X (jJ++pl) σ H s):Inv X jJ σ H s:=I.pins_of λp hp=>I.pin p (qH _ (qbo _ hp))
theorem Znt (hp:PassesOwn (xw X.prog X.w) X.A X.env X.xe)(hc:X.calm=true)(hi:PI X tg iter wi)(hg:PG X tg g)(hb:YU X body tb)
  (hs:∀x,foldedSetIterable iter X.env x=pure x:=by intro _;rfl):PS X (.For tg iter body [] pos) (tFor wi g tb):=by
 intro jJ s σ H D I h;refine wpAny_For (ZD (hi jJ s σ H _ I h) λv s1 h1=>ZD h1 λitv s2 h2=>?_) hs;obtain⟨it,fp,tn,J,H2,e,I2,T,j6,f2,W,⟨m0,w0⟩,turn⟩:=h2;subst e
 -- what stays true of the iterator's objects through the loop
 have stat:∀{H':Hp},(∀b∈fp,H' b=none)->∀b∈fp,Wz X jJ H' b:=λhn b hb=>⟨hn b hb,(f2 b hb).2⟩;refine codeAny_forLoop_any (λn s'=>∃i σ' H',Inv X jJ σ' H' s'/\tn i s'.heap/\(∀b∈fp,H' b=none)/\W i n σ' H') ?_ m0 ⟨0,σ,H2,I2,j6,λb hb=>(f2 b hb).1,w0⟩;rintro n s3 ⟨i,σ3,H3,I3,st3,fr3,w3⟩;rcases turn i n σ3 H3 w3 with⟨stop,qn⟩ | ⟨go,N,hN,step⟩
 ·refine wpAny_passesOwn hp (ZD (T.done X rfl rfl rfl hc i jJ s3 σ3 H3 X.xe I3 (stat fr3) st3 stop) λr s4 ⟨hr,I4⟩=>?_)
  subst hr;exact wpAny_execs_nil ⟨σ3,H3,I4,qn⟩
 ·refine wpAny_passesOwn hp (ZD (T.item X rfl rfl rfl hc i jJ s3 σ3 H3 X.xe I3 (stat fr3) st3 go) λr s4 ⟨u,hr,h4⟩=>?_)
  subst hr;refine wpAny_passesOwn hp (ZD h4 λ_ s5 ⟨x,H5,I5,r5,y5,st5,fr5⟩=>?_);have I5':=I5.pinned (stat fr5) (T.obj _ _ st5);refine wpAny_passesOwn hp (ZD (hg _ s5 σ3 H5 x u _ I5' r5 (step x H5 y5)) λ_ s6 ⟨σ6,H6,I6,q6⟩=>?_);refine wpAny_passesOwn hp (ZD (hb _ s6 σ6 H6 _ I6 q6) λf s7 q7=>?_);have again:∀{σ7:St} {H7:Hp},Inv X (jJ++Bw fp s5.heap) σ7 H7 s7->N σ7 H7->∃m,m<n/\∃i σ' H',Inv X jJ σ' H' s7/\tn i s7.heap/\(∀b∈fp,H' b=none)/\W i m σ' H':=λ{σ7 H7} I7 n7=>by
   obtain⟨m',hm,w7⟩:=hN σ7 H7 n7;refine⟨m',hm,i+1,σ7,H7,I7.unpinned,T.keep _ _ _ st5 λb hb o e=>(I7.pin (b,o) (qH _ (qH _ (Jp hb e)))).1,λb hb=>?_,w7⟩;obtain⟨o,e,d⟩:=T.obj _ _ st5 b hb;exact(I7.pin (b,o) (qH _ (qH _ (Jp hb e)))).2.1
  cases f with
  | next=>obtain⟨σ7,H7,I7,n7⟩:=q7;exact again I7 n7
  | cont=>obtain⟨σ7,H7,I7,n7⟩:=q7;exact again I7 n7
  | brk=>obtain⟨σ7,H7,I7,q7⟩:=q7;exact⟨σ7,H7,I7.unpinned,q7⟩
  | ret v=>obtain⟨x7,σ7,H7,I7,r7,q7⟩:=q7;exact⟨x7,σ7,H7,I7.unpinned,r7,q7⟩
end
noncomputable abbrev R2:=V->V->Hp->VK->Prop
noncomputable def Yc (X:Cx)(f:Value->Value->Sem Value)(r:R2):Prop:=
 ∀(jJ:Qb) (s:Shared) (σ:St) (H:Hp) (x y:V) (v u:Value) (Q:VK),Inv X jJ σ H s->ZE x v->ZE y u->r x y H Q->
  xf (xw X.prog X.w) X.A (f v u) (EP X jJ σ Q) X.xe s
noncomputable def UnR (X:Cx)(f:Value->Sem Value)(r:V->Hp->VK->Prop):Prop:=
 ∀(jJ:Qb) (s:Shared) (σ:St) (H:Hp) (x:V) (v:Value) (Q:VK),Inv X jJ σ H s->ZE x v->r x H Q->
  xf (xw X.prog X.w) X.A (f v) (EP X jJ σ Q) X.xe s
noncomputable def XJ (X:Cx)(f:Value)(r:List V->Hp->VK->Prop):Prop:=
 ∀(jJ:Qb) (s:Shared) (σ:St) (H:Hp) (xs:List V) (us:List Value) (Q:VK),Inv X jJ σ H s->Zy xs us->r xs H Q->
  xf (xw X.prog X.w) X.A (call f us) (EP X jJ σ Q) X.xe s
noncomputable def X8 (r:R2)(ta tb:TE):TE:=fun σ H Q=>ta σ H λx H1=>tb σ H1 λy H2=>r x y H2 Q
noncomputable def tUn (r:V->Hp->VK->Prop)(ta:TE):TE:=fun σ H Q=>ta σ H λx H1=>r x H1 Q
noncomputable def rI (C:Int->Int->Prop)(g:Int->Int->V):R2:=λx y H Q=>∃i j,x=.int i/\y=.int j/\C i j/\Q (g i j) H
noncomputable def Vi (g:Int->Int->V):R2:=λx y H Q=>∃i j,x=.int i/\y=.int j/\Q (g i j) H
noncomputable def rU (g:Int->V):V->Hp->VK->Prop:=λx H Q=>∃i,x=.int i/\Q (g i) H
section
variable {X:Cx}{a b c:Expr}{ta tb tc:TE}{pos:Pos}
theorem binT (ha:PE X a ta)(hb:PE X b tb){σ:St}{R:V->V->Hp->Prop}(I:Inv X jJ σ H s)
  (h:ta σ H λx H1=>tb σ H1 λy H2=>R x y H2) {f:Value->Value->Sem Value}
  (hf:∀v u s2 x y H2,Inv X jJ σ H2 s2->ZE x v->ZE y u->R x y H2->xf (xw X.prog X.w) X.A (f v u) Q X.xe s2) :
  xf (xw X.prog X.w) X.A (eval a X.env) (λv s₁=>xf (xw X.prog X.w) X.A (eval b X.env) (λu s₂=>xf (xw X.prog X.w) X.A (f v u) Q X.xe s₂) X.xe s₁) X.xe s:=by
 refine ZD (ha jJ s σ H _ I h) λv s1 ⟨x,H1,I1,r1,q1⟩=>?_;refine ZD (hb jJ s1 σ H1 _ I1 q1) λu s2 ⟨y,H2,I2,r2,q2⟩=>?_;exact hf v u s2 x y H2 I2 r1 r2 q2
theorem V0 (ho:Yc X (binaryOp op) r)(ha:PE X a ta)(hb:PE X b tb):PE X (.BinOp a op b pos) (X8 r ta tb):=by
 intro jJ s σ H Q I h;exact wpAny_BinOp (binT ha hb I h λv u s2 x y H2 I2 rx ry q=>ho jJ s2 σ H2 x y v u Q I2 rx ry q)
theorem ZmU (ho:UnR X (unaryOp op) r)(ha:PE X a ta):PE X (.UnaryOp op a pos) (tUn r ta):=by
 intro jJ s σ H Q I h;exact UnaryOp_ (ZD (ha jJ s σ H _ I h) λv s1 ⟨x,H1,I1,r1,q1⟩=>ho jJ s1 σ H1 x v Q I1 r1 q1)
theorem opI {g:Int->Int->Int}
  (rule:∀(i j:Int) (t u:Tok) (s:Shared) (Q:xA) (E:xA),C i j->Q (.int (g i j) s.toks) { s with toks:=s.toks+1 }->xf (xw X.prog X.w) X.A (f (.int i t) (.int j u)) Q E s) :
  Yc X f (rI C λi j=>.int (g i j)):=by
 intro jJ s σ H x y v u Q I rx ry h;obtain⟨i,j,rfl,rfl,hc,q⟩:=h;obtain⟨t,rfl⟩:=rx;obtain⟨t',rfl⟩:=ry;exact rule i j t t' s _ _ hc ⟨.int (g i j),H,I.tok _,⟨_,rfl⟩,q⟩
theorem opI0 {g:Int->Int->Int}
  (rule:∀(i j:Int) (t u:Tok) (s:Shared) (Q:xA) (E:xA),Q (.int (g i j) s.toks) { s with toks:=s.toks+1 }->xf (xw X.prog X.w) X.A (f (.int i t) (.int j u)) Q E s) :
  Yc X f (Vi λi j=>.int (g i j)):=by
 intro jJ s σ H x y v u Q I rx ry h;obtain⟨i,j,rfl,rfl,q⟩:=h;obtain⟨t,rfl⟩:=rx;obtain⟨t',rfl⟩:=ry;exact rule i j t t' s _ _ ⟨.int (g i j),H,I.tok _,⟨_,rfl⟩,q⟩
theorem opB0 {g:Int->Int->Bool}
  (rule:∀(i j:Int) (t u:Tok) (s:Shared) (Q:xA) (E:xA),Q (.bool (g i j)) s->xf (xw X.prog X.w) X.A (f (.int i t) (.int j u)) Q E s) :
  Yc X f (Vi λi j=>.bl (g i j)):=by
 intro jJ s σ H x y v u Q I rx ry h;obtain⟨i,j,rfl,rfl,q⟩:=h;obtain⟨t,rfl⟩:=rx;obtain⟨t',rfl⟩:=ry;exact rule i j t t' s _ _ ⟨.bl (g i j),H,I,rfl,q⟩
noncomputable def CDiv (i j:Int):Prop:=0<j/\j<1073741824
noncomputable def CPow (i j:Int):Prop:=0<=j/\j<=1000000/\i.natAbs<2 ^ 64
noncomputable def CMul (i j:Int):Prop:=(-(2 ^ 64)<i/\i<2 ^ 64)∨(-(2 ^ 64)<j/\j<2 ^ 64)
theorem CMul.ok (h:CMul i j):IntMulOk i j:=by
 rcases h with⟨h1,h2⟩ | ⟨h1,h2⟩
 ·exact .of_left (intBits_le_64 h1 h2)
 ·exact .of_right (intBits_le_64 h1 h2)
theorem Zgl:Yc X (binaryOp .Add) (Vi λi j=>.int (i+j)):=opI0 λ_ _ _ _ _ _ _ q=>add_int q
theorem Znu:Yc X (binaryOp .Sub) (Vi λi j=>.int (i-j)):=opI0 λ_ _ _ _ _ _ _ q=>sub_int q
theorem Zgm:Yc X (binaryOp .Mult) (rI CMul λi j=>.int (i*j)):=opI λ_ _ _ _ _ _ _ hc q=>mul_int q hc.ok
theorem ZlM:Yc X (binaryOp .FloorDiv) (rI CDiv λi j=>.int (i / j)):=opI λi j _ _ _ _ _ hc q=>by
 have h1:=hc.1;have h2:=hc.2;exact floordiv_int (by omega) (by rw[Int.fdiv_eq_ediv_of_nonneg i (by omega)];exact q) (.inl (PyProof.noPylong_small (by omega)))
theorem Zef:Yc X (binaryOp .Mod) (rI (λ_ j=>0<j) λi j=>.int (i % j)):=opI λi j _ _ _ _ _ hc q=>by
 exact mod_int' (by omega) (by rw[Int.fmod_eq_emod_of_nonneg i (by omega)];exact q)
theorem Znv:Yc X (binaryOp .Pow) (rI CPow λi j=>.int (i ^ j.toNat)):=opI λ_ _ _ _ _ _ _ hc q=>pow_int_small hc.1 hc.2.1 hc.2.2 q
theorem unI {g:Int->Int}
  (rule:∀(i:Int) (t:Tok) (s:Shared) (Q:xA) (E:xA),Q (.int (g i) s.toks) { s with toks:=s.toks+1 }->xf (xw X.prog X.w) X.A (f (.int i t)) Q E s) :
  UnR X f (rU λi=>.int (g i)):=by
 intro jJ s σ H x v Q I rx h;obtain⟨i,rfl,q⟩:=h;obtain⟨t,rfl⟩:=rx;exact rule i t s _ _ ⟨.int (g i),H,I.tok _,⟨_,rfl⟩,q⟩
theorem ZjC:UnR X (unaryOp .USub) (rU λi=>.int (-i)):=unI λ_ _ _ _ _ q=>neg_int q
end
section
variable {X:Cx}{a b c:Expr}{ta tb tc:TE}{pos:Pos}
theorem ZjD:Yc X (xk .Lt) (Vi λi j=>.bl (decide (i<j))):=opB0 λ_ _ _ _ _ _ _ q=>lt_int q
theorem Zor:Yc X (xk .LtE) (Vi λi j=>.bl (decide (i<=j))):=opB0 λ_ _ _ _ _ _ _ q=>le_int q
theorem Zos:Yc X (xk .Gt) (Vi λi j=>.bl (decide (j<i))):=opB0 λ_ _ _ _ _ _ _ q=>gt_int q
theorem Zot:Yc X (xk .GtE) (Vi λi j=>.bl (decide (j<=i))):=opB0 λ_ _ _ _ _ _ _ q=>ge_int q
theorem Yc.or (h:Yc X f r)(h':Yc X f r'):Yc X f (λx y H Q=>r x y H Q∨r' x y H Q):=by
 intro jJ s σ H x y v u Q I rx ry q;rcases q with q | q
 ·exact h jJ s σ H x y v u Q I rx ry q
 ·exact h' jJ s σ H x y v u Q I rx ry q
theorem Bx (b:Expr)(h:op≠.In:=by decide)(h2:op≠.NotIn:=by decide):behindInMarks op b=false:=by
 have e1:(op==CmpOp.In)=false:=by grind
 have e2:(op==CmpOp.NotIn)=false:=by grind
 cases b <;> simp[behindInMarks,e1,e2]
theorem Zhu (ho:Yc X (xk op) r)(ha:PE X a ta)(hb:PE X b tb)(hm:behindInMarks op b=false):PE X (.Compare a [op] [b] pos) (X8 r ta tb):=by
 intro jJ s σ H Q I h;exact wpAny_Compare1 (binT ha hb I h λv u s2 x y H2 I2 rx ry q=>ho jJ s2 σ H2 x y v u Q I2 rx ry q) hm
noncomputable def ZjE (t:TE):TT:=fun σ H Q=>t σ H λx H'=>∃k,x=.bl k/\Q k H'
theorem U1 (ho:Yc X (xk op) r)(ha:PE X a ta)(hb:PE X b tb)(hm:behindInMarks op b=false):PT X (.Compare a [op] [b] pos) (ZjE (X8 r ta tb)):=by
 intro jJ s σ H Q I h;refine wpAny_isTrue_Compare1 (ZD (ha jJ s σ H _ I h) λv s1 ⟨x,H1,I1,r1,q1⟩=>ZD (hb jJ s1 σ H1 _ I1 q1) λu s2 ⟨y,H2,I2,r2,q2⟩=>
  ZD (ho jJ s2 σ H2 x y v u _ I2 r1 r2 q2) λc s3 ⟨z,H3,I3,r3,k,e,q3⟩=>?_) hm
 subst e
 cases r3
 exact wpAny_truthy_bool ⟨H3,I3,q3⟩
theorem JD:(xg:Nat)<2 ^ 63:=by decide
theorem Wx (r:Zy [x] us):∃u,us=[u]/\ZE x u:=by
 cases r with
 | cons r1 r2=>cases r2;exact⟨_,rfl,r1⟩
theorem Zhv (r:Zy [x,y] us):∃u w',us=[u,w']/\ZE x u/\ZE y w':=by
 cases r with
 | cons r1 r2=>
  cases r2 with
  | cons r3 r4=>cases r4;exact⟨_,_,rfl,r1,r3⟩
theorem Zin (hc:X.calm=true):XJ X (.builtin "max") (λxs H Q=>∃i j,xs=[.int i,.int j]/\Q (.int (if j > i then j else i)) H):=by
 intro jJ s σ H xs us Q I r h;obtain⟨i,j,rfl,q⟩:=h;obtain⟨u,w',rfl,⟨t,rfl⟩,⟨t',rfl⟩⟩:=Zhv r;refine max_two_ints (I.ok.hd hc) λh' tk k=>⟨_,H,I.kept k,?_,q⟩;by_cases hj:j > i
 ·rw[if_pos hj,if_pos hj];exact⟨_,rfl⟩
 ·rw[if_neg hj,if_neg hj];exact⟨_,rfl⟩
theorem Zio (hc:X.calm=true):XJ X (.builtin "min") (λxs H Q=>∃i j,xs=[.int i,.int j]/\Q (.int (if j<i then j else i)) H):=by
 intro jJ s σ H xs us Q I r h;obtain⟨i,j,rfl,q⟩:=h;obtain⟨u,w',rfl,⟨t,rfl⟩,⟨t',rfl⟩⟩:=Zhv r;refine min_two_ints (I.ok.hd hc) λh' tk k=>⟨_,H,I.kept k,?_,q⟩;by_cases hj:j<i
 ·rw[if_pos hj,if_pos hj];exact⟨_,rfl⟩
 ·rw[if_neg hj,if_neg hj];exact⟨_,rfl⟩
theorem Zip:XJ X (.type "int") (λxs H Q=>(∃i,xs=[.int i]/\Q (.int i) H)∨∃k,xs=[.bl k]/\Q (.int (if k then 1 else 0)) H):=by
 intro jJ s σ H xs us Q I r h;rcases h with⟨i,rfl,q⟩ | ⟨k,rfl,q⟩
 ·obtain⟨u,rfl,t,rfl⟩:=Wx r
  exact call_int_int ⟨.int i,H,I,⟨_,rfl⟩,q⟩
 ·obtain⟨u,rfl,r1⟩:=Wx r
  cases r1
  exact call_int_bool ⟨.int (if k then 1 else 0),H,I.tok _,⟨_,rfl⟩,q⟩
end
structure ObjM (h:Heap)(x dx C:Addr)(mA:Str->Option Value):Prop where
 obj:h.get? x=some (zC C dx)
 ns:h.Ns1 dx mA
 ne:dx≠x
theorem Ziq {h:Heap}(n:h.Ns1 dx mA):∃od,h.get? dx=some od/\∀name,qas name od=some (mA name):=by
 obtain⟨o,es,ep,ho,hd,hk,_,hm⟩:=n;refine⟨o,ho,λname=>?_⟩;have e:=hm name;unfold nsFind findBy at e;rw[<-Array.find?_toList]at e;unfold qas;rw[hd];dsimp only;split
 ·simp_all
 ·rename_i q
  rw[q]at e;have a:es.toList.any (·.refKey)=false:=by
   rw[List.any_eq_false];intro y hy;obtain⟨z,t,hkey⟩:=hk y (Array.mem_toList_iff.mp hy);simp[DictEntry.refKey,hkey]
  grind
theorem ObjM.look (I:ObjM h x dx C mA):∃od,PySem.W.InstAt h x (zC C dx) C (some od)/\∀name,qas name od=some (mA name):=
 let ⟨od,ho,hl⟩:=Ziq I.ns
 ⟨od,⟨I.obj,rfl,rfl,ho⟩,hl⟩
section
variable {prog:xy}{w:World}{A:xz}{E:xA}{s:Shared}{K:qf}{x dx C f:Addr}{mA:Str->Option Value}{name:Str}{v:Value}
theorem ZlN (X:K.In s.heap)(I:ObjM s.heap x dx C mA)(hg:yW K C name=true)(hh:qaH K C=true)
  (ha:zk K (.ref C) name=some none) (hv:mA name=some v) (hv':PySem.W.handedIn v=true) (h:Q v { s with toks:=s.toks+1 }) :
  xf (xw prog w) A (getAttr (.ref x) name expr) Q E s:=by
 obtain⟨od,J,hl⟩:=I.look;exact PySem.W.get_value X J (qap hg).1 (PySem.W.findObj_own hh ha rfl (by rw[hl,hv])) hv' h
theorem ZjF (X:K.In s.heap)(I:ObjM s.heap x dx C mA)(hg:yW K C name=true)
  (hf:zk K (.ref C) name=some (some (.ref f))) (ht:qbF K (.ref f)=true) (hv:mA name=none) (h:Q (.ref f,[.ref x]) s) :
  xf (xw prog w) A (getMethod (.ref x) name pl) Q E s:=by
 obtain⟨od,J,hl⟩:=I.look;exact PySem.W.method_fn X J (qap hg).1 (qap hg).2 hf (beq_iff_eq.mp ht) (by show(qas name od).map (·.isSome)=some false;simp_all) h
theorem ZlO (X:K.In s.heap)(I:ObjM s.heap x dx C mA)
  (hs:zk K (.ref C) "__setattr__" = some (some (.builtin "object.__setattr__"))) (hp:PySem.W.plainOver K C=true) (ht:qa9 K C name=some none) (hh:qaH K C=true)
  (hw:qaQ mA ns) (hsz:ns.length<=xg)
  (h:∀h',ObjM h' x dx C (λy=>if y=name then some v else mA y)->zv dx s.heap h'->Q () { s with heap:=h',toks:=s.toks+2 }) :
  xf (xw prog w) A (setAttr (.ref x) name v) Q E s:=by
 obtain⟨od,J,hl⟩:=I.look;refine PySem.W.set_plain X J hs (PySem.W.osa_open X J hp ht λb=>?_);obtain⟨cd,hc,hd'⟩:=PySem.W.any_some hh;have hx:=I.obj;refine xa (xb (xa (xa (wpAny_loadPart hx (xa (qaB.here (PySem.W.looks_clsIn X hc) ?_))))));rw[hd'];refine xb (xa (xb (xa ?_)));refine wpAny_nsSet1 I.ns λh' hn2 hs2=>?_;obtain⟨oD,esD,epD,hoD,hdD,hcD⟩:=hn2.count (qaQ.cons name v hw);refine xa (wpAny_lookBehind hoD (by rw[hdD];exact pastItsLine_dict (qI hcD (by grind))) ?_);exact xb (h _ ⟨(hs2.2 _ (qN I.ne)).trans I.obj,hn2,I.ne⟩ hs2)
theorem ZjG (X:K.In s.heap)(hm:PySem.W.makesIn K C=true)
  (hi:zk K (.ref C) "__init__" = some (some (.ref f))) (hf:PySem.W.typeIn K (.ref f)=some (.type "function"))
  (h:xo (xw prog w) (A.under (.builtin "type.__call__" ⟨.ref C::vs,kw⟩)) (.call (.ref f) ⟨.ref (s.heap.objs.size+1)::vs,kw⟩) (PySem.W.InitBack (s.heap.objs.size+1) R)
   { s with heap:=(s.heap.push zr).push (zC C s.heap.objs.size) }) :
  xo (xw prog w) A (.call (.ref C) ⟨vs,kw⟩) R s:=by
 exact PySem.W.make_core (PySem.W.makes_of X hm) (PySem.W.looks_findIn X hi) (λself=>PySem.W.bind_fn X self hf) (.inl rfl) h
end
noncomputable def X6 (f:Str)(v:V):List (Str×V)->List (Str×V)
 | []=>[(f,v)]
 | (g,x)::r=>if g=f then (g,v)::r else (g,x)::X6 f v r
theorem Zb3 (f g:Str)(v:V):∀fs:List (Str×V),(X6 f v fs).lookup g=if g=f then some v else fs.lookup g
 | []=>by
  show yR g [(f,v)]=_
  grind
 | (k,x)::r=>by
  have ih:=Zb3 f g v r;rw[show X6 f v ((k,x)::r)=(if k=f then (k,v)::r else (k,x)::X6 f v r)from rfl]
  grind
theorem ZbN (f:Str)(v:V):∀fs:List (Str×V),f∈(X6 f v fs).map (·.1)/\∀g,g∈fs.map (·.1)->g∈(X6 f v fs).map (·.1)
 | []=>⟨by simp[X6],λg h=>by simp at h⟩
 | (k,x)::r=>by
  obtain⟨i1,i2⟩:=ZbN f v r;rw[show X6 f v ((k,x)::r)=(if k=f then (k,v)::r else (k,x)::X6 f v r)from rfl]
  grind
theorem Zb4 (f:Str)(v:V):∀fs:List (Str×V),(X6 f v fs).length<=fs.length+1
 | []=>by simp[X6]
 | (k,x)::r=>by
  have ih:=Zb4 f v r;rw[show X6 f v ((k,x)::r)=(if k=f then (k,v)::r else (k,x)::X6 f v r)from rfl]
  grind
theorem jy (r:Ub (some v) o):∃u,o=some u/\ZE v u:=by
 cases o with
 | none=>exact(show False from r).elim
 | some u=>exact⟨u,rfl,r⟩
theorem jz (r:Ub none o):o=none:=by
 cases o with
 | none=>rfl
 | some u=>exact(show False from r).elim
theorem Zir (r:ZE v u):PySem.W.handedIn u=true:=by
 cases v with
 | non=>cases (show u=qO from r);rfl
 | bl b=>cases (show u=qZ b from r);rfl
 | int i=>obtain⟨t,e⟩:=(show ∃t,u=qav i t from r);cases e;rfl
 | str x=>obtain⟨t,e⟩:=(show ∃t,u=qa8 x t from r);cases e;rfl
 | byt b=>obtain⟨t,e⟩:=(show ∃t,u=Value.bytes b t from r);cases e;rfl
 | flt b=>obtain⟨t,e⟩:=(show ∃t,u=qbL b t from r);cases e;rfl
 | ref a=>cases (show u=qm a from r);rfl
 | ty n=>cases (show u=qaN n from r);rfl
section
variable {P:xy}{w:World}{H H':Hp}{h h':Heap}{a C dx:Addr}{fs fs':List (Str×V)}
theorem Zcu (hok:Yf P w H h)(e:H a=some (.ins C dx fs)):∃mA,ObjM h a dx C mA/\(∀f,Ub (fs.lookup f) (mA f))/\qaQ mA (fs.map (·.1))/\fs.length<=1000/\H dx=some (.own a):=by
 obtain⟨d,z,ne,ob,mA,n,r,q⟩:=(show Ym P w H h a (.ins C dx fs)from hok a _ e);exact⟨mA,⟨ob,n,ne⟩,r,q,z,d⟩
end
structure Cls (K:qf)(C:Addr):Prop where
 pg:yW K C Str.empty=true
 hd:qaH K C=true
 po:PySem.W.plainOver K C=true
 sa:zk K (.ref C) "__setattr__" = some (some (.builtin "object.__setattr__"))
theorem Cls.get {K:qf}(c:Cls K C)(f:Str):yW K C f=true:=c.pg
noncomputable def YG (K:qf)(C:Addr)(f:Str):Prop:=zk K (.ref C) f=some none
theorem YG.taker {K:qf}(n:YG K C f):qa9 K C f=some none:=by
 unfold qa9;rw[show zk K (.ref C) f=some none from n];rfl
structure Meth (K:qf)(C:Addr)(m:Str)(f:Addr):Prop where
 at_:zk K (.ref C) m=some (some (.ref f))
 fn:qbF K (.ref f)=true
 kp:qY K (.ref f)=true
section
variable {X:Cx}{jJ:Qb}{σ:St}{H:Hp}{s:Shared}{a C dx:Addr}{fs:List (Str×V)}{f:Str}{v:V}{A:xz}{E:xA}
theorem Zgn (I:Inv X jJ σ H s)(e:H a=some (.ins C dx fs))(c:Cls X.K C)(n:YG X.K C f)(l:fs.lookup f=some v)
  (h:∀u s',Inv X jJ σ H s'->ZE v u->Q u s'):xf (xw X.prog X.w) A (getAttr (.ref a) f b) Q E s:=by
 obtain⟨mA,O,r,_,_,_⟩:=Zcu I.hok e;obtain⟨u,hu,ru⟩:=jy (by rw[<-l];exact r f);exact ZlN I.kIn O (c.get f) c.hd n hu (Zir ru) (h u _ (I.tok _) ru)
theorem Zbe (I:Inv X jJ σ H s)(e:H a=some (.ins C dx fs))(c:Cls X.K C)(k:Meth X.K C m g)(l:fs.lookup m=none)
  (h:Q (.ref g,[.ref a]) s):xf (xw X.prog X.w) A (getMethod (.ref a) m pl) Q E s:=by
 obtain⟨mA,O,r,_,_,_⟩:=Zcu I.hok e;have hn:=jz (by rw[<-l];exact r m);exact ZjF I.kIn O (c.get m) k.at_ k.fn hn h
theorem Zgo (I:Inv X jJ σ H s)(e:H a=some (.ins C dx fs))(c:Cls X.K C)(n:YG X.K C f)(hl:fs.length<1000)(ry:ZE y u)
  (h:∀s',Inv X jJ σ (upd H a (.ins C dx (X6 f y fs))) s'->Q () s'):xf (xw X.prog X.w) A (setAttr (.ref a) f u) Q E s:=by
 obtain⟨mA,O,r,wi,_,ho⟩:=Zcu I.hok e;have hz:(fs.map (·.1)).length<=xg:=by rw[qp,sizeLine_eq];omega
 refine ZlO I.kIn O c.sa c.po n.taker c.hd wi hz λh' O' sb=>h _ ?_;have hd:∃o,h'.get? dx=some o:=let ⟨o,_,_,e',_⟩:=O'.ns;⟨o,e'⟩;refine I.write (x:=a) (e:=dx) (by rw[e];exact zl) (.inr ho) (λb q hb z=>(sb.2 b hb).trans z) hd ?_;refine⟨by rw[Zj O.ne];exact ho,?_,O.ne,O'.obj,_,O'.ns,λg=>?_,λg hg=>?_⟩
 ·have:=Zb4 f y fs;omega
 ·rw[Zb3]
  by_cases q:g=f
  ·rw[if_pos q,if_pos q];exact ry
  ·simp_all
 ·by_cases q:g=f
  ·rw[q];exact(ZbN f y fs).1
  ·refine(ZbN f y fs).2 g (wi g λz=>hg ?_)
   grind
theorem jE (I:Inv X jJ σ H s):Inv X jJ σ (upd (upd H s.heap.objs.size (.own (s.heap.objs.size+1))) (s.heap.objs.size+1) (.ins C s.heap.objs.size []))
  { s with heap:=(s.heap.push zr).push (zC C s.heap.objs.size) }:=by
 have e1:(s.heap.push zr).get? s.heap.objs.size=some zr:=qw s.heap rfl;have e2:((s.heap.push zr).push (zC C s.heap.objs.size)).get? (s.heap.objs.size+1)=some (zC C s.heap.objs.size):=by
  have:=qw (s.heap.push zr) (o:=zC C s.heap.objs.size) rfl;simp_all
 have e3:(s.heap.push zr).Ns s.heap.objs.size (λ_=>none):=⟨zr,#[],_,e1,rfl,(λe he=>absurd he (by simp)),λ_=>rfl⟩;have I1:=I.laid (o:=.own (s.heap.objs.size+1)) (t':=s.toks) (λb u q=>qj _ q) (qq _) ⟨_,e1⟩;refine I1.laid (λb u q=>qj _ q) (qbG (qbf _ _)) ?_;have ne:s.heap.objs.size≠s.heap.objs.size+1:=qG (qaR _);refine⟨by rw[Zj ne,ZG],zc _,ne,e2,λ_=>none,(Heap.Ns1.of_empty e3).at λo q=>qj _ q,λ_=>zl,λy hy=>absurd rfl hy⟩
theorem ZlP (hb:xq e f env (eval e env)=eval e env)
  (h:xf (xw prog w) A (eval e env) (λo s₁=>xf (xw prog w) A (getAttr o f true) Q E s₁) E s):xf (xw prog w) A (eval (.Attribute e f pos) env) Q E s:=
 Attribute_any_ h (by rw[arm_eval_Attribute,hb])
end
noncomputable def tFld (K:qf)(ta:TE)(f:Str):TE:=fun σ H Q=>ta σ H λx H1=>∃a C dx fs v,x=.ref a/\H1 a=some (.ins C dx fs)/\Cls K C/\YG K C f/\fs.lookup f=some v/\Q v H1
noncomputable def VD (K:qf)(ta tv:TE)(f:Str):TS:=λD σ H=>tv σ H λy H1=>ta σ H1 λx H2=>∃a C dx fs,x=.ref a/\H2 a=some (.ins C dx fs)/\Cls K C/\YG K C f/\fs.length<1000/\
 D.nx σ (upd H2 a (.ins C dx (X6 f y fs)))
section
variable {X:Cx}{o e value:Expr}{f:Str}{pos pos' tpos:Pos}{ta tv:TE}
theorem Vq (he:PE X e ta)(hb:xq e f X.env (eval e X.env)=eval e X.env):PE X (.Attribute e f pos) (tFld X.K ta f):=by
 intro jJ s σ H Q I h;refine ZlP hb (ZD (he jJ s σ H _ I h) λu s1 ⟨x,H1,I1,rx,a,C,dx,fs,v,ex,ea,c,n,l,q⟩=>?_);subst ex;obtain rfl:u=qm a:=rx;exact Zgn I1 ea c n l λu' s2 I2 ru=>⟨v,H1,I2,ru,q⟩
theorem Zgp (ha:PE X o ta)(hv:PE X value tv)(hs:xr value (some (.Attribute o f pos')) pos.line X.env=pure false):PS X (.Assign [.Attribute o f pos'] value pos) (VD X.K ta tv f):=by
 intro jJ s σ H D I h;refine plainObj_wpAny_Assign_Attribute (ZD (hv jJ s σ H _ I h) λu s1 ⟨y,H1,I1,ry,q⟩=>ZD (ha jJ s1 σ H1 _ I1 q) λov s2 ⟨x,H2,I2,rx,a,C,dx,fs,ex,ea,c,n,l,q2⟩=>?_) hs;subst ex;obtain rfl:ov=qm a:=rx;exact Zgo I2 ea c n l ry λs3 I3=>⟨σ,_,I3,q2⟩
end
section
variable {X:Cx}{jJ:Qb}{σ:St}{H:Hp}{s:Shared}{A:xz}{E:xA}{Q:xA}{c:Value}{b:Bool}
inductive TyOf (K:qf)(H:Hp):V->Value->Prop where
 | non:TyOf K H .non (.type "NoneType")
 | bl (x:Bool):TyOf K H (.bl x) (.type "bool")
 | int (i:Int):TyOf K H (.int i) (.type "int")
 | str (x:Str):TyOf K H (.str x) (.type "str")
 | flt (x:UInt64):TyOf K H (.flt x) (.type "float")
 | lst {a:Addr} {xs:List V} (e:H a=some (.lst xs)):TyOf K H (.ref a) (.type "list")
 | frz {a:Addr} {o:Obj} {xs:List V} (e:H a=some (.frz o (.lst xs))):TyOf K H (.ref a) (.type "list")
 | tup {a:Addr} {xs:List V} (e:H a=some (.tup xs)):TyOf K H (.ref a) (.type "tuple")
 | dK {a:Addr} {kvs:List (ZC×V)} (e:H a=some (.dK kvs)):TyOf K H (.ref a) (.type "dict")
 | dT {a:Addr} {kvs:List (List ZC×V)} (e:H a=some (.dT kvs)):TyOf K H (.ref a) (.type "dict")
 | ins {a C dx:Addr} {fs:List (Str×V)} (e:H a=some (.ins C dx fs)) (cl:Cls K C) (ha:zk K (.ref C) "__class__" = some (some (.builtin "object.__class__")))
   (hn:PySem.W.specialIn K (.builtin "object.__class__") "__get__" = some (some (.builtin "getset_descriptor.__get__"))) (htk:PySem.W.takesIn K (.builtin "object.__class__")=some true)
   (hm:PySem.W.mroIn K C (.type "object")=some true):TyOf K H (.ref a) (.ref C)
theorem Zis (I:Inv X jJ σ H s)(rx:ZE x u)(ty:TyOf X.K H x t)(e:yH X.K t c=some b)(h:∀tk,Q (.bool b) { s with toks:=tk }) :
  xf (xw X.prog X.w) A (call (.builtin "isinstance") [u,c]) Q E s:=by
 cases ty with
 | non=>cases (show u=qO from rx);exact qT PySem.W.kitx_none I.kIn zl e (λz=>nomatch z) h
 | bl y=>cases (show u=qZ y from rx);exact qT PySem.W.kitx_bool I.kIn zl e (λz=>nomatch z) h
 | int i=>obtain⟨t,q⟩:=(show ∃t,u=qav i t from rx);cases q;exact qT PySem.W.kitx_int I.kIn zl e (λz=>nomatch z) h
 | str y=>obtain⟨t,q⟩:=(show ∃t,u=qa8 y t from rx);cases q;exact qT PySem.W.kitx_str I.kIn zl e (λz=>nomatch z) h
 | flt y=>obtain⟨t,q⟩:=(show ∃t,u=qbL y t from rx);cases q;exact qT PySem.W.kitx_float I.kIn zl e (λz=>nomatch z) h
 | @lst a xs ea=>
  cases (show u=qm a from rx)
  obtain⟨_,_,n,_,h1⟩:=(show Ym X.prog X.w H s.heap a (.lst xs)from I.hok a _ ea);exact qT PySem.W.kitx_list I.kIn ⟨_,h1,rfl⟩ e (λz=>nomatch z) h
 | @frz a ob xs ea=>
  cases (show u=qm a from rx)
  obtain⟨_,_,_,n,_,h1⟩:=(show Ym X.prog X.w H s.heap a (.frz ob (.lst xs))from I.hok a _ ea);exact qT PySem.W.kitx_list I.kIn ⟨_,h1,rfl⟩ e (λz=>nomatch z) h
 | @tup a xs ea=>
  cases (show u=qm a from rx)
  obtain⟨_,_,_,p⟩:=(show Ym X.prog X.w H s.heap a (.tup xs)from I.hok a _ ea);obtain⟨o,h1,h2,_⟩:=p;exact qT PySem.W.kitx_tuple I.kIn ⟨o,h1,h2⟩ e (λz=>nomatch z) h
 | @dK a kvs ea=>
  cases (show u=qm a from rx)
  obtain⟨_,_,vs,_,p⟩:=(show Ym X.prog X.w H s.heap a (.dK kvs)from I.hok a _ ea);obtain⟨o,es,ep,h1,h2,_⟩:=p;exact qT PySem.W.kitx_dict I.kIn ⟨o,h1,h2.1⟩ e (λz=>nomatch z) h
 | @dT a kvs ea=>
  cases (show u=qm a from rx)
  obtain⟨_,_,xs,_,o,es,ep,h1,h2,_⟩:=(show Ym X.prog X.w H s.heap a (.dT kvs)from I.hok a _ ea);exact qT PySem.W.kitx_dict I.kIn ⟨o,h1,h2.1⟩ e (λz=>nomatch z) h
 | @ins a C dx fs ea cl ha hn htk hm=>
  cases (show u=qm a from rx)
  obtain⟨mA,O,_⟩:=Zcu I.hok ea;obtain⟨od,J,_⟩:=O.look;exact qT (PySem.W.kitx_own (cl.get _) cl.hd ha hn htk hm) I.kIn J e (λz=>nomatch z) h
end
structure Room (k:Nat)(A:xz):Prop where
 hd:A.handled=none
 dp:A.depth+3*k+5<recursionLimit
 un:A.units+16*k+200<cLine
 gd:A.guards=some []
theorem Room.mono (r:Room k A)(h:j<=k):Room j A:=⟨r.hd,by have:=r.dp;omega,by have:=r.un;omega,r.gd⟩
theorem Room.deeper (r:Room (k+1) A)(env:Env):Room k (A.deeper env):=
 ⟨r.hd,by have:=r.dp;show A.depth+1+3*k+5<_;omega,by have:=r.un;show A.units+3+16*k+200<_;omega,r.gd⟩
theorem Zgq {A:xz}:(A.under (.builtin "type.__call__" ⟨.ref C::us,kw⟩)).depth=A.depth+1:=by
 rfl
theorem Zgr {A:xz}:(A.under (.builtin "type.__call__" ⟨.ref C::us,kw⟩)).units=A.units+1:=by
 rfl
theorem Room.make (r:Room (k+1) A)(C:Addr)(us:List Value)(kw:List (Str×Value)):Room k (A.under (.builtin "type.__call__" ⟨.ref C::us,kw⟩)):=
 ⟨r.hd,by have:=r.dp;rw[Zgq];omega,by have:=r.un;rw[Zgr];omega,by first | exact r.gd | (rfl)⟩
theorem Room.depth (r:Room k A):A.depth<recursionLimit:=by have:=r.dp;omega
theorem Room.units (r:Room k A):A.units+64<cLine:=by have:=r.un;omega
theorem Room.units0 (r:Room k A):A.units<cLine:=by have:=r.un;omega
noncomputable def Jb:TA:=λ_ H Q=>Q [] H
noncomputable def Zhw (ta:TE)(tr:TA):TA:=fun σ H Q=>ta σ H λx H1=>tr σ H1 λxs H2=>Q (x::xs) H2
section
variable {X:Cx}{e:Expr}{es:List Expr}{te:TE}{t:TA}{pos:Pos}
theorem YS:PA X [] Jb:=λ_ _ _ _ H Q I h=>Calls.spliced_nil ⟨[],H,I,.nil,h⟩
theorem Yt (ha:PE X e te)(hr:PA X es t)(hs:xh (e::es) X.env=(false,eval e X.env)::xh es X.env:=by rfl):PA X (e::es) (Zhw te t):=by
 intro pos jJ s σ H Q I h;rw[hs];refine Calls.spliced_cons (ZD (ha jJ s σ H _ I h) λu s1 ⟨x,H1,I1,r1,q1⟩=>?_);exact ZD (hr pos jJ s1 σ H1 _ I1 q1) λus s2 ⟨xs,H2,I2,r2,q2⟩=>⟨x::xs,H2,I2,.cons r1 r2,q2⟩
noncomputable def tTup (t:TA):TE:=fun σ H Q=>t σ H λxs H1=>xs.length<=xg/\∀p,H1 p=none->Q (.ref p) (upd H1 p (.tup xs))
noncomputable def tLst (t:TA):TE:=fun σ H Q=>t σ H λxs H1=>xs.length<=xg/\∀p,H1 p=none->Q (.ref p) (upd H1 p (.lst xs))
theorem Znw (h:PA X es t):PE X (.Tuple es x1 pos) (tTup t):=by
 intro jJ s σ H Q I hq;refine wpAny_Tuple_spliced (ZD (h pos jJ s σ H _ I hq) λus s1 ⟨xs,H1,I1,r,z,q⟩=>⟨by rw[<-r.length];exact z,?_⟩);have hf:=I1.hok.fresh (qq _);refine⟨.ref s1.heap.objs.size,upd H1 s1.heap.objs.size (.tup xs),I1.laid (λb u e=>qj _ e) (qq _) ?_,rfl,q _ hf⟩;exact⟨z,us,r,⟨_,qw _ rfl,rfl,_,rfl⟩⟩
theorem Zgs (h:PA X es t):PE X (.List es pos) (tLst t):=by
 intro jJ s σ H Q I hq;refine wpAny_List_spliced (ZD (h pos jJ s σ H _ I hq) λus s1 ⟨xs,H1,I1,r,z,q⟩=>⟨by rw[<-r.length];exact z,?_⟩);have hf:=I1.hok.fresh (qq _);refine⟨.ref s1.heap.objs.size,upd H1 s1.heap.objs.size (.lst xs),I1.laid (λb u e=>qj _ e) (qq _) ?_,rfl,q _ hf⟩;exact⟨z,us,0,r,qw _ rfl⟩
end
noncomputable abbrev Sp:=List V->Hp->VK->XK->Prop
noncomputable abbrev VG:=List Env->Hp->Shared->XK->xA
structure Env0 (P:xy)(w:World)(K:qf)(mg:Str->Option Value)(base:Heap)(A:xz)(outer:List Env)(s:Shared)(H:Hp):Prop where
 frames:A.frames=some outer
 mod:Mod K mg base
 bs:∀b o,base.get? b=some o->s.heap.get? b=some o/\H b=none
 bsz:base.objs.size<=s.heap.objs.size
 funs:s.heap.FunFrames base outer
 frf:∀b∈Yp outer,H b=none
 hok:Yf P w H s.heap
 bare:AllBare s.gens
noncomputable def CE (outer:List Env)(P:xy)(w:World)(H:Hp)(s:Shared)(Q:VK)(u:Value)(s':Shared):Prop:=
 ∃v H',s'.os=s.os/\AllBare s'.gens/\Un (Yp outer) [] H H' s.heap s'.heap/\Yf P w H' s'.heap/\ZE v u/\Q v H'
noncomputable def CR (CX:VG)(outer:List Env)(P:xy)(w:World)(H:Hp)(s:Shared)(Q:VK)(E:XK)(r:Result)(s':Shared):Prop:=
 match r with
 | .ok (.ret u)=>CE outer P w H s Q u s'
 | .ok _=>False
 | .error e=>CX outer H s E e s'
structure FnOk (P:xy)(w:World)(K:qf)(mg:Str->Option Value)(base:Heap)(CX:VG)(k:Nat)(f:Addr)(fd:xx)(ps:List Str)(sp:Sp):Prop where
 len:∀vs H Q E,sp vs H Q E->vs.length=ps.length
 run:∀(A:xz) (outer:List Env) (s:Shared) (H:Hp) (args:Args) (us:List Value) (vs:List V) (Q:VK) (E:XK),Room k A->Env0 P w K mg base A outer s H->BindsTo s fd args (ps.zip us)->Zy vs us->sp vs H Q E->
  xo (xw P w) A (.call (.ref f) args) (CR CX outer P w H s Q E) s
theorem FnOk.mono {K:qf}(F:FnOk P w K mg base CX j f fd ps sp)(h:j<=k) :
  FnOk P w K mg base CX k f fd ps sp:=⟨F.len,λA outer s H args us vs Q E hr=>F.run A outer s H args us vs Q E (hr.mono h)⟩
theorem FnOk.imp {K:qf}(F:FnOk P w K mg base CX k f fd ps sp)
  (h:∀vs H Q E,sp' vs H Q E->sp vs H Q E):FnOk P w K mg base CX k f fd ps sp':=
 ⟨λvs H Q E q=>F.len vs H Q E (h _ _ _ _ q),λA outer s H args us vs Q E hr he hb hv hs=>F.run A outer s H args us vs Q E hr he hb hv (h _ _ _ _ hs)⟩
theorem Env0.make {K:qf}(e:Env0 P w K mg base A outer s H)(C:Addr)(us:List Value)(kw:List (Str×Value)) :
  Env0 P w K mg base (A.under (.builtin "type.__call__" ⟨.ref C::us,kw⟩)) outer s H:=⟨by first | exact e.frames | (rfl),e.mod,e.bs,e.bsz,e.funs,e.frf,e.hok,e.bare⟩
section
variable {X:Cx}{jJ:Qb}{σ:St}{H:Hp}{s s':Shared}
theorem Inv.env0 (I:Inv X jJ σ H s):Env0 X.prog X.w X.K X.mg X.base X.A X.stack s H:=
 ⟨I.ok.frames,I.ok.mod,I.bs,qI I.ok.bsz I.sz,I.stack,I.stkFree,I.hok,I.bare⟩
theorem Inv.after (I:Inv X jJ σ H s)(h:CE X.stack X.prog X.w H s Q u s'):EP X jJ σ Q u s':=by
 obtain⟨v,H',os,bare,un,hok,r,q⟩:=h;obtain⟨hh,g,d,t,os'⟩:=s';obtain rfl:os'=s.os:=os;exact⟨v,H',I.call un hok bare (λb z=>absurd z (by simp)),r,q⟩
end
noncomputable def Zou (sp:Sp)(dvs:List V)(E:XK)(t:TA):TE:=fun σ H Q=>t σ H λvs H1=>sp (vs++dvs) H1 Q E
noncomputable def ZjH (C:Addr)(m:Str)(sp:Sp)(dvs:List V)(E:XK)(ta:TE)(t:TA):TE:=fun σ H Q=>ta σ H λx H1=>∃a dx fs,x=.ref a/\H1 a=some (.ins C dx fs)/\fs.lookup m=none/\
 t σ H1 λvs H2=>sp (x::(vs++dvs)) H2 Q E
noncomputable def Zov (C:Addr)(sp:Sp)(dvs:List V)(E:XK)(t:TA):TE:=fun σ H Q=>t σ H λvs H1=>∀x dx,H1 x=none->H1 dx=none->dx≠x->
 sp (.ref x::(vs++dvs)) (upd (upd H1 dx (.own x)) x (.ins C dx [])) (λv H2=>v=.non/\Q (.ref x) H2) E
noncomputable def YC (K:qf)(fd:xx)(ps:List Str)(ds:List Value):Prop:=
 ∀(s:Shared) (us:List Value),K.In s.heap->(us++ds).length=ps.length->BindsTo s fd ⟨us,[]⟩ (ps.zip (us++ds))
theorem YC.all {K:qf}(h:∀us:List Value,us.length=ps.length->bindArgs fd ⟨us,[]⟩=pure (ps.zip us)):YC K fd ps []:=λs us _ hl=>by
 rw[zg]at hl⊢;exact .of_eq (h us hl)
noncomputable def Wv (CX:VG)(X:Cx)(E:XK):Prop:=∀(jJ:Qb) (σ:St) (H:Hp) (s:Shared) (e:Value) (s':Shared),Inv X jJ σ H s->CX X.stack H s E e s'->X.xe e s'
section
variable {X:Cx}{CX:VG}{k:Nat}{f C:Addr}{fd:xx}{ps:List Str}{sp:Sp}{dvs:List V}{ds:List Value}{E:XK}{x m:Str}{p pos apos:Pos}{e o:Expr}{es:List Expr}{ta:TE}{t:TA}
theorem Zeg {σ:St}(F:FnOk X.prog X.w X.K X.mg X.base CX k f fd ps sp)(hr:Room k X.A)(hb:YC X.K fd ps ds)(hd:Zy dvs ds)(hx:Wv CX X E)
  (I:Inv X jJ σ H s) (r:Zy vs us) (h:sp (vs++dvs) H Q E):xf (xw X.prog X.w) X.A (call (.ref f) us) (EP X jJ σ Q) X.xe s:=by
 have r2:=r.append hd;have hl:(us++ds).length=ps.length:=by rw[<-r2.length];exact F.len _ _ _ _ h
 refine xu (codeAny_mono (F.run X.A X.stack s H ⟨us,[]⟩ (us++ds) (vs++dvs) Q E hr I.env0 (hb s us I.kIn hl) r2 h) λr s' hq=>?_)
 cases r with
 | error e=>exact hx jJ σ H s e s' I hq
 | ok fl=>
  cases fl with
  | ret u=>exact I.after hq
  | next=>exact qM hq
  | brk=>exact qM hq
  | cont=>exact qM hq
theorem ZlQ (F:FnOk X.prog X.w X.K X.mg X.base CX k f fd ps sp)(hr:Room k X.A)(hg:Gl X x)(hm:X.mg x=some (.ref f))(hk:qY X.K (.ref f)=true)(hb:YC X.K fd ps ds)(hd:Zy dvs ds)(hx:Wv CX X E)
  (ha:PA X (e::es) t) (hdb:(x==("__debug__" : Str))=false:=by decide) (he:xh (e::es) X.env=(false,eval e X.env)::xh es X.env:=by rfl) (hpl:(backTo pos (xh es X.env)).any (·.1)=false:=by rfl) :
  PE X (.Call (.Name x p) (e::es) [] pos) (Zou sp dvs E t):=by
 intro jJ s σ H Q I h;refine wpAny_Call_Name_kw (U0 I hg hm ?_ hdb);refine zN I.ok.mod.kin hk (ZD (ha pos jJ s σ H _ I h) λus s1 ⟨vs,H1,I1,r,q⟩=>⟨I1.kIn,?_⟩) he hpl;exact Zeg F hr hb hd hx I1 r q
theorem Zhx {pl:Sem Bool}(he:PE X o ta)(c:Cls X.K C)(hm:Meth X.K C m f)(F:FnOk X.prog X.w X.K X.mg X.base CX k f fd ps sp)(hr:Room k X.A)(hb:YC X.K fd ps ds)(hd:Zy dvs ds)(hx:Wv CX X E)(ha:PA X (e::es) t)
  (hst:xh (e::es) X.env=(false,eval e X.env)::xh es X.env:=by rfl) (hpl:(backTo pos (xh es X.env)).any (·.1)=false:=by rfl)
  (ht:eval (.Call (.Attribute o m apos) (e::es) [] pos) X.env=(do
   let ov<-eval o X.env
   standAt apos.atName
   let (f,first)<-holding [ov] (getMethod ov m pl)
   callWith pos f first (backTo pos (xh (e::es) X.env)) (xp pos (xi [] X.env))):=by rfl) :
  PE X (.Call (.Attribute o m apos) (e::es) [] pos) (ZjH C m sp dvs E ta t):=by
 intro jJ s σ H Q I h;refine y6 (ZD (he jJ s σ H _ I h) λu s1 ⟨x,H1,I1,rx,a,dx,fs,ex,ea,l,q⟩=>?_) ht;subst ex;obtain rfl:u=qm a:=rx;refine Zbe I1 ea c hm l ?_;refine zN I.ok.mod.kin hm.kp (ZD (ha pos jJ s1 σ H1 _ I1 q) λus s2 ⟨vs,H2,I2,r,q2⟩=>⟨I2.kIn,?_⟩) hst hpl;exact Zeg (vs:=.ref a::vs) F hr hb hd hx I2 (.cons rfl r) q2
theorem ZjI (he:PE X o ta)(c:Cls X.K C)(hm:Meth X.K C m f)(F:FnOk X.prog X.w X.K X.mg X.base CX k f fd ps sp)(hr:Room k X.A)(hb:YC X.K fd ps ds)(hd:Zy dvs ds)(hx:Wv CX X E)
  (ht:eval (.Call (.Attribute o m apos) [] [] pos) X.env=(do
   let ov<-eval o X.env
   standAt apos.atName
   let (f,first)<-holding [ov] (getMethod ov m pl)
   callWith pos f first (backTo pos (xh [] X.env)) (xp pos (xi [] X.env))):=by rfl) :
  PE X (.Call (.Attribute o m apos) [] [] pos) (ZjH C m sp dvs E ta Jb):=by
 intro jJ s σ H Q I h;refine y6 (ZD (he jJ s σ H _ I h) λu s1 ⟨x,H1,I1,rx,a,dx,fs,ex,ea,l,q⟩=>?_) ht;subst ex;obtain rfl:u=qm a:=rx;refine Zbe I1 ea c hm l ?_;exact PySem.W.callWith_K0 I1.kIn hm.kp (Zeg (vs:=[.ref a]) F hr hb hd hx I1 (.cons rfl .nil) q)
structure Mk (K:qf)(C f:Addr):Prop where
 makes:PySem.W.makesIn K C=true
 init:zk K (.ref C) "__init__" = some (some (.ref f))
 fn:qbF K (.ref f)=true
 kp:qY K (.ref C)=true
theorem ZjJ {σ:St}(M:Mk X.K C f)(F:FnOk X.prog X.w X.K X.mg X.base CX k f fd ps sp)(hr:Room (k+1) X.A)(hb:YC X.K fd ps ds)(hd:Zy dvs ds)
  (hx:Wv CX X E) (I:Inv X jJ σ H s) (r:Zy vs us)
  (h:∀x dx,H x=none->H dx=none->dx≠x->sp (.ref x::(vs++dvs)) (upd (upd H dx (.own x)) x (.ins C dx [])) (λv H2=>v=.non/\Q (.ref x) H2) E) :
  xf (xw X.prog X.w) X.A (call (.ref C) us) (EP X jJ σ Q) X.xe s:=by
 have hq:=h (s.heap.objs.size+1) s.heap.objs.size (I.hok.fresh (qbM _)) (I.hok.fresh (qq _)) (qG (qaR _));have I2:=jE (C:=C) I;have r2:Zy (V.ref (s.heap.objs.size+1)::(vs++dvs)) (qm (s.heap.objs.size+1)::(us++ds)):=.cons rfl (r.append hd);have hl:=by
  have e:=r2.length;rw[F.len _ _ _ _ hq]at e;exact e.symm
 refine xu (ZjG I.kIn M.makes M.init (beq_iff_eq.mp M.fn) (codeAny_mono (F.run _ X.stack _ _ ⟨qm (s.heap.objs.size+1)::us,[]⟩ (qm (s.heap.objs.size+1)::(us++ds)) _ _ E (hr.make C us [])
  (I2.env0.make C us []) (hb _ (qm (s.heap.objs.size+1)::us) I2.kIn hl) r2 hq) λr s' hq'=>?_))
 cases r with
 | error e=>exact hx jJ σ _ _ e s' I2 hq'
 | ok fl=>
  cases fl with
  | ret u=>
   obtain⟨v,H',I3,rv,ev,q3⟩:=I2.after hq';subst ev;exact⟨rv,⟨V.ref (s.heap.objs.size+1),H',I3,rfl,q3⟩⟩
  | next=>exact qM hq'
  | brk=>exact qM hq'
  | cont=>exact qM hq'
theorem ZlR (M:Mk X.K C f)(F:FnOk X.prog X.w X.K X.mg X.base CX k f fd ps sp)(hr:Room (k+1) X.A)(hg:Gl X x)(hm:X.mg x=some (.ref C))(hb:YC X.K fd ps ds)(hd:Zy dvs ds)(hx:Wv CX X E)
  (ha:PA X (e::es) t) (hdb:(x==("__debug__" : Str))=false:=by decide) (he:xh (e::es) X.env=(false,eval e X.env)::xh es X.env:=by rfl) (hpl:(backTo pos (xh es X.env)).any (·.1)=false:=by rfl) :
  PE X (.Call (.Name x p) (e::es) [] pos) (Zov C sp dvs E t):=by
 intro jJ s σ H Q I h;refine wpAny_Call_Name_kw (U0 I hg hm ?_ hdb);refine zN I.ok.mod.kin M.kp (ZD (ha pos jJ s σ H _ I h) λus s1 ⟨vs,H1,I1,r,q⟩=>⟨I1.kIn,?_⟩) he hpl;exact ZjJ M F hr hb hd hx I1 r q
end
section
variable {X:Cx}{CX:VG}{k:Nat}{f C:Addr}{fd:xx}{ps ks:List Str}{sp:Sp}{E:XK}{x m:Str}{p pos apos kpos:Pos}{e o:Expr}{es:List Expr}{kws:List Keyword}{te ta:TE}{t tk:TA}{nm:Option Str}
variable {g:List Value->List Value->List Value}{gV:List V->List V->List V}
end
structure FnScope (N P:List Str)(sc:Scope):Prop where
 kind:sc.kind=.function
 co:sc.isCoroutine=false
 gen:sc.isGenerator=false
 nd:N.Nodup
 pre:N.take P.length=P
 par:∀x∈P,sc.names.lookup x=some .local∨sc.names.lookup x=some .cell
 nofree:∀y∈sc.names,y.2≠.free
theorem ZdF {kindOf:Str->Option NameKind}:∀{binds:List (Str×Value)} {m:Str->Option Value},(∀v,(x,v)∉binds)->bindL kindOf binds m x=m x
 | [],_,_=>rfl
 | (n,v)::r,m,h=>by
  unfold bindL;rw[ZdF λw hw=>h w (qL _ hw)];split
  ·grind
  ·rfl
theorem ZdG {kindOf:Str->Option NameKind}:∀{binds:List (Str×Value)} {m:Str->Option Value},(∀v,(x,v)∉binds)->bindC kindOf binds m x=m x
 | [],_,_=>rfl
 | (n,v)::r,m,h=>by
  unfold bindC;rw[ZdG λw hw=>h w (qL _ hw)];split
  ·rfl
  ·grind
theorem ZdH {kindOf:Str->Option NameKind}:∀{P:List Str} {vs:List Value} {i:Nat} {m:Str->Option Value},P.Nodup->P[i]?=some x->vs[i]?=some v->kindOf x=some .local->
  bindL kindOf (P.zip vs) m x=some v
 | [],_,_,_,_,h,_,_=>by simp at h
 | _::_,[],_,_,_,_,h,_=>by simp at h
 | p::P,w::vs,0,m,nd,h1,h2,hk=>by
  simp at h1 h2;subst h1;subst h2;show bindL kindOf ((p,w)::P.zip vs) m p=_;unfold bindL;rw[ZdF λv hv=>(zh.mp nd).1 (qac hv).1,if_pos hk];simp
 | p::P,w::vs,i+1,m,nd,h1,h2,hk=>by
  show bindL kindOf ((p,w)::P.zip vs) m x=_;exact ZdH (zh.mp nd).2 (by simpa using h1) (by simpa using h2) hk
theorem ZdI {kindOf:Str->Option NameKind}:∀{P:List Str} {vs:List Value} {i:Nat} {m:Str->Option Value},P.Nodup->P[i]?=some x->vs[i]?=some v->kindOf x≠some .local->
  bindC kindOf (P.zip vs) m x=some v
 | [],_,_,_,_,h,_,_=>by simp at h
 | _::_,[],_,_,_,_,h,_=>by simp at h
 | p::P,w::vs,0,m,nd,h1,h2,hk=>by
  simp at h1 h2;subst h1;subst h2;show bindC kindOf ((p,w)::P.zip vs) m p=_;unfold bindC;rw[ZdG λv hv=>(zh.mp nd).1 (qac hv).1,if_neg hk];simp
 | p::P,w::vs,i+1,m,nd,h1,h2,hk=>by
  show bindC kindOf ((p,w)::P.zip vs) m x=_;exact ZdI (zh.mp nd).2 (by simpa using h1) (by simpa using h2) hk
noncomputable def start (N:List Str)(vs:List V):St:=vs.map some++qk (N.length-vs.length) none
noncomputable def Xh (CX:VG)(P:xy)(w:World)(K:qf)(mg:Str->Option Value)(base:Heap)(N:List Str)(qual:Str)(scope:Scope)(f:Addr)(cd:Value)(A:xz)(outer:List Env)(s:Shared)(H:Hp)(E:XK):Cx where
 prog:=P
 w:=w
 K:=K
 mg:=mg
 base:=base
 A:=A.deeper (envOfC qual scope s.heap.objs.size f cd)
 N:=N
 s₀:=s
 H₀:=H
 env:=envOfC qual scope s.heap.objs.size f cd
 outer:=outer
 stack:=envOfC qual scope s.heap.objs.size f cd::outer
 ex:=[]
 calm:=true
 fn:=λ_=>true
 pn:=[]
 xe:=λe s'=>xf (xw P w) (A.deeper (envOfC qual scope s.heap.objs.size f cd)) (leaving (envOfC qual scope s.heap.objs.size f cd) e) (λ_ s''=>CX outer H s E e s'') (λe' s''=>CX outer H s E e' s'') s'
theorem Ze3 {sc:Scope}(h:sc.names.lookup x=some .cell):∃c,(cellsFrom n sc.names []).lookup x=some c:=by
 have q:=qbb sc.names n [] (.inl h);exact qU.mp q
theorem Zit {K:qf}
  (S:FnScope N ps scope) (hd:A.handled=none) (e0:Env0 P w K mg base A outer s H) (hl:vs.length=ps.length) (r:Zy vs us)
  (x:InCallC s s.heap.objs.size (bindL (envOfC qual scope s.heap.objs.size f cd).kindOf (ps.zip us) λ_=>none) (cellsFrom (s.heap.objs.size+1) scope.names []) (bindC (envOfC qual scope s.heap.objs.size f cd).kindOf (ps.zip us) λ_=>none) s1) :
  Inv (Xh CX P w K mg base N qual scope f cd A outer s H E) [] (start N vs) H s1:=by
 have hpl:ps.length<=N.length:=by have:=congrArg qbc S.pre;rw[zT]at this;omega
 obtain⟨h1,tk,rfl,hk⟩:=x.done;have noA:∀b:Addr,b∉(Xh CX P w K mg base N qual scope f cd A outer s H E).ex:=λb z=>absurd (show b∈([]:List Addr)from z) (by simp);refine⟨⟨e0.mod,S.kind,rfl,rfl,qq _,λy z c h1 h2=>?_,λy hy=>?_,λy c _ h=>?_,λ_=>hd,qbp e0.frames,.inr ⟨rfl,rfl⟩,λb z=>absurd z (noA b),e0.bs,e0.bsz,λb _ _=>noA b,λb z=>absurd z (noA b),e0.funs,e0.frf⟩,
  rfl,e0.bare,Un.kept hk,⟨_,x.toInCall.ns,λi y v h1 h2 h3=>?_⟩,λy c h=>⟨_,x.cell y c h⟩,e0.hok.fresh (qq _),λy c h=>?_,λp hp=>absurd (show p∈([]:Qb)from hp) (by simp),e0.hok.kept hk,?_⟩
 ·exact name_of_addr x.apart (qW h1) (qW h2)
 ·have hy:scope.names.lookup y=some .cell∨scope.names.lookup y=some .free:=hy
  rcases hy with hy | hy
  ·exact Ze3 hy
  ·exact absurd rfl (S.nofree _ (qW hy))
 ·exact qaa (x.above y c (qW h))
 ·have hi:i<vs.length:=by
   unfold start at h2;by_cases hi:i<vs.length
   ·exact hi
   ·rw[zx (by simpa using hi)]at h2
    rw[zG]at h2;split at h2 <;> cases h2
  have ha:vs[i]?=some v:=by
   unfold start at h2;rw[qS (by simpa using hi),qE]at h2
   cases e:vs[i]? with
   | none=>rw[e]at h2;cases h2
   | some a=>rw[e]at h2;cases h2;rfl
  obtain⟨u,hu,rv⟩:=r.get ha;have hp:ps[i]?=some y:=by
   rw[<-S.pre,qaS (by omega)];exact h1
  have ndP:ps.Nodup:=by rw[<-S.pre];exact S.nd.sublist (yN _ _)
  refine⟨u,rv,?_⟩;rcases S.par y (qP hp)with k | k
  ·exact .inl ⟨k,ZdH ndP hp hu k⟩
  ·obtain⟨c,e⟩:=Ze3 (n:=s.heap.objs.size+1) k
   refine .inr ⟨.inl k,c,e,?_⟩;have q:=x.cell y c e;rw[ZdI ndP hp hu (by show scope.names.lookup y≠_;simp_all)]at q;exact q
 ·exact e0.hok.fresh (qaa (x.above y c (qW h)))
 ·unfold start
  show _=N.length
  grind
theorem ZjK {K:qf}{kV:Value}
  (lk:K.lookup f=some ⟨oc,od,.func (zi name qual params body scope dV kV doc pm an cdv ct),osl⟩) (hcd:yk K cdv qual=true) (S:FnScope N ps scope)
  (len:∀vs H Q E,sp vs H Q E->vs.length=ps.length)
  (hbody:∀(A:xz) (outer:List Env) (s:Shared) (H:Hp) (vs:List V) (Q:VK) (E:XK),Room k (A.deeper (envOfC qual scope s.heap.objs.size f cdv))->sp vs H Q E->
   ∃t,YU (Xh CX P w K mg base N qual scope f cdv A outer s H E) body t/\t { nx:=λ_ H'=>Q .non H',rt:=Q } (start N vs) H) :
  FnOk P w K mg base CX (k+1) f (zi name qual params body scope dV kV doc pm an cdv ct) ps sp:=by
 refine⟨len,λA outer s H args us vs Q E hr e0 hb r hsp=>?_⟩;have hl:=len _ _ _ _ hsp;have KX:K.In s.heap:=e0.mod.kin.keeps λb o e=>(e0.bs b o e).1;have lim:s.heap.NoLimit:=e0.mod.nolimit.keeps λb o e=>(e0.bs b o e).1;have hkind:∀y∈ps.zip us,scope.names.lookup y.1=some .local∨(scope.names.lookup y.1=some .cell/\((cellsFrom (s.heap.objs.size+1) scope.names []).lookup y.1).isSome=true):=λ⟨n,v⟩ hy=>by
  rcases S.par n (qac hy).1 with q | q
  ·exact .inl q
  ·exact .inr ⟨q,qbb _ _ _ (.inl q)⟩
 refine codeAny_call_function hr.depth (KX _ _ lk) rfl S.co S.gen rfl (PySem.W.codeRec_of KX hcd) (hb _ _ _ _ ?_);refine wpAny_newFunctionEnv_cells S.kind hkind λenv he s1 x=>?_;subst he;refine⟨lim.keeps x.toInCall.keep,codeAny_func ?_⟩;obtain⟨t,ht,hq⟩:=hbody A outer s H vs Q E (hr.deeper _) hsp;have I:Inv (Xh CX P w K mg base N qual scope f cdv A outer s H E) [] (start N vs) H s1:=Zit S hr.hd e0 hl r x;refine xc (ht [] s1 (start N vs) H _ I hq) (λfl s' hs=>?_) λe s' hs=>hs;have fin:∀{σ':St} {H':Hp} {v:V} {u:Value},Inv (Xh CX P w K mg base N qual scope f cdv A outer s H E) [] σ' H' s'->ZE v u->Q v H'->CE outer P w H s Q u s':=
  λ{σ' H' v u} J rv q=>⟨v,H',J.os,J.bare,J.base,J.hok,rv,q⟩
 cases fl with
 | ret u=>
  obtain⟨v,σ',H',J,rv,q⟩:=hs;exact fin J rv q
 | next=>
  obtain⟨σ',H',J,q⟩:=hs;exact fin (v:=V.non) J rfl q
 | brk=>
  obtain⟨_,_,_,q⟩:=hs;simp_all
 | cont=>
  obtain⟨_,_,_,q⟩:=hs;simp_all
section
variable {X:Cx}{x:Str}{p pos:Pos}{e:Expr}{es:List Expr}{t:TA}{id T:String}{r:List V->Hp->VK->Prop}
noncomputable def tCB (r:List V->Hp->VK->Prop)(t:TA):TE:=fun σ H Q=>t σ H λvs H1=>r vs H1 Q
theorem Ju (hc:XJ X (.builtin id) r)(hg:Gl X x)(hm:X.mg x=none)(hv:xj x=some (.builtin id))(ha:PA X (e::es) t)(hn:x≠"__name__":=by decide)(hdb:(x==("__debug__" : Str))=false:=by decide)
  (he:xh (e::es) X.env=(false,eval e X.env)::xh es X.env:=by rfl) (hpl:(backTo pos (xh es X.env)).any (·.1)=false:=by rfl):PE X (.Call (.Name x p) (e::es) [] pos) (tCB r t):=by
 intro jJ s σ H Q I h;refine wpAny_Call_Name_kw (JC I hg hm hv ?_ hn hdb);exact PyProof.Rows.callWith_builtin1 (ZD (ha pos jJ s σ H _ I h) λus s1 ⟨vs,H1,I1,r1,q1⟩=>hc jJ s1 σ H1 vs us Q I1 r1 q1) he hpl
theorem ZdJ (hc:XJ X (.type T) r)(hg:Gl X x)(hm:X.mg x=none)(hv:xj x=some (.type T))(ha:PA X (e::es) t)(hn:x≠"__name__":=by decide)(hdb:(x==("__debug__" : Str))=false:=by decide)
  (he:xh (e::es) X.env=(false,eval e X.env)::xh es X.env:=by rfl) (hpl:(backTo pos (xh es X.env)).any (·.1)=false:=by rfl):PE X (.Call (.Name x p) (e::es) [] pos) (tCB r t):=by
 intro jJ s σ H Q I h;refine wpAny_Call_Name_kw (JC I hg hm hv ?_ hn hdb);exact zM (ZD (ha pos jJ s σ H _ I h) λus s1 ⟨vs,H1,I1,r1,q1⟩=>hc jJ s1 σ H1 vs us Q I1 r1 q1) he hpl
end
end L2
namespace HT
noncomputable def lexLt:List Int->List Int->Bool
 | [],[]=>false
 | [],_::_=>true
 | _::_,[]=>false
 | x::xs,y::ys=>if x=y then lexLt xs ys else decide (x<y)
theorem Zgt (x y:Int)(xs ys:List Int):lexLt (x::xs) (y::ys)=if x=y then lexLt xs ys else decide (x<y):=rfl
theorem Zdv:lexLt [] []=false:=rfl
theorem ZcM (y:Int)(ys:List Int):lexLt [] (y::ys)=true:=rfl
theorem ZcN (x:Int)(xs:List Int):lexLt (x::xs) []=false:=rfl
theorem ZjL (A:xz)(s:Shared)(a:Int)(t:Tok)(c:Int)(u:Tok):∃e,yb A s (.int a t) (.int c u) e/\(e=true↔a=c):=
 ⟨(a==c),yb.int_int a t c u,by simp⟩
theorem ZjM (A:xz)(s:Shared)(a:Int)(t:Tok)(c:Int)(u:Tok)(prog:xy)(w:World)(E:xA)(Q:xA)(h:Q (.bool (decide (a<c))) s) :
  xf (xw prog w) A (richCompare .Lt (.int a t) (.int c u)) Q E s:=
 (PyProof.Rows.lt_int h:xf (xw prog w) A (xk .Lt (.int a t) (.int c u)) Q E s)
section
open PySem.SeqAt
open PySem.AutoSeq1 (wpAny_loadPart')
open PySem.MeetsSeq PySem.MeetsSeq2 PySem.MeetsSeq3
theorem Zdw (l b:Addr)(items items2:Array Value)(n n2:Nat)(dd dd2:Option Addr)(sl sl2:Array (Option Value))(ns ms:List Int)(hi:IntsAre items.toList ns)(hj:IntsAre items2.toList ms) :
  Meets (Builtin.«tuple.__lt__» ⟨[.ref l,.ref b],[]⟩)
   (λ_ R s=>s.heap.get? l=some { cls:=.type "tuple",dict:=dd,data:=.seq items n,slots:=sl }/\s.heap.get? b=some { cls:=.type "tuple",dict:=dd2,data:=.seq items2 n2,slots:=sl2 }/\
    R (.ok (.ret (.bool (lexLt ns ms)))) s):=
 .of_wp λprog w A R s h=>by
  obtain⟨hp,g,d,tk,os⟩:=s;obtain⟨hl,hb,h⟩:=h;have f2:=zU;have z1:items.size=ns.length:=by rw[<-hi.length];simp
  have z2:items2.size=ms.length:=by rw[<-hj.length];simp
  wp_walk using wpAny_loadPart' hl,wpAny_loadPart' hb,wpAny_forIn_list _ (λrest b s'=>b.1=none/\s'=⟨hp,g,d,tk,os⟩/\∃(vs ws:List Value) (ns' ms':List Int),rest=vs.zip ws/\
   IntsAre vs ns'/\IntsAre ws ms'/\ns'.length+items2.size=ms'.length+items.size/\R (.ok (.ret (.bool (lexLt ns' ms')))) ⟨hp,g,d,tk,os⟩) _
  case turn=>
   rintro⟨y,x⟩ rest b s' ⟨hb',rfl,vs,ws,ns',ms',hz,hvi,hwi,jR,hR⟩
   cases hvi with
   | nil=>rw[List.zip_nil_left]at hz;cases hz
   | cons a t hvi'=>
    cases hwi with
    | nil=>rw[List.zip_nil_right]at hz;cases hz
    | cons c u hwi'=>
     rw[List.zip_cons_cons]at hz;injection hz with hyx hrest;injection hyx with hy hx;subst hy hx;rw[Zgt]at hR;simp only[qV]at jR;obtain⟨e,he,hiff⟩:=ZjL A.in1 ⟨hp,g,d,tk,os⟩ a t c u;refine xa (he prog w _ _ ?_)
     cases e with
     | true=>
      rw[if_pos (hiff.mp rfl)]at hR
      wp_walk
      exact⟨rfl,rfl,_,_,_,_,hrest,hvi',hwi',by omega,hR⟩
     | false=>
      rw[if_neg (λq=>absurd (hiff.mpr q) zj)]at hR;have hri:=ZjM A.in1 ⟨hp,g,d,tk,os⟩ a t c u prog w
      wp_walk using hri
      exact⟨_,rfl,by simpa using hR⟩
  case fin=>
   rintro⟨b1,b2⟩ s' ⟨hb',rfl,vs,ws,ns',ms',hz,hvi,hwi,jR,hR⟩;simp only at hb';subst hb';have hv:lexLt ns' ms'=decide (items.size<items2.size):=by
    cases hvi with
    | nil=>
     cases hwi with
     | nil=>
      simp only[yx]at jR;rw[Zdv];exact(decide_eq_false (by omega)).symm
     | cons c u hw=>
      simp only[yx,qV]at jR;rw[ZcM];exact(decide_eq_true (by omega)).symm
    | cons a t hv=>
     cases hwi with
     | nil=>
      simp only[yx,qV]at jR;rw[ZcN];exact(decide_eq_false (by omega)).symm
     | cons c u hw=>
      rw[List.zip_cons_cons]at hz
      cases hz
   rw[hv]at hR
   wp_walk
   exact⟨_,rfl,by simpa[Builtin.Tuple.tupleCompareSizes]using hR⟩
  case h=>
   exact⟨rfl,rfl,items.toList,items2.toList,ns,ms,rfl,hi,hj,by omega,h⟩
end
section
variable {prog:xy}{w:World}{A:xz}{E:xA}{s:Shared}
theorem lt_tupInts (hl:IsTup s.heap l items)(hb:IsTup s.heap b items2)(hi:IntsAre items.toList ns)(hj:IntsAre items2.toList ms)
  (hu:A.units<cLine) (h:Q (.bool (lexLt ns ms)) s):xf (xw prog w) A (xk .Lt (.ref l) (.ref b)) Q E s:=by
 obtain⟨⟨cls,dd,data,sl⟩,ho,hc,n,hd⟩:=id hl;obtain⟨⟨cls2,dd2,data2,sl2⟩,ho2,hc2,n2,hd2⟩:=id hb;subst hc hd hc2 hd2;exact richCompare_meets_room (op:=.Lt) ⟨_,ho,rfl⟩ ⟨_,ho2,rfl⟩ PySem.F.slot_tuple_lt PySem.F.entry_tuple_lt (PySem.F.args_tuple_lt_2 _ _) (Zdw l b items items2 n n2 dd dd2 sl sl2 ns ms hi hj)
  ⟨ho,ho2,show qZ (lexLt ns ms)≠qbq/\Q (.bool (lexLt ns ms)) s from⟨(λx=>nomatch x),h⟩⟩ hu
theorem cat_tup (ht:IsTup s.heap t vs.toArray)(hb:IsTup s.heap b ws.toArray)(hv:vs≠[])
  (h1:ws=[]->Q (.ref t) s) (h2:ws≠[]->Q (.ref s.heap.objs.size) { s with heap:=s.heap.push { cls:=.type "tuple",data:=.seq (vs++ws).toArray } })
  (hsz:vs.length+ws.length<=xg):xf (xw prog w) A (binaryOp .Add (.ref t) (.ref b)) Q E s:=by
 obtain⟨⟨cls,dd,data,sl⟩,ho,hc,n,hd⟩:=id ht;obtain⟨⟨cls2,dd2,data2,sl2⟩,ho2,hc2,n2,hd2⟩:=id hb;subst hc hd hc2 hd2;have e:vs.toArray++ws.toArray=(vs++ws).toArray:=by simp
 by_cases hw:ws=[]
 ·exact concat_meets ⟨_,ho,rfl⟩ ⟨_,ho2,rfl⟩ noFill_tuple_add seq_tuple_add yS yI (yB _ _)
   (tuple_addW1 t b vs.toArray ws.toArray n n2 dd dd2 sl sl2 (by simpa using hv) (by simp[hw])) ⟨ho,ho2,h1 hw⟩
 ·refine concat_meets ⟨_,ho,rfl⟩ ⟨_,ho2,rfl⟩ noFill_tuple_add seq_tuple_add yS yI (yB _ _)
   (tuple_addW2 t b vs.toArray ws.toArray n n2 dd dd2 sl sl2 (by simpa using hv) (by simp_all) (by omega)) ⟨ho,ho2,?_⟩
  rw[e];exact h2 hw
noncomputable def sIx (n d:Nat):Option Int->Nat
 | none=>d
 | some v=>if v<0 then (v+(n:Int)).toNat else min v.toNat n
theorem Znx (n d:Nat)(hd:d<=n)(o:Option Int):sIx n d o<=n:=by
 cases o with
 | none=>exact hd
 | some v=>
  show(if v<0 then (v+(n:Int)).toNat else min v.toNat n)<=n;by_cases hv:v<0
  ·grind
  ·rw[if_neg hv];exact Nat.min_le_right _ _
theorem Zhy (v:Int)(n d:Nat):(if v<0 then max (v+(n:Int)) 0 else min v (n:Int))=((sIx n d (some v):Nat):Int):=by
 show(if v<0 then max (v+(n:Int)) 0 else min v (n:Int))=(((if v<0 then (v+(n:Int)).toNat else min v.toNat n):Nat):Int)
 grind
theorem Zgu (lo hi:Option Int)(n:Nat):qaO lo hi 1 (n:Int)=(((sIx n 0 lo:Nat):Int),((sIx n n hi:Nat):Int)):=by
 refine qaT ?_ ?_
 ·cases lo with
  | none=>rfl
  | some v=>exact Zhy v n 0
 ·cases hi with
  | none=>rfl
  | some v=>exact Zhy v n n
theorem Zgv (i j:Nat):zR (i:Int) (j:Int) 1=j-i:=by
 unfold zR;simp
 grind
theorem ZcO (p:IsPart v o)(h:Q o s):xf (xw prog w) A (Builtin.Slice.slicePartIndex v) Q E s:=by
 cases p with
 | none=>exact slicePart_none h
 | int i t=>exact slicePart_int h
theorem ZaA {lo:Option Int}{n:Nat}(hs:s.heap.IsSliceOf sl vl vu .none)(pl:IsPart vl lo)(pu:IsPart vu hi)
  (h:Q (((sIx n 0 lo:Nat):Int),1,sIx n n hi-sIx n 0 lo) s):xf (xw prog w) A (Builtin.Slice.sliceApplied (.ref sl) (pure (n:Int))) Q E s:=by
 obtain⟨os,hos,hcs,hds⟩:=id hs;refine xa (xa (wpAny_field hos hds (x:=vl) rfl (xa (wpAny_field hos hds (x:=vu) rfl (xa (wpAny_field hos hds rfl (xb ?_)))))));refine xa (slicePart_none ?_);refine xa (ZcO pl (xa (ZcO pu (xa (xb ?_)))));show xf _ _ (match qaO lo hi 1 (n:Int)with | (lo,hi)=>pure (lo,(1:Int),zR lo hi 1)) _ _ s;rw[Zgu lo hi n];show xf _ _ (pure (((sIx n 0 lo:Nat):Int),(1:Int),zR ((sIx n 0 lo:Nat):Int) ((sIx n n hi:Nat):Int) 1)) _ _ s;rw[Zgv];exact xb h
theorem ZjN (xs:Array Value)(i k:Nat):((qu k).filterMap λ(m:Nat)=>xs[((i:Int)+(m:Int)*1).toNat]?).toArray=((xs.toList.drop i).take k).toArray:=by
 have e:(λ(m:Nat)=>xs[((i:Int)+(m:Int)*1).toNat]?)=λm=>xs[i+m]?:=by
  funext m
  grind
 rw[e];have:=pick_run xs i k;have e2:((λx=>xs[x]?)∘λx=>i+x)=λm=>xs[i+m]?:=rfl;simp_all
theorem getItem_tuple_cut {lo:Option Int}(ht:IsTup s.heap t items)(hs:s.heap.IsSliceOf sl vl vu .none)(pl:IsPart vl lo)(pu:IsPart vu hi)
  (hw:¬(sIx items.size 0 lo=0/\sIx items.size items.size hi=items.size))
  (h:Q (.ref s.heap.objs.size) { s with heap:=s.heap.push { cls:=.type "tuple",data:=.seq ((items.toList.drop (sIx items.size 0 lo)).take (sIx items.size items.size hi-sIx items.size 0 lo)).toArray } })
  (hsz:items.size<=xg):xf (xw prog w) A (getItem (.ref t) (.ref sl)) Q E s:=by
 have htake:sizeOk (.seq ((items.toList.drop (sIx items.size 0 lo)).take (sIx items.size items.size hi-sIx items.size 0 lo)).toArray):=by
  show((items.toList.drop (sIx items.size 0 lo)).take (sIx items.size items.size hi-sIx items.size 0 lo)).toArray.size<=xg;rw[za,zT,List.length_drop,zH];omega
 have hj:sIx items.size items.size hi<=items.size:=Znx _ _ (qq _) hi;obtain⟨os,hos,hcs,hds⟩:=id hs;have hTs:s.TypeIs (.ref sl) "slice":=⟨os,hos,hcs⟩;unfold getItem
 try with_reducible refine xt ?_
 first | refine xa (xb ?_) | skip
 refine xa (wpAny_sequenceKey ht.typeIs (by decide) ?_);refine xa (wpAny_callSpecial?_slot (name:=qd "__getitem__") ht.typeIs qX
  (wpAny_call_entry qX ht.typeIs entry_tuple_getitem ?_ (args_tuple_getitem _ _)))
 show xf _ _ (qaC (.ref t) >>= _) _ _ s;refine xa (tupleItemsOf_ ht ?_);refine xa (wpAny_typeOf hTs ?_);rw[if_pos (by decide)];refine xa (ZaA hs pl pu ?_);have hno:¬((((sIx items.size 0 lo:Nat):Int)==0&&(1:Int)==1&&(sIx items.size items.size hi-sIx items.size 0 lo)==items.size)=true):=by
  intro q;rw[zd,zd]at q;have q1:((sIx items.size 0 lo:Nat):Int)=0:=eq_of_beq q.1.1;have q2:=eq_of_beq q.2;omega
 show xf _ _ (if (((sIx items.size 0 lo:Nat):Int)==0&&(1:Int)==1&&(sIx items.size items.size hi-sIx items.size 0 lo)==items.size)=true then _ else _) _ _ s;rw[if_neg hno,ZjN]
 first
  | exact xa (xl (xb ⟨_,rfl,xb h⟩) htake)
  | rfl
  | rfl
  | rfl
end
end HT
namespace L2
noncomputable abbrev TO:=St->Hp->(Option Int->Hp->Prop)->Prop
noncomputable def PO (X:Cx)(e:Option Expr)(t:TO):Prop:=
 ∀(jJ:Qb) (s:Shared) (σ:St) (H:Hp) (Q:Option Int->Hp->Prop),Inv X jJ σ H s->t σ H Q->
  xf (xw X.prog X.w) X.A (evalPart e X.env) (λu s'=>∃o H',Inv X jJ σ H' s'/\IsPart u o/\Q o H') X.xe s
noncomputable def ZlS:TO:=λ_ H Q=>Q none H
noncomputable def Zow (t:TE):TO:=fun σ H Q=>t σ H λx H1=>∃i,x=.int i/\Q (some i) H1
theorem UU:∀{us:List Value},Zy (ns.map V.int) us->IntsAre us ns:=by
 induction ns with
 | nil=>intro us r;cases r;exact .nil
 | cons n ns ih=>
  intro us r
  cases r with
  | cons r1 r2=>
   obtain⟨t,e⟩:=r1;subst e;exact .cons n t (ih r2)
section
variable {X:Cx}{e:Expr}{te:TE}{lo hi:Option Expr}{tl th:TO}{pos p2:Pos}
theorem ZlT:PO X none ZlS:=by
 intro jJ s σ H Q I h;exact xb ⟨none,H,I,.none,h⟩
theorem ZlU (h:PE X e te):PO X (some e) (Zow te):=by
 intro jJ s σ H Q I hw;refine ZD (h jJ s σ H _ I hw) λu s1 ⟨x,H1,I1,r1,q1⟩=>?_;obtain⟨i,rfl,q⟩:=q1;obtain⟨t,rfl⟩:=r1;exact⟨some i,H1,I1,.int i t,q⟩
noncomputable def UI (X:Cx)(r:V->Option Int->Option Int->Hp->VK->Prop):Prop:=
 ∀(jJ:Qb) (s:Shared) (σ:St) (H:Hp) (x:V) (v vl vu:Value) (lo hi:Option Int) (sl:Addr) (Q:VK),Inv X jJ σ H s->ZE x v->s.heap.IsSliceOf sl vl vu .none->IsPart vl lo->IsPart vu hi->r x lo hi H Q->
  ∃T id,typeLookup (.type T) "__getitem__" = pure (some (.builtin id))/\s.TypeIs v T/\xf (xw X.prog X.w) X.A (getItem v (.ref sl)) (EP X jJ σ Q) X.xe s
theorem UI.or (h:UI X r)(h':UI X r'):UI X (λx lo hi H Q=>r x lo hi H Q∨r' x lo hi H Q):=by
 intro jJ s σ H x v vl vu lo hi sl Q I rx hs pl pu q;rcases q with q | q
 ·exact h jJ s σ H x v vl vu lo hi sl Q I rx hs pl pu q
 ·exact h' jJ s σ H x v vl vu lo hi sl Q I rx hs pl pu q
noncomputable def tSl (r:V->Option Int->Option Int->Hp->VK->Prop)(te:TE)(tl th:TO):TE:=fun σ H Q=>te σ H λx H1=>tl σ H1 λl H2=>th σ H2 λu H3=>r x l u H3 Q
theorem ZjO (hr:UI X r)(he:PE X e te)(hl:PO X lo tl)(hu:PO X hi th):PE X (.Subscript e (.Slice lo hi none p2) pos) (tSl r te tl th):=by
 intro jJ s σ H Q I h;refine Subscript_ (ZD (he jJ s σ H _ I h) λv s1 ⟨x,H1,I1,r1,q1⟩=>?_);refine wpAny_Slice (ZD (hl jJ s1 σ H1 _ I1 q1) λvl s2 ⟨l,H2,I2,pl,q2⟩=>ZD (hu jJ s2 σ H2 _ I2 q2) λvu s3 ⟨u,H3,I3,pu,q3⟩=>?_);refine xb ?_;have I4:Inv X jJ σ H3 { s3 with heap:=s3.heap.push { cls:=.type "slice",data:=.fields #[vl,vu,.none] } }:=I3.kept λb ob q=>qj _ q;obtain⟨T,id,hT,ht,hg⟩:=hr jJ { s3 with heap:=s3.heap.push { cls:=.type "slice",data:=.fields #[vl,vu,.none] } } σ H3 x v vl vu l u s3.heap.objs.size Q I4 r1 (Heap.IsSliceOf.new ..) pl pu q3;exact tail_any ht hT hg (by rfl)
noncomputable def UC (xs:List V)(lo hi:Option Int):List V:=(xs.drop (HT.sIx xs.length 0 lo)).take (HT.sIx xs.length xs.length hi-HT.sIx xs.length 0 lo)
theorem Zb5 (xs:List V)(lo hi:Option Int):(UC xs lo hi).length<=xs.length:=by
 unfold UC;rw[zT,List.length_drop];omega
noncomputable def rSlT (K:qf):V->Option Int->Option Int->Hp->VK->Prop:=λx lo hi H Q=>∃a xs,x=.ref a/\ZU K H a xs/\
 ¬(HT.sIx xs.length 0 lo=0/\HT.sIx xs.length xs.length hi=xs.length)/\∀p,H p=none->Q (.ref p) (upd H p (.tup (UC xs lo hi)))
theorem Zny:UI X (rSlT X.K):=by
 intro jJ s σ H x v vl vu lo hi sl Q I rx hs pl pu h;obtain⟨a,xs,rfl,hx,hw,q⟩:=h
 cases rx
 obtain⟨jK,r,ht,hz⟩:=I.tuple hx;have jR:jK.toArray.size=xs.length:=(r.length.symm);refine⟨"tuple",_,qX.lookup,ht.typeIs,?_⟩;refine HT.getItem_tuple_cut ht hs pl pu (by rw[jR];exact hw) ?_ (by rw[jR];exact hz);rw[jR];refine⟨.ref s.heap.objs.size,_,I.laid (λb ob q=>qj _ q) (qq _) ?_,rfl,q _ (I.hok.fresh (qq _))⟩;exact⟨qI (Zb5 xs lo hi) hz,_,(r.drop (HT.sIx xs.length 0 lo)).take (HT.sIx xs.length xs.length hi-HT.sIx xs.length 0 lo),qax _ _⟩
noncomputable def rLtT (K:qf):R2:=λx y H Q=>∃a b ns ms,x=.ref a/\y=.ref b/\ZU K H a (ns.map V.int)/\ZU K H b (ms.map V.int)/\Q (.bl (HT.lexLt ns ms)) H
theorem Znz (hu:X.A.units<cLine):Yc X (xk .Lt) (rLtT X.K):=by
 intro jJ s σ H x y v u Q I rx ry h;obtain⟨a,b,ns,ms,rfl,rfl,ha,hb,q⟩:=h
 cases rx
 cases ry
 obtain⟨jK,r1,p1,_⟩:=I.tuple ha;obtain⟨ke,r2,p2,_⟩:=I.tuple hb;have i1:=UU r1;have i2:=UU r2;exact HT.lt_tupInts p1 p2 i1 i2 hu ⟨.bl (HT.lexLt ns ms),H,I,rfl,q⟩
noncomputable def Zox (K:qf):R2:=λx y H Q=>∃a b xs ys,x=.ref a/\y=.ref b/\ZU K H a xs/\ZU K H b ys/\xs≠[]/\xs.length+ys.length<=xg/\
 (ys=[]->Q (.ref a) H)/\(ys≠[]->∀p,H p=none->Q (.ref p) (upd H p (.tup (xs++ys))))
theorem Zy.nil_iff (r:Zy xs us):us=[]↔xs=[]:=by
 cases r with
 | nil=>simp
 | cons _ _=>simp
theorem ZlV:Yc X (binaryOp .Add) (Zox X.K):=by
 intro jJ s σ H x y v u Q I rx ry h;obtain⟨a,b,xs,ys,rfl,rfl,ha,hb,hx,hz,q1,q2⟩:=h
 cases rx
 cases ry
 obtain⟨jK,r1,p1,_⟩:=I.tuple ha;obtain⟨ke,r2,p2,_⟩:=I.tuple hb;refine HT.cat_tup p1 p2 (λz=>hx (r1.nil_iff.mp z)) (λz=>⟨.ref a,H,I,rfl,q1 (r2.nil_iff.mp z)⟩) (λz=>?_) (by rw[<-r1.length,<-r2.length];exact hz);refine⟨.ref s.heap.objs.size,_,I.laid (λb ob q=>qj _ q) (qq _) ?_,rfl,q2 (λw=>z (r2.nil_iff.mpr w)) _ (I.hok.fresh (qq _))⟩;exact⟨by simp_all,_,r1.append r2,qax _ _⟩
end
noncomputable def UJ (n:Nat)(i:Int):Option Nat:=if 0<=i then (if i<n then some i.toNat else none)else if -(n:Int)<=i then some (i+n).toNat else none
noncomputable def XZ {α:Type}(xs:List α)(i:Int):Option α:=(UJ xs.length i).bind λj=>xs[j]?
theorem Zhz (h:UJ n i=some j):seqIndex? i n=some j/\j<n/\-(n:Int)<=i/\i<n:=by
 unfold UJ at h;by_cases h0:0<=i
 ·rw[if_pos h0]at h
  by_cases h1:i<n
  ·rw[if_pos h1]at h
   have e:=zf h;exact⟨by rw[seqIndex_of h0 h1,e],by omega,by omega,h1⟩
  ·simp_all
 ·rw[if_neg h0]at h
  by_cases h1:-(n:Int)<=i
  ·rw[if_pos h1]at h
   have e:=zf h;exact⟨by rw[seqIndex_neg (by omega) h1,e],by omega,h1,by omega⟩
  ·simp_all
theorem ZhA {xs:List α}{v:α}(h:XZ xs i=some v):∃j,seqIndex? i xs.length=some j/\xs[j]?=some v/\j<xs.length/\-(xs.length:Int)<=i/\i<xs.length:=by
 unfold XZ at h
 cases e:UJ xs.length i with
 | none=>simp_all
 | some j=>
  rw[e]at h;obtain⟨h1,h2,h3,h4⟩:=Zhz e;exact⟨j,h1,h,h2,h3,h4⟩
theorem W6 {xs:List α}{j:Nat}{v:α}(h:xs[j]?=some v):XZ xs (j:Int)=some v:=by
 have hj:=(qx.mp h).1;have e:UJ xs.length (j:Int)=some j:=by
  unfold UJ;simp_all
 unfold XZ;rw[e];exact h
noncomputable def ZhB (b:Expr):Prop:=∀o i,subscripted b false o i=operate [o,i] (getItem o i)
noncomputable def UK (X:Cx)(r:R2):Prop:=
 ∀(value slice:Expr) (jJ:Qb) (s:Shared) (σ:St) (H:Hp) (x y:V) (v u:Value) (Q:VK),Inv X jJ σ H s->ZE x v->ZE y u->r x y H Q->
  subscripted slice false v u=operate [v,u] (getItem v u)->xf (xw X.prog X.w) X.A (subscriptTail value slice v u) (EP X jJ σ Q) X.xe s
noncomputable def B7 (X:Cx)(id:String)(r:V->List V->Hp->VK->Prop):Prop:=
 ∀(jJ:Qb) (s:Shared) (σ:St) (H:Hp) (x:V) (xs:List V) (v:Value) (us:List Value) (Q:VK),Inv X jJ σ H s->ZE x v->Zy xs us->r x xs H Q->
  xf (xw X.prog X.w) X.A (call (.builtin id) (v::us)) (EP X jJ σ Q) X.xe s
section
variable {X:Cx}{a b:Expr}{ta tb:TE}{pos:Pos}
theorem UK.or (h:UK X r)(h':UK X r'):UK X (λx y H Q=>r x y H Q∨r' x y H Q):=by
 intro value slice jJ s σ H x y v u Q I rx ry q hs;rcases q with q | q
 ·exact h value slice jJ s σ H x y v u Q I rx ry q hs
 ·exact h' value slice jJ s σ H x y v u Q I rx ry q hs
theorem WP (hr:UK X r)(ha:PE X a ta)(hb:PE X b tb)(hs:ZhB b):PE X (.Subscript a b pos) (X8 r ta tb):=by
 intro jJ s σ H Q I h;exact Subscript_ (binT ha hb I h λv u s2 x y H2 I2 rx ry q=>hr a b jJ s2 σ H2 x y v u Q I2 rx ry q (hs _ _))
noncomputable def BR (K:qf):R2:=λx y H Q=>∃p xs i v,x=.ref p/\y=.int i/\ZJ K H p xs/\XZ xs i=some v/\Q v H
noncomputable def rIxT (K:qf):R2:=λx y H Q=>∃p xs i v,x=.ref p/\y=.int i/\ZU K H p xs/\XZ xs i=some v/\Q v H
theorem WJ:UK X (BR X.K):=by
 intro value slice jJ s σ H x y v u Q I rx ry h hs;obtain⟨p,xs,i,z,rfl,rfl,hq,he,q⟩:=h
 cases rx
 obtain⟨t,rfl⟩:=ry;obtain⟨jK,r,pl,hz⟩:=I.list hq;obtain⟨j,h1,h2,h3,h4,h5⟩:=ZhA he;obtain⟨w,ew,rw'⟩:=r.get h2;have hl:=r.length;have hn:=JD;have fin:EP X jJ σ Q w s:=⟨z,H,I,rw',q⟩;by_cases h0:0<=i
 ·have hj:i.toNat=j:=by
   rw[seqIndex_of h0 h5]at h1;exact zf h1
  exact item_listR pl.isList h0 (by omega) (by rw[hj];simpa using ew) fin hs
 ·have hj:(i+(jK.toArray.size:Int)).toNat=j:=by
   rw[seqIndex_neg (by omega) h4]at h1;simp_all
  exact subscriptTail_builtinR pl.isList.typeIs slot_list_getitem.lookup
   (wpAny_getItem_list_neg pl.isList (by omega) (by simp_all) (by omega) (by rw[hj];simpa using ew) ⟨rfl,fin⟩) hs
theorem ZnA:UK X (rIxT X.K):=by
 intro value slice jJ s σ H x y v u Q I rx ry h hs;obtain⟨p,xs,i,z,rfl,rfl,hq,he,q⟩:=h
 cases rx
 obtain⟨t,rfl⟩:=ry;obtain⟨jK,r,pl,hz⟩:=I.tuple hq;obtain⟨j,h1,h2,h3,h4,h5⟩:=ZhA he;obtain⟨w,ew,rw'⟩:=r.get h2;have hl:=r.length;have hn:=JD;have fin:EP X jJ σ Q w s:=⟨z,H,I,rw',q⟩;exact subscriptTail_builtinR pl.typeIs slot_tuple_getitem.lookup
  (getItem_tuple (j:=j) pl (by omega) (by omega) (by simp_all) (by simpa using ew) ⟨rfl,fin⟩) hs
theorem Zgw (jK:List Value)(n j:Nat)(u:Value):zm (·.setIfInBounds j u) { cls:=.type "list",data:=.seq jK.toArray n } = { cls:=.type "list",data:=.seq (jK.set j u).toArray n }:=by
 simp[zm]
theorem Inv.lst {σ:St}(I:Inv X jJ σ H s)(h:H p=some (.lst xs)) :
  ∃(jK:List Value) (n:Nat),Zy xs jK/\s.heap.get? p=some { cls:=.type "list",data:=.seq jK.toArray n }/\xs.length<=xg:=by
 obtain⟨z,jK,n,r,e⟩:=I.hok p _ h;exact⟨jK,n,r,e,z⟩
theorem Inv.lstUpd {σ:St}{jK:List Value}(I:Inv X jJ σ H s)(h:H p=some (.lst xs))
  (ho:s.heap.get? p=some { cls:=.type "list",data:=.seq jK.toArray n }) (hf:f { cls:=.type "list",data:=.seq jK.toArray n } = { cls:=.type "list",data:=.seq its'.toArray n' }) (r:Zy ys its') (hz:ys.length<=xg) (t:Nat) :
  Inv X jJ σ (upd H p (.lst ys)) { s with heap:=s.heap.update p f,toks:=t }:=by
 have e:(s.heap.update p f).get? p=some { cls:=.type "list",data:=.seq its'.toArray n' }:=by
  rw[y8 f ho (by rw[hf] <;> rfl),hf]
 refine I.write (by rw[h];trivial) (.inl rfl) (λb u hb q=>(qbd _ _ (qN hb)).trans q) ⟨_,e⟩ ?_;exact⟨hz,its',n',r,e⟩
noncomputable def BF:V->V->V->Hp->(Hp->Prop)->Prop:=λo i v H Q=>∃p xs k j,o=.ref p/\i=.int k/\H p=some (.lst xs)/\UJ xs.length k=some j/\Q (upd H p (.lst (xs.set j v)))
theorem ZcP:PSet X BF:=by
 intro jJ s σ H o i v ov iv u Q I ro ri rv h;obtain⟨p,xs,k,j,rfl,rfl,hp,hj,q⟩:=h
 cases ro
 obtain⟨t,rfl⟩:=ri;obtain⟨jK,n,r,ho,hz⟩:=I.lst hp;obtain⟨h1,h2,h3,h4⟩:=Zhz hj;have hl:=r.length;have hn:=JD;have I':Inv X jJ σ (upd H p (.lst (xs.set j v))) { s with heap:=s.heap.update p (zm (·.setIfInBounds j u)) }:=
  I.lstUpd hp ho (Zgw jK n j u) (r.set rv j) (by rw[List.length_set];exact hz) s.toks
 by_cases h0:0<=k
 ·have hk:k.toNat=j:=by
   rw[seqIndex_of h0 h4]at h1;exact zf h1
  exact PySem.W.ki_setAt ho h0 (by omega) (by rw[za,<-hl];exact h4) (by rw[hk];exact⟨_,I',q⟩)
 ·have hk:(k+(jK.toArray.size:Int)).toNat=j:=by
   rw[seqIndex_neg (by omega) h3]at h1;simp_all
  exact PySem.W.ki_setBack ho (by omega) (by simp_all) (by omega) (by rw[hk];exact⟨_,I',q⟩)
theorem Zeh (lo hi:Option Int)(n:Nat):(sliceBounds lo hi none n).1=((HT.sIx n 0 lo:Nat):Int)/\(sliceBounds lo hi none n).2.1=((HT.sIx n n hi:Nat):Int)/\(sliceBounds lo hi none n).2.2=1:=by
 refine⟨?_,?_,rfl⟩
 ·cases lo with
  | none=>simp[sliceBounds,HT.sIx]
  | some i=>
   simp only[sliceBounds,HT.sIx,Option.getD_none,show(1:Int) > 0 by decide,if_true];by_cases h:i<0
   ·simp only[h,if_true] <;> omega
   ·simp only[h,if_false] <;> omega
 ·cases hi with
  | none=>rfl
  | some i=>
   simp only[sliceBounds,HT.sIx,Option.getD_none,show(1:Int) > 0 by decide,if_true];by_cases h:i<0
   ·simp only[h,if_true] <;> omega
   ·simp only[h,if_false] <;> omega
theorem Zdx (jK:List Value)(lo hi:Option Int):slicePick jK.toArray lo hi none=((jK.drop (HT.sIx jK.length 0 lo)).take (HT.sIx jK.length jK.length hi-HT.sIx jK.length 0 lo)).toArray:=by
 obtain⟨h1,h2,h3⟩:=Zeh lo hi jK.toArray.size;unfold slicePick;rw[h1,h2,h3];simp only[sliceRange_one,pick_run] <;> rfl
noncomputable def rSlL (K:qf):V->Option Int->Option Int->Hp->VK->Prop:=λx lo hi H Q=>∃a xs,x=.ref a/\ZJ K H a xs/\∀p,H p=none->Q (.ref p) (upd H p (.lst (UC xs lo hi)))
theorem ZlW:UI X (rSlL X.K):=by
 intro jJ s σ H x v vl vu lo hi sl Q I rx hs pl pu h;obtain⟨a,xs,rfl,hx,q⟩:=h
 cases rx
 obtain⟨jK,r,ht,hz⟩:=I.list hx;have jR:=r.length;refine⟨"list",_,slot_list_getitem.lookup,ht.isList.typeIs,?_⟩;refine wpAny_getItem_list_slice ht.isList hs pl pu .none (by simp) ?_ (by grind);rw[Zdx,<-jR];refine⟨.ref s.heap.objs.size,_,I.laid (λb ob q=>qj _ q) (qq _) ?_,rfl,q _ (I.hok.fresh (qq _))⟩;exact⟨qI (Zb5 xs lo hi) hz,_,0,(r.drop (HT.sIx xs.length 0 lo)).take (HT.sIx xs.length xs.length hi-HT.sIx xs.length 0 lo),qw _ rfl⟩
theorem Zal:XJ X (.builtin "len") (λxs H Q=>∃p ys,xs=[.ref p]/\(ZJ X.K H p ys∨ZU X.K H p ys)/\Q (.int ys.length) H):=by
 intro jJ s σ H xs us Q I r h;obtain⟨p,ys,rfl,hq,q⟩:=h;obtain⟨u,rfl,rx⟩:=Wx r
 cases rx
 have hn:=JD;rcases hq with hq | hq
 ·obtain⟨jK,r',pl,hz⟩:=I.list hq
  have jR:=r'.length;exact Calls.call_len_list pl.isList (by simp only[za] <;> omega) ⟨.int ys.length,H,I.tok _,⟨s.toks+1,by simp_all⟩,q⟩
 ·obtain⟨jK,r',pl,hz⟩:=I.tuple hq
  have jR:=r'.length;exact len_tuple pl (by simp only[za] <;> omega) ⟨.int ys.length,H,I.tok _,⟨s.toks+1,by simp_all⟩,q⟩
theorem Zdy:XJ X (.type "tuple") (λxs H Q=>∃p ys,xs=[.ref p]/\((ZJ X.K H p ys/\∀l,H l=none->Q (.ref l) (upd H l (.tup ys)))∨(ZU X.K H p ys/\Q (.ref p) H))):=by
 intro jJ s σ H xs us Q I r h;obtain⟨p,ys,rfl,h⟩:=h;obtain⟨u,rfl,rx⟩:=Wx r
 cases rx
 rcases h with⟨hq,q⟩ | ⟨hq,q⟩
 ·obtain⟨jK,r',pl,hz⟩:=I.list hq
  have jR:=r'.length;refine call_tuple_list pl.isList (λh' kp=>?_) (by simp_all);have I1:Inv X jJ σ H { s with heap:=h' }:=I.kept kp;have I2:Inv X jJ σ (upd H h'.objs.size (.tup ys)) { s with heap:=h'.push { cls:=.type "tuple",data:=.seq jK.toArray } }:=
   I1.laid (λb o e=>qj _ e) (qq _) (show Ym X.prog X.w _ _ _ (.tup ys)from⟨hz,jK,r',qax _ _⟩)
  exact⟨.ref h'.objs.size,_,I2,rfl,q _ (I1.hok.fresh (qq _))⟩
 ·obtain⟨jK,r',pl,hz⟩:=I.tuple hq
  exact call_tuple_same pl ⟨.ref p,H,I,rfl,q⟩
noncomputable def tyV (K:qf)(T:String)(x:V)(H:Hp):Prop:=match x with
 | .str _=>T = "str"
 | .int _=>T = "int"
 | .ref p=>(T = "list"/\∃xs,ZJ K H p xs)∨(T = "tuple"/\∃o,K.lookup p=some o/\o.cls=.type "tuple"/\o.dict=none)∨
   (T = "dict"/\((∃kvs,H p=some (.dK kvs))∨∃kvs,H p=some (.dT kvs)))∨(T = "set"/\∃S n,H p=some (.set S n))
 | _=>False
theorem ZjP {σ:St}(I:Inv X jJ σ H s)(r:ZE x v)(ty:tyV X.K T x H) :
  s.TypeIs v T/\∀a,v=.ref a->∃ob,s.heap.get? a=some ob/\ob.dict=none:=by
 cases x with
 | str z=>
  obtain⟨t,rfl⟩:=r
  cases (show T = "str" from ty)
  exact⟨typeIs_str s z t,λ_ e=>nomatch e⟩
 | int i=>
  obtain⟨t,rfl⟩:=r
  cases (show T = "int" from ty)
  exact⟨typeIs_int s i t,λ_ e=>nomatch e⟩
 | ref p=>
  cases r
  rcases ty with⟨rfl,xs,hq⟩ | ⟨rfl,o,hk,hc,hd⟩ | ⟨rfl,hk⟩ | ⟨rfl,S,n,hk⟩
  ·obtain⟨jK,_,pl,_⟩:=I.list hq
   refine⟨pl.isList.typeIs,λa e=>?_⟩
   cases e
   obtain⟨o,n,e,c,hd,_⟩:=pl;exact⟨o,e,hd⟩
  ·refine⟨⟨o,I.kIn p o hk,hc⟩,λa e=>?_⟩
   cases e
   exact⟨o,I.kIn _ o hk,hd⟩
  ·have z:∃o,s.heap.get? p=some o/\o.ExactDict:=by
    rcases hk with⟨kvs,hk⟩ | ⟨kvs,hk⟩
    ·obtain⟨_,_,_,_,o,_,_,e,ex,_⟩:=I.hok p _ hk
     exact⟨o,e,ex⟩
    ·obtain⟨_,_,_,_,o,_,_,e,ex,_⟩:=I.hok p _ hk
     exact⟨o,e,ex⟩
   obtain⟨o,e,ex⟩:=z;refine⟨⟨o,e,ex.1⟩,λa e2=>?_⟩
   cases e2
   exact⟨o,e,ex.2.1⟩
  ·obtain⟨o,_,_,_,e,ex,_⟩:=I.hok p _ hk
   refine⟨⟨o,e,ex.1⟩,λa e2=>?_⟩
   cases e2
   exact⟨o,e,ex.2.1⟩
 | _=>exact qM ty
noncomputable def tBM0 (K:qf)(T:String)(r:V->List V->Hp->VK->Prop)(to:TE):TE:=fun σ H Q=>to σ H λx H1=>tyV K T x H1/\r x [] H1 Q
noncomputable def tBM (K:qf)(T:String)(r:V->List V->Hp->VK->Prop)(to:TE)(t:TA):TE:=fun σ H Q=>to σ H λx H1=>tyV K T x H1/\t σ H1 λxs H2=>r x xs H2 Q
variable {o e:Expr}{es:List Expr}{to:TE}{t:TA}{name:Str}{apos cpos:Pos}{T id:String}{r:V->List V->Hp->VK->Prop}
theorem ZnB (pa:PlainAttrs T)(slot:Slot T name id)(hty:typeOf (.builtin id)=pure (.type "method_descriptor"))(hm:B7 X id r)(ho:PE X o to)
  (hbase:xq o name X.env (eval o X.env)=eval o X.env:=by rfl) (hline:(apos.endLine==cpos.line)=true:=by rfl):PE X (.Call (.Attribute o name apos) [] [] cpos) (tBM0 X.K T r to):=by
 intro jJ s σ H Q I h;refine wpAny_Call_method0_late hbase hline (ZD (ho jJ s σ H _ I h) λv s1 ⟨x,H1,I1,r1,ty,q1⟩=>?_);obtain⟨h1,h2⟩:=ZjP I1 r1 ty;exact⟨T,id,pa,slot,hty,h1,h2,yT rfl (PySem.evalArgs_none (hm jJ s1 σ H1 x [] v [] Q I1 r1 .nil q1))⟩
theorem BG (pa:PlainAttrs T)(slot:Slot T name id)(hty:typeOf (.builtin id)=pure (.type "method_descriptor"))(hm:B7 X id r)(ho:PE X o to)(ha:PA X (e::es) t)
  (hbase:xq o name X.env (eval o X.env)=eval o X.env:=by rfl)
  (hfew:((backTo cpos (xh (e::es) X.env)).all (λx=>!x.1)&&(xp cpos (xi [] X.env)).all (λx=>x.1.isSome)
   && decide ((e::es).length+([]:List Keyword).length+(if ([]:List Keyword).isEmpty then 0 else 1)<30))=true:=by rfl)
  (hline:(apos.endLine==cpos.line)=true:=by rfl) (hs:xh (e::es) X.env=(false,eval e X.env)::xh es X.env:=by rfl) (hplain:(backTo cpos (xh es X.env)).any (·.1)=false:=by rfl) :
  PE X (.Call (.Attribute o name apos) (e::es) [] cpos) (tBM X.K T r to t):=by
 intro jJ s σ H Q I h;refine wpAny_Call_method_late hbase hfew hline rfl (ZD (ho jJ s σ H _ I h) λv s1 ⟨x,H1,I1,r1,ty,q1⟩=>?_);obtain⟨h1,h2⟩:=ZjP I1 r1 ty;refine⟨T,id,pa,slot,hty,h1,h2,?_⟩;have hA:=ha cpos jJ s1 σ H1 _ I1 q1;rw[hs]at hA⊢;refine yT (by show(false||(backTo cpos (xh es X.env)).any (·.1))=false;rw[hplain] <;> rfl) (qad ?_);exact ZD hA λus s2 ⟨vs,H2,I2,r2,q2⟩=>hm jJ s2 σ H2 x vs v us Q I2 r1 r2 q2
end
noncomputable def MtM (X:Cx)(id:String)(r:V->List V->Hp->VK->Prop):Prop:=
 ∀(jJ:Qb) (s:Shared) (σ:St) (H:Hp) (x:V) (xs:List V) (v:Value) (us:List Value) (Q:VK),Inv X jJ σ H s->ZE x v->Zy xs us->r x xs H Q->
  xf (xw X.prog X.w) X.A (call (.builtin id) (v::us)) (EP X jJ σ Q) X.xe s
theorem Zy.one:∀{x:V} {us:List Value},Zy [x] us->∃u,us=[u]/\ZE x u
 | _,_,.cons r .nil=>⟨_,rfl,r⟩
theorem Zy.two:∀{x y:V} {us:List Value},Zy [x,y] us->∃u v,us=[u,v]/\ZE x u/\ZE y v
 | _,_,_,.cons r (.cons q .nil)=>⟨_,_,rfl,r,q⟩
theorem Zy.zero:∀{us:List Value},Zy [] us->us=[]
 | _,.nil=>rfl
theorem Zy.dropLast (h:Zy xs us):Zy xs.dropLast us.dropLast:=by
 induction h with
 | nil=>exact .nil
 | cons r t ih=>
  cases t with
  | nil=>exact .nil
  | cons q t'=>exact .cons r ih
theorem Zy.rep (h:Zy xs us):∀k:Nat,Zy (qk k xs).flatten (qk k us).flatten
 | 0=>.nil
 | k+1=>by
  exact Zy.append h (Zy.rep h k)
theorem ZbO (jK:List Value):∀(k:Nat) (jU:List Value),
  qae (λx1 x2=>x1++x2) jU.toArray (qk k jK.toArray)=(jU++(qk k jK).flatten).toArray
 | 0,jU=>by simp
 | k+1,jU=>by
  have e:jU.toArray++jK.toArray=(jU++jK).toArray:=by simp
  have e2:(jU++jK)++(qk k jK).flatten=jU++(qk (k+1) jK).flatten:=by
   grind
  rw[<-e2,<-ZbO jK k (jU++jK),<-e,List.replicate_succ,List.foldl_cons]
section
variable {X:Cx}{jJ:Qb}{σ:St}{H:Hp}{s:Shared}{l b:Addr}{xs ys zs:List V}
theorem Inv.lset {jK:List Value}(I:Inv X jJ σ H s)(hH:H l=some (.lst xs))
  (e:s.heap.get? l=some { cls:=.type "list",data:=.seq jK.toArray n }) (hf:f jK.toArray=its'.toArray) (hv:Zy ys its') (hz:ys.length<=xg) :
  Inv X jJ σ (upd H l (.lst ys)) { s with heap:=s.heap.update l (zm f),toks:=t' }:=by
 have q:=PySem.IsL.update e f;rw[hf]at q;refine I.write (by rw[hH];exact trivial) (.inl rfl) (λb' u hb hu=>(qbd s.heap (zm f) (qN hb)).trans hu) ⟨_,q⟩ ?_;exact⟨hz,its',_,hv,q⟩
theorem Inv.lnew (I:Inv X jJ σ H s)(hv:Zy ys jK)(hz:ys.length<=xg) :
  Inv X jJ σ (upd H s.heap.objs.size (.lst ys)) { s with heap:=s.heap.push { cls:=.type "list",data:=.seq jK.toArray },toks:=t' }:=
 I.laid (λ_ _ q=>qj _ q) (qq _) ⟨hz,jK,0,hv,qw _ rfl⟩
theorem Inv.fresh (I:Inv X jJ σ H s):H s.heap.objs.size=none:=I.hok.fresh (qq _)
theorem Inv.lstM (I:Inv X jJ σ H s)(hH:H l=some (.lst xs)):xs.length<=xg/\∃(jK:List Value) (n:Nat),Zy xs jK/\xs.length=jK.length/\s.heap.get? l=some { cls:=.type "list",data:=.seq jK.toArray n }:=by
 obtain⟨z,jK,n,r,e⟩:=I.hok l _ hH;exact⟨z,jK,n,r,r.length,e⟩
theorem ZjQ (h:n<=xg):yC n=false:=by
 unfold yC
 grind
end
section
variable {X:Cx}
noncomputable def Zcv:V->List V->Hp->VK->Prop:=λx vs H Q=>∃l xs y,x=.ref l/\vs=[y]/\H l=some (.lst xs)/\xs.length<xg/\Q .non (upd H l (.lst (xs ++ [y])))
theorem ZbP:MtM X "list.append" Zcv:=by
 intro jJ s σ H x vs v us Q I rx rv h;obtain⟨l,xs,y,rfl,rfl,hH,hz,q⟩:=h
 cases rx
 obtain⟨u,rfl,ru⟩:=rv.one;obtain⟨z,jK,n,r,hl,e⟩:=I.lstM hH;refine call_meets F.slot_list_append ⟨_,e,rfl⟩ F.entry_list_append (F.args_list_append_2 _ _) (PySem.list_append l jK.toArray n u (by grind)) ⟨e,?_⟩;refine⟨.non,_,I.lset hH e (by simp) (r.append (.cons ru .nil)) ?_,rfl,q⟩
 grind
noncomputable def rPop:V->List V->Hp->VK->Prop:=λx vs H Q=>∃l xs y,x=.ref l/\vs=[]/\H l=some (.lst xs)/\xs[xs.length-1]?=some y/\Q y (upd H l (.lst xs.dropLast))
theorem ZnC:MtM X "list.pop" rPop:=by
 intro jJ s σ H x vs v us Q I rx rv h;obtain⟨l,xs,y,rfl,rfl,hH,hy,q⟩:=h
 cases rx
 have hus:=rv.zero;subst hus;obtain⟨z,jK,n,r,hl,e⟩:=I.lstM hH;obtain⟨u,hu,ru⟩:=r.get hy;have hy':jK.toArray[jK.toArray.size-1]?=some u:=by
  simp_all
 refine call_meets F.slot_list_pop ⟨_,e,rfl⟩ F.entry_list_pop (F.args_list_pop_1 _) (MeetsSeq.list_pop_last l jK.toArray n u hy' (by simp_all)) ⟨e,?_⟩;refine⟨y,_,I.lset hH e ?_ r.dropLast ?_,ru,q⟩
 ·simp
 ·rw[List.length_dropLast]
  omega
noncomputable def rCat:R2:=λx y H Q=>∃l b xs zs,x=.ref l/\y=.ref b/\H l=some (.lst xs)/\H b=some (.lst zs)/\xs.length+zs.length<=xg/\∀p,H p=none->Q (.ref p) (upd H p (.lst (xs++zs)))
theorem ZnD:Yc X (binaryOp .Add) rCat:=by
 intro jJ s σ H x y v u Q I rx ry h;obtain⟨l,b,xs,zs,rfl,rfl,hH,hB,hz,q⟩:=h
 cases rx
 cases ry
 obtain⟨z,jK,n,r,hl,e⟩:=I.lstM hH;obtain⟨z2,ke,n2,r2,hl2,e2⟩:=I.lstM hB;refine PySem.P.add_list e e2 ?_ (by simp_all);have ea:jK.toArray++ke.toArray=(jK++ke).toArray:=by simp
 rw[ea];exact⟨.ref _,_,I.lnew (r.append r2) (by simp_all),rfl,q _ I.fresh⟩
noncomputable def rRep:R2:=λx y H Q=>∃l k xs,x=.ref l/\y=.int k/\H l=some (.lst xs)/\-(2 ^ 63)<=k/\k<2 ^ 63/\xs.length*k.toNat<=xg/\
 ∀p,H p=none->Q (.ref p) (upd H p (.lst (qk k.toNat xs).flatten))
theorem Zei {α:Type}(xs:List α)(k:Nat):(qk k xs).flatten.length=k*xs.length:=by
 simp
theorem ZnE:Yc X (binaryOp .Mult) rRep:=by
 intro jJ s σ H x y v u Q I rx ry h;obtain⟨l,k,xs,rfl,rfl,hH,h1,h2,hz,q⟩:=h
 cases rx
 obtain⟨t,rfl⟩:=ry;obtain⟨z,jK,n,r,hl,e⟩:=I.lstM hH;have jR:jK.toArray.size*k.toNat<=xg:=by rw[za,<-hl];exact hz
 have hcap:¬jK.toArray.size*k.toNat > (2 ^ 63-1) / 8:=by
  have:(xg:Nat)<=(2 ^ 63-1) / 8:=by decide
  omega
 have hfit:¬(!Builtin.List.listFitsIndex k)=true:=by
  rw[fitsIndex_both h1 h2];exact zj
 have hlong:¬yC (jK.toArray.size*k.toNat)=true:=by
  rw[ZjQ jR];exact zj
 have hnew:qae (λx1 x2=>x1++x2) #[] (qk (if jK.toArray.isEmpty=true then 0 else k.toNat) jK.toArray)=(qk k.toNat jK).flatten.toArray:=by
  have f0:∀m,qae (λx1 x2=>x1++x2) #[] (qk m jK.toArray)=(qk m jK).flatten.toArray:=λm=>by
   have:=ZbO jK m [];simp_all
  rw[f0]
  cases jK with
  | nil=>simp
  | cons a r'=>rfl
 refine wpAny_binaryOp_repeat_ref (by decide) ⟨_,e,rfl⟩ (λs'=>typeIs_int s' k t) noFill_list_mul qaf zD repeat_list yX.lookup
  (call_meets zD (typeIs_int s k t) yY (yO _ _) (int___rmul___int_list k t l jK.toArray n)
   ⟨e,rfl,⟨_,e,rfl⟩,call_meets F.slot_list_mul ⟨_,e,rfl⟩ F.entry_list_mul (F.args_list_mul_2 _ _) (AutoListH.list___mul___list_int_3 l jK.toArray n k t hfit hcap hlong) ⟨e,?_⟩⟩)
 rw[hnew];exact⟨.ref _,_,I.lnew (r.rep k.toNat) (by rw[Zei,qbH];exact hz),rfl,q _ I.fresh⟩
end
section
variable {prog:xy}{w:World}{A:xz}{E:xA}{s:Shared}
end
section
variable {X:Cx}
end
section
variable {κ:Type}[DecidableEq κ]
noncomputable def ZS (kvs:List (κ×V))(k:κ):Option V:=(kvs.find? λkv=>decide (kv.1=k)).map (·.2)
noncomputable def YW (kvs:List (κ×V))(k:κ)(v:V):List (κ×V):=
 if (kvs.any λkv=>decide (kv.1=k))=true then kvs.map (λkv=>if kv.1=k then (kv.1,v)else kv)else kvs ++ [(k,v)]
noncomputable def V1 (kvs:List (κ×V))(k:κ):List (κ×V):=kvs.filter λkv=>decide (kv.1≠k)
theorem Wq {p:κ×V}(e:p.1=k):ZS (p::r) k=some p.2:=by simp[ZS,e]
theorem Wr {p:κ×V}(e:¬p.1=k):ZS (p::r) k=ZS r k:=by simp[ZS,e]
theorem Bk (k:κ):∀kvs:List (κ×V),(kvs.any λkv=>decide (kv.1=k))=(ZS kvs k).isSome
 | []=>rfl
 | p::r=>by
  rw[qby];by_cases e:p.1=k
  ·simp only[Wq e,decide_eq_true e,Bool.true_or,Option.isSome_some]
  ·rw[Wr e,decide_eq_false e];exact Bk k r
theorem Ze4 (k j:κ)(y:V):∀kvs:List (κ×V),ZS (kvs.map λkv=>if kv.1=k then (kv.1,y)else kv) j=(ZS kvs j).map λx=>if j=k then y else x
 | []=>rfl
 | p::r=>by
  have ih:=Ze4 k j y r;rw[qK];by_cases h:p.1=k
  ·rw[if_pos h]
   by_cases e:p.1=j
   ·rw[Wq (p:=(p.1,y)) e,Wq e,qba,if_pos (e.symm.trans h)]
   ·rw[Wr (p:=(p.1,y)) e,Wr e,ih]
  ·rw[if_neg h]
   by_cases e:p.1=j
   ·rw[Wq e,Wq e,qba,if_neg (λz=>h (e.trans z))]
   ·rw[Wr e,Wr e,ih]
theorem ZdK (k j:κ)(y:V):∀kvs:List (κ×V),ZS kvs k=none->ZS (kvs ++ [(k,y)]) j=if j=k then some y else ZS kvs j
 | [],_=>by
  by_cases e:k=j
  ·rw[if_pos e.symm];exact Wq e
  ·rw[if_neg (λz=>e z.symm)];exact Wr e
 | p::r,hn=>by
  rw[List.cons_append];have hk:¬p.1=k:=λz=>by rw[Wq z]at hn;cases hn
  rw[Wr hk]at hn;have ih:=ZdK k j y r hn;by_cases e:p.1=j
  ·rw[Wq e,Wq e,if_neg (λz=>hk (e.trans z))]
  ·rw[Wr e,Wr e,ih]
theorem Ze5 (kvs:List (κ×V))(k j:κ)(y:V):ZS (YW kvs k y) j=if j=k then some y else ZS kvs j:=by
 unfold YW;by_cases a:(kvs.any λkv=>decide (kv.1=k))=true
 ·rw[if_pos a,Ze4]
  rw[Bk]at a;by_cases e:j=k
  ·obtain⟨x,hx⟩:=qU.mp a
   grind
  ·simp_all
 ·rw[if_neg a]
  refine ZdK k j y kvs ?_;rw[Bk]at a;simp_all
theorem Jm (kvs:List (κ×V))(k:κ)(v:V):(YW kvs k v).length<=kvs.length+1:=by
 unfold YW;split
 ·simp
 ·simp
theorem Ze6 {kvs:List (κ×V)}(v:V)(h:ZS kvs k=none):YW kvs k v=kvs ++ [(k,v)]:=by
 unfold YW;rw[Bk,h];rfl
theorem Ub.isSome_eq (r:Ub o u):o.isSome=u.isSome:=by
 cases o with
 | none=>cases u with
  | none=>rfl
  | some _=>exact(show False from r).elim
 | some _=>cases u with
  | none=>exact(show False from r).elim
  | some _=>rfl
theorem KV.val (r:KV kvs vs)(k:κ):Ub (ZS kvs k) (valueAt vs k):=by
 induction r with
 | nil=>exact zl
 | @cons p q ps qs h t ih=>
  obtain⟨h1,h2⟩:=h;by_cases e:p.1=k
  ·have e':=h1.symm.trans e
   have b:valueAt (q::qs) k=some q.2:=by simp[valueAt,e']
   rw[Wq e,b];exact h2
  ·have e':¬q.1=k:=λz=>e (h1.trans z)
   have b:valueAt (q::qs) k=valueAt qs k:=by simp[valueAt,e']
   rw[Wr e,b];exact ih
theorem KV.any (r:KV kvs vs)(k:κ):(kvs.any λkv=>decide (kv.1=k))=vs.any λkv=>decide (kv.1=k):=by
 induction r with
 | nil=>rfl
 | cons h t ih=>simp_all
theorem KV.repl (r:KV kvs vs)(k:κ)(ry:ZE y u) :
  KV (kvs.map λkv=>if kv.1=k then (kv.1,y)else kv) (vs.map λkv=>if kv.1=k then (kv.1,u)else kv):=by
 induction r with
 | nil=>exact .nil
 | @cons p q ps qs h t ih=>
  refine .cons ?_ ih;by_cases e:p.1=k
  ·simp_all
  ·simp_all
theorem KV.put (r:KV kvs vs)(k:κ)(ry:ZE y u):KV (YW kvs k y) (stored vs k u):=by
 unfold YW stored;rw[r.any k];by_cases e:(vs.any λkv=>decide (kv.1=k))=true
 ·rw[if_pos e,if_pos e];exact r.repl k ry
 ·rw[if_neg e,if_neg e];exact Paired.snoc r ⟨rfl,ry⟩
theorem KV.length {kvs:List (κ×V)}(r:KV kvs vs):kvs.length=vs.length:=z7 r
end
theorem BH (r:ZE (kV k) u):(Wt P w).is k u=true:=by
 cases k with
 | inl i=>obtain⟨t,e⟩:=(show ∃t,u=qav i t from r);subst e;exact ZeZ P w i t
 | inr x=>obtain⟨t,e⟩:=(show ∃t,u=qa8 x t from r);subst e;exact Ze0 P w x t
theorem ZdL:∀{ks:List ZC} {us:List Value},Zy (ks.map kV) us->ItemsAre (Wt P w) ks us
 | [],_,r=>by cases r;exact .nil
 | k::ks,_,r=>by
  cases r with
  | cons h t=>exact .cons (BH h) (ZdL t)
noncomputable abbrev KT (H:Hp):List (List ZC×V)->List (List ZC×Addr×Value)->Prop:=Paired λp q=>p.1=q.1/\H q.2.1=some (.tup (p.1.map kV))/\ZE p.2 q.2.2
theorem KT.val (r:KT H kvs xs)(k:List ZC):Ub (ZS kvs k) ((atKey xs k).map (·.2)):=by
 induction r with
 | nil=>exact zl
 | @cons p q ps qs h t ih=>
  obtain⟨h1,_,h2⟩:=h;by_cases e:p.1=k
  ·have e':=h1.symm.trans e
   have b:atKey (q::qs) k=some q.2:=by simp[atKey,e']
   rw[Wq e,b];exact h2
  ·have e':¬q.1=k:=λz=>e (h1.trans z)
   have b:atKey (q::qs) k=atKey qs k:=by simp[atKey,e']
   rw[Wr e,b];exact ih
theorem KT.repl (r:KT H kvs xs)(k:List ZC)(ry:ZE y u) :
  KT H (kvs.map λkv=>if kv.1=k then (kv.1,y)else kv) (xs.map (putAt k u)):=by
 induction r with
 | nil=>exact .nil
 | @cons p q ps qs h t ih=>
  refine .cons ?_ ih;unfold putAt;by_cases e:p.1=k
  ·simp_all
  ·simp_all
theorem KT.put (r:KT H kvs xs)(k:List ZC)(hb:H b=some (.tup (k.map kV)))(ry:ZE y u) :
  KT H (YW kvs k y) (storedH xs k b u):=by
 have e:(kvs.any λkv=>decide (kv.1=k))=(atKey xs k).isSome:=by
  rw[Bk,(r.val k).isSome_eq,qaI]
 unfold YW storedH;rw[e];by_cases q:(atKey xs k).isSome=true
 ·rw[if_pos q,if_pos q];exact r.repl k ry
 ·rw[if_neg q,if_neg q];exact Paired.snoc r ⟨rfl,hb,ry⟩
theorem KT.keeps (r:KT H kvs xs)(ht:∀b ys,H b=some (.tup ys)->H' b=some (.tup ys)):KT H' kvs xs:=
 Paired.mapP r λ_ _ z=>⟨z.1,ht _ _ z.2.1,z.2.2⟩
section
variable {P:xy}{w:World}{H:Hp}{h:Heap}{a:Addr}
theorem ZmV (ok:Yf P w H h)(e:Rd H a u):Ym P w H h a u:=e.ok ok
theorem ZhC (ok:Yf P w H h)(e:Rd H a (.dK kvs)):kvs.length<=xg/\(a==sysModules)=false/\∃vs,KV kvs vs/\h.DictOf (Wt P w) a vs:=
 show Ym P w H h a (.dK kvs)from ZmV ok e
theorem ZmW (ok:Yf P w H h)(e:H a=some (.dK kvs)):kvs.length<=xg/\(a==sysModules)=false/\∃vs,KV kvs vs/\h.DictOf (Wt P w) a vs:=ZhC ok (.inl e)
theorem JE (ok:Yf P w H h)(e:H a=some (.tup (ks.map kV))):(tupleKind (Wt P w)).is h ks a:=by
 obtain⟨_,jK,r,o,h1,h2,n,h3⟩:=(show Ym P w H h a (.tup (ks.map kV))from ok a _ e);exact⟨o,jK.toArray,n,h1,h2,h3,by simpa using ZdL r⟩
theorem ZhD (ok:Yf P w H h)(e:Rd H a (.dT kvs)):kvs.length<=xg/\(a==sysModules)=false/\
  ∃xs,KT H kvs xs/\h.DictOfH (tupleKind (Wt P w)) a xs:=by
 obtain⟨z,y,xs,r,o,es,ep,h1,h2,h3,h4,h5⟩:=(show Ym P w H h a (.dT kvs)from ZmV ok e);refine⟨z,y,xs,r,o,es,ep,h1,h2,h3,h4,λx hx=>?_,h5⟩;have all:∀{l:List (List ZC×V)} {m:List (List ZC×Addr×Value)},KT H l m->∀x∈m,(tupleKind (Wt P w)).is h x.1 x.2.1:=by
  intro l m q
  induction q with
  | nil=>simp
  | @cons p q ps qs hq t ih=>
   intro x hx;rcases qy.mp hx with e | hx
   ·exact JE ok (by simp_all)
   ·exact ih x hx
 exact all r x hx
theorem ZjR (ok:Yf P w H h)(e:H a=some (.dT kvs)):kvs.length<=xg/\(a==sysModules)=false/\
  ∃xs,KT H kvs xs/\h.DictOfH (tupleKind (Wt P w)) a xs:=ZhD ok (.inl e)
end
noncomputable def WA (H:Hp)(a:Addr)(y:V)(r:Option V):Prop:=
 (∃kvs k,Rd H a (.dK kvs)/\y=kV k/\r=ZS kvs k)∨∃kvs k b,Rd H a (.dT kvs)/\y=.ref b/\H b=some (.tup (k.map kV))/\r=ZS kvs k
noncomputable def WV (H:Hp)(a:Addr)(y v:V)(H':Hp):Prop:=
 (∃kvs k,H a=some (.dK kvs)/\y=kV k/\kvs.length<xg/\H'=upd H a (.dK (YW kvs k v)))∨
 ∃kvs k b,H a=some (.dT kvs)/\y=.ref b/\H b=some (.tup (k.map kV))/\kvs.length<xg/\H'=upd H a (.dT (YW kvs k v))
theorem WA.k {k:ZC}(e:H a=some (.dK kvs)):WA H a (kV k) (ZS kvs k):=.inl ⟨kvs,k,.inl e,rfl,rfl⟩
theorem WA.t {k:List ZC}(e:H a=some (.dT kvs))(eb:H b=some (.tup (k.map kV))):WA H a (.ref b) (ZS kvs k):=.inr ⟨kvs,k,b,.inl e,rfl,eb,rfl⟩
theorem WV.k {k:ZC}(e:H a=some (.dK kvs))(hl:kvs.length<xg):WV H a (kV k) v (upd H a (.dK (YW kvs k v))):=.inl ⟨kvs,k,e,rfl,hl,rfl⟩
theorem WV.t {k:List ZC}(e:H a=some (.dT kvs))(eb:H b=some (.tup (k.map kV)))(hl:kvs.length<xg) :
  WV H a (.ref b) v (upd H a (.dT (YW kvs k v))):=.inr ⟨kvs,k,b,e,rfl,eb,hl,rfl⟩
section
variable {X:Cx}{jJ:Qb}{σ:St}{H:Hp}{s:Shared}{a:Addr}{y v:V}{u r:Value}{o:Option V}{A:xz}{E:xA}
theorem Inv.big (I:Inv X jJ σ H s):sysModules<s.heap.objs.size:=by
 have h:=(I.mod.glob.keeps I.bk).lt;exact qaU (by decide) h
theorem d_in (hu:A.units+1<cLine)(I:Inv X jJ σ H s)(g:WA H a y o)(ry:ZE y u)(h:∀s',Inv X jJ σ H s'->Q (.bool o.isSome) s') :
  xf (xw X.prog X.w) A (xk .In u (.ref a)) Q E s:=by
 rcases g with⟨kvs,k,e,ey,l⟩ | ⟨kvs,k,b,e,ey,eb,l⟩
 ·subst ey
  obtain⟨z,hd,vs,rel,dd⟩:=ZhC I.hok e;refine wpAny_in_of (BH ry) hd dd.mapOf ?_;rw[<-(rel.val k).isSome_eq,<-l];exact h _ (I.tok _)
 ·subst ey
  cases (show u=qm b from ry)
  obtain⟨z,hd,xs,rel,dd⟩:=ZhD I.hok e;refine wpAny_in_heap (tupleKind_room_in1 hu) (JE I.hok eb) hd dd ?_;have q:=(rel.val k).isSome_eq;rw[qaI]at q;rw[<-q,<-l];exact h _ (I.tok _)
theorem ZlX (hu:A.units+1<cLine)(I:Inv X jJ σ H s)(g:WA H a y o)(ry:ZE y u)(h:∀s',Inv X jJ σ H s'->Q (.bool (!o.isSome)) s') :
  xf (xw X.prog X.w) A (xk .NotIn u (.ref a)) Q E s:=by
 rcases g with⟨kvs,k,e,ey,l⟩ | ⟨kvs,k,b,e,ey,eb,l⟩
 ·subst ey
  obtain⟨z,hd,vs,rel,dd⟩:=ZhC I.hok e;refine wpAny_notIn_of (BH ry) hd dd.mapOf ?_;rw[<-(rel.val k).isSome_eq,<-l];exact h _ (I.tok _)
 ·subst ey
  cases (show u=qm b from ry)
  obtain⟨z,hd,xs,rel,dd⟩:=ZhD I.hok e;refine wpAny_notIn_heap (tupleKind_room_in1 hu) (JE I.hok eb) hd dd ?_;have q:=(rel.val k).isSome_eq;rw[qaI]at q;rw[<-q,<-l];exact h _ (I.tok _)
theorem Bo (I:Inv X jJ σ H s)(mu:B2 (H a))(hs:zv a s.heap h')(he:∃q,h'.get? a=some q)(new:Ym X.prog X.w (upd H a ob) h' a ob) :
  Inv X jJ σ (upd H a ob) { s with heap:=h',toks:=t' }:=
 I.write mu (.inl rfl) (λb q hb z=>(hs.2 b hb).trans z) he new
theorem ZjS (z:kvs.length<=xg)(hd:(a==sysModules)=false)(rel:KV kvs vs)(dd:h'.DictOf (Wt P w) a vs) :
  Ym P w H' h' a (.dK kvs):=⟨z,hd,vs,rel,dd⟩
theorem Ziu (hu:A.units+1<cLine)(I:Inv X jJ σ H s)(g:WV H a y v H')(ry:ZE y u)(rv:ZE v r)(h:∀s',Inv X jJ σ H' s'->Q () s') :
  xf (xw X.prog X.w) A (setItem (.ref a) u r) Q E s:=by
 rcases g with⟨kvs,k,e,ey,l,eH⟩ | ⟨kvs,k,b,e,ey,eb,l,eH⟩
 ·subst ey eH
  obtain⟨z,hd,vs,rel,dd⟩:=ZmW I.hok e;have hz:vs.length<=xg:=by rw[<-rel.length];exact z
  have hl:(YW kvs k v).length<=xg:=by have:=Jm kvs k v;omega
  refine wpAny_setItem_pairs (hsz:=hz) (BH ry) dd λh' dd' hs=>h _ ?_;have he:∃q,h'.get? a=some q:=let ⟨q,_,_,hq,_⟩:=dd';⟨q,hq⟩;exact Bo I (by rw[e];exact zl) hs he (ZjS hl hd (rel.put k rv) dd')
 ·subst ey eH
  cases (show u=qm b from ry)
  obtain⟨z,hd,xs,rel,dd⟩:=ZjR I.hok e;have hz:xs.length<=xg:=by rw[<-z7 rel];exact z
  have hl:(YW kvs k v).length<=xg:=by have:=Jm kvs k v;omega
  refine wpAny_setItem_heap (tupleKind_room_in1 hu) (JE I.hok eb) dd λh' dd' hs=>h _ ?_;obtain⟨q,es,ep,hq,h2,h3,h4,_,h5⟩:=dd';refine Bo I (by rw[e];exact zl) hs ⟨q,hq⟩ ⟨hl,hd,_,(rel.put k eb rv).keeps λc ys ec=>?_,q,es,ep,hq,h2,h3,h4,h5⟩;rw[Zj (Zjw ec e (λz=>nomatch z))];exact ec
end
section
variable {X:Cx}{jJ:Qb}{σ:St}{H:Hp}{s:Shared}{a:Addr}{kvs:List (ZC×V)}{k:ZC}{u:Value}{A:xz}{E:xA}
end
noncomputable def Zoy (td ty tv:TE):TS:=λD σ H=>tv σ H λv H1=>td σ H1 λx H2=>ty σ H2 λy H3=>∃a H4,x=.ref a/\WV H3 a y v H4/\D.nx σ H4
section
variable {X:Cx}{o i e value:Expr}{pos pos' tpos:Pos}{td ty tv:TE}
theorem ZlY (hu:X.A.units+1<cLine)(ho:PE X o td)(hi:PE X i ty)(hv:PE X value tv)(hs:xr value (some (.Subscript o i pos')) pos.line X.env=pure false) :
  PS X (.Assign [.Subscript o i pos'] value pos) (Zoy td ty tv):=by
 intro jJ s σ H D I h;refine wpAny_Assign_Subscript (ZD (hv jJ s σ H _ I h) λr s1 ⟨v,H1,I1,rv,q1⟩=>ZD (ho jJ s1 σ H1 _ I1 q1) λu s2 ⟨x,H2,I2,rx,q2⟩=>ZD (hi jJ s2 σ H2 _ I2 q2) λiv s3 ⟨y,H3,I3,ry,a,H4,ex,g,q3⟩=>?_) hs;subst ex;obtain rfl:u=qm a:=rx;exact Ziu hu I3 g ry rv λs4 I4=>⟨σ,H4,I4,q3⟩
end
theorem ZjT (h:Heap)(hb:sysModules<h.objs.size):Ym P w H (h.push { cls:=.type "dict",data:=.dict #[] }) h.objs.size (.dK []):=
 ⟨zc _,beq_eq_false_iff_ne.mpr (qN (qG hb)),[],.nil,Heap.DictOf.new h⟩
theorem Ze7 (h:Heap)(hb:sysModules<h.objs.size):Ym P w H (h.push { cls:=.type "dict",data:=.dict #[] }) h.objs.size (.dT []):=
 ⟨zc _,beq_eq_false_iff_ne.mpr (qN (qG hb)),[],.nil,_,#[],0,qw _ rfl,⟨rfl,rfl,rfl⟩,rfl,rfl,qbg⟩
noncomputable def Zej:TE:=λ_ H Q=>∀p,H p=none->Q (.ref p) (upd H p (.dT []))
section
variable {X:Cx}{pos:Pos}
theorem ZjU:PE X (.Dict [] [] pos) Zej:=λjJ s σ H Q I h=>
 wpAny_Dict_empty ⟨.ref s.heap.objs.size,_,I.laid (λ_ _ q=>qj _ q) (qq _) (Ze7 s.heap I.big),rfl,h _ (I.hok.fresh (qq _))⟩
end
structure M1 (X:Cx)(o:Expr)(m:Str)(apos:Pos)(e:Expr)(cpos:Pos):Prop where
 base:xq o m X.env (eval o X.env)=eval o X.env
 few:((backTo cpos (xh [e] X.env)).all (λx=>!x.1)&&(xp cpos (xi [] X.env)).all (λx=>x.1.isSome)
  && decide (([e]:List Expr).length+([]:List Keyword).length+(if ([]:List Keyword).isEmpty then 0 else 1)<30))=true
 line:(apos.endLine==cpos.line)=true
 trees:backTo cpos (xh [e] X.env)=[(false,eval e X.env)]
noncomputable def IsD (H:Hp)(a:Addr):Prop:=(∃kvs,Rd H a (.dK kvs))∨∃kvs,Rd H a (.dT kvs)
theorem ZnF {σ:St}(I:Inv X jJ σ H s)(d:IsD H a) :
  s.TypeIs (.ref a) "dict"/\(∀b,qm a=.ref b->∃ob,s.heap.get? b=some ob/\ob.dict=none)/\(a==sysModules)=false:=by
 rcases d with⟨kvs,e⟩ | ⟨kvs,e⟩
 ·obtain⟨_,hd,vs,_,dd⟩:=ZhC I.hok e
  refine⟨dd.typeIs,λb q=>?_,hd⟩
  cases q
  obtain⟨ob,_,_,h1,h2,_⟩:=dd;exact⟨ob,h1,h2.2.1⟩
 ·obtain⟨_,hd,xs,_,dd⟩:=ZhD I.hok e
  refine⟨dd.typeIs,λb q=>?_,hd⟩
  cases q
  obtain⟨ob,_,_,h1,h2,_⟩:=dd;exact⟨ob,h1,h2.2.1⟩
section
variable {X:Cx}{jJ:Qb}{σ:St}{H:Hp}{s:Shared}{a:Addr}{y d:V}{u r:Value}{o:Option V}{A:xz}{E:xA}
end
section
variable {X:Cx}{o e f:Expr}{apos cpos:Pos}{td ty tx:TE}
end
section
variable {X:Cx}{jJ:Qb}{σ:St}{H:Hp}{s:Shared}{a:Addr}{kvs:List (ZC×V)}{A:xz}{E:xA}
end
section
variable {X:Cx}{jJ:Qb}{σ:St}{H:Hp}{s:Shared}{a:Addr}{y:V}{u:Value}{A:xz}{E:xA}
end
end L2
namespace Att
open PySem.W PySem.Calls
theorem Zco:∀(ns:List Int) (vs:List Value),WellAll P h vs (ns.map WData.int)->IntsAre vs ns:=by
 intro ns
 induction ns with
 | nil=>
  intro vs w
  cases w
  exact .nil
 | cons n ns ih=>
  intro vs w
  cases w with
  | cons a b=>
   cases a
   exact .cons _ _ (ih _ b)
theorem Ziv {l:OpenLaw}(hn:l.most=some n)
  (hpre:l.row.toRowW.claim.pre args=true) (hwl:WellAll P h vals args) :
  ∃a vs ns,vals=[qm a]/\args=[WData.list (ns.map WData.int)]/\h.get? a=some { cls:=.type "list",data:=.seq vs.toArray }/\IntsAre vs ns/\ns.length<=n:=by
 have hsh:=(pre_splitW hpre).1;have hc:l.pre.holds [] { args:=args }=true:=(pre_splitW hpre).2;obtain⟨d,r,rfl,h1,h2⟩:=hasAllW_cons hsh;obtain rfl:=hasAllW_nil h2;obtain⟨xs,rfl,h3⟩:=hasW_list h1;obtain⟨ns,rfl⟩:=items_int h3;have jR:ns.length<=n:=by
  have h4:(WTm.not (.lt (.lit (.int (n:Int))) (.len (.arg 0)))).holds [] { args:=[.list (ns.map .int)] }=true:=by
   have h4:=(holds_andW hc).1;simp_all
  have h5:=condW_of h4 (w_not (w_lt w_lit (w_len_list (w_arg rfl))));simp_all
 cases hwl with
 | cons w1 w2=>
  cases w2
  cases w1 with
  | list ho hall=>exact⟨_,_,ns,rfl,rfl,ho,Zco ns _ hall,jR⟩
theorem Ziw (l:OpenLaw)(args:List WData):l.row.toRowW.claim.post args (.bool true) args=true:=
 postW_of
  (show WShape.has [] (.bool true) .bool=true by rfl)
  (show(WTm.eq .res (.lit (.bool true))).value [] { args:=args,res:=some (.bool true),after:=args }=some (.bool (true==true))from w_eq_bool (w_res rfl) w_lit) rfl
theorem attach_call {l:OpenLaw}
  (hn:l.most=some n) (hdf:d.params.defaults=[])
  (call:∀(w:World) (s₀ s₁:Shared) (mg mb:Str->Option Value) (fa:Addr) (o:Obj) (pm cd doc:Value) (a:Addr) (vs:List Value) (ns:List Int),
   Ground q loose [] XP w s₀ mg mb s₁.heap->YP w s₁.heap->
   s₁.heap.get? fa=some o->o.data=.func (docDef d.name d.params d.body d.scope pm cd doc)->s₁.heap.CodeRec cd d.name->mg d.name=some (.ref fa)->
   s₁.heap.get? a=some { cls:=.type "list",data:=.seq vs.toArray }->IntsAre vs ns->ns.length<=n->s₁.gens = #[]->
   xo (xw l.prog w) callerA (.call (.ref fa) ⟨[.ref a],[]⟩) (λr s'=>r=.ok (.ret (.bool true))/\OldK s₁.heap s'.heap/\s'.os=s₁.os/\AllBare s'.gens) s₁) :
  WalkO q loose XP YP l.row.toRowW d [] (λf vs=>qbr f vs):=by
 intro w s₀ s₁ mg mb G Y fa o pm cd doc dV kV ho hd hcd hD hmg hg args vals as hpre hlay hrd hwl hlo;obtain rfl:dV=.none:=Dflts.none hD hdf;obtain rfl:kV=.none:=Dflts.noKw hD;obtain⟨a,vs,ns,rfl,rfl,hobj,hints,jR⟩:=Ziv hn hpre hwl;refine enter_call (codeAny_mono (call w s₀ s₁ mg mb fa o pm cd doc a vs ns G Y ho (fd_plain hd) hcd hmg hobj hints jR hg) λr s' hq=>?_);obtain⟨rfl,h2,h3,h4⟩:=hq;exact⟨.inl ⟨.bool true,.bool true,[],rfl,λ_=>rfl,.bool true,Ziw l _,λ_=>⟨qaD.nil,λ_ hm=>(nomatch hm)⟩⟩,h2,h3,h4⟩
section
variable {prog:xy}{w:World}{A:xz}{E:xA}{s:Shared}{K:Frag}
end
end Att
namespace L2
theorem ZdM:∀{vs:List Value} {ns:List Int},IntsAre vs ns->Zy (ns.map V.int) vs
 | _,_,.nil=>.nil
 | _,_,.cons n t h=>.cons ⟨t,rfl⟩ (ZdM h)
noncomputable abbrev ZH:VG:=λ_ _ _ _ _ _=>False
noncomputable abbrev E0:XK:=λ_ _ _=>False
theorem BI:Wv ZH X E0:=λ_ _ _ _ _ _ _ h=>h.elim
structure Fun (K:qf)(x qual:Str)(st:Stmt)(f:Addr)(fd:xx):Prop where
 ex:∃(oc:Value) (od:Option Addr) (kV doc pm:Value) (an:Option Addr) (cdv ct:Value) (osl:Array (Option Value)),
  fd=zi x qual (Wc st) (Y6 st) (Zx st) .none kV doc pm an cdv ct/\K.lookup f=some ⟨oc,od,.func fd,osl⟩/\yk K cdv qual=true
 kp:qY K (.ref f)=true
section
variable {P:xy}{w:World}{K:qf}{mg:Str->Option Value}{base:Heap}
theorem Fun.ok {st:Stmt}(F:Fun K x qual st f fd)(S:FnScope N ps (Zx st))(len:∀vs H Q E,sp vs H Q E->vs.length=ps.length)
  (hbody:∀(cdv:Value) (A:xz) (outer:List Env) (s:Shared) (H:Hp) (vs:List V) (Q:VK) (E:XK),Room k (A.deeper (envOfC qual (Zx st) s.heap.objs.size f cdv))->sp vs H Q E->
   ∃t,YU (Xh ZH P w K mg base N qual (Zx st) f cdv A outer s H E).nox (Y6 st) t/\t { nx:=λ_ H'=>Q .non H',rt:=Q } (start N vs) H):FnOk P w K mg base ZH (k+1) f fd ps sp:=by
 obtain⟨oc,od,kV,doc,pm,an,cdv,ct,osl,rfl,lk,hcd⟩:=F.ex;refine ZjK lk hcd S len λA outer s H vs Q E hr hsp=>?_;obtain⟨t,h,q⟩:=hbody cdv A outer s H vs Q E hr hsp;exact⟨t,h.nox,q⟩
theorem Fun.binds {st:Stmt}(F:Fun K x qual st f fd)
  (h:∀(kV doc pm:Value) (an:Option Addr) (cdv ct:Value) (us:List Value),us.length=ps.length->bindArgs (zi x qual (Wc st) (Y6 st) (Zx st) .none kV doc pm an cdv ct) ⟨us,[]⟩=pure (ps.zip us)):YC K fd ps []:=by
 obtain⟨oc,od,kV,doc,pm,an,cdv,ct,osl,rfl,lk,hcd⟩:=F.ex;exact .all (h kV doc pm an cdv ct)
theorem ZjV {st:Stmt}{kV:Value}(l:K.lookup f=some ⟨oc,od,.func (zi x qual (Wc st) (Y6 st) (Zx st) .none kV doc pm an cdv ct),osl⟩)
  (c:yk K cdv qual=true) (k:qY K (.ref f)=true):Fun K x qual st f (zi x qual (Wc st) (Y6 st) (Zx st) .none kV doc pm an cdv ct):=⟨⟨oc,od,kV,doc,pm,an,cdv,ct,osl,rfl,l,c⟩,k⟩
end
theorem hu_of (hr:Room k A):A.units+1<cLine:=Nat.lt_of_le_of_lt (Nat.add_le_add_left (by decide:1<=64) _) hr.units
section
variable {X:Cx}
theorem pv (i:Nat){pos:Pos}(hN:X.N[i]?=some x:=by rfl)(hv:B3 X.env.scope x:=by first | exact qz rfl | exact qag (qz rfl) | exact qag (qag rfl))(hd:(x==("__debug__" : Str))=false:=by decide)
  (hcd:(x==("__classdict__" : Str))=false:=by decide):PE X (.Name x pos) (ZR i):=Zni hN hv hd hcd
end
theorem XV {A:Prop}(h:B):if false=true then A else B:=by
 grind
theorem WW {A:Prop}(h:A):if true=true then A else B:=by
 exact h
section
variable {X:Cx}
end
section
variable {κ:Type}[DecidableEq κ]
end
theorem Ze8 (I:Nat->Shared->Prop)
  (turn:∀n s,I n s->xf (xw prog w) A (pyNext it) (λr s₁=>match r with
   | none=>R (.ok .next) s₁
   | some v=>xf (xw prog w) A (letOwnedTupleGo target it v) (λ_ s₁'=>xf (xw prog w) A (assign target env v) (λ_ s₂=>
     xf (xw prog w) A (forIn ifs true λc r=>if r=true then do let ok<-isTrue c env (eval c env);pure (yd ok)else pure (yd r)) (λok s₃=>
      if ok=true then xf (xw prog w) A (eval elt env) (λx s₄=>
       xf (xw prog w) A (call (.builtin "list.append") [jU,x]) (λ_ s₅=>∃m,m<n/\I m s₅) (notedBy (xw prog w) A env λe s'=>R (.error e) s') s₄) (notedBy (xw prog w) A env λe s'=>R (.error e) s') s₃
      else ∃m,m<n/\I m s₃) (notedBy (xw prog w) A env λe s'=>R (.error e) s') s₂) (notedBy (xw prog w) A env λe s'=>R (.error e) s') s₁') (notedBy (xw prog w) A env λe s'=>R (.error e) s') s₁) (notedBy (xw prog w) A env λe s'=>R (.error e) s') s)
  (n:Nat) (h:I n s) :
  xo (xw prog w) A (.compLoop (.ListComp elt [⟨target,iter,ifs,0⟩] scope pos) 0 it jU env) R s:=by
 refine codeAny_loop rfl I (λn s hI=>?_) n h;show xf _ A ((compTurn (.ListComp elt [⟨target,iter,ifs,0⟩] scope pos) 0 it jU env).onRaise (λx=>do noteFrame x env;theTreesLotGoes x)) _ _ s;refine wpAny_noted ?_;rw[compTurn_list];refine xa (wpAny_standAt (xa (xc (turn n s hI) (λr s₁ h₁=>?_) λ_ _ h'=>h')))
 cases r with
 | none=>exact xb h₁
 | some v=>
  refine xa (xc h₁ (λ_ s₁' h₁'=>?_) λ_ _ h'=>h');refine xa (xc h₁' (λ_ s₂ h₂=>xa (xc h₂ (λok s₃ h₃=>?_) λ_ _ h'=>h')) λ_ _ h'=>h')
  cases ok with
  | false=>exact xb ⟨rfl,h₃⟩
  | true=>
   exact xa (xa (xc h₃ (λx s₄ h₄=>xa (xc h₄ (λ_ s₅ h₅=>xb (xb ⟨rfl,h₅⟩)) λ_ _ h'=>h')) λ_ _ h'=>h'))
noncomputable def Yx (X:Cx)(jJ:Qb)(N':List Str)(scope:Scope)(cl:List (Str×Addr))(C:Addr)(s:Shared)(H:Hp)(fp:List Addr):Cx where
 prog:=X.prog
 w:=X.w
 K:=X.K
 mg:=X.mg
 base:=X.base
 A:=X.A
 N:=N'
 s₀:=s
 H₀:=H
 env:=compEnvC scope cl C X.env
 outer:=X.stack
 stack:=X.stack
 ex:=fp
 fn:=λ_=>false
 calm:=X.calm
 pn:=X.pn++jJ
 xe:=λ_ _=>False
noncomputable def VE (X:Cx)(ifs:List Expr)(t:TT):Prop:=
 ∀(jJ:Qb) (s:Shared) (σ:St) (H:Hp) (Q:Bool->Hp->Prop),Inv X jJ σ H s->t σ H Q->
  xf (xw X.prog X.w) X.A (forIn ifs true λc r=>if r=true then do let ok<-isTrue c X.env (eval c X.env);pure (yd ok)else pure (yd r)) (TP X jJ σ Q) X.xe s
noncomputable def Zoz:TT:=λ_ H Q=>Q true H
theorem ZjW:VE X [] Zoz:=λ_ _ _ H _ I h=>xb ⟨H,I,h⟩
theorem ZjX (h:PT X c t):VE X [c] t:=λjJ s σ H Q I hq=>wpAny_tests_one (h jJ s σ H Q I hq)
structure BlkOk (X:Cx)(N':List Str)(src:List (Option Nat))(scope:Scope)(cl:List (Str×Addr)):Prop where
 clos:closureFor scope X.env=pure cl
 nocell:∀y∈scope.names,y.2≠.cell
 kind:scope.kind=.function
 names:∀y∈scope.names,y.2=.local->scope.names.lookup y.1=some .local
 len:src.length=N'.length
 cells:∀x c,cl.lookup x=some c->X.env.cells.lookup x=some c
 has:∀x,((relabel scope X.env).names.lookup x=some .cell∨(relabel scope X.env).names.lookup x=some .free)->∃c,cl.lookup x=some c
 from_:∀(i j:Nat) x,src[i]?=some (some j)->N'[i]?=some x->X.N[j]?=some x/\(X.env.kindOf x=some .cell∨X.env.kindOf x=some .free)/\((relabel scope X.env).names.lookup x=some .cell∨(relabel scope X.env).names.lookup x=some .free)
noncomputable def Vx (src:List (Option Nat))(σ:St):St:=src.map λo=>o.bind λj=>(σ[j]?).bind id
theorem ZlZ {σ:St}{C:Addr}
  (B:BlkOk X N' src scope cl) (I:Inv X jJ σ H s) (hf:∀b∈fp,Wz X jJ H b) (hC:s.heap.objs.size<=C) (hCf:∀b∈fp,b≠C)
  (hs:s1.os=s.os) (hg:s1.gens=s.gens) (hk:∀b o,s.heap.get? b=some o->s1.heap.get? b=some o) (hn:s1.heap.Ns C m):Inv (Yx X jJ N' scope cl C s H fp) [] (Vx src σ) H s1:=by
 have noC:∀b o,s.heap.get? b=some o->b≠C:=λb o e=>qG (qB (qt e) hC);refine⟨⟨I.ok.mod,B.kind,I.ok.glob,I.ok.blt,hC,λx y c h1 h2=>I.ok.inj x y c (B.cells _ _ h1) (B.cells _ _ h2),λx hx=>B.has x hx,λx c hf _=>(by cases hf),I.ok.hd,I.ok.frames,.inl rfl,λb hb=>?_,I.bs,qI I.ok.bsz I.sz,λb o e hb=>?_,λb hb z=>?_,I.stack,I.stkFree⟩,
  hs,by rw[hg];exact I.bare,Un.kept hk,⟨m,hn,λi x v h1 h2 h3=>?_⟩,λx c e=>?_,I.hok.fresh hC,λx c e=>I.freeC x c (B.cells _ _ e),λp hp=>?_,I.hok.kept hk,?_⟩
 ·obtain⟨f0,f1,f2,f3,f4,f5⟩:=hf b hb
  exact⟨hCf b hb,λx c e=>f4 x c (B.cells _ _ e)⟩
 ·obtain⟨f0,f1,f2,f3,f4,f5⟩:=hf b hb
  rcases f3 with z | z
  ·exact I.ok.noex b o e z
  ·exact absurd (qB (qt (I.ok.bs b o e).1) z) (zQ _)
 ·obtain⟨f0,f1,f2,f3,f4,f5⟩:=hf b hb
  rcases qy.mp (I.stkSub b z)with e | e
  ·exact f1 e
  ·exact f2 e
 ·have h2':(Vx src σ)[i]?=some (some v):=h2
  unfold Vx at h2';rw[qE]at h2'
  cases e:src[i]? with
  | none=>rw[e]at h2';cases h2'
  | some o=>
   rw[e]at h2'
   cases o with
   | none=>simp at h2'
   | some j=>
    obtain⟨q1,q2,q3⟩:=B.from_ i j x e h1;have hj:σ[j]?=some (some v):=by
     simp only[qba,Option.bind_some,Option.some.injEq]at h2'
     cases e2:σ[j]? with
     | none=>rw[e2]at h2';cases h2'
     | some o2=>rw[e2]at h2';simp at h2';rw[h2']
    obtain⟨mm,hnn,hl⟩:=I.loc;have vis:B3 X.env.scope x:=by
     rcases q2 with z | z
     ·exact .inr (.inl z)
     ·exact .inr (.inr z)
    obtain⟨u,r,l⟩:=hl j x v q1 hj vis;refine⟨u,r,?_⟩;rcases l with⟨k,_⟩ | ⟨_,c,ec,z⟩
    ·rcases q2 with z | z <;> rw[z]at k <;> cases k
    ·obtain⟨c',ec'⟩:=B.has x q3
     have ee:c'=c:=by
      have:=B.cells _ _ ec';rw[ec]at this;simp_all
     subst ee;obtain⟨o,ho,hd⟩:=z;exact .inr ⟨q3,c',ec',o,hk _ _ ho,hd⟩
 ·obtain⟨v,o,ho,hd⟩:=I.cell x c (B.cells _ _ e)
  exact⟨v,o,hk _ _ ho,hd⟩
 ·have hp':p∈X.pn++jJ:=by simpa[Yx]using hp
  obtain⟨e,n,ne,nf,d⟩:=I.pin p hp';refine⟨hk _ _ e,n,noC _ _ e,λz=>?_,d⟩;rcases qy.mp (I.stkSub p.1 z)with q | q
  ·exact ne q
  ·exact nf q
 ·show(Vx src σ).length=N'.length
  unfold Vx;rw[qp,B.len]
noncomputable def ZjY (src:List (Option Nat))(wi:TI)(g:TG)(tt:TT)(te:TE):TE:=fun σ H Q=>wi σ H λJ H1=>∀p,H1 p=none->
 ∃W:Nat->Nat->St->Hp->Prop,(∃m,W 0 m (Vx src σ) (upd H1 p (.lst [])))/\∀i m σ2 H2,W i m σ2 H2->
  (J.stop i H2/\Q (.ref p) H2)∨(J.go i H2/\∀x H3,J.yld i H2 x H3->g x σ2 H3 fun σ4 H4=>tt σ4 H4 λok H5=>
   if ok=true then te σ4 H5 λy H6=>∃xs,H6 p=some (.lst xs)/\xs.length<xg/\∃m',m'<m/\W (i+1) m' σ4 (upd H6 p (.lst (xs ++ [y])))
   else ∃m',m'<m/\W (i+1) m' σ4 H5)
theorem ZdN
  {σ:St} {Qp:Addr->Hp->Prop} {RR:Value->Addr->Result->Shared->Prop}
  (hc:X.calm=true) (B:BlkOk X N' src scope cl)
  (hg:∀jJ C s H fp,PG (Yx X jJ N' scope cl C s H fp) tg g) (ht:∀jJ C s H fp,VE (Yx X jJ N' scope cl C s H fp) ifs tt) (he:∀jJ C s H fp,PE (Yx X jJ N' scope cl C s H fp) elt te)
  (I2:Inv X jJ σ H2 s₂) (T:Turn X.prog X.w X.K tg J fp it tn) (j6:tn 0 s₂.heap) (f2:∀b∈fp,Wz X jJ H2 b)
  (q2:∀p,H2 p=none->∃W:Nat->Nat->St->Hp->Prop,(∃m,W 0 m (Vx src σ) (upd H2 p (.lst [])))/\∀i m σ2 H2,W i m σ2 H2->
   (J.stop i H2/\Qp p H2)∨(J.go i H2/\∀x H3,J.yld i H2 x H3->g x σ2 H3 fun σ4 H4=>tt σ4 H4 λok H5=>
    if ok=true then te σ4 H5 λy H6=>∃xs,H6 p=some (.lst xs)/\xs.length<xg/\∃m',m'<m/\W (i+1) m' σ4 (upd H6 p (.lst (xs ++ [y])))
    else ∃m',m'<m/\W (i+1) m' σ4 H5))
  (hfin:∀p C s6 H5 mm,Inv X jJ σ H5 s6->s6.heap.Ns C mm->Wz X jJ H5 C->Qp p H5->RR (.ref p) C (.ok .next) s6) :
  xf (xw X.prog X.w) X.A (newList []) (λjU s₃=>xf (xw X.prog X.w) X.A (newFunctionEnv scope X.env.globals cl [] X.env.qual none .none (some X.env)) (λcenv s₄=>
   xo (xw X.prog X.w) X.A (.compStart (.ListComp elt [⟨tg,iter,ifs,0⟩] scope pos) 0 (.ref it) jU { cenv with scope:=relabel scope X.env }) (RR jU cenv.locals) s₄) E s₃) E s₂:=by
 have fpold:∀b∈fp,b<s₂.heap.objs.size:=λb hb=>by
  obtain⟨o,e,_⟩:=T.obj _ _ j6 b hb;exact qt e
 have q2:=q2 s₂.heap.objs.size (I2.hok.fresh (qq _));obtain⟨W,⟨m0,w0⟩,turn⟩:=q2
 -- the new list
 refine xl ?_;have I3:Inv X jJ σ (upd H2 s₂.heap.objs.size (.lst [])) { s₂ with heap:=s₂.heap.push { cls:=.type "list",dict:=none,data:=.seq ([]:List Value).toArray } }:=
  I2.lnew (t':=s₂.toks) (ys:=[]) .nil (zc _)
 have st3:tn 0 (s₂.heap.push { cls:=.type "list",dict:=none,data:=.seq ([]:List Value).toArray }):=T.keep _ _ _ j6 λb _ o e=>qj _ e;have f3:∀b∈fp,Wz X jJ (upd H2 s₂.heap.objs.size (.lst [])) b:=λb hb=>by
  obtain⟨f0,f1⟩:=f2 b hb;exact⟨by rw[Zj (qG (fpold b hb))];exact f0,f1⟩
 generalize hs3:({ s₂ with heap:=s₂.heap.push { cls:=.type "list",dict:=none,data:=.seq ([]:List Value).toArray } }:Shared)=s₃ at I3;have st3':tn 0 s₃.heap:=by rw[<-hs3];exact st3
 have lt3:s₂.heap.objs.size<s₃.heap.objs.size:=by rw[<-hs3];show _<(Heap.push _ _).objs.size;rw[qbf];exact qaR _
 refine wpAny_newFunctionEnv B.nocell (by intro y hy;simp at hy) (λh₁ hns₁ hsb₁=>?_) B.kind;have kp1:∀b o,s₃.heap.get? b=some o->h₁.get? b=some o:=λb o e=>hsb₁.extBut b o (qG (qt e)) (qj _ e);have I4:=ZlZ (s1:={ s₃ with heap:=h₁,toks:=s₃.toks+([]:List (Str×Value)).length }) (C:=s₃.heap.objs.size) B I3 f3 (qq _) (λb hb=>qG (qaU (fpold b hb) lt3)) rfl rfl kp1 hns₁;have st4:tn 0 h₁:=T.keep _ _ _ st3' λb _ o e=>kp1 b o e;show xo (xw X.prog X.w) X.A (.compStart (.ListComp elt [⟨tg,iter,ifs,0⟩] scope pos) 0 (.ref it) (.ref s₂.heap.objs.size) (compEnvC scope cl s₃.heap.objs.size X.env)) (RR (.ref s₂.heap.objs.size) s₃.heap.objs.size) _;generalize hs4:({ s₃ with heap:=h₁,toks:=s₃.toks+([]:List (Str×Value)).length }:Shared)=s₄ at I4;have st4':tn 0 s₄.heap:=by rw[<-hs4];exact st4
 have blkX:∀{b:Addr} {H':Hp},b∈fp->H' b=none->Wz (Yx X jJ N' scope cl s₃.heap.objs.size s₃ (upd H2 s₂.heap.objs.size (.lst [])) fp) [] H' b:=λ{b H'} hb hn=>by
  obtain⟨f0,f1,f2',f3',f4',f5'⟩:=f3 b hb;refine⟨hn,qG (qaU (fpold b hb) lt3),λz=>?_,.inl hb,λx c e=>f4' x c (B.cells _ _ e),λp hp=>?_⟩
  ·rcases qy.mp (I3.stkSub b z)with e | e
   ·exact f1 e
   ·exact f2' e
  ·exact f5' p (by simpa[Yx]using hp)
 have loop:xo (xw X.prog X.w) X.A (.compLoop (.ListComp elt [⟨tg,iter,ifs,0⟩] scope pos) 0 (.ref it) (.ref s₂.heap.objs.size) (compEnvC scope cl s₃.heap.objs.size X.env)) (RR (.ref s₂.heap.objs.size) s₃.heap.objs.size) s₄:=by
  refine Ze8 (λn s'=>∃i σ' H',Inv (Yx X jJ N' scope cl s₃.heap.objs.size s₃ (upd H2 s₂.heap.objs.size (.lst [])) fp) [] σ' H' s'/\tn i s'.heap/\(∀b∈fp,H' b=none)/\W i n σ' H') ?_ m0 ⟨0,_,_,I4,st4',λb hb=>(f3 b hb).1,w0⟩;rintro n s5 ⟨i,σ5,H5,I5,st5,fr5,w5⟩;rcases turn i n σ5 H5 w5 with⟨stop,qn⟩ | ⟨go,step⟩
  ·refine xc (T.done (Yx X jJ N' scope cl s₃.heap.objs.size s₃ (upd H2 s₂.heap.objs.size (.lst [])) fp) rfl rfl rfl hc i [] s5 σ5 H5 (λ_ _=>False) I5 (λb hb=>blkX hb (fr5 b hb)) st5 stop) (λr s6 ⟨hr,I6⟩=>?_) λ_ _ f=>f.elim
   subst hr;obtain⟨mm,hnn,_⟩:=id I6.loc;have nC:H5 s₃.heap.objs.size=none:=I6.free;have J1:Inv X jJ σ H5 s6:=by
    refine I3.call' (ch:=fp) I6.os I6.base I6.hok I6.bare λb hb=>?_;obtain⟨f0,f1,f2',f3',f4',f5'⟩:=f3 b hb;exact⟨f3',f1,f4',f5'⟩
   exact hfin _ _ s6 H5 mm J1 hnn (I3.fpOk (qq _) nC) qn
  ·refine xc (T.item (Yx X jJ N' scope cl s₃.heap.objs.size s₃ (upd H2 s₂.heap.objs.size (.lst [])) fp) rfl rfl rfl hc i [] s5 σ5 H5 (λ_ _=>False) I5 (λb hb=>blkX hb (fr5 b hb)) st5 go) (λr s6 ⟨u,hr,h6⟩=>?_) λ_ _ f=>f.elim
   subst hr;refine xc h6 (λ_ s7 ⟨x,H7,I7,r7,y7,st7,fr7⟩=>?_) λ_ _ f=>f.elim;have I7':=I7.pinned (λb hb=>blkX hb (fr7 b hb)) (T.obj _ _ st7);refine xc (hg _ _ _ _ _ _ s7 σ5 H7 x u _ I7' r7 (step x H7 y7)) (λ_ s8 ⟨σ8,H8,I8,q8⟩=>?_) λ_ _ f=>f.elim;refine xc (ht _ _ _ _ _ _ s8 σ8 H8 _ I8 q8) (λok s9 ⟨H9,I9,q9⟩=>?_) λ_ _ f=>f.elim;have again:∀{σ7:St} {H7:Hp} {sz:Shared},Inv (Yx X jJ N' scope cl s₃.heap.objs.size s₃ (upd H2 s₂.heap.objs.size (.lst [])) fp) ([]++Bw fp s7.heap) σ7 H7 sz->(∃m',m'<n/\W (i+1) m' σ7 H7)->
     ∃m,m<n/\∃i σ' H',Inv (Yx X jJ N' scope cl s₃.heap.objs.size s₃ (upd H2 s₂.heap.objs.size (.lst [])) fp) [] σ' H' sz/\tn i sz.heap/\(∀b∈fp,H' b=none)/\W i m σ' H':=λ{σ7 H7 sz} Iz ⟨m',hm,wz⟩=>by
    refine⟨m',hm,i+1,σ7,H7,Iz.unpinned,T.keep _ _ _ st7 λb hb o e=>(Iz.pin (b,o) (qH _ (qH _ (Jp hb e)))).1,λb hb=>?_,wz⟩;obtain⟨o,e,d⟩:=T.obj _ _ st7 b hb;exact(Iz.pin (b,o) (qH _ (qH _ (Jp hb e)))).2.1
   cases ok with
   | false=>
    show ∃m,m<n/\_;exact again I9 (by simpa using q9)
   | true=>
    have q9':te σ8 H9 λy H6=>∃xs,H6 s₂.heap.objs.size=some (.lst xs)/\xs.length<xg/\∃m',m'<n/\W (i+1) m' σ8 (upd H6 s₂.heap.objs.size (.lst (xs ++ [y]))):=by simpa using q9
    show xf _ _ _ _ _ _;refine xc (he _ _ _ _ _ _ s9 σ8 H9 _ I9 q9') (λy sA ⟨yv,HA,IA,rA,xs,eA,zA,mA⟩=>?_) λ_ _ f=>f.elim;refine xc (ZbP (X:=Yx X jJ N' scope cl s₃.heap.objs.size s₃ (upd H2 s₂.heap.objs.size (.lst [])) fp) _ sA σ8 HA (.ref s₂.heap.objs.size) [yv] (.ref s₂.heap.objs.size) [y] (λ_ HB=>HB=upd HA s₂.heap.objs.size (.lst (xs ++ [yv]))) IA rfl (.cons rA .nil) ⟨_,xs,yv,rfl,rfl,eA,zA,rfl⟩) (λ_ sB ⟨_,HB,IB,_,eB⟩=>?_) λ_ _ f=>f.elim;subst eB;exact again IB mA
 exact codeAny_compStart_list loop (T.self _ 0 _ _ _ st4' loop)
theorem Zl0
  (hc:X.calm=true) (B:BlkOk X N' src scope cl) (hi:PI X tg iter wi)
  (hg:∀jJ C s H fp,PG (Yx X jJ N' scope cl C s H fp) tg g) (ht:∀jJ C s H fp,VE (Yx X jJ N' scope cl C s H fp) ifs tt) (he:∀jJ C s H fp,PE (Yx X jJ N' scope cl C s H fp) elt te)
  (hs:∀x,foldedSetIterable iter X.env x=pure x:=by intro _;rfl):PE X (.ListComp elt [⟨tg,iter,ifs,0⟩] scope pos) (ZjY src wi g tt te):=by
 intro jJ s σ H Q I h;refine wpAny_comprehension_free rfl hs B.clos B.kind B.names (xc (hi jJ s σ H _ I h) (λxv s₁ h₁=>xc h₁ (λit s₂ h₂=>?_) λ_ _ e=>e) λ_ _ e=>e);obtain⟨it,fp,tn,J,H2,e,I2,T,j6,f2,q2⟩:=h₂;subst e;refine ZdN hc B hg ht he I2 T j6 f2 q2 ?_;intro p C s6 H5 mm J1 hnn fC qn;refine⟨mm,hnn,λh' sb=>?_⟩;obtain⟨c0,c1,c2,c3,c4,c5⟩:=fC;exact⟨.ref p,H5,J1.turned (λb o hb e=>(sb.2 b hb).trans e) c0 c1 c3 c4 c5,rfl,qn⟩
theorem Zl1 {spos:Pos}
  (hN:X.N.Nodup) (hi':X.N[i]?=some x) (hx:Wn X.env.scope x)
  (hc:X.calm=true) (B:BlkOk X N' src scope cl) (hi:PI X tg iter wi)
  (hg:∀jJ C s H fp,PG (Yx X jJ N' scope cl C s H fp) tg g) (ht:∀jJ C s H fp,VE (Yx X jJ N' scope cl C s H fp) ifs tt) (he:∀jJ C s H fp,PE (Yx X jJ N' scope cl C s H fp) elt te)
  (hsw:xr (.ListComp elt [⟨tg,iter,ifs,0⟩] scope pos) (some (.Name x pos')) spos.line X.env=pure true:=by rfl)
  (hs:∀x,foldedSetIterable iter X.env x=pure x:=by intro _;rfl)
  (hf:X.fn x=true∨X.env.scope.names.lookup x=some .local:=by first | exact .inl rfl | exact .inr rfl | assumption) :
  PS X (.Assign [.Name x pos'] (.ListComp elt [⟨tg,iter,ifs,0⟩] scope pos) spos) (λD σ H=>ZjY src wi g tt te σ H λy H1=>D.nx (σ.set i (some y)) H1):=by
 intro jJ s σ H D I h;rw[exec_Assign_Name_used _ _ _ _ hsw];refine xa (wpAny_standAt (xa ?_));show xf _ _ (do let _<-comprehension (.ListComp elt [⟨tg,iter,ifs,0⟩] scope pos) scope X.env _ (newList []) false (eval iter X.env) (some (assign (.Name x pos') X.env))) _ _ s;refine xa (xc (wpAny_comprehension_free (use:=some (assign (.Name x pos') X.env)) (Q:=λ_ s'=>SP X jJ D .next s') rfl hs B.clos B.kind B.names
  (xc (hi jJ s σ H _ I h) (λxv s₁ h₁=>xc h₁ (λit s₂ h₂=>?_) λ_ _ e=>e) λ_ _ e=>e)) (λ_ s' hq=>xb (xb hq)) λ_ _ e=>e)
 obtain⟨it,fp,tn,J,H2,e,I2,T,j6,f2,q2⟩:=h₂;subst e;refine ZdN (RR:=λjU C=>compPost (xw X.prog X.w) X.A X.xe (some (assign (.Name x pos') X.env)) (λ_ s'=>SP X jJ D .next s') jU C) (Qp:=λp H=>D.nx (σ.set i (some (.ref p))) H) hc B hg ht he I2 T j6 f2 q2 ?_;intro p C s6 H5 mm J1 hnn fC qn;obtain⟨oC,es,ep,hoC,hdC,hrC⟩:=id hnn;have fC':∀b∈[C],Wz X jJ H5 b:=by
  intro b hb;have e:b=C:=by simpa using hb
  rw[e];exact fC
 have oC':∀b∈[C],∃o,s6.heap.get? b=some o/\∀v,o.data≠.cell v:=by
  intro b hb;have e:b=C:=by simpa using hb
  rw[e];exact⟨oC,hoC,λv z=>by rw[hdC]at z;cases z⟩
 have J2:=J1.pinned fC' oC';refine xc (Zct hN hi' hx hf _ s6 σ H5 (.ref p) (.ref p) (fun σ' H'=>σ'=σ.set i (some (.ref p))/\H'=H5) J2 rfl ⟨rfl,rfl⟩) (λ_ s7 ⟨σ7,H7,I7,e7,e7'⟩=>?_) λ_ _ e=>e;subst e7 e7';have pC:=I7.pin (C,oC) (qH _ (qH _ (Jp (by simp) hoC)));refine⟨mm,⟨oC,es,ep,pC.1,hdC,hrC⟩,λh' sb=>?_⟩;obtain⟨c0,c1,c2,c3,c4,c5⟩:=fC;exact⟨_,_,(I7.unpinned).turned (λb o hb e=>(sb.2 b hb).trans e) c0 c1 c3 c4 c5,qn⟩
end L2
namespace TF
open L2
inductive D where
 | non | bl (b:Bool) | int (i:Int) | str (x:Str) | tup (xs:List D) | lst (xs:List D)
 | dk (kvs:List (ZC×V)) | dt (kvs:List (List ZC×V)) | du (kvs:List (List ZC×V)) | df (kvs:List (ZC×V)) | pen | ty (n:String) | clo (t:Nat) (caps:List D)
noncomputable abbrev St:=L2.St
noncomputable abbrev Pn:=List Int×List Int
noncomputable abbrev M (α:Type):=Pn->Option (α×Pn)
noncomputable abbrev Zc:=List (Option D)
noncomputable def ZL {α:Type}(a:α):M α:=λs=>some (a,s)
noncomputable def Zk {α β:Type}(m:M α)(k:α->M β):M β:=λs=>match m s with | none=>none | some p=>k p.1 p.2
noncomputable def ZK {α:Type}:M α:=λ_=>none
noncomputable def Yy {α:Type}(o:Option α):M α:=λs=>match o with | none=>none | some a=>some (a,s)
theorem Zv {m:M α}{k:α->M β}{b:β}(h:Zk m k s=some (b,s')):∃a s1,m s=some (a,s1)/\k a s1=some (b,s'):=by
 unfold Zk at h
 cases e:m s with
 | none=>simp_all
 | some p=>rw[e]at h;exact⟨p.1,p.2,rfl,h⟩
theorem ZP {a b:α}(h:ZL a s=some (b,s')):b=a/\s'=s:=by
 unfold ZL at h
 grind
theorem Y5 {o:Option α}{b:α}(h:Yy o s=some (b,s')):o=some b/\s'=s:=by
 unfold Yy at h
 cases e:o with
 | none=>simp_all
 | some a=>simp_all
structure Gh where
 fp:Addr->Prop
 rd:Addr->Prop
 pen:V
 st:Pn->Hp->Prop
 mono:∀s H H',st s H->(∀b o,rd b->H b=some o->H' b=some o)->(∀b φ,H b=some (.ext φ)->H' b=some (.ext φ))->(∀b vs,H b=some (.tup vs)->H' b=some (.tup vs))->st s H'
 sub:∀b,fp b->rd b
 dom:∀s H b,st s H->rd b->∃o,H b=some o
 ntp:∀s H b vs,st s H->fp b->H b≠some (.tup vs)
 clo:Nat->V->List V->Prop:=λ_ _ _=>False
mutual
noncomputable def Zl (G:Gh)(H:Hp):D->V->Prop
 | .non,v=>v=.non
 | .bl b,v=>v=.bl b
 | .int i,v=>v=.int i
 | .str x,v=>v=.str x
 | .tup ds,v=>∃a vs,v=.ref a/\¬G.fp a/\H a=some (.tup vs)/\Zi G H ds vs
 | .lst ds,v=>∃a vs,v=.ref a/\¬G.fp a/\H a=some (.lst vs)/\Zi G H ds vs
 | .dk kvs,v=>∃a,v=.ref a/\¬G.fp a/\H a=some (.dK kvs)
 | .dt kvs,v=>∃a o,v=.ref a/\¬G.fp a/\H a=some (.frz o (.dT kvs))
 | .du kvs,v=>∃a,v=.ref a/\¬G.fp a/\H a=some (.dT kvs)
 | .df kvs,v=>∃a o,v=.ref a/\¬G.fp a/\H a=some (.frz o (.dK kvs))
 | .pen,v=>v=G.pen
 | .ty n,v=>v=.ty n
 | .clo t ds,v=>∃vs,G.clo t v vs/\Zi G H ds vs
noncomputable def Zi (G:Gh)(H:Hp):List D->List V->Prop
 | [],vs=>vs=[]
 | d::ds,vs=>∃v r,vs=v::r/\Zl G H d v/\Zi G H ds r
end
noncomputable def Zz (G:Gh)(H H':Hp):Prop:=∀b o,¬G.fp b->H b=some o->H' b=some o
theorem Zz.refl (G:Gh)(H:Hp):Zz G H H:=λ_ _ _ e=>e
theorem Zz.trans (a:Zz G H H1)(b:Zz G H1 H2):Zz G H H2:=λc o n e=>b c o n (a c o n e)
mutual
theorem Zl.ext {G:Gh}{H H':Hp}(e:Zz G H H'):∀{d:D} {v:V},Zl G H d v->Zl G H' d v
 | .non,_,h=>h
 | .bl _,_,h=>h
 | .int _,_,h=>h
 | .str _,_,h=>h
 | .tup ds,v,h=>by
  unfold Zl at h⊢;obtain⟨a,vs,e1,n,e2,r⟩:=h;exact⟨a,vs,e1,n,e _ _ n e2,Zi.ext e r⟩
 | .lst ds,v,h=>by
  unfold Zl at h⊢;obtain⟨a,vs,e1,n,e2,r⟩:=h;exact⟨a,vs,e1,n,e _ _ n e2,Zi.ext e r⟩
 | .dk kvs,v,h=>by
  unfold Zl at h⊢;obtain⟨a,e1,n,e2⟩:=h;exact⟨a,e1,n,e _ _ n e2⟩
 | .dt kvs,v,h=>by
  unfold Zl at h⊢;obtain⟨a,o,e1,n,e2⟩:=h;exact⟨a,o,e1,n,e _ _ n e2⟩
 | .df kvs,v,h=>by
  unfold Zl at h⊢;obtain⟨a,o,e1,n,e2⟩:=h;exact⟨a,o,e1,n,e _ _ n e2⟩
 | .du kvs,v,h=>by
  unfold Zl at h⊢;obtain⟨a,e1,n,e2⟩:=h;exact⟨a,e1,n,e _ _ n e2⟩
 | .pen,_,h=>h
 | .ty _,_,h=>h
 | .clo t ds,v,h=>by
  unfold Zl at h⊢;obtain⟨vs,c,r⟩:=h;exact⟨vs,c,Zi.ext e r⟩
theorem Zi.ext {G:Gh}{H H':Hp}(e:Zz G H H'):∀{ds:List D} {vs:List V},Zi G H ds vs->Zi G H' ds vs
 | [],_,h=>h
 | d::ds,vs,h=>by
  unfold Zi at h⊢;obtain⟨v,r,e1,r1,r2⟩:=h;exact⟨v,r,e1,Zl.ext e r1,Zi.ext e r2⟩
end
section
variable {G:Gh}{H:Hp}
theorem jb:Zl G H (.tup ds) v↔∃a vs,v=.ref a/\¬G.fp a/\H a=some (.tup vs)/\Zi G H ds vs:=by rfl
theorem jc:Zl G H (.lst ds) v↔∃a vs,v=.ref a/\¬G.fp a/\H a=some (.lst vs)/\Zi G H ds vs:=by rfl
theorem jk:Zl G H (.dk kvs) v↔∃a,v=.ref a/\¬G.fp a/\H a=some (.dK kvs):=by rfl
theorem jm:Zl G H (.dt kvs) v↔∃a o,v=.ref a/\¬G.fp a/\H a=some (.frz o (.dT kvs)):=by rfl
theorem jn:Zl G H (.du kvs) v↔∃a,v=.ref a/\¬G.fp a/\H a=some (.dT kvs):=by rfl
theorem js:Zl G H (.df kvs) v↔∃a o,v=.ref a/\¬G.fp a/\H a=some (.frz o (.dK kvs)):=by rfl
theorem ja:Zl G H (.int i) v↔v=.int i:=by rfl
theorem jd:Zl G H (.bl b) v↔v=.bl b:=by rfl
theorem jg:Zl G H (.str b) v↔v=.str b:=by rfl
theorem jh:Zl G H .non v↔v=.non:=by rfl
theorem jo:Zl G H .pen v↔v=G.pen:=by rfl
theorem jq:Zl G H (.ty n) v↔v=.ty n:=by rfl
theorem jv:Zl G H (.clo t ds) v↔∃vs,G.clo t v vs/\Zi G H ds vs:=by rfl
theorem Zi.nil_iff:Zi G H [] vs↔vs=[]:=by rfl
theorem je:Zi G H (d::ds) vs↔∃v r,vs=v::r/\Zl G H d v/\Zi G H ds r:=by
 rfl
theorem Zi.length:∀{ds:List D} {vs:List V},Zi G H ds vs->ds.length=vs.length
 | [],vs,h=>by rw[Zi.nil_iff.mp h];rfl
 | d::ds,vs,h=>by
  obtain⟨v,r,rfl,_,h2⟩:=je.mp h;simp[Zi.length h2]
theorem Zi.get:∀{ds:List D} {vs:List V} {i:Nat} {d:D},Zi G H ds vs->ds[i]?=some d->∃v,vs[i]?=some v/\Zl G H d v
 | [],_,_,_,_,e=>by simp at e
 | d::ds,vs,0,d',h,e=>by
  obtain⟨v,r,rfl,h1,_⟩:=je.mp h;simp_all
 | d::ds,vs,i+1,d',h,e=>by
  obtain⟨v,r,rfl,_,h2⟩:=je.mp h;obtain⟨u,e1,e2⟩:=Zi.get h2 (by simpa using e);simp_all
theorem Zi.append:∀{ds es:List D} {vs us:List V},Zi G H ds vs->Zi G H es us->Zi G H (ds++es) (vs++us)
 | [],es,vs,us,h,h'=>by rw[Zi.nil_iff.mp h];exact h'
 | d::ds,es,vs,us,h,h'=>by
  obtain⟨v,r,rfl,h1,h2⟩:=je.mp h;exact je.mpr ⟨v,r++us,rfl,h1,Zi.append h2 h'⟩
theorem Zi.one (h:Zl G H d v):Zi G H [d] [v]:=je.mpr ⟨v,[],rfl,h,Zi.nil_iff.mpr rfl⟩
theorem Zi.cons (h:Zl G H d v)(h2:Zi G H ds vs):Zi G H (d::ds) (v::vs):=je.mpr ⟨v,vs,rfl,h,h2⟩
theorem Zi.take:∀{ds:List D} {vs:List V} (n:Nat),Zi G H ds vs->Zi G H (ds.take n) (vs.take n)
 | _,_,0,_=>Zi.nil_iff.mpr (by simp)
 | [],vs,n+1,h=>by rw[Zi.nil_iff.mp h];rfl
 | d::ds,vs,n+1,h=>by
  obtain⟨u,r,rfl,h1,h2⟩:=je.mp h;exact Zi.cons h1 (Zi.take n h2)
theorem Zi.drop:∀{ds:List D} {vs:List V} (n:Nat),Zi G H ds vs->Zi G H (ds.drop n) (vs.drop n)
 | _,_,0,h=>h
 | [],vs,n+1,h=>by rw[Zi.nil_iff.mp h];rfl
 | d::ds,vs,n+1,h=>by
  obtain⟨u,r,rfl,h1,h2⟩:=je.mp h;exact Zi.drop n h2
end
noncomputable def Nt (o:Option HO):Prop:=∃u,o=some u/\∀vs,u≠.tup vs
theorem Nt.no (h:Nt o)(e:o=none):False:=by
 obtain⟨u,q,_⟩:=h
 grind
structure Gr (G:Gh)(Hf H Hf' H':Hp):Prop where
 hh:Zz G H H'
 ff:Zz G Hf Hf'
 fh:Zz G Hf' H'
 nw:∀b,¬G.fp b->Hf b=none->Nt (H b)->Hf' b=none
theorem Gr.refl (e:Zz G Hf H):Gr G Hf H Hf H:=⟨.refl _ _,.refl _ _,e,λ_ _ h _=>h⟩
theorem Gr.trans (a:Gr G Hf H jW H1)(b:Gr G jW H1 jZ H2):Gr G Hf H jZ H2:=
 ⟨a.hh.trans b.hh,a.ff.trans b.ff,b.fh,λc n h1 h2=>b.nw c n (a.nw c n h1 h2) (let ⟨u,e,nt⟩:=h2;⟨u,a.hh c u n e,nt⟩)⟩
theorem Gr.new (e:Zz G Hf H)(hp:H p=none)(nf:¬G.fp p):Gr G Hf H (upd Hf p o) (upd H p o) where
 hh:=λb u n q=>by rw[Zj (ZY q hp)];exact q
 ff:=λb u n q=>by rw[Zj (ZY (e b u n q) hp)];exact q
 fh:=λb u n q=>by
  by_cases hb:b=p
  ·subst hb;rw[ZG]at q⊢;exact q
  ·rw[Zj hb]at q⊢;exact e b u n q
 nw:=λb n h1 h2=>by
  by_cases hb:b=p
  ·subst hb;exact(h2.no hp).elim
  ·rw[Zj hb];exact h1
theorem Gh.nofp {G:Gh}(h:G.st s H)(hp:H p=none):¬G.fp p:=λf=>by
 obtain⟨o,e⟩:=G.dom s H p h (G.sub p f)
 grind
theorem ju {G:Gh}(h:G.st s H)(hp:H p=none):¬G.rd p:=λf=>by
 obtain⟨o,e⟩:=G.dom s H p h f
 grind
theorem Gh.grow {G:Gh}(h:G.st s H)(hp:H p=none):G.st s (upd H p o):=G.mono s H _ h (λb u _ q=>by
 rw[Zj (ZY q hp)];exact q) (λb φ q=>by
 rw[Zj (ZY q hp)];exact q) λb φ q=>by
 rw[Zj (ZY q hp)];exact q
noncomputable def U4:D->Prop
 | .lst _=>True
 | .dk _=>True
 | .dt _=>True
 | .du _=>True
 | _=>False
noncomputable def Z3 (G:Gh)(H Hf':Hp)(d:D)(v:V):Prop:=∀a,v=.ref a->U4 d->H a=none/\∀ds,d=.lst ds->∃vs Hm,Hf' a=some (.lst vs)/\Hm a=none/\Zz G Hm Hf'/\Zi G Hm ds vs
theorem Z3.old (e:Zz G H H')(r:∀a,v=.ref a->U4 d->¬G.fp a)(h:Z3 G H' Hf' d v):Z3 G H Hf' d v:=λa ea m=>by
 refine⟨?_,(h a ea m).2⟩
 cases q:H a with
 | none=>rfl
 | some o=>
  have:=e a o (r a ea m) q;rw[(h a ea m).1]at this;cases this
theorem Zl.nofp (r:Zl G H d v):∀a,v=.ref a->U4 d->¬G.fp a:=λa e m=>by
 cases d with
 | lst ds=>obtain⟨b,vs,e1,n,_⟩:=jc.mp r;grind
 | dk ds=>obtain⟨b,e1,n,_⟩:=jk.mp r;simp_all
 | dt ds=>obtain⟨b,_,e1,n,_⟩:=jm.mp r;simp_all
 | du ds=>obtain⟨b,e1,n,_⟩:=jn.mp r;simp_all
 | _=>exact m.elim
noncomputable def Yh (G:Gh)(H:Hp)(σ:St)(ρ:Zc):Prop:=∀(i:Nat) (d:D),ρ[i]?=some (some d)->∃v,σ[i]?=some (some v)/\Zl G H d v
theorem Yh.ext (h:Yh G H σ ρ)(e:Zz G H H'):Yh G H' σ ρ:=λi d q=>let ⟨v,a,b⟩:=h i d q;⟨v,a,b.ext e⟩
noncomputable def PD (X:Cx)(G:Gh)(fr:Bool)(e:Expr)(f:Zc->M D):Prop:=
 ∃t,PE X e t/\∀(σ:St) (Hf H:Hp) (ρ:Zc) (s:Pn) (d:D) (s':Pn) (Q:VK),Zz G Hf H->Yh G Hf σ ρ->G.st s H->f ρ s=some (d,s')->
  (∀v Hf' H',Gr G Hf H Hf' H'->G.st s' H'->Zl G Hf' d v->(fr=true->Z3 G H Hf' d v)->Q v H')->t σ H Q
noncomputable def Xd (X:Cx)(G:Gh)(e:Expr)(f:Zc->M Bool):Prop:=
 ∃t,PT X e t/\∀(σ:St) (Hf H:Hp) (ρ:Zc) (s:Pn) (b:Bool) (s':Pn) (Q:Bool->Hp->Prop),Zz G Hf H->Yh G Hf σ ρ->G.st s H->f ρ s=some (b,s')->
  (∀Hf' H',Gr G Hf H Hf' H'->G.st s' H'->Q b H')->t σ H Q
noncomputable def Xw (X:Cx)(G:Gh)(es:List Expr)(f:Zc->M (List D)):Prop:=
 ∃t,PA X es t/\∀(σ:St) (Hf H:Hp) (ρ:Zc) (s:Pn) (ds:List D) (s':Pn) (Q:List V->Hp->Prop),Zz G Hf H->Yh G Hf σ ρ->G.st s H->f ρ s=some (ds,s')->
  (∀vs Hf' H',Gr G Hf H Hf' H'->G.st s' H'->Zi G Hf' ds vs->Q vs H')->t σ H Q
section
variable {X:Cx}{G:Gh}
theorem PD.weak (h:PD X G fr e f):PD X G false e f:=by
 obtain⟨t,p,q⟩:=h;exact⟨t,p,fun σ Hf H ρ s d s' Q e1 e2 e3 e4 k=>q σ Hf H ρ s d s' Q e1 e2 e3 e4 λv Hf' H' g1 g2 g3 _=>k v Hf' H' g1 g2 g3 (λz=>by cases z)⟩
noncomputable def Za (i:Nat):Zc->M D:=fun ρ=>Yy ((ρ[i]?).bind id)
noncomputable def dC (d:D):Zc->M D:=λ_=>ZL d
theorem By (i:Nat)(h:PE X (.Name x pos) (ZR i)):PD X G false (.Name x pos) (Za i):=by
 refine⟨_,h,fun σ Hf H ρ s d s' Q e1 e2 e3 e4 k=>?_⟩;obtain⟨e,rfl⟩:=Y5 e4;have e':ρ[i]?=some (some d):=by
  cases q:ρ[i]? with
  | none=>simp_all
  | some o=>simp_all
 obtain⟨v,h1,h2⟩:=e2 i d e';exact⟨v,h1,k v Hf H (.refl e1) e3 h2 (λz=>by cases z)⟩
theorem Z3.scal (h:U4 d->False):Z3 G H Hf' d v:=λ_ _ m=>(h m).elim
theorem ZN:PD X G true (.Constant (.int i) j pos) (dC (.int i)):=by
 refine⟨_,Xf,fun σ Hf H ρ s d s' Q e1 e2 e3 e4 k=>?_⟩;obtain⟨rfl,rfl⟩:=ZP e4;exact k _ Hf H (.refl e1) e3 (ja.mpr rfl) λ_=>.scal λz=>z
theorem X5:PD X G true (.Constant (.bool b) j pos) (dC (.bl b)):=by
 refine⟨_,ZmT,fun σ Hf H ρ s d s' Q e1 e2 e3 e4 k=>?_⟩;obtain⟨rfl,rfl⟩:=ZP e4;exact k _ Hf H (.refl e1) e3 (jd.mpr rfl) λ_=>.scal λz=>z
theorem Zgx:PD X G true (.Constant .none j pos) (dC .non):=by
 refine⟨_,Zgf,fun σ Hf H ρ s d s' Q e1 e2 e3 e4 k=>?_⟩;obtain⟨rfl,rfl⟩:=ZP e4;exact k _ Hf H (.refl e1) e3 (jh.mpr rfl) λ_=>.scal λz=>z
theorem Xg:PD X G true (.Constant (.str x) j pos) (dC (.str x)):=by
 refine⟨_,Zjy,fun σ Hf H ρ s d s' Q e1 e2 e3 e4 k=>?_⟩;obtain⟨rfl,rfl⟩:=ZP e4;exact k _ Hf H (.refl e1) e3 (jg.mpr rfl) λ_=>.scal λz=>z
noncomputable def Ze:Zc->M (List D):=λ_=>ZL []
noncomputable def Zb (f:Zc->M D)(g:Zc->M (List D)):Zc->M (List D):=fun ρ=>Zk (f ρ) λd=>Zk (g ρ) λds=>ZL (d::ds)
theorem Zo:Xw X G [] Ze:=by
 refine⟨_,YS,fun σ Hf H ρ s d s' Q e1 e2 e3 e4 k=>?_⟩;obtain⟨rfl,rfl⟩:=ZP e4;exact k _ Hf H (.refl e1) e3 (Zi.nil_iff.mpr rfl)
theorem Zf (h:PD X G fr e f)(hr:Xw X G es g)(hs:xh (e::es) X.env=(false,eval e X.env)::xh es X.env:=by rfl):Xw X G (e::es) (Zb f g):=by
 obtain⟨t,p,q⟩:=h;obtain⟨u,p2,q2⟩:=hr;refine⟨_,Yt p p2 hs,fun σ Hf H ρ s ds s' Q e1 e2 e3 e4 k=>?_⟩;obtain⟨d,s1,a1,a2⟩:=Zv e4;obtain⟨r,s2,a3,a4⟩:=Zv a2;obtain⟨rfl,rfl⟩:=ZP a4;refine q σ Hf H ρ s d s1 _ e1 e2 e3 a1 λv jW H1 g1 j9 r1 _=>?_;refine q2 σ jW H1 ρ s1 r _ _ g1.fh (e2.ext g1.ff) j9 a3 λvs jZ H2 g2 j6 r2=>?_;exact k _ jZ H2 (g1.trans g2) j6 (Zi.cons (r1.ext g2.ff) r2)
noncomputable def Yi (f:Zc->M (List D)):Zc->M D:=fun ρ=>Zk (f ρ) λds=>if ds.length<=xg then ZL (.tup ds)else ZK
noncomputable def Z9 (f:Zc->M (List D)):Zc->M D:=fun ρ=>Zk (f ρ) λds=>if ds.length<=xg then ZL (.lst ds)else ZK
theorem Xy {α:Type}{c:Prop}[Decidable c]{a:M α}{s s':Pn}{b:α}(h:(if c then a else ZK) s=some (b,s')):c/\a s=some (b,s'):=by
 split at h
 ·simp_all
 ·cases h
theorem Z3.mk (e:Zz G Hf H)(hp:H p=none)(nf:¬G.fp p)(r:Zi G Hf ds vs):Z3 G H (upd Hf p (.lst vs)) (.lst ds) (.ref p):=λa ea _=>by
 cases ea
 refine⟨hp,λds' ed=>?_⟩
 cases ed
 have hf:Hf p=none:=by
  cases q:Hf p with
  | none=>rfl
  | some o=>rw[e p o nf q]at hp;cases hp
 exact⟨vs,Hf,ZG,hf,λb o n q=>by rw[Zj (ZY q hf)];exact q,r⟩
theorem XH (h:Xw X G es f):PD X G true (.Tuple es x1 pos) (Yi f):=by
 obtain⟨t,p,q⟩:=h;refine⟨_,Znw p,fun σ Hf H ρ s d s' Q e1 e2 e3 e4 k=>?_⟩;obtain⟨ds,s1,a1,a2⟩:=Zv e4;obtain⟨hl,a3⟩:=Xy a2;obtain⟨rfl,rfl⟩:=ZP a3;refine q σ Hf H ρ s ds s' _ e1 e2 e3 a1 λvs jW H1 g1 j9 r1=>⟨by rw[<-r1.length];exact hl,λp hp=>?_⟩;have nf:=Gh.nofp j9 hp;have g2:=Gr.new (o:=.tup vs) g1.fh hp nf;exact k (.ref p) _ _ (g1.trans g2) (Gh.grow j9 hp) (jb.mpr ⟨p,vs,rfl,nf,ZG,r1.ext g2.ff⟩) λ_=>.scal λz=>z
theorem XS (h:Xw X G es f):PD X G true (.List es pos) (Z9 f):=by
 obtain⟨t,p,q⟩:=h;refine⟨_,Zgs p,fun σ Hf H ρ s d s' Q e1 e2 e3 e4 k=>?_⟩;obtain⟨ds,s1,a1,a2⟩:=Zv e4;obtain⟨hl,a3⟩:=Xy a2;obtain⟨rfl,rfl⟩:=ZP a3;refine q σ Hf H ρ s ds s' _ e1 e2 e3 a1 λvs jW H1 g1 j9 r1=>⟨by rw[<-r1.length];exact hl,λp hp=>?_⟩;have nf:=Gh.nofp j9 hp;have g2:=Gr.new (o:=.lst vs) g1.fh hp nf;refine k (.ref p) _ _ (g1.trans g2) (Gh.grow j9 hp) (jc.mpr ⟨p,vs,rfl,nf,ZG,r1.ext g2.ff⟩) λ_=>Z3.old g1.hh (λa ea _=>by simp_all) (Z3.mk g1.fh hp nf r1)
noncomputable def Xm (X:Cx)(G:Gh)(f:Value->Value->Sem Value)(g:D->D->Option D):Prop:=
 ∃r,Yc X f r/\∀(Hf H:Hp) (s:Pn) (x y:V) (d e c:D) (Q:VK),Zz G Hf H->G.st s H->Zl G Hf d x->Zl G Hf e y->g d e=some c->
  (∀v Hf' H',Gr G Hf H Hf' H'->G.st s H'->Zl G Hf' c v->Z3 G H Hf' c v->Q v H')->r x y H Q
noncomputable def Zd (g:D->D->Option D)(a b:Zc->M D):Zc->M D:=fun ρ=>Zk (a ρ) λd=>Zk (b ρ) λe=>Yy (g d e)
theorem op2D
  (qa:∀(σ:St) (Hf H:Hp) (ρ:Zc) (s:Pn) (d:D) (s':Pn) (Q:VK),Zz G Hf H->Yh G Hf σ ρ->G.st s H->fa ρ s=some (d,s')->(∀v Hf' H',Gr G Hf H Hf' H'->G.st s' H'->Zl G Hf' d v->Q v H')->ta σ H Q)
  (qb:∀(σ:St) (Hf H:Hp) (ρ:Zc) (s:Pn) (d:D) (s':Pn) (Q:VK),Zz G Hf H->Yh G Hf σ ρ->G.st s H->fb ρ s=some (d,s')->(∀v Hf' H',Gr G Hf H Hf' H'->G.st s' H'->Zl G Hf' d v->Q v H')->tb σ H Q)
  (qo:∀(Hf H:Hp) (s:Pn) (x y:V) (d e c:D) (Q:VK),Zz G Hf H->G.st s H->Zl G Hf d x->Zl G Hf e y->g d e=some c->(∀v Hf' H',Gr G Hf H Hf' H'->G.st s H'->Zl G Hf' c v->Z3 G H Hf' c v->Q v H')->r x y H Q)
  (σ:St) (Hf H:Hp) (ρ:Zc) (s:Pn) (d:D) (s':Pn) (Q:VK) (e1:Zz G Hf H) (e2:Yh G Hf σ ρ) (e3:G.st s H) (e4:Zd g fa fb ρ s=some (d,s'))
  (k:∀v Hf' H',Gr G Hf H Hf' H'->G.st s' H'->Zl G Hf' d v->Z3 G H Hf' d v->Q v H'):X8 r ta tb σ H Q:=by
 obtain⟨da,s1,a1,a2⟩:=Zv e4;obtain⟨db,s2,a3,a4⟩:=Zv a2;obtain⟨a5,rfl⟩:=Y5 a4;refine qa σ Hf H ρ s da s1 _ e1 e2 e3 a1 λx jW H1 g1 j9 r1=>?_;refine qb σ jW H1 ρ s1 db _ _ g1.fh (e2.ext g1.ff) j9 a3 λy jZ H2 g2 j6 r2=>?_;refine qo jZ H2 _ x y da db d Q g2.fh j6 (r1.ext g2.ff) r2 a5 λv Hf3 H3 g3 st3 r3 fz=>?_;exact k v Hf3 H3 ((g1.trans g2).trans g3) st3 r3 (Z3.old (g1.hh.trans g2.hh) r3.nofp fz)
theorem PD.drop (h:PD X G fr e f):∃t,PE X e t/\∀(σ:St) (Hf H:Hp) (ρ:Zc) (s:Pn) (d:D) (s':Pn) (Q:VK),Zz G Hf H->Yh G Hf σ ρ->G.st s H->f ρ s=some (d,s')->
  (∀v Hf' H',Gr G Hf H Hf' H'->G.st s' H'->Zl G Hf' d v->Q v H')->t σ H Q:=by
 obtain⟨t,p,q⟩:=h;exact⟨t,p,fun σ Hf H ρ s d s' Q a b c d' k=>q σ Hf H ρ s d s' Q a b c d' λv Hf' H' g1 g2 g3 _=>k v Hf' H' g1 g2 g3⟩
theorem Yu (ho:Xm X G (binaryOp op) g)(ha:PD X G r1 a fa)(hb:PD X G r2 b fb):PD X G true (.BinOp a op b pos) (Zd g fa fb):=by
 obtain⟨r,po,qo⟩:=ho;obtain⟨ta,pa,qa⟩:=ha.drop;obtain⟨tb,pb,qb⟩:=hb.drop;exact⟨_,V0 po pa pb,fun σ Hf H ρ s d s' Q e1 e2 e3 e4 k=>op2D qa qb qo σ Hf H ρ s d s' Q e1 e2 e3 e4 λv Hf' H' g1 g2 g3 fz=>k v Hf' H' g1 g2 g3 λ_=>fz⟩
theorem Vr (ho:Xm X G (xk op) g)(ha:PD X G r1 a fa)(hb:PD X G r2 b fb)
  (hm:behindInMarks op b=false:=by first | exact Bx _ | with_unfolding_all rfl):PD X G true (.Compare a [op] [b] pos) (Zd g fa fb):=by
 obtain⟨r,po,qo⟩:=ho;obtain⟨ta,pa,qa⟩:=ha.drop;obtain⟨tb,pb,qb⟩:=hb.drop;exact⟨_,Zhu po pa pb hm,fun σ Hf H ρ s d s' Q e1 e2 e3 e4 k=>op2D qa qb qo σ Hf H ρ s d s' Q e1 e2 e3 e4 λv Hf' H' g1 g2 g3 fz=>k v Hf' H' g1 g2 g3 λ_=>fz⟩
noncomputable def Zu (f:Zc->M D):Zc->M Bool:=fun ρ=>Zk (f ρ) λd=>match d with | .bl b=>ZL b | _=>ZK
theorem Bl (h:Zu f ρ s=some (b,s')):f ρ s=some (.bl b,s'):=by
 obtain⟨d,s1,a1,a2⟩:=Zv h
 cases d with
 | bl c=>obtain⟨rfl,rfl⟩:=ZP a2;exact a1
 | _=>cases a2
theorem Y7 (ho:Xm X G (xk op) g)(ha:PD X G r1 a fa)(hb:PD X G r2 b fb)
  (hm:behindInMarks op b=false:=by first | exact Bx _ | with_unfolding_all rfl):Xd X G (.Compare a [op] [b] pos) (Zu (Zd g fa fb)):=by
 obtain⟨r,po,qo⟩:=ho;obtain⟨ta,pa,qa⟩:=ha.drop;obtain⟨tb,pb,qb⟩:=hb.drop;refine⟨_,U1 po pa pb hm,fun σ Hf H ρ s c s' Q e1 e2 e3 e4 k=>?_⟩;exact op2D qa qb qo σ Hf H ρ s (.bl c) s' _ e1 e2 e3 (Bl e4) λv Hf' H' g1 g2 g3 fz=>⟨c,jd.mp g3,k Hf' H' g1 g2⟩
theorem Wd (h:PD X G fr e f)(he:∀whole,isTrue e X.env whole=(do let v<-whole;standAt e.pos;holding [v] (truthy v)):=by intro _;rfl):Xd X G e (Zu f):=by
 obtain⟨t,p,q⟩:=h;refine⟨_,Znj p he,fun σ Hf H ρ s c s' Q e1 e2 e3 e4 k=>?_⟩;exact q σ Hf H ρ s (.bl c) s' _ e1 e2 e3 (Bl e4) λv Hf' H' g1 g2 g3 fz=>⟨c,jd.mp g3,k Hf' H' g1 g2⟩
noncomputable def Wg (f:Zc->M Bool):Zc->M Bool:=fun ρ=>Zk (f ρ) λb=>ZL (!b)
theorem Ur (h:Xd X G a f):Xd X G (.UnaryOp .Not a pos) (Wg f):=by
 obtain⟨t,p,q⟩:=h;refine⟨_,Znm p,fun σ Hf H ρ s c s' Q e1 e2 e3 e4 k=>?_⟩;obtain⟨b,s1,a1,a2⟩:=Zv e4;obtain⟨rfl,rfl⟩:=ZP a2;exact q σ Hf H ρ s b s' _ e1 e2 e3 a1 λHf' H' g1 g2=>k Hf' H' g1 g2
noncomputable def Xb (f g:Zc->M Bool):Zc->M Bool:=fun ρ=>Zk (f ρ) λb=>if b=true then g ρ else ZL false
noncomputable def X0 (f g:Zc->M Bool):Zc->M Bool:=fun ρ=>Zk (f ρ) λb=>if b=true then ZL true else g ρ
noncomputable def X1 (X:Cx)(G:Gh)(e:Expr)(f:Zc->M Bool):Prop:=
 ∃t,PW X e t/\∀(σ:St) (Hf H:Hp) (ρ:Zc) (s:Pn) (b:Bool) (s':Pn) (Q:Bool->Hp->Prop),Zz G Hf H->Yh G Hf σ ρ->G.st s H->f ρ s=some (b,s')->
  (∀Hf' H',Gr G Hf H Hf' H'->G.st s' H'->Q b H')->t σ H Q
theorem X1.pt (h:X1 X G e f):Xd X G e f:=by
 obtain⟨t,p,q⟩:=h;exact⟨t,p.pt,q⟩
theorem ZcQ (h:Xd X G a f):X1 X G (.BoolOp .And [a] pos) f:=by
 obtain⟨t,p,q⟩:=h;exact⟨t,ZlJ p,q⟩
theorem Bp (h:Xd X G a f):X1 X G (.BoolOp .Or [a] pos) f:=by
 obtain⟨t,p,q⟩:=h;exact⟨t,Znk p,q⟩
theorem Bq {rest:List Expr}(h:Xd X G a f)(h2:X1 X G (.BoolOp .And (b::rest) pos) g):X1 X G (.BoolOp .And (a::b::rest) pos) (Xb f g):=by
 obtain⟨t,p,q⟩:=h;obtain⟨u,p2,q2⟩:=h2;refine⟨_,Znl p p2,fun σ Hf H ρ s c s' Q e1 e2 e3 e4 k=>?_⟩;obtain⟨b,s1,a1,a2⟩:=Zv e4;refine q σ Hf H ρ s b s1 _ e1 e2 e3 a1 λjW H1 g1 j9=>?_
 cases b with
 | true=>exact q2 σ jW H1 ρ s1 c s' _ g1.fh (e2.ext g1.ff) j9 a2 λjZ H2 g2 j6=>k jZ H2 (g1.trans g2) j6
 | false=>obtain⟨rfl,rfl⟩:=ZP a2;exact k jW H1 g1 j9
theorem JF {rest:List Expr}(h:Xd X G a f)(h2:X1 X G (.BoolOp .Or (b::rest) pos) g):X1 X G (.BoolOp .Or (a::b::rest) pos) (X0 f g):=by
 obtain⟨t,p,q⟩:=h;obtain⟨u,p2,q2⟩:=h2;refine⟨_,Zoj p p2,fun σ Hf H ρ s c s' Q e1 e2 e3 e4 k=>?_⟩;obtain⟨b,s1,a1,a2⟩:=Zv e4;refine q σ Hf H ρ s b s1 _ e1 e2 e3 a1 λjW H1 g1 j9=>?_
 cases b with
 | true=>obtain⟨rfl,rfl⟩:=ZP a2;exact k jW H1 g1 j9
 | false=>exact q2 σ jW H1 ρ s1 c s' _ g1.fh (e2.ext g1.ff) j9 a2 λjZ H2 g2 j6=>k jZ H2 (g1.trans g2) j6
noncomputable def Wh (f g:Zc->M D):Zc->M D:=fun ρ=>Zk (f ρ) λd=>match d with | .bl true=>g ρ | .bl false=>ZL (.bl false) | _=>ZK
noncomputable def Jl (f g:Zc->M D):Zc->M D:=fun ρ=>Zk (f ρ) λd=>match d with | .bl true=>ZL (.bl true) | .bl false=>g ρ | _=>ZK
noncomputable def WB (f:Zc->M D):Zc->M D:=fun ρ=>Zk (f ρ) λd=>match d with | .bl b=>ZL (.bl (!b)) | _=>ZK
theorem Zek (h:PD X G fr a f):PD X G false (.BoolOp op [a] pos) f:=by
 obtain⟨t,p,q⟩:=h.weak;exact⟨t,Znn p,q⟩
theorem Bz {rest:List Expr}(h:PD X G r1 a f)(h2:PD X G r2 (.BoolOp .And (b::rest) pos) g):PD X G false (.BoolOp .And (a::b::rest) pos) (Wh f g):=by
 obtain⟨t,p,q⟩:=h.drop;obtain⟨u,p2,q2⟩:=h2.drop;refine⟨_,Zno p p2,fun σ Hf H ρ s c s' Q e1 e2 e3 e4 k=>?_⟩;obtain⟨d,s1,a1,a2⟩:=Zv e4;refine q σ Hf H ρ s d s1 _ e1 e2 e3 a1 λv jW H1 g1 j9 r1=>?_
 cases d with
 | bl b=>
  cases b with
  | true=>exact⟨true,jd.mp r1,WW (q2 σ jW H1 ρ s1 c s' _ g1.fh (e2.ext g1.ff) j9 a2 λv jZ H2 g2 j6 r2=>k v jZ H2 (g1.trans g2) j6 r2 (λz=>by cases z))⟩
  | false=>obtain⟨rfl,rfl⟩:=ZP a2;exact⟨false,jd.mp r1,XV (k _ jW H1 g1 j9 (jd.mpr rfl) (λz=>by cases z))⟩
 | _=>cases a2
theorem ZoA {rest:List Expr}(h:PD X G r1 a f)(h2:PD X G r2 (.BoolOp .Or (b::rest) pos) g):PD X G false (.BoolOp .Or (a::b::rest) pos) (Jl f g):=by
 obtain⟨t,p,q⟩:=h.drop;obtain⟨u,p2,q2⟩:=h2.drop;refine⟨_,Zom p p2,fun σ Hf H ρ s c s' Q e1 e2 e3 e4 k=>?_⟩;obtain⟨d,s1,a1,a2⟩:=Zv e4;refine q σ Hf H ρ s d s1 _ e1 e2 e3 a1 λv jW H1 g1 j9 r1=>?_
 cases d with
 | bl b=>
  cases b with
  | false=>exact⟨false,jd.mp r1,XV (q2 σ jW H1 ρ s1 c s' _ g1.fh (e2.ext g1.ff) j9 a2 λv jZ H2 g2 j6 r2=>k v jZ H2 (g1.trans g2) j6 r2 (λz=>by cases z))⟩
  | true=>obtain⟨rfl,rfl⟩:=ZP a2;exact⟨true,jd.mp r1,WW (k _ jW H1 g1 j9 (jd.mpr rfl) (λz=>by cases z))⟩
 | _=>cases a2
theorem Zel (h:PD X G r1 a f):PD X G true (.UnaryOp .Not a pos) (WB f):=by
 obtain⟨t,p,q⟩:=h.drop;refine⟨_,Znp p,fun σ Hf H ρ s c s' Q e1 e2 e3 e4 k=>?_⟩;obtain⟨d,s1,a1,a2⟩:=Zv e4;refine q σ Hf H ρ s d s1 _ e1 e2 e3 a1 λv jW H1 g1 j9 r1=>?_
 cases d with
 | bl b=>obtain⟨rfl,rfl⟩:=ZP a2;exact⟨b,jd.mp r1,k _ jW H1 g1 j9 (jd.mpr rfl) λ_=>.scal λz=>z⟩
 | _=>cases a2
noncomputable def B8 (c:Zc->M Bool)(f g:Zc->M D):Zc->M D:=fun ρ=>Zk (c ρ) λb=>if b=true then f ρ else g ρ
theorem ZoB (hc:Xd X G c fc)(ha:PD X G r1 a f)(hb:PD X G r2 b g):PD X G false (.IfExp c a b pos) (B8 fc f g):=by
 obtain⟨tc,pc,qc⟩:=hc;obtain⟨ta,pa,qa⟩:=ha.drop;obtain⟨tb,pb,qb⟩:=hb.drop;refine⟨_,Zjz pc pa pb,fun σ Hf H ρ s d s' Q e1 e2 e3 e4 k=>?_⟩;obtain⟨b,s1,a1,a2⟩:=Zv e4;refine qc σ Hf H ρ s b s1 _ e1 e2 e3 a1 λjW H1 g1 j9=>?_
 cases b with
 | true=>exact WW (qa σ jW H1 ρ s1 d s' _ g1.fh (e2.ext g1.ff) j9 a2 λv jZ H2 g2 j6 r2=>k v jZ H2 (g1.trans g2) j6 r2 (λz=>by cases z))
 | false=>exact XV (qb σ jW H1 ρ s1 d s' _ g1.fh (e2.ext g1.ff) j9 a2 λv jZ H2 g2 j6 r2=>k v jZ H2 (g1.trans g2) j6 r2 (λz=>by cases z))
noncomputable def Wy (X:Cx)(G:Gh)(f:Value)(g:List D->Option D):Prop:=
 ∃r,XJ X f r/\∀(Hf H:Hp) (s:Pn) (xs:List V) (ds:List D) (c:D) (Q:VK),Zz G Hf H->G.st s H->Zi G Hf ds xs->g ds=some c->
  (∀v Hf' H',Gr G Hf H Hf' H'->G.st s H'->Zl G Hf' c v->Z3 G H Hf' c v->Q v H')->r xs H Q
noncomputable def ZO (g:List D->Option D)(fs:Zc->M (List D)):Zc->M D:=fun ρ=>Zk (fs ρ) λds=>Yy (g ds)
theorem Wb {id:String}{p pos:Pos}(hc:Wy X G (.builtin id) g)(hg:Gl X x)(hm:X.mg x=none)(hv:xj x=some (.builtin id))(ha:Xw X G (e::es) fs)
  (hn:x≠"__name__":=by decide) (hdb:(x==("__debug__" : Str))=false:=by decide)
  (he:xh (e::es) X.env=(false,eval e X.env)::xh es X.env:=by rfl) (hpl:(backTo pos (xh es X.env)).any (·.1)=false:=by rfl):PD X G true (.Call (.Name x p) (e::es) [] pos) (ZO g fs):=by
 obtain⟨r,pr,qr⟩:=hc;obtain⟨t,pa,qa⟩:=ha;refine⟨_,Ju pr hg hm hv pa hn hdb he hpl,fun σ Hf H ρ s d s' Q e1 e2 e3 e4 k=>?_⟩;obtain⟨ds,s1,a1,a2⟩:=Zv e4;obtain⟨a3,rfl⟩:=Y5 a2;refine qa σ Hf H ρ s ds _ _ e1 e2 e3 a1 λvs jW H1 g1 j9 r1=>?_;exact qr jW H1 _ vs ds d Q g1.fh j9 r1 a3 λv jZ H2 g2 j6 r2 fz=>k v jZ H2 (g1.trans g2) j6 r2 λ_=>Z3.old g1.hh r2.nofp fz
theorem VO {p pos:Pos}(hc:Wy X G (.type T) g)(hg:Gl X x)(hm:X.mg x=none)(hv:xj x=some (.type T))(ha:Xw X G (e::es) fs)
  (hn:x≠"__name__":=by decide) (hdb:(x==("__debug__" : Str))=false:=by decide)
  (he:xh (e::es) X.env=(false,eval e X.env)::xh es X.env:=by rfl) (hpl:(backTo pos (xh es X.env)).any (·.1)=false:=by rfl):PD X G true (.Call (.Name x p) (e::es) [] pos) (ZO g fs):=by
 obtain⟨r,pr,qr⟩:=hc;obtain⟨t,pa,qa⟩:=ha;refine⟨_,ZdJ pr hg hm hv pa hn hdb he hpl,fun σ Hf H ρ s d s' Q e1 e2 e3 e4 k=>?_⟩;obtain⟨ds,s1,a1,a2⟩:=Zv e4;obtain⟨a3,rfl⟩:=Y5 a2;refine qa σ Hf H ρ s ds _ _ e1 e2 e3 a1 λvs jW H1 g1 j9 r1=>?_;exact qr jW H1 _ vs ds d Q g1.fh j9 r1 a3 λv jZ H2 g2 j6 r2 fz=>k v jZ H2 (g1.trans g2) j6 r2 λ_=>Z3.old g1.hh r2.nofp fz
noncomputable def IxD (X:Cx)(G:Gh)(g:D->D->Option D):Prop:=
 ∃r,UK X r/\∀(Hf H:Hp) (s:Pn) (x y:V) (d e c:D) (Q:VK),Zz G Hf H->G.st s H->Zl G Hf d x->Zl G Hf e y->g d e=some c->
  (∀v,Zl G Hf c v->Q v H)->r x y H Q
theorem Z7 (ho:IxD X G g)(ha:PD X G r1 a fa)(hb:PD X G r2 b fb)(hs:ZhB b:=by intro _ _;rfl):PD X G false (.Subscript a b pos) (Zd g fa fb):=by
 obtain⟨r,po,qo⟩:=ho;obtain⟨ta,pa,qa⟩:=ha.drop;obtain⟨tb,pb,qb⟩:=hb.drop;refine⟨_,WP po pa pb hs,fun σ Hf H ρ s d s' Q e1 e2 e3 e4 k=>?_⟩;obtain⟨da,s1,a1,a2⟩:=Zv e4;obtain⟨db,s2,a3,a4⟩:=Zv a2;obtain⟨a5,rfl⟩:=Y5 a4;refine qa σ Hf H ρ s da s1 _ e1 e2 e3 a1 λx jW H1 g1 j9 r1=>?_;refine qb σ jW H1 ρ s1 db _ _ g1.fh (e2.ext g1.ff) j9 a3 λy jZ H2 g2 j6 r2=>?_;exact qo jZ H2 _ x y da db d Q g2.fh j6 (r1.ext g2.ff) r2 a5 λv r3=>k v jZ H2 (g1.trans g2) j6 r3 (λz=>by cases z)
noncomputable def Z1 (n:Nat)(fr:Bool)(GG:Gh->Prop)(F:List D->M D):Sp:=λvs H Q _=>∃(G:Gh) (Hf:Hp) (ds:List D) (s:Pn) (d:D) (s':Pn),GG G/\vs.length=n/\Zz G Hf H/\Zi G Hf ds vs/\G.st s H/\F ds s=some (d,s')/\
 ∀v Hf' H',Gr G Hf H Hf' H'->G.st s' H'->Zl G Hf' d v->(fr=true->Z3 G H Hf' d v)->Q v H'
noncomputable def Zt (F:List D->M D)(fs:Zc->M (List D)):Zc->M D:=fun ρ=>Zk (fs ρ) F
theorem Zl2 {p pos:Pos}
  (FN:FnOk X.prog X.w X.K X.mg X.base CX k f fd ps (Z1 n fr GG F)) (hG:GG G) (hr:Room k X.A) (hg:Gl X x) (hm:X.mg x=some (.ref f)) (hk:qY X.K (.ref f)=true) (hb:YC X.K fd ps []) (hx:Wv CX X E)
  (ha:Xw X G (e::es) fs) (jR:(e::es).length=n:=by rfl) (hal:∀ρ s ds s',fs ρ s=some (ds,s')->ds.length=(e::es).length)
  (hdb:(x==("__debug__" : Str))=false:=by decide) (he:xh (e::es) X.env=(false,eval e X.env)::xh es X.env:=by rfl) (hpl:(backTo pos (xh es X.env)).any (·.1)=false:=by rfl) :
  PD X G fr (.Call (.Name x p) (e::es) [] pos) (Zt F fs):=by
 obtain⟨t,pa,qa⟩:=ha;refine⟨_,ZlQ FN hr hg hm hk hb .nil hx pa hdb he hpl,fun σ Hf H ρ s d s' Q e1 e2 e3 e4 k=>?_⟩;obtain⟨ds,s1,a1,a2⟩:=Zv e4;refine qa σ Hf H ρ s ds _ _ e1 e2 e3 a1 λvs jW H1 g1 j9 r1=>?_;refine⟨G,jW,ds,s1,d,s',hG,by rw[zg,<-r1.length,hal _ _ _ _ a1];exact jR,g1.fh,by simp_all,j9,a2,λv jZ H2 g2 j6 r2 fz=>?_⟩;exact k v jZ H2 (g1.trans g2) j6 r2 λz=>Z3.old g1.hh r2.nofp (fz z)
theorem Yz (h:∀ρ s ds s',g ρ s=some (ds,s')->ds.length=n):∀ρ s ds s',Zb f g ρ s=some (ds,s')->ds.length=n+1:=fun ρ s ds s' q=>by
 obtain⟨d,s1,a1,a2⟩:=Zv q;obtain⟨r,s2,a3,a4⟩:=Zv a2;obtain⟨rfl,rfl⟩:=ZP a4;simp[h _ _ _ _ a3]
theorem Ws:∀ρ s ds s',Ze ρ s=some (ds,s')->ds.length=0:=fun ρ s ds s' q=>by
 obtain⟨rfl,rfl⟩:=ZP q;rfl
end
mutual
noncomputable def Xr:D->Bool
 | .tup ds=>JG ds
 | .lst _=>false
 | .dk _=>false
 | .dt _=>false
 | .du _=>false
 | .df _=>false
 | .clo _ _=>false
 | _=>true
noncomputable def JG:List D->Bool
 | []=>true
 | d::ds=>Xr d&&JG ds
end
mutual
theorem Zl.only {G:Gh}{H H':Hp}(e:∀b vs,¬G.fp b->H b=some (.tup vs)->H' b=some (.tup vs)):∀{d:D} {v:V},Xr d=true->Zl G H d v->Zl G H' d v
 | .non,_,_,h=>h
 | .bl _,_,_,h=>h
 | .int _,_,_,h=>h
 | .str _,_,_,h=>h
 | .tup ds,v,n,h=>by
  obtain⟨a,vs,e1,nf,e2,r⟩:=jb.mp h;exact jb.mpr ⟨a,vs,e1,nf,e _ _ nf e2,Zi.only e (by simpa[Xr]using n) r⟩
 | .lst ds,v,n,h=>by simp[Xr]at n
 | .dk kvs,v,n,h=>by simp[Xr]at n
 | .dt kvs,v,n,h=>by simp[Xr]at n
 | .du kvs,v,n,h=>by simp[Xr]at n
 | .df kvs,v,n,h=>by simp[Xr]at n
 | .pen,_,_,h=>h
 | .ty _,_,_,h=>h
 | .clo _ _,v,n,h=>by simp[Xr]at n
theorem Zi.only {G:Gh}{H H':Hp}(e:∀b vs,¬G.fp b->H b=some (.tup vs)->H' b=some (.tup vs)):∀{ds:List D} {vs:List V},JG ds=true->Zi G H ds vs->Zi G H' ds vs
 | [],_,_,h=>h
 | d::ds,vs,n,h=>by
  obtain⟨v,r,e1,r1,r2⟩:=je.mp h;have n':Xr d=true/\JG ds=true:=by simpa[JG]using n
  exact je.mpr ⟨v,r,e1,Zl.only e n'.1 r1,Zi.only e n'.2 r2⟩
end
noncomputable def Vs (G:Gh)(Hf H:Hp)(a:Addr):D->Prop
 | .lst ds=>∃vs,H a=some (.lst vs)/\Zi G Hf ds vs
 | .dk kvs=>H a=some (.dK kvs)
 | .dt kvs=>∃o,H a=some (.frz o (.dT kvs))
 | .du kvs=>H a=some (.dT kvs)
 | _=>False
theorem Vs.there (h:Vs G Hf H a d):∃o,H a=some o/\∀vs,o≠.tup vs:=by
 cases d with
 | lst ds=>obtain⟨vs,e,_⟩:=h;simp_all
 | dk kvs=>exact⟨_,h,λ_ z=>by cases z⟩
 | dt kvs=>obtain⟨o,h⟩:=h;simp_all
 | du kvs=>exact⟨_,h,λ_ z=>by cases z⟩
 | _=>exact h.elim
theorem Vs.keep (h:Vs G Hf H a d)(e:Zz G Hf Hf')(ha:∀o,H a=some o->H' a=some o):Vs G Hf' H' a d:=by
 cases d with
 | lst ds=>obtain⟨vs,q,r⟩:=h;exact⟨vs,ha _ q,r.ext e⟩
 | dk kvs=>exact ha _ h
 | dt kvs=>obtain⟨o,h⟩:=h;exact⟨o,ha _ h⟩
 | du kvs=>exact ha _ h
 | _=>exact h.elim
theorem Vs.rep (h:Vs G Hf H a d)(nf:¬G.fp a)(e:Zz G Hf Hf')(ha:∀o,H a=some o->Hf' a=some o):Zl G Hf' d (.ref a):=by
 cases d with
 | lst ds=>obtain⟨vs,q,r⟩:=h;exact jc.mpr ⟨a,vs,rfl,nf,ha _ q,r.ext e⟩
 | dk kvs=>exact jk.mpr ⟨a,rfl,nf,ha _ h⟩
 | dt kvs=>obtain⟨o,h⟩:=h;exact jm.mpr ⟨a,o,rfl,nf,ha _ h⟩
 | du kvs=>exact jn.mpr ⟨a,rfl,nf,ha _ h⟩
 | _=>exact h.elim
structure Jf (G:Gh)(own:List Nat)(kn jO H0:Hp)(σ:St)(Hf H:Hp)(ρ:Zc):Prop where
 len:σ.length=ρ.length
 kn:Zz G kn Hf
 gr:Gr G jO H0 Hf H
 fz:∀(i:Nat) (d:D),i∉own->ρ[i]?=some (some d)->∃v,σ[i]?=some (some v)/\Zl G Hf d v
 ow:∀(i:Nat) (d:D),i∈own->ρ[i]?=some (some d)->∃a,σ[i]?=some (some (.ref a))/\¬G.rd a/\Hf a=none/\H0 a=none/\Vs G Hf H a d
 ne:∀(i j:Nat) (a:Addr) (di dj:D),i∈own->j∈own->i≠j->ρ[i]?=some (some di)->ρ[j]?=some (some dj)->σ[i]?=some (some (.ref a))->σ[j]?=some (some (.ref a))->False
noncomputable def J (G:Gh)(own:List Nat)(kn jO H0:Hp)(σ:St)(H:Hp)(ρ:Zc):Prop:=∃Hf,Jf G own kn jO H0 σ Hf H ρ
noncomputable def Y1 (own:List Nat)(ρ:Zc):Zc:=ρ.mapIdx λi o=>if i∈own then none else o
theorem Jv (ρ:Zc):Y1 [] ρ=ρ:=by
 unfold Y1;apply qaJ;simp
theorem ZjZ (h:(Y1 own ρ)[i]?=some (some d)):i∉own/\ρ[i]?=some (some d):=by
 unfold Y1 at h;simp_all
section
variable {X:Cx}{G:Gh}{own:List Nat}{kn jO H0 Hf H:Hp}{σ:St}{ρ:Zc}
theorem Jf.envA (j:Jf G own kn jO H0 σ Hf H ρ):Yh G Hf σ (Y1 own ρ):=λi d e=>by
 obtain⟨n,q⟩:=ZjZ e;exact j.fz i d n q
theorem jt (h:¬G.rd a):¬G.fp a:=λz=>h (G.sub a z)
theorem Jf.grow (j:Jf G own kn jO H0 σ Hf H ρ)(g:Gr G Hf H Hf' H'):Jf G own kn jO H0 σ Hf' H' ρ where
 len:=j.len
 kn:=j.kn.trans g.ff
 gr:=j.gr.trans g
 fz:=λi d n e=>let ⟨v,a,b⟩:=j.fz i d n e;⟨v,a,b.ext g.ff⟩
 ow:=λi d m e=>by
  obtain⟨a,h1,h2,h3,h4,h5⟩:=j.ow i d m e;have nf:=jt h2;refine⟨a,h1,h2,?_,h4,h5.keep g.ff λo q=>g.hh a o nf q⟩;exact g.nw a nf h3 h5.there
 ne:=j.ne
noncomputable def VF (jO H0 H:Hp):Hp:=λb=>open Classical in if jO b=none/\Nt (H0 b)then none else H b
theorem Vn:Zz G (VF jO H0 H) H:=λb o _ e=>by
 unfold VF at e
 grind
theorem Jf.wideF (j:Jf G own kn jO H0 σ Hf H ρ):Zz G Hf (VF jO H0 H):=λb o n e=>by
 unfold VF;split
 ·rename_i h
  rw[j.gr.nw b n h.1 h.2]at e;cases e
 ·exact j.gr.fh b o n e
theorem Jf.envB (j:Jf G own kn jO H0 σ Hf H ρ):Yh G (VF jO H0 H) σ ρ:=λi d e=>by
 by_cases m:i∈own
 ·obtain⟨a,h1,h2,h3,h4,h5⟩:=j.ow i d m e
  refine⟨_,h1,h5.rep (jt h2) j.wideF λo q=>?_⟩;unfold VF;rw[if_neg (λz=>z.2.no h4)];exact q
 ·obtain⟨v,h1,h2⟩:=j.fz i d m e
  exact⟨v,h1,h2.ext j.wideF⟩
theorem Jf.grW (j:Jf G own kn jO H0 σ Hf H ρ)(g:Gr G (VF jO H0 H) H Hf' H'):Gr G jO H0 Hf' H' where
 hh:=j.gr.hh.trans g.hh
 ff:=λb o n e=>g.ff b o n (j.wideF b o n (j.gr.ff b o n e))
 fh:=g.fh
 nw:=λb n h1 h2=>g.nw b n (by unfold VF;simp_all) (let ⟨u,e,nt⟩:=h2;⟨u,j.gr.hh b u n e,nt⟩)
noncomputable def okB:D->Bool
 | .lst ds=>JG ds
 | .dk _=>true
 | .dt _=>true
 | .du _=>true
 | _=>false
theorem Zl3 (h:okB d=true):U4 d:=by
 cases d <;> first | trivial | (rfl)
theorem Jf.growB (j:Jf G own kn jO H0 σ Hf H ρ)(g:Gr G (VF jO H0 H) H Hf' H') :
  ∃Hf'',Jf G own kn jO H0 σ Hf'' H' ρ/\Zz G Hf Hf''/\(∀d v,Xr d=true->Zl G Hf' d v->Zl G Hf'' d v)/\∀d v,okB d=true->Z3 G H Hf' d v->Zl G Hf' d v->Zl G Hf'' d v/\Z3 G H Hf'' d v:=by
 classical
 -- the owned addresses are left out again
 let OA:Addr->Prop:=λb=>∃i d,i∈own/\ρ[i]?=some (some d)/\σ[i]?=some (some (.ref b))
 have oaH:∀b,OA b->Hf b=none/\¬G.rd b/\∃o,H b=some o/\∀vs,o≠.tup vs:=λb ⟨i,d,m,e,q⟩=>by
  obtain⟨a,h1,h2,h3,h4,h5⟩:=j.ow i d m e;rw[q]at h1;cases h1;exact⟨h3,h2,h5.there⟩
 have W:=j.grW g;refine⟨λb=>if OA b then none else Hf' b,?_⟩;have fF:Zz G Hf (λb=>if OA b then none else Hf' b):=λb o n e=>by
  have:¬OA b:=λz=>by rw[(oaH b z).1]at e;cases e
  show(if OA b then none else Hf' b)=_;rw[if_neg this];exact g.ff b o n (j.wideF b o n e)
 have Fh:Zz G (λb=>if OA b then none else Hf' b) H':=λb o n e=>by
  have e':(if OA b then none else Hf' b)=some o:=e;split at e'
  ·cases e'
  ·exact g.fh b o n e'
 have tupK:∀b vs,¬G.fp b->Hf' b=some (.tup vs)->(if OA b then none else Hf' b)=some (.tup vs):=λb vs nf e=>by
  have:¬OA b:=λz=>by
   obtain⟨_,_,o,q,nt⟩:=oaH b z;have q1:=g.hh b o nf q;have q2:=g.fh b _ nf e;rw[q1]at q2;exact nt vs (zf q2)
  rw[if_neg this];exact e
 have frK:∀a,H a=none->¬OA a:=λa e z=>by
  obtain⟨_,_,o,q,nt⟩:=oaH a z;rw[e]at q;cases q
 refine⟨⟨j.len,j.kn.trans fF,⟨W.hh,j.gr.ff.trans fF,Fh,λb n h1 h2=>?_⟩,λi d n e=>?_,λi d m e=>?_,j.ne⟩,fF,λd v n r=>Zl.only tupK n r,λd v ok fr r=>?_⟩
 ·show(if OA b then none else Hf' b)=none
  split
  ·rfl
  ·exact W.nw b n h1 h2
 ·obtain⟨v,a,b⟩:=j.fz i d n e
  exact⟨v,a,b.ext fF⟩
 ·obtain⟨a,h1,h2,h3,h4,h5⟩:=j.ow i d m e
  refine⟨a,h1,h2,?_,h4,h5.keep fF λo q=>g.hh a o (jt h2) q⟩;show(if OA a then none else Hf' a)=none;rw[if_pos ⟨i,d,m,e,h1⟩]
 ·cases d with
  | lst ds=>
   obtain⟨a,vs,e,n,q,r'⟩:=jc.mp r;have na:=frK a (fr a e trivial).1;have ea:(if OA a then none else Hf' a)=some (.lst vs):=by rw[if_neg na];exact q
   refine⟨jc.mpr ⟨a,vs,e,n,ea,Zi.only tupK ok r'⟩,λb eb m=>?_⟩;rw[e]at eb;cases eb;refine⟨(fr a e trivial).1,λds' ed=>?_⟩
   cases ed
   refine⟨vs,λb=>if b=a then none else if OA b then none else Hf' b,ea,if_pos rfl,λb o nb eb=>?_,?_⟩
   ·have eb':(if b=a then none else if OA b then none else Hf' b)=some o:=eb
    split at eb'
    ·cases eb'
    ·exact eb'
   ·refine Zi.only (λb ws nb eb=>?_) ok r'
    have hba:b≠a:=λz=>by rw[z,q]at eb;cases eb
    show(if b=a then none else if OA b then none else Hf' b)=_;rw[if_neg hba];exact tupK b ws nb eb
  | dk ds=>
   obtain⟨a,e,n,q⟩:=jk.mp r;have na:=frK a (fr a e trivial).1;refine⟨jk.mpr ⟨a,e,n,?_⟩,λb eb m=>⟨(fr b eb m).1,λds' ed=>by cases ed⟩⟩;show(if OA a then none else Hf' a)=_;rw[if_neg na];exact q
  | dt ds=>
   obtain⟨a,o,e,n,q⟩:=jm.mp r;have na:=frK a (fr a e trivial).1;refine⟨jm.mpr ⟨a,o,e,n,?_⟩,λb eb m=>⟨(fr b eb m).1,λds' ed=>by cases ed⟩⟩;simp_all
  | du ds=>
   obtain⟨a,e,n,q⟩:=jn.mp r;have na:=frK a (fr a e trivial).1;refine⟨jn.mpr ⟨a,e,n,?_⟩,λb eb m=>⟨(fr b eb m).1,λds' ed=>by cases ed⟩⟩;simp_all
  | _=>exact absurd (Zl3 ok) (λz=>z)
theorem Jf.set (j:Jf G own kn jO H0 σ Hf H ρ)(ho:∀k,k∈own'->k≠i/\k∈own)(hk:∀k,k∈own->k≠i->k∈own')(r:Zl G Hf d v):Jf G own' kn jO H0 (σ.set i (some v)) Hf H (ρ.set i (some d)) where
 len:=by simp[j.len]
 kn:=j.kn
 gr:=j.gr
 fz:=λk c n e=>by
  by_cases h:i=k
  ·subst h
   have hl:i < ρ.length:=by
    have:=(qx.mp e).1;simp_all
   rw[qD hl]at e
   cases e
   exact⟨v,qD (by rw[j.len];exact hl),r⟩
  ·rw[qv h]at e⊢
   exact j.fz k c (λz=>n (hk k z (qN h))) e
 ow:=λk c m e=>by
  have h:=qN (ho k m).1;rw[qv h]at e⊢;exact j.ow k c (ho k m).2 e
 ne:=λk l a dk dl mk ml n ek el sk sl=>by
  have h:=qN (ho k mk).1;have h':=qN (ho l ml).1;rw[qv h]at ek sk;rw[qv h']at el sl;exact j.ne k l a dk dl (ho k mk).2 (ho l ml).2 n ek el sk sl
noncomputable def Zem:D->Bool
 | .lst _=>true
 | .dk _=>true
 | .dt _=>true
 | .du _=>true
 | _=>false
theorem Zgy (h:Zem d=true):U4 d:=by
 cases d <;> first | trivial | (rfl)
theorem Jf.setOwn (j0:Jf G own kn jO H0 σ Hq Hb ρ)(j:Jf G own kn jO H0 σ Hf H ρ)(ho:∀k,k∈own'↔k=i∨k∈own)(st:G.st s Hb)(hb:Zz G Hb H)(hq:Zz G Hq Hf)
  (r:Zl G Hf d v) (fr:Z3 G Hb Hf d v) (ok:Zem d=true):∃Hf',Jf G own' kn jO H0 (σ.set i (some v)) Hf' H (ρ.set i (some d)):=by
 classical
 have mu:=Zgy ok;obtain⟨a,ea,nfa⟩:∃a,v=.ref a/\¬G.fp a:=by
  cases d with
  | lst ds=>obtain⟨a,vs,e,n,_⟩:=jc.mp r;exact⟨a,e,n⟩
  | dk ds=>obtain⟨a,e,n,_⟩:=jk.mp r;exact⟨a,e,n⟩
  | dt ds=>obtain⟨a,_,e,n,_⟩:=jm.mp r;exact⟨a,e,n⟩
  | du ds=>obtain⟨a,e,n,_⟩:=jn.mp r;exact⟨a,e,n⟩
  | _=>exact mu.elim
 subst ea;have fra:Hb a=none:=(fr a rfl mu).1;have hqa:Hq a=none:=by
  cases e:Hq a with
  | none=>rfl
  | some o=>rw[j0.gr.fh a o nfa e]at fra;cases fra
 have h0a:H0 a=none:=by
  cases e:H0 a with
  | none=>rfl
  | some o=>rw[j0.gr.hh a o nfa e]at fra;cases fra
 have qF:Zz G Hq (λb=>if b=a then none else Hf b):=λb o n e=>by
  have:b≠a:=λz=>by rw[z,hqa]at e;cases e
  show(if b=a then none else Hf b)=_;rw[if_neg this];exact hq b o n e
 have oldA:∀k c,k∈own->ρ[k]?=some (some c)->σ[k]?≠some (some (.ref a)):=λk c m e z=>by
  obtain⟨b,h1,_,_,_,h5⟩:=j0.ow k c m e;rw[z]at h1;cases h1;obtain⟨o,q,_⟩:=h5.there;rw[fra]at q;cases q
 refine⟨λb=>if b=a then none else Hf b,by simp[j.len],j0.kn.trans qF,⟨j.gr.hh,j0.gr.ff.trans qF,λb o n e=>?_,λb n h1 h2=>?_⟩,λk c n e=>?_,λk c m e=>?_,λk l b dk dl mk ml n ek el sk sl=>?_⟩
 ·have e':(if b=a then none else Hf b)=some o:=e
  split at e'
  ·cases e'
  ·exact j.gr.fh b o n e'
 ·show(if b=a then none else Hf b)=none
  split
  ·rfl
  ·exact j.gr.nw b n h1 h2
 ·have h:i≠k:=λz=>n ((ho k).mpr (.inl z.symm))
  rw[qv h]at e⊢;obtain⟨v,q1,q2⟩:=j0.fz k c (λz=>n ((ho k).mpr (.inr z))) e;exact⟨v,q1,q2.ext qF⟩
 ·by_cases h:i=k
  ·subst h
   have hl:i < ρ.length:=by
    have:=(qx.mp e).1;simpa using this
   rw[qD hl]at e
   cases e
   refine⟨a,qD (by rw[j.len];exact hl),ju st fra,by show(if a=a then none else Hf a)=none;rw[if_pos rfl],h0a,?_⟩
   cases d with
   | lst ds=>
    obtain⟨a',vs,e',n',q',r'⟩:=jc.mp r
    cases e'
    obtain⟨ws,Hm,f1,f2,f3,f4⟩:=(fr a rfl mu).2 ds rfl;rw[q']at f1;cases f1;refine⟨vs,j.gr.fh a _ n' q',f4.ext λb o nb eb=>?_⟩;have:b≠a:=λz=>by rw[z,f2]at eb;cases eb
    show(if b=a then none else Hf b)=_;rw[if_neg this];exact f3 b o nb eb
   | dk ds=>obtain⟨a',e',n',q'⟩:=jk.mp r;cases e';exact j.gr.fh a _ n' q'
   | dt ds=>obtain⟨a',o',e',n',q'⟩:=jm.mp r;cases e';exact⟨o',j.gr.fh a _ n' q'⟩
   | du ds=>obtain⟨a',e',n',q'⟩:=jn.mp r;cases e';exact j.gr.fh a _ n' q'
   | _=>exact mu.elim
  ·have m':k∈own:=((ho k).mp m).resolve_left (qN h)
   rw[qv h]at e⊢;obtain⟨b,h1,h2,h3,h4,h5⟩:=j0.ow k c m' e;obtain⟨b',g1,g2,g3,g4,g5⟩:=j.ow k c m' e;rw[h1]at g1;cases g1;refine⟨b,h1,h2,?_,h4,h5.keep qF λo q=>hb b o (jt h2) q⟩;show(if b=a then none else Hf b)=none;split
   ·rfl
   ·exact g3
 ·by_cases hk:i=k
  ·subst hk
   have h':i≠l:=n;have hl:i < σ.length:=by
    have:=(qx.mp sk).1;simpa using this
   rw[qD hl]at sk
   cases sk
   rw[qv h']at el sl;exact oldA l dl (((ho l).mp ml).resolve_left (qN h')) el sl
  ·by_cases hl':i=l
   ·subst hl'
    have hl:i < σ.length:=by
     have:=(qx.mp sl).1;simp_all
    simp_all
   ·rw[qv hk]at ek sk
    rw[qv hl']at el sl;exact j.ne k l b dk dl (((ho k).mp mk).resolve_left (qN hk)) (((ho l).mp ml).resolve_left (qN hl')) n ek el sk sl
theorem Jf.freeze (j:Jf G own kn jO H0 σ Hf H ρ)(ho:∀k,k∈own'->k∈own):∃Hf',Jf G own' kn jO H0 σ Hf' H ρ:=by
 classical
 let OA:Addr->Prop:=λb=>∃i d,i∈own/\i∉own'/\ρ[i]?=some (some d)/\σ[i]?=some (some (.ref b))
 have oaH:∀b,OA b->Hf b=none/\H0 b=none:=λb ⟨i,d,m,_,e,q⟩=>by
  obtain⟨a,h1,h2,h3,h4,h5⟩:=j.ow i d m e;rw[q]at h1;cases h1;exact⟨h3,h4⟩
 have fF:Zz G Hf (λb=>if OA b then H b else Hf b):=λb o n e=>by
  have:¬OA b:=λz=>by rw[(oaH b z).1]at e;cases e
  show(if OA b then H b else Hf b)=_;rw[if_neg this];exact e
 refine⟨λb=>if OA b then H b else Hf b,j.len,j.kn.trans fF,⟨j.gr.hh,j.gr.ff.trans fF,λb o n e=>?_,λb n h1 h2=>?_⟩,λk c n e=>?_,λk c m e=>?_,λk l b dk dl mk ml=>j.ne k l b dk dl (ho k mk) (ho l ml)⟩
 ·have e':(if OA b then H b else Hf b)=some o:=e
  split at e'
  ·exact e'
  ·exact j.gr.fh b o n e'
 ·have:=λz=>h2.no (oaH b z).2
  rw[if_neg this];exact j.gr.nw b n h1 h2
 ·by_cases m:k∈own
  ·obtain⟨a,h1,h2,h3,h4,h5⟩:=j.ow k c m e
   refine⟨_,h1,h5.rep (jt h2) fF λo q=>?_⟩;rw[if_pos ⟨k,c,m,n,e,h1⟩];exact q
  ·obtain⟨v,h1,h2⟩:=j.fz k c m e
   exact⟨v,h1,h2.ext fF⟩
 ·obtain⟨a,h1,h2,h3,h4,h5⟩:=j.ow k c (ho k m) e
  refine⟨a,h1,h2,?_,h4,h5.keep fF λo q=>q⟩;have:¬OA a:=λ⟨i,d,mi,ni,ei,qi⟩=>j.ne i k a d c mi (ho k m) (λz=>ni (z▸m)) ei e qi h1;simp_all
end
theorem Jf.setF {kn:Hp}(j:Jf G own kn jO H0 σ Hf H ρ)(hi:i∉own)(r:Zl G Hf d v):Jf G own kn jO H0 (σ.set i (some v)) Hf H (ρ.set i (some d)):=
 j.set (λk m=>⟨λz=>hi (by simp_all),m⟩) (λk m _=>m) r
noncomputable def WZ (G:Gh)(fr:Bool)(t:TE)(f:Zc->M D):Prop:=
 ∀(σ:St) (Hf H:Hp) (ρ:Zc) (s:Pn) (d:D) (s':Pn) (Q:VK),Zz G Hf H->Yh G Hf σ ρ->G.st s H->f ρ s=some (d,s')->
  (∀v Hf' H',Gr G Hf H Hf' H'->G.st s' H'->Zl G Hf' d v->(fr=true->Z3 G H Hf' d v)->Q v H')->t σ H Q
noncomputable def BS (G:Gh)(own:List Nat)(fr:Bool)(t:TE)(f:Zc->M D):Prop:=
 ∀(kn jO H0:Hp) (σ:St) (Hf H:Hp) (ρ:Zc) (s:Pn) (d:D) (s':Pn) (Q:VK),Jf G own kn jO H0 σ Hf H ρ->G.st s H->f ρ s=some (d,s')->
  (∀v Hf' H',Jf G own kn jO H0 σ Hf' H' ρ->Zz G Hf Hf'->Zz G H H'->G.st s' H'->Zl G Hf' d v->(fr=true->Z3 G H Hf' d v)->Q v H')->t σ H Q
section
variable {X:Cx}{G:Gh}{own:List Nat}{fr:Bool}{t:TE}{f:Zc->M D}
theorem WZ.a (h:WZ G fr t f):BS G own fr t (fun ρ=>f (Y1 own ρ)):=λkn jO H0 σ Hf H ρ s d s' Q j st e k=>
 h σ Hf H (Y1 own ρ) s d s' Q j.gr.fh j.envA st e λv Hf' H' g st' r fz=>k v Hf' H' (j.grow g) g.ff g.hh st' r fz
theorem WZ.n (h:WZ G fr t f):BS G [] fr t f:=λkn jO H0 σ Hf H ρ s d s' Q j st e k=>
 h.a kn jO H0 σ Hf H ρ s d s' Q j st (by show f (Y1 [] ρ) s=_;rw[Jv];exact e) k
theorem ZdO (h:Xr d=true):¬U4 d:=by
 cases d <;> first | exact(λz=>z) | (simp[Xr]at h)
inductive Out where
 | nx (ρ:Zc) | rt (d:D) | bk (ρ:Zc) | ct (ρ:Zc)
noncomputable def Post (G:Gh)(ob own':List Nat)(kn jO H0:Hp)(fr:Bool)(out:Out)(s':Pn)(E:Ends):Prop:=match out with
 | .nx ρ=>∀σ H,J G own' kn jO H0 σ H ρ->G.st s' H->E.nx σ H
 | .bk ρ=>∀σ H,J G ob kn jO H0 σ H ρ->G.st s' H->E.bk σ H
 | .ct ρ=>∀σ H,J G ob kn jO H0 σ H ρ->G.st s' H->E.ct σ H
 | .rt d=>∀v Hf' H',Gr G jO H0 Hf' H'->G.st s' H'->Zl G Hf' d v->(fr=true->Z3 G H0 Hf' d v)->E.rt v H'
noncomputable def Dos (G:Gh)(ob own own':List Nat)(fr:Bool)(t:TS)(g:Zc->M Out):Prop:=
 ∀(kn jO H0:Hp) (σ:St) (H:Hp) (ρ:Zc) (s:Pn) (out:Out) (s':Pn) (E:Ends),J G own kn jO H0 σ H ρ->G.st s H->g ρ s=some (out,s')->Post G ob own' kn jO H0 fr out s' E->t E σ H
noncomputable def Y3 (X:Cx)(G:Gh)(ob own own':List Nat)(fr:Bool)(st:Stmt)(g:Zc->M Out):Prop:=∃t,PS X st t/\Dos G ob own own' fr t g
noncomputable def Xp (X:Cx)(G:Gh)(ob own own':List Nat)(fr:Bool)(sts:List Stmt)(g:Zc->M Out):Prop:=∃t,YU X sts t/\Dos G ob own own' fr t g
variable {ob own' own2:List Nat}
theorem Y3.frz {st:Stmt}(h:Y3 X G ob own2 own' fr st g)(hs:∀k,k∈own2->k∈own:=by decide):Y3 X G ob own own' fr st g:=by
 obtain⟨t,p,q⟩:=h;exact⟨t,p,λkn jO H0 σ H ρ s out s' E ⟨Hf,j⟩ st e po=>q kn jO H0 σ H ρ s out s' E (j.freeze hs) st e po⟩
noncomputable def Zm:Zc->M Out:=fun ρ=>ZL (.nx ρ)
noncomputable def Zh (g1 g2:Zc->M Out):Zc->M Out:=fun ρ=>Zk (g1 ρ) λo=>match o with | .nx ρ'=>g2 ρ' | .rt d=>ZL (.rt d) | .bk ρ'=>ZL (.bk ρ') | .ct ρ'=>ZL (.ct ρ')
theorem YA (hs:∀k,k∈own'->k∈own:=by decide):Xp X G ob own own' fr [] Zm:=⟨_,Bn,λkn jO H0 σ H ρ s out s' E ⟨Hf,j⟩ st e p=>by
 obtain⟨rfl,rfl⟩:=ZP e;exact p σ H (j.freeze hs) st⟩
theorem Y4 {st:Stmt}(h:Y3 X G ob own own2 fr st g1)(h2:Xp X G ob own2 own' fr sts g2):Xp X G ob own own' fr (st::sts) (Zh g1 g2):=by
 obtain⟨t,p,q⟩:=h;obtain⟨u,p2,q2⟩:=h2;refine⟨_,Xo p p2,λkn jO H0 σ H ρ s out s' E j st e po=>?_⟩;obtain⟨o,s1,a1,a2⟩:=Zv e;refine q kn jO H0 σ H ρ s o s1 _ j st a1 ?_
 cases o with
 | nx ρ1=>exact fun σ1 H1 j1 j9=>q2 kn jO H0 σ1 H1 ρ1 s1 out s' E j1 j9 a2 po
 | rt d=>obtain⟨rfl,rfl⟩:=ZP a2;exact po
 | bk ρ1=>obtain⟨rfl,rfl⟩:=ZP a2;exact po
 | ct ρ1=>obtain⟨rfl,rfl⟩:=ZP a2;exact po
noncomputable def ZM (f:Zc->M D):Zc->M Out:=fun ρ=>Zk (f ρ) λd=>ZL (.rt d)
theorem Yd (h:PD X G fr e f):Y3 X G ob own own' fr (.Return (some e) pos) (ZM f):=by
 obtain⟨t,p,q⟩:=h;refine⟨_,Zgg p,λkn jO H0 σ H ρ s out s' E ⟨Hf,j⟩ st e po=>?_⟩;obtain⟨d,s1,a1,a2⟩:=Zv e;obtain⟨rfl,rfl⟩:=ZP a2;exact q σ _ H ρ s d s' _ Vn j.envB st a1 λv Hf' H' g st' r fz=>po v Hf' H' (j.grW g) st' r λz=>Z3.old j.gr.hh r.nofp (fz z)
theorem Zgz (hi:i∈own)(h:PE X (.Name x pos') (ZR i)):Y3 X G ob own own' true (.Return (some (.Name x pos')) pos) (ZM (Za i)):=by
 refine⟨_,Zgg h,λkn jO H0 σ H ρ s out s' E ⟨Hf,j⟩ st e po=>?_⟩;obtain⟨d,s1,a1,a2⟩:=Zv e;obtain⟨rfl,rfl⟩:=ZP a2;obtain⟨e1,rfl⟩:=Y5 a1;have e':ρ[i]?=some (some d):=by
  cases q:ρ[i]? with
  | none=>simp_all
  | some o=>simp_all
 obtain⟨v,h1,h2⟩:=j.envB i d e';obtain⟨a,g1,g2,g3,g4,g5⟩:=j.ow i d hi e';rw[g1]at h1;cases h1;refine⟨_,g1,po (.ref a) _ H (j.grW (.refl Vn)) st h2 λ_ b eb _=>?_⟩
 cases eb
 refine⟨g4,λds ed=>?_⟩;subst ed;obtain⟨vs,q1,q2⟩:=g5;refine⟨vs,Hf,?_,g3,j.wideF,q2⟩;unfold VF;rw[if_neg (λz=>z.2.no g4)];exact q1
noncomputable def Z6 (c:Zc->M Bool)(g1 g2:Zc->M Out):Zc->M Out:=fun ρ=>Zk (c ρ) λb=>if b=true then g1 ρ else g2 ρ
theorem BA (hc:Xd X G c fc)(ha:Xp X G ob own own' fr a g1)(hb:Xp X G ob own own' fr b g2):Y3 X G ob own own' fr (.If c a b pos) (Z6 fc g1 g2):=by
 obtain⟨tc,pc,qc⟩:=hc;obtain⟨ta,pa,qa⟩:=ha;obtain⟨tb,pb,qb⟩:=hb;refine⟨_,JP pc pa pb,λkn jO H0 σ H ρ s out s' E ⟨Hf,j⟩ st e po=>?_⟩;obtain⟨b,s1,a1,a2⟩:=Zv e;refine qc σ _ H ρ s b s1 _ Vn j.envB st a1 λHf' H' g st'=>?_;obtain⟨F,j',fF,q1,q2⟩:=j.growB g
 cases b with
 | true=>exact WW (qa kn jO H0 σ H' ρ s1 out s' E ⟨F,j'⟩ st' a2 po)
 | false=>exact XV (qb kn jO H0 σ H' ρ s1 out s' E ⟨F,j'⟩ st' a2 po)
noncomputable def U5 (f:Zc->M D):Zc->M Out:=fun ρ=>Zk (f ρ) λ_=>ZL (.nx ρ)
theorem ZcR (h:PD X G fr' e f)(hs:xr e none pos.line X.env=pure false:=by rfl):Y3 X G ob own own fr (.Expr e pos) (U5 f):=by
 obtain⟨t,p,q⟩:=h;refine⟨_,Zcs p hs,λkn jO H0 σ H ρ s out s' E ⟨Hf,j⟩ st e po=>?_⟩;obtain⟨d,s1,a1,a2⟩:=Zv e;obtain⟨rfl,rfl⟩:=ZP a2;refine q σ _ H ρ s d s' _ Vn j.envB st a1 λv Hf' H' g st' r fz=>?_;obtain⟨F,j',fF,q1,q2⟩:=j.growB g;exact po σ H' ⟨F,j'⟩ st'
noncomputable def BT (X:Cx)(G:Gh)(fr:Bool)(i:Nat)(st:Stmt)(f:Zc->M D):Prop:=∃te,PS X st (λE σ H=>te σ H λy H1=>E.nx (σ.set i (some y)) H1)/\WZ G fr te f
theorem Yl {pos:Pos}(hN:X.N.Nodup)(hi:X.N[i]?=some x)(hx:Wn X.env.scope x)(he:PD X G fr e f)(hs:xr e (some (.Name x pos')) pos.line X.env=pure false:=by rfl)
  (hf:X.fn x=true∨X.env.scope.names.lookup x=some .local:=by first | exact .inl rfl | exact .inr rfl | assumption):BT X G fr i (.Assign [.Name x pos'] e pos) f:=by
 obtain⟨t,p,q⟩:=he;exact⟨t,We hN hi hx p hs hf,q⟩
noncomputable def ZF (i:Nat)(f:Zc->M D):Zc->M Out:=fun ρ=>Zk (f ρ) λd=>ZL (.nx (ρ.set i (some d)))
theorem Ze9 {st:Stmt}(hp:PS X st (λE σ H=>te σ H λy H1=>E.nx (σ.set i (some y)) H1))(hy:BS G own fr te f)(hi:i∉own):Y3 X G ob own own fr' st (ZF i f):=
 ⟨_,hp,λkn jO H0 σ H ρ s out s' E ⟨Hf,j⟩ st e po=>by
  obtain⟨d,s1,a1,a2⟩:=Zv e;obtain⟨rfl,rfl⟩:=ZP a2;exact hy kn jO H0 σ Hf H ρ s d s' _ j st a1 λv Hf' H' j' e1 e2 st' r fz=>po _ H' ⟨Hf',j'.setF hi r⟩ st'⟩
theorem Yr {st:Stmt}(h:BT X G fr i st f):Y3 X G ob [] [] fr' st (ZF i f):=let ⟨_,p,q⟩:=h;Ze9 p q.n (by simp)
theorem ZcS {st:Stmt}(h:BT X G fr i st f)(hi:i∉own:=by decide):Y3 X G ob own own fr' st (ZF i (fun ρ=>f (Y1 own ρ))):=let ⟨_,p,q⟩:=h;Ze9 p q.a hi
noncomputable def JV (i:Nat)(f:Zc->M D):Zc->M Out:=fun ρ=>Zk (f ρ) λd=>if Zem d=true then ZL (.nx (ρ.set i (some d)))else ZK
theorem Zj0 {st:Stmt}(hp:PS X st (λE σ H=>te σ H λy H1=>E.nx (σ.set i (some y)) H1))(hy:BS G own true te f)(ho:∀k,k∈own'↔k=i∨k∈own):Y3 X G ob own own' fr' st (JV i f):=
 ⟨_,hp,λkn jO H0 σ H ρ s out s' E ⟨Hf,j⟩ st e po=>by
  obtain⟨d,s1,a1,a2⟩:=Zv e;obtain⟨ok,a3⟩:=Xy a2;obtain⟨rfl,rfl⟩:=ZP a3;exact hy kn jO H0 σ Hf H ρ s d s' _ j st a1 λv Hf' H' j' e1 e2 st' r fz=>po _ H' (j.setOwn j' ho st e2 e1 r (fz rfl) ok) st'⟩
theorem ZcT {st:Stmt}(h:BT X G true i st f):Y3 X G ob [] [i] fr' st (JV i f):=let ⟨_,p,q⟩:=h;Zj0 p q.n (by simp)
noncomputable def sPar (i j:Nat)(fs:Zc->M (List D)):Zc->M Out:=fun ρ=>Zk (fs ρ) λds=>match ds with | [a,b]=>if (Xr a&&Xr b)=true then ZL (.nx ((ρ.set i (some a)).set j (some b)))else ZK | _=>ZK
theorem Zl4 (hc:X.calm=true)(hN:X.N.Nodup)(hi:X.N[i]?=some x)(hj:X.N[j]?=some y)(hij:i≠j)(oi:i∉own)(oj:j∉own)
  (hx:X.env.scope.names.lookup x=some .local) (hy:X.env.scope.names.lookup y=some .local) (ha:Xw X G [a,b] fs)
  (hw:swappedStores [.Tuple [.Name x px,.Name y py] kt pt] (.Tuple [a,b] k2 pt2) X.env=pure (some [x,y]))
  (hs:swapsWithSole [.Tuple [.Name x px,.Name y py] kt pt] (.Tuple [a,b] k2 pt2) pos.line X.env=pure false:=by rfl) :
  Y3 X G ob own own fr (.Assign [.Tuple [.Name x px,.Name y py] kt pt] (.Tuple [a,b] k2 pt2) pos) (sPar i j fs):=by
 obtain⟨t,p,q⟩:=ha;refine⟨_,Znr hc hN hi hj hij hx hy p hw hs,λkn jO H0 σ H ρ s out s' E ⟨Hf,j'⟩ st e po=>?_⟩;obtain⟨ds,s1,a1,a2⟩:=Zv e;refine q σ _ H ρ s ds s1 _ Vn j'.envB st a1 λvs Hf' H' g st' r=>?_
 match ds,a2,r with
 | [d1,d2],a2,r=>
  obtain⟨c,a3⟩:=Xy a2;obtain⟨rfl,rfl⟩:=ZP a3;obtain⟨c1,c2⟩:=zo.mp c;obtain⟨v1,r1,rfl,q1,q2⟩:=je.mp r;obtain⟨v2,r2,rfl,q3,q4⟩:=je.mp q2;rw[Zi.nil_iff.mp q4];obtain⟨F,jF,fF,f1,f2⟩:=j'.growB g;exact⟨v1,v2,rfl,po _ H' ⟨F,(jF.setF oi (f1 _ _ c1 q1)).setF oj (f1 _ _ c2 q3)⟩ st'⟩
 | [],a2,_=>cases a2
 | [_],a2,_=>cases a2
 | _::_::_::_,a2,_=>cases a2
inductive Sets (G:Gh)(Hf:Hp)(ok:Nat->Prop):St->Zc->St->Zc->Prop
 | nil {σ ρ}:Sets G Hf ok σ ρ σ ρ
 | cons {σ ρ σ' ρ'} {i:Nat} {d:D} {v:V}:ok i->Zl G Hf d v->Sets G Hf ok (σ.set i (some v)) (ρ.set i (some d)) σ' ρ'->Sets G Hf ok σ ρ σ' ρ'
noncomputable def Uh (X:Cx)(G:Gh)(tg:Expr)(ok:Nat->Prop)(τ:D->Zc->Option Zc):Prop:=
 ∃g,PG X tg g/\∀(x:V) (σ:St) (Hf H:Hp) (d:D) (ρ ρ':Zc) (Q:St->Hp->Prop),Zz G Hf H->Zl G Hf d x->τ d ρ=some ρ'->(∀σ',Sets G Hf ok σ ρ σ' ρ'->Q σ' H)->g x σ H Q
noncomputable def ZZ (i:Nat):D->Zc->Option Zc:=λd ρ=>some (ρ.set i (some d))
theorem VQ (hN:X.N.Nodup)(hi:X.N[i]?=some x)(hx:Wn X.env.scope x)(oi:ok i)(hf:X.fn x=true∨X.env.scope.names.lookup x=some .local:=by first | exact .inl rfl | exact .inr rfl | assumption):Uh X G (.Name x pos) ok (ZZ i):=
 ⟨_,Zct hN hi hx hf,λx σ Hf H d ρ ρ' Q e r q k=>by
  cases q
  exact k _ (.cons oi r .nil)⟩
noncomputable def Zj1 (i j:Nat):D->Zc->Option Zc:=λd ρ=>match d with | .tup [a,b]=>some ((ρ.set i (some a)).set j (some b)) | _=>none
theorem Zj2 {pos px py:Pos}{k:Nat}(hc:X.calm=true)(hN:X.N.Nodup)(hi:X.N[i]?=some x)(hj:X.N[j]?=some y)(hx:Wn X.env.scope x)(hy:Wn X.env.scope y)(oi:ok i)(oj:ok j)
  (hfx:X.fn x=true∨X.env.scope.names.lookup x=some .local:=by first | exact .inl rfl | exact .inr rfl | assumption) (hfy:X.fn y=true∨X.env.scope.names.lookup y=some .local:=by first | exact .inl rfl | exact .inr rfl | assumption)
  (hn:(assignEach [.Name x px,.Name y py] X.env).length=2:=by rfl) (hst:(assignEach [.Name x px,.Name y py] X.env).findIdx? (·.1)=none:=by rfl)
  (hp:B5 X [.Name x px,.Name y py] (ZjA (JQ i) (ZjA (JQ j) gNil))):Uh X G (.Tuple [.Name x px,.Name y py] k pos) ok (Zj1 i j):=
 ⟨_,Znq hc hp hn hst,λx σ Hf H d ρ ρ' Q e r q k=>by
  match d,q,r with
  | .tup [a,b],q,r=>
   cases q
   obtain⟨ad,vs,rfl,n,h,rl⟩:=jb.mp r;obtain⟨v1,r1,rfl,q1,q2⟩:=je.mp rl;obtain⟨v2,r2,rfl,q3,q4⟩:=je.mp q2;have:=Zi.nil_iff.mp q4;subst this;exact⟨ad,_,rfl,ZU.of (e _ _ n h),rfl,v1,_,rfl,v2,_,rfl,rfl,k _ (.cons oi q1 (.cons oj q3 .nil))⟩⟩
theorem Sets.jf (h:Sets G Hf (λi=>i∉own) σ ρ σ' ρ'):Jf G own kn jO H0 σ Hf H ρ->Jf G own kn jO H0 σ' Hf H ρ':=by
 induction h with
 | nil=>simp
 | cons o r _ ih=>exact λj=>ih (j.setF o r)
noncomputable def Uc (G:Gh)(J:It)(Hf':Hp)(ds:List D):Prop:=
 ∀(i:Nat) (jZ H2:Hp) (s:Pn),Zz G Hf' jZ->Zz G jZ H2->G.st s H2->
  (∀d,ds[i]?=some d->J.go i H2/\∀x H3,J.yld i H2 x H3->∃Hf3,Gr G jZ H2 Hf3 H3/\G.st s H3/\Zl G Hf3 d x)/\(i=ds.length->J.stop i H2)
noncomputable def Vj (X:Cx)(G:Gh)(tg iter:Expr)(f:Zc->M (List D)):Prop:=
 ∃wi,PI X tg iter wi/\∀(σ:St) (Hf H:Hp) (ρ:Zc) (s:Pn) (ds:List D) (s':Pn) (R:It->Hp->Prop),Zz G Hf H->Yh G Hf σ ρ->G.st s H->f ρ s=some (ds,s')->
  (∀J Hf' H',Gr G Hf H Hf' H'->G.st s' H'->Uc G J Hf' ds->R J H')->wi σ H R
theorem Uc.range {lo:Int}(e:ds=(qu n).map λ(i:Nat)=>D.int (lo+i)):Uc G (B6 lo n) Hf ds:=λi jZ H2 s e1 e2 st=>by
 subst e;refine⟨λd q=>?_,λq=>by show n<=i;rw[q];simp⟩;have hi:i<n:=by
  have:=(qx.mp q).1;simp_all
 have hd:d=.int (lo+i):=by
  simp_all
 subst hd;refine⟨hi,λx H3 y=>?_⟩;obtain⟨y1,y2⟩:=y;subst y1 y2;exact⟨jZ,.refl e2,st,ja.mpr rfl⟩
theorem Uc.list {K:qf}(nf:¬G.fp a)(h:Hf a=some (.lst vs))(r:Zi G Hf ds vs):Uc G (Itl K a) Hf ds:=λi jZ H2 s e1 e2 st=>by
 have h2:ZJ K H2 a vs:=ZJ.of (e2 _ _ nf (e1 _ _ nf h));refine⟨λd q=>?_,λq=>⟨vs,h2,by rw[q,r.length];simp⟩⟩;obtain⟨v,q1,q2⟩:=r.get q;refine⟨⟨vs,v,h2,q1⟩,λx H3 ⟨y1,y2⟩=>?_⟩;subst y1;have e:=y2 vs h2;rw[q1]at e;cases e;exact⟨jZ,.refl e2,st,q2.ext e1⟩
theorem Uc.tup {K:qf}(nf:¬G.fp a)(h:Hf a=some (.tup vs))(r:Zi G Hf ds vs):Uc G (Itt K a) Hf ds:=λi jZ H2 s e1 e2 st=>by
 have h2:ZU K H2 a vs:=ZU.of (e2 _ _ nf (e1 _ _ nf h));refine⟨λd q=>?_,λq=>⟨vs,h2,by rw[q,r.length];simp⟩⟩;obtain⟨v,q1,q2⟩:=r.get q;refine⟨⟨vs,v,h2,q1⟩,λx H3 ⟨y1,y2⟩=>?_⟩;subst y1;have e:=y2 vs h2;rw[q1]at e;cases e;exact⟨jZ,.refl e2,st,q2.ext e1⟩
noncomputable def Yv (lo:Int)(n:Nat):List D:=(qu n).map λ(i:Nat)=>D.int (lo+i)
noncomputable def Xt (f:Zc->M D):Zc->M (List D):=fun ρ=>Zk (f ρ) λd=>match d with | .int j=>if -(2 ^ 62)<=j/\j<2 ^ 62 then ZL (Yv 0 j.toNat)else ZK | _=>ZK
theorem ZaH (hg:Gl X "range")(hm:X.mg "range" = none)(ha:PD X G r1 a f)(hs:xh [a] X.env=[(false,eval a X.env)]:=by rfl):Vj X G tg (.Call (.Name "range" p) [a] [] pos) (Xt f):=by
 obtain⟨t,pa,qa⟩:=ha.drop;refine⟨_,ZdE hg hm (Yt pa YS (by rw[hs];rfl)) hs,fun σ Hf H ρ s ds s' R e1 e2 e3 e4 k=>?_⟩;obtain⟨d,s1,a1,a2⟩:=Zv e4
 cases d with
 | int j=>
  obtain⟨c,a3⟩:=Xy a2;obtain⟨rfl,rfl⟩:=ZP a3;refine qa σ Hf H ρ s _ _ _ e1 e2 e3 a1 λv jW H1 g st r=>?_;rw[ja.mp r];exact⟨j,rfl,c.1,c.2,k _ jW H1 g st (.range rfl)⟩
 | _=>cases a2
noncomputable def Br (f g:Zc->M D):Zc->M (List D):=fun ρ=>Zk (f ρ) λd=>Zk (g ρ) λe=>match d,e with | .int i,.int j=>if -(2 ^ 62)<=i/\i<2 ^ 62/\-(2 ^ 62)<=j/\j<2 ^ 62 then ZL (Yv i (j-i).toNat)else ZK | _,_=>ZK
noncomputable def YF (f:Zc->M D):Zc->M (List D):=fun ρ=>Zk (f ρ) λd=>match d with | .lst ds=>ZL ds | _=>ZK
noncomputable def Uw (f:Zc->M D):Zc->M (List D):=fun ρ=>Zk (f ρ) λd=>match d with | .tup ds=>ZL ds | _=>ZK
theorem VR (hl:PD X G r1 l f):Vj X G tg l (YF f):=by
 obtain⟨t,pa,qa⟩:=hl.drop;refine⟨_,ZlL pa,fun σ Hf H ρ s ds s' R e1 e2 e3 e4 k=>?_⟩;obtain⟨d,s1,a1,a2⟩:=Zv e4
 cases d with
 | lst es=>
  obtain⟨rfl,rfl⟩:=ZP a2;refine qa σ Hf H ρ s _ _ _ e1 e2 e3 a1 λv jW H1 g st r=>?_;obtain⟨a,vs,rfl,nf,h,rl⟩:=jc.mp r;exact⟨a,rfl,⟨vs,ZJ.of (g.fh _ _ nf h)⟩,k _ jW H1 g st (.list nf h rl)⟩
 | _=>cases a2
theorem ZhE (hl:PD X G r1 l f):Vj X G tg l (Uw f):=by
 obtain⟨t,pa,qa⟩:=hl.drop;refine⟨_,Zns pa,fun σ Hf H ρ s ds s' R e1 e2 e3 e4 k=>?_⟩;obtain⟨d,s1,a1,a2⟩:=Zv e4
 cases d with
 | tup es=>
  obtain⟨rfl,rfl⟩:=ZP a2;refine qa σ Hf H ρ s _ _ _ e1 e2 e3 a1 λv jW H1 g st r=>?_;obtain⟨a,vs,rfl,nf,h,rl⟩:=jb.mp r;exact⟨a,rfl,⟨vs,ZU.of (g.fh _ _ nf h)⟩,k _ jW H1 g st (.tup nf h rl)⟩
 | _=>cases a2
noncomputable def Wi (τ:D->Zc->Option Zc)(body:Zc->M Out):List D->Zc->M Out
 | [],ρ=>ZL (.nx ρ)
 | d::ds,ρ=>Zk (Yy (τ d ρ)) fun ρ1=>Zk (body ρ1) λo=>match o with | .nx ρ2=>Wi τ body ds ρ2 | .ct ρ2=>Wi τ body ds ρ2 | .bk ρ2=>ZL (.nx ρ2) | .rt d=>ZL (.rt d)
noncomputable def XW (fi:Zc->M (List D))(τ:D->Zc->Option Zc)(body:Zc->M Out):Zc->M Out:=fun ρ=>Zk (fi ρ) λds=>Wi τ body ds ρ
noncomputable def BU (X:Cx)(G:Gh)(own:List Nat)(tg iter:Expr)(f:Zc->M (List D)):Prop:=
 ∃wi,PI X tg iter wi/\∀(kn jO H0:Hp) (σ:St) (Hf H:Hp) (ρ:Zc) (s:Pn) (ds:List D) (s':Pn) (R:It->Hp->Prop),Jf G own kn jO H0 σ Hf H ρ->G.st s H->f ρ s=some (ds,s')->
  (∀J Hf' H',Jf G own kn jO H0 σ Hf' H' ρ->Zz G Hf Hf'->G.st s' H'->Uc G J Hf' ds->R J H')->wi σ H R
theorem Vj.a (h:Vj X G tg iter fi):BU X G own tg iter (fun ρ=>fi (Y1 own ρ)):=by
 obtain⟨wi,p,q⟩:=h;exact⟨wi,p,λkn jO H0 σ Hf H ρ s ds s' R j st e k=>q σ Hf H _ s ds s' R j.gr.fh j.envA st e λJ Hf' H' g st' it=>k J Hf' H' (j.grow g) g.ff st' it⟩
theorem Vj.n (h:Vj X G tg iter fi):BU X G [] tg iter fi:=by
 obtain⟨wi,p,q⟩:=h.a;exact⟨wi,p,λkn jO H0 σ Hf H ρ s ds s' R j st e k=>q kn jO H0 σ Hf H ρ s ds s' R j st (by show fi (Y1 [] ρ) s=_;rw[Jv];exact e) k⟩
theorem Jn (hg:Gl X "range")(hm:X.mg "range" = none)(ha:PD X G r1 a f)(hs:xh [a] X.env=[(false,eval a X.env)]:=by rfl):BU X G own tg (.Call (.Name "range" p) [a] [] pos) (Xt f):=by
 obtain⟨t,pa,qa⟩:=ha.drop;refine⟨_,ZdE hg hm (Yt pa YS (by rw[hs];rfl)) hs,λkn jO H0 σ Hf H ρ s ds s' R j st e4 k=>?_⟩;obtain⟨d,s1,a1,a2⟩:=Zv e4
 cases d with
 | int i=>
  obtain⟨c,a3⟩:=Xy a2;obtain⟨rfl,rfl⟩:=ZP a3;refine qa σ _ H ρ s _ _ _ Vn j.envB st a1 λv jW H1 g st r=>?_;obtain⟨F,j',fF,q1,q2⟩:=j.growB g;rw[ja.mp r];exact⟨i,rfl,c.1,c.2,k _ F H1 j' fF st (.range rfl)⟩
 | _=>cases a2
theorem Zb6 {tg:Expr}{p pos:Pos}(hg:Gl X "range")(hm:X.mg "range" = none)(ha:PD X G r1 a f)(hb:PD X G r2 b f2)
  (hs:xh [a,b] X.env=[(false,eval a X.env),(false,eval b X.env)]:=by rfl) (hs2:xh [b] X.env=[(false,eval b X.env)]:=by rfl):BU X G own tg (.Call (.Name "range" p) [a,b] [] pos) (Br f f2):=by
 obtain⟨t,pa,qa⟩:=ha.drop;obtain⟨u,pb,qb⟩:=hb.drop;refine⟨_,Zil hg hm (Yt pa (Yt pb YS (by rw[hs2];rfl)) (by rw[hs,hs2])) hs hs2,λkn jO H0 σ Hf H ρ s ds s' R j st e4 k=>?_⟩;obtain⟨d,s1,a1,a2⟩:=Zv e4;obtain⟨d2,s2,a3,a4⟩:=Zv a2
 match d,d2,a4,a1,a3 with
 | .int i,.int l,a4,a1,a3=>
  obtain⟨c,a5⟩:=Xy a4;obtain⟨rfl,rfl⟩:=ZP a5;refine qa σ _ H ρ s _ _ _ Vn j.envB st a1 λv jW H1 g st r=>?_;refine qb σ jW H1 ρ s1 _ _ _ g.fh (j.envB.ext g.ff) st a3 λv2 jZ H2 g2 j6 r2=>?_;obtain⟨F,j',fF,q1,q2⟩:=j.growB (g.trans g2);rw[ja.mp r,ja.mp r2];exact⟨i,l,rfl,c,k _ F H2 j' fF j6 (.range rfl)⟩
theorem Jf.weak {kn:Hp}(j:Jf G own kn' jO H0 σ Hf H ρ)(e:Zz G kn kn'):Jf G own kn jO H0 σ Hf H ρ:=⟨j.len,e.trans j.kn,j.gr,j.fz,j.ow,j.ne⟩
theorem VV (hp:PassesOwn (xw X.prog X.w) X.A X.env X.xe)(hc:X.calm=true)(hi:BU X G own tg iter fi)(hg:Uh X G tg (λi=>i∉own) τ)(hb:Xp X G own own own fr body g)
  (hs:∀x,foldedSetIterable iter X.env x=pure x:=by intro _;rfl):Y3 X G ob own own fr (.For tg iter body [] pos) (XW fi τ g):=by
 obtain⟨wi,pi,qi⟩:=hi;obtain⟨gt,pg,qg⟩:=hg;obtain⟨tb,pb,qb⟩:=hb;refine⟨_,Znt hp hc pi pg pb hs,λkn jO H0 σ H ρ s out s' E ⟨Hf,j⟩ st e po=>?_⟩;obtain⟨ds,s1,a1,a2⟩:=Zv e;refine qi kn jO H0 σ Hf H ρ s ds s1 _ j st a1 λJt jW H1 j1 e1 j9 it=>?_;refine⟨λi m σ2 H2=>∃ρ2 s2,J G own jW jO H0 σ2 H2 ρ2/\G.st s2 H2/\Wi τ g (ds.drop i) ρ2 s2=some (out,s')/\i<=ds.length/\m=ds.length-i,⟨_,ρ,s1,⟨jW,⟨j1.len,.refl _ _,j1.gr,j1.fz,j1.ow,j1.ne⟩⟩,j9,a2,zc _,rfl⟩,?_⟩;rintro i m σ2 H2 ⟨ρ2,s2,⟨jZ,j2⟩,j6,eq2,hle,rfl⟩;obtain⟨i1,i2⟩:=it i jZ H2 s2 j2.kn j2.gr.fh j6;by_cases hlt:i<ds.length
 ·have hd:ds.drop i=ds[i]::ds.drop (i+1):=yy hlt
  rw[hd]at eq2;obtain⟨ρ3,s3,b1,b2⟩:=Zv eq2;obtain⟨b1',e3⟩:=Y5 b1;subst e3;obtain⟨o,s4,b3,b4⟩:=Zv b2;obtain⟨go,yl⟩:=i1 ds[i] (by simp[hlt]);refine .inr ⟨go,fun σ' H'=>∃ρ5 s5,J G own jW jO H0 σ' H' ρ5/\G.st s5 H'/\Wi τ g (ds.drop (i+1)) ρ5 s5=some (out,s'),fun σ' H' ⟨ρ5,s5,j5,st5,q5⟩=>⟨_,by omega,ρ5,s5,j5,st5,q5,hlt,rfl⟩,λx H3 y3=>?_⟩;obtain⟨Hf3,g3,st3,r3⟩:=yl x H3 y3;have j3:=j2.grow g3;refine qg x σ2 Hf3 H3 ds[i] ρ2 ρ3 _ g3.fh r3 b1' fun σ3 sets=>?_;have j4:=sets.jf j3;refine qb jW jO H0 σ3 H3 ρ3 s3 o s4 _ ⟨Hf3,j4⟩ st3 b3 ?_
  cases o with
  | nx ρ5=>exact fun σ5 H5 j5 st5=>⟨ρ5,s4,j5,st5,b4⟩
  | ct ρ5=>exact fun σ5 H5 j5 st5=>⟨ρ5,s4,j5,st5,b4⟩
  | bk ρ5=>
   obtain⟨rfl,rfl⟩:=ZP b4;exact fun σ5 H5 ⟨Hf5,j5⟩ st5=>po σ5 H5 ⟨Hf5,j5.weak (j.kn.trans e1)⟩ st5
  | rt d=>
   obtain⟨rfl,rfl⟩:=ZP b4;exact po
 ·have hd:ds.drop i=[]:=qbs.mpr (by omega)
  rw[hd]at eq2;obtain⟨rfl,rfl⟩:=ZP eq2;exact .inl ⟨i2 (by omega),po σ2 H2 ⟨jZ,j2.weak (j.kn.trans e1)⟩ j6⟩
end
noncomputable def runB (n k:Nat)(g:Zc->M Out):List D->M D:=λds=>if ds.length=k then Zk (g (ds.map some++qk (n-k) none)) λo=>match o with | .rt d=>ZL d | .nx _=>ZL .non | _=>ZK else ZK
theorem YR {K:qf}{st:Stmt}
  (F:Fun K x qual st f fd) (S:FnScope N ps (Zx st))
  (hb:∀(cdv:Value) (A:xz) (outer:List Env) (s:Shared) (H:Hp) (E:XK),Room k (A.deeper (envOfC qual (Zx st) s.heap.objs.size f cdv))->∀G,GG G->Xp (Xh ZH P w K mg base N qual (Zx st) f cdv A outer s H E).nox G [] [] own fr (Y6 st) g) :
  FnOk P w K mg base ZH (k+1) f fd ps (Z1 ps.length fr GG (runB N.length ps.length g)):=by
 refine F.ok S (λvs H Q E h=>?_) λcdv A outer s H vs Q E hr h=>?_
 ·obtain⟨G,Hf,ds,pn,d,pn',_,e,_⟩:=h
  exact e
 ·obtain⟨G,Hf,ds,pn,d,pn',hG,el,e1,r,st',eF,k'⟩:=h
  obtain⟨t,p,q⟩:=hb cdv A outer s H E hr G hG;refine⟨t,p,?_⟩;obtain⟨hl,a0⟩:=Xy eF;obtain⟨o,s1,a1,a2⟩:=Zv a0;have hpl:ps.length<=N.length:=by have:=congrArg qbc S.pre;rw[zT]at this;omega
  have j0:Jf G [] Hf Hf H (L2.start N vs) Hf H (ds.map some++qk (N.length-ps.length) none):=by
   refine⟨?_,.refl _ _,.refl e1,λi d n e=>?_,λi d m e=>?_,λi j a di dj mi mj n e=>?_⟩
   ·unfold L2.start;simp;omega
   ·have hi:i<ds.length:=by
     by_cases hi:i<ds.length
     ·exact hi
     ·rw[zx (by simpa using hi),zG]at e
      split at e <;> cases e
    have e':ds[i]?=some d:=by
     rw[qS (by simpa using hi),qE]at e
     cases q:ds[i]? with
     | none=>rw[q]at e;cases e
     | some c=>rw[q]at e;simp at e;rw[e]
    obtain⟨v,h1,h2⟩:=r.get e';refine⟨v,?_,h2⟩;unfold L2.start;rw[qS (by simp;rw[<-r.length];exact hi),qE,h1];rfl
   ·exact absurd m (by simp)
   ·exact absurd mi (by simp)
  refine q Hf Hf H (L2.start N vs) H _ pn o s1 _ ⟨Hf,j0⟩ st' a1 ?_
  cases o with
  | rt c=>
   obtain⟨rfl,rfl⟩:=ZP a2;exact λv Hf' H' g' j6 r2 fz=>k' v Hf' H' g' j6 r2 fz
  | nx ρ'=>
   obtain⟨rfl,rfl⟩:=ZP a2;exact fun σ' H' ⟨Hf',j'⟩ j6=>k' .non Hf' H' j'.gr j6 (jh.mpr rfl) λ_=>.scal λz=>z
  | bk ρ'=>cases a2
  | ct ρ'=>cases a2
noncomputable def tOf (G:Gh)(fr:Bool)(f:Zc->M D):TE:=fun σ H Q=>∃(Hf:Hp) (ρ:Zc) (s:Pn) (d:D) (s':Pn),Zz G Hf H/\Yh G Hf σ ρ/\G.st s H/\f ρ s=some (d,s')/\
 ∀v Hf' H',Gr G Hf H Hf' H'->G.st s' H'->Zl G Hf' d v->(fr=true->Z3 G H Hf' d v)->Q v H'
noncomputable def Jc (G:Gh)(f:Zc->M Bool):TT:=fun σ H Q=>∃(Hf:Hp) (ρ:Zc) (s:Pn) (b:Bool) (s':Pn),Zz G Hf H/\Yh G Hf σ ρ/\G.st s H/\f ρ s=some (b,s')/\
 ∀Hf' H',Gr G Hf H Hf' H'->G.st s' H'->Q b H'
noncomputable def gOf (G:Gh)(ok:Nat->Prop)(τ:D->Zc->Option Zc):TG:=λx σ H Q=>∃(Hf:Hp) (d:D) (ρ ρ':Zc),Zz G Hf H/\Zl G Hf d x/\τ d ρ=some ρ'/\∀σ',Sets G Hf ok σ ρ σ' ρ'->Q σ' H
section
variable {X:Cx}{G:Gh}{own:List Nat}{fr:Bool}{f:Zc->M D}
theorem PD.canon (h:PD X G fr e f):PE X e (tOf G fr f):=by
 obtain⟨t,p,q⟩:=h;exact λjJ s σ H Q I ⟨Hf,ρ,pn,d,pn',a1,a2,a3,a4,k⟩=>p jJ s σ H Q I (q σ Hf H ρ pn d pn' Q a1 a2 a3 a4 k)
theorem Xd.canon {f:Zc->M Bool}(h:Xd X G e f):PT X e (Jc G f):=by
 obtain⟨t,p,q⟩:=h;exact λjJ s σ H Q I ⟨Hf,ρ,pn,d,pn',a1,a2,a3,a4,k⟩=>p jJ s σ H Q I (q σ Hf H ρ pn d pn' Q a1 a2 a3 a4 k)
theorem Uh.canon (h:Uh X G tg ok τ):PG X tg (gOf G ok τ):=by
 obtain⟨t,p,q⟩:=h;exact λjJ s σ H v u Q I r ⟨Hf,d,ρ,ρ',a1,a2,a3,k⟩=>p jJ s σ H v u Q I r (q v σ Hf H d ρ ρ' Q a1 a2 a3 k)
noncomputable def Wf (src:List (Option Nat))(ρ:Zc):Zc:=src.map λo=>o.bind λj=>(ρ[j]?).bind id
theorem ZgA (h:Yh G Hf σ ρ):Yh G Hf (Vx src σ) (Wf src ρ):=λi d e=>by
 unfold Wf at e;rw[qE]at e
 cases q:src[i]? with
 | none=>simp_all
 | some o=>
  rw[q]at e
  cases o with
  | none=>simp at e
  | some j=>
   have hj:ρ[j]?=some (some d):=by
    cases e2:ρ[j]? with
    | none=>simp_all
    | some o2=>simp_all
   obtain⟨v,h1,h2⟩:=h j d hj;unfold Vx;simp_all
theorem Sets.len (h:Sets G Hf ok σ ρ σ' ρ'):(σ.length=ρ.length->σ'.length=ρ'.length)/\σ'.length=σ.length:=by
 induction h with
 | nil=>simp
 | cons _ _ _ ih=>simp_all
theorem Sets.env (h:Sets G Hf ok σ ρ σ' ρ'):σ.length=ρ.length->Yh G Hf σ ρ->Yh G Hf σ' ρ':=by
 induction h with
 | nil=>simp
 | @cons σ ρ σ' ρ' i d v o r _ ih=>
  intro hl he;refine ih (by simp[hl]) λk c e=>?_;by_cases h:i=k
  ·subst h
   have hk:i < ρ.length:=by
    have:=(qx.mp e).1;simp_all
   simp_all
  ·rw[qv h]at e⊢
   exact he k c e
theorem Sets.envOld (h:Sets G Hf ok σ ρ σ' ρ')(h0:∀i d,ok i->ρ0[i]?≠some (some d)):Yh G Hf σ ρ0->Yh G Hf σ' ρ0:=by
 induction h with
 | nil=>simp
 | @cons σ ρ σ' ρ' i d v o r _ ih=>
  intro he;refine ih λk c e=>?_;have hne:i≠k:=λz=>h0 k c (z▸o) e;rw[qv hne];exact he k c e
noncomputable def Ux (τ:D->Zc->Option Zc)(ft:Zc->M Bool)(fe:Zc->M D)(ρ:Zc):List D->M (List D)
 | []=>ZL []
 | d::ds=>Zk (Yy (τ d ρ)) fun ρ1=>Zk (ft ρ1) λb=>if b=true then Zk (fe ρ1) λc=>Zk (Ux τ ft fe ρ ds) λr=>ZL (c::r)else Ux τ ft fe ρ ds
noncomputable def Yw (src:List (Option Nat))(fi:Zc->M (List D))(τ:D->Zc->Option Zc)(ft:Zc->M Bool)(fe:Zc->M D):Zc->M D:=fun ρ=>
 Zk (fi ρ) λds=>if ds.length<=xg then Zk (Ux τ ft fe (Wf src ρ) ds) λr=>ZL (.lst r)else ZK
noncomputable def YN:Zc->M Bool:=λ_=>ZL true
theorem Zfa
  (qi:∀(σ:St) (Hf H:Hp) (ρ:Zc) (s:Pn) (ds:List D) (s':Pn) (R:It->Hp->Prop),Zz G Hf H->Yh G Hf σ ρ->G.st s H->fi ρ s=some (ds,s')->
   (∀J Hf' H',Gr G Hf H Hf' H'->G.st s' H'->Uc G J Hf' ds->R J H')->wi σ H R) :
  WZ G true (ZjY src wi (gOf G (λi=>src[i]?=some none) τ) (Jc G ft) (tOf G r1 fe)) (Yw src fi τ ft fe):=by
 intro σ Hf H ρ s d s' Q e1 e2 e3 e4 k;obtain⟨ds,s1,a1,a2⟩:=Zv e4;obtain⟨hz,a3⟩:=Xy a2;obtain⟨r,s2,a4,a5⟩:=Zv a3;obtain⟨rfl,rfl⟩:=ZP a5;refine qi σ Hf H ρ s ds s1 _ e1 e2 e3 a1 λJt jW H1 g1 j9 it=>?_;intro p hp;have nrp:=ju j9 hp;have nfp:=jt nrp;have hf1p:jW p=none:=by
  cases e:jW p with
  | none=>rfl
  | some o=>rw[g1.fh p o nfp e]at hp;cases hp
 have h0:∀(i:Nat) (d:D),src[i]?=some none->(Wf src ρ)[i]?≠some (some d):=λi d e q=>by
  unfold Wf at q;rw[qE,e]at q;simp at q
 refine⟨λi m σ2 H2=>∃(jZ:Hp) (s2:Pn) (vs:List V) (jU rest:List D),i<=ds.length/\m=ds.length-i/\Gr G jW H1 jZ H2/\Yh G jZ σ2 (Wf src ρ)/\σ2.length=(Wf src ρ).length/\G.st s2 H2/\jZ p=none/\H2 p=some (.lst vs)/\Zi G jZ jU vs/\jU.length<=i/\
  Ux τ ft fe (Wf src ρ) (ds.drop i) s2=some (rest,s')/\jU++rest=r,⟨_,jW,s1,[],[],r,zc _,rfl,?_,?_,?_,Gh.grow j9 hp,hf1p,ZG,Zi.nil_iff.mpr rfl,qq _,a4,rfl⟩,?_⟩
 ·refine⟨λb o n e=>?_,.refl _ _,λb o n e=>?_,λb n h1 h2=>h1⟩
  ·rw[Zj (ZY e hp)];exact e
  ·rw[Zj (ZY e hf1p)];exact g1.fh b o n e
 ·exact ZgA (e2.ext g1.ff)
 ·unfold Vx Wf;simp
 ·rintro i m σ2 H2 ⟨jZ,sz,vs,jU,rest,hle,rfl,g2,env2,len2,j6,hfp2,hp2,racc,hacc,eq2,hr⟩
  obtain⟨i1,i2⟩:=it i jZ H2 sz g2.ff g2.fh j6;by_cases hlt:i<ds.length
  ·have hd:ds.drop i=ds[i]::ds.drop (i+1):=yy hlt
   rw[hd]at eq2;obtain⟨ρ3,s3,b1,b2⟩:=Zv eq2;obtain⟨b1',e3'⟩:=Y5 b1;subst e3';obtain⟨bo,s4,b3,b4⟩:=Zv b2;obtain⟨go,yl⟩:=i1 ds[i] (by simp[hlt]);refine .inr ⟨go,λx H3 y3=>?_⟩;obtain⟨Hf3,g3,st3,r3⟩:=yl x H3 y3;refine⟨Hf3,ds[i],Wf src ρ,ρ3,g3.fh,r3,b1',fun σ4 sets=>?_⟩;have env2':=env2.ext g3.ff;have env4:=sets.env len2 env2';have env4':=sets.envOld h0 env2';refine⟨Hf3,ρ3,s3,bo,s4,g3.fh,env4,st3,b3,λHf5 H5 g5 st5=>?_⟩;have g25:=g3.trans g5;have hfp5:Hf5 p=none:=g25.nw p nfp hfp2 ⟨_,hp2,λ_ z=>by cases z⟩;have hp5:H5 p=some (.lst vs):=g25.hh p _ nfp hp2
   cases bo with
   | false=>
    refine XV ⟨ds.length-(i+1),by omega,Hf5,s4,vs,jU,rest,hlt,rfl,g2.trans g25,env4'.ext g5.ff,by rw[<-len2];exact sets.len.2,st5,hfp5,hp5,racc.ext g25.ff,by omega,?_,hr⟩;exact b4
   | true=>
    have b4':Zk (fe ρ3) (λc=>Zk (Ux τ ft fe (Wf src ρ) (ds.drop (i+1))) λr=>ZL (c::r)) s4=some (rest,s'):=b4;obtain⟨c,s6,b5,b6⟩:=Zv b4';obtain⟨rr,s7,b7,b8⟩:=Zv b6;obtain⟨rfl,rfl⟩:=ZP b8;refine WW ⟨Hf5,ρ3,s4,c,s6,g5.fh,env4.ext g5.ff,st5,b5,λv Hf6 H6 g6 st6 r6 _=>?_⟩;have hfp6:Hf6 p=none:=g6.nw p nfp hfp5 ⟨_,hp5,λ_ z=>by cases z⟩;have hp6:H6 p=some (.lst vs):=g6.hh p _ nfp hp5;have hl:vs.length<xg:=by rw[<-racc.length];omega
    refine⟨vs,hp6,hl,ds.length-(i+1),by omega,Hf6,s6,vs ++ [v],jU ++ [c],rr,hlt,rfl,?_,(env4'.ext g5.ff).ext g6.ff,by rw[<-len2];exact sets.len.2,?_,hfp6,ZG,(racc.ext (g25.ff.trans g6.ff)).append (.one r6),by simp;omega,b7,by rw[<-hr];simp⟩
    ·have gg:=(g2.trans g25).trans g6
     refine⟨λb o n e=>?_,gg.ff,λb o n e=>?_,gg.nw⟩
     ·rw[Zj (ZY e hp)];exact gg.hh b o n e
     ·rw[Zj (ZY e hfp6)];exact gg.fh b o n e
    ·refine G.mono _ _ _ st6 (λb o rb e=>?_) (λb φ e=>?_) λb φ e=>?_
     ·have:b≠p:=λz=>nrp (z▸rb)
      rw[Zj this];exact e
     ·have:b≠p:=λz=>by rw[z,hp6]at e;cases e
      rw[Zj this];exact e
     ·have:b≠p:=λz=>by rw[z,hp6]at e;cases e
      rw[Zj this];exact e
  ·have hd:ds.drop i=[]:=qbs.mpr (by omega)
   rw[hd]at eq2;obtain⟨rfl,rfl⟩:=ZP eq2;refine .inl ⟨i2 (by omega),?_⟩;rw[zg]at hr;subst hr;refine k (.ref p) (upd jZ p (.lst vs)) H2 (g1.trans ⟨g2.hh,λb o n e=>?_,λb o n e=>?_,λb n h1 h2=>?_⟩) j6 (jc.mpr ⟨p,vs,rfl,nfp,ZG,racc.ext λb o n e=>?_⟩) λ_ a ea _=>?_
   ·rw[Zj (ZY (g2.ff b o n e) hfp2)];exact g2.ff b o n e
   ·by_cases hb:b=p
    ·subst hb;rw[ZG]at e;rw[hp2];exact e
    ·rw[Zj hb]at e;exact g2.fh b o n e
   ·have:b≠p:=λz=>h2.no (z▸hp)
    rw[Zj this];exact g2.nw b n h1 h2
   ·rw[Zj (ZY e hfp2)];exact e
   ·cases ea
    refine⟨?_,λds' ed=>?_⟩
    ·cases q:H p with
     | none=>rfl
     | some o=>rw[g1.hh p o nfp q]at hp;cases hp
    ·cases ed
     exact⟨vs,jZ,ZG,hfp2,λb o n e=>by rw[Zj (ZY e hfp2)];exact e,racc⟩
theorem V2:VE X [] (Jc G YN):=λjJ s σ H Q I ⟨Hf,ρ,pn,b,pn',a1,a2,a3,a4,k⟩=>by
 obtain⟨rfl,rfl⟩:=ZP a4;exact ZjW jJ s σ H Q I (k Hf H (.refl a1) a3)
theorem BJ (h:Xd X G c ft):VE X [c] (Jc G ft):=ZjX h.canon
theorem Jf.put {kn:Hp}(j:Jf G own kn jO H0 σ Hf H ρ)(hi:i∈own)(e:ρ[i]?=some (some d))(sa:σ[i]?=some (some (.ref a)))
  (new:Vs G Hf (upd H a o') a d'):Jf G own kn jO H0 σ Hf (upd H a o') (ρ.set i (some d')):=by
 obtain⟨a',h1,h2,h3,h4,h5⟩:=j.ow i d hi e;rw[sa]at h1;cases h1;have il:i < ρ.length:=(qx.mp e).1;refine⟨by simp[j.len],j.kn,⟨λb o n q=>?_,j.gr.ff,λb o n q=>?_,j.gr.nw⟩,λk c n q=>?_,λk c m q=>?_,λk l b dk dl mk ml n ek el sk sl=>?_⟩
 ·rw[Zj (ZY q h4)];exact j.gr.hh b o n q
 ·rw[Zj (ZY q h3)];exact j.gr.fh b o n q
 ·have hne:i≠k:=λz=>n (z▸hi)
  rw[qv hne]at q;exact j.fz k c n q
 ·by_cases hk:i=k
  ·subst hk
   rw[qD il]at q
   cases q
   exact⟨a,sa,h2,h3,h4,new⟩
  ·rw[qv hk]at q
   obtain⟨b,g1,g2,g3,g4,g5⟩:=j.ow k c m q;have hab:b≠a:=λz=>j.ne i k a d c hi m hk e q sa (z▸g1);exact⟨b,g1,g2,g3,g4,g5.keep (.refl _ _) λo z=>by rw[Zj hab];exact z⟩
 ·have ek':∃d,ρ[k]?=some (some d):=by
   by_cases hk:i=k
   ·exact⟨d,hk▸e⟩
   ·simp_all
  have el':∃d,ρ[l]?=some (some d):=by
   by_cases hl:i=l
   ·exact⟨d,hl▸e⟩
   ·simp_all
  obtain⟨_,ek'⟩:=ek';obtain⟨_,el'⟩:=el';exact j.ne k l b _ _ mk ml n ek' el' sk sl
theorem ZhF (j:Jf G own kn jO H0 σ Hf H ρ)(hi:i∈own)(e:ρ[i]?=some (some (.lst ds))) :
  ∃a vs,σ[i]?=some (some (.ref a))/\¬G.rd a/\H a=some (.lst vs)/\Zi G Hf ds vs:=by
 obtain⟨a,h1,h2,h3,h4,vs,h5,h6⟩:=j.ow i _ hi e;exact⟨a,vs,h1,h2,h5,h6⟩
theorem Zen {ρ:Zc}{i:Nat}(h:(ρ[i]?).bind id=some d):ρ[i]?=some (some d):=by
 cases q:ρ[i]? with
 | none=>simp_all
 | some o=>simp_all
theorem jA (st:G.st s H)(h:¬G.rd a)
  (hx:(∀φ,H a≠some (.ext φ))/\∀vs,H a≠some (.tup vs):=by constructor <;> (intro φ z;first | (have z2:=z.symm.trans (by assumption:_=some (L2.HO.lst _));cases z2) | (have z2:=z.symm.trans (by assumption:_=some (L2.HO.dK _));cases z2) | (have z2:=z.symm.trans (by assumption:_=some (L2.HO.dT _));cases z2))):G.st s (upd H a o):=G.mono _ _ _ st (λb u rb e=>by
 have:b≠a:=λz=>h (z▸rb);rw[Zj this];exact e) (λb φ e=>by
 have:b≠a:=λz=>hx.1 φ (z▸e);rw[Zj this];exact e) λb φ e=>by
 have:b≠a:=λz=>hx.2 φ (z▸e);rw[Zj this];exact e
noncomputable def UD (i:Nat)(f:Zc->M D):Zc->M Out:=fun ρ=>Zk (f ρ) λd=>match (ρ[i]?).bind id with
 | some (.lst ds)=>if ds.length<xg then ZL (.nx (ρ.set i (some (.lst (ds ++ [d])))))else ZK
 | _=>ZK
theorem Zl5 (hi:i∈own)(hy:BS G own r1 te f) :
  Dos G ob own own fr (Zht (tBM X.K "list" Zcv (ZR i) (Zhw te Jb))) (UD i f):=λkn jO H0 σ H ρ s out s' E ⟨Hf,j⟩ st e po=>by
 obtain⟨d,s1,a1,a2⟩:=Zv e
 cases hb:(ρ[i]?).bind id with
 | none=>rw[hb]at a2;cases a2
 | some c=>
  rw[hb]at a2
  cases c with
  | lst ds=>
   have a2':=a2;obtain⟨c2,a3⟩:=Xy a2';obtain⟨rfl,rfl⟩:=ZP a3;have ei:=Zen hb;obtain⟨a,vs,h1,h2,h3,h4⟩:=ZhF j hi ei;refine⟨_,h1,.inl ⟨rfl,vs,ZJ.of h3⟩,?_⟩;refine hy kn jO H0 σ Hf H ρ s d s' _ j st a1 λv Hf' H' j' e1 e2 st' r fz=>?_;obtain⟨a',vs',h1',h2',h3',h4'⟩:=ZhF j' hi ei;rw[h1]at h1';cases h1';refine⟨a,vs',v,rfl,rfl,h3',by rw[<-h4'.length];exact c2,?_⟩;exact po σ _ ⟨Hf',j'.put hi ei h1 ⟨vs' ++ [v],ZG,h4'.append (.one r)⟩⟩ (jA st' h2)
  | _=>cases a2
theorem ZbQ {pos p2 p3:Pos}(hv:PE X (.Name x p1) (ZR i))(p:PE X e te)
  (hbase:xq (.Name x p1) "append" X.env (eval (.Name x p1) X.env)=eval (.Name x p1) X.env:=by rfl)
  (hfew:((backTo p3 (xh [e] X.env)).all (λx=>!x.1)&&(xp p3 (xi [] X.env)).all (λx=>x.1.isSome)
   && decide ([e].length+([]:List Keyword).length+(if ([]:List Keyword).isEmpty then 0 else 1)<30))=true:=by rfl)
  (hline:(p2.endLine==p3.line)=true:=by rfl) (hs:xh [e] X.env=(false,eval e X.env)::xh [] X.env:=by rfl)
  (hsw:xr (.Call (.Attribute (.Name x p1) "append" p2) [e] [] p3) none pos.line X.env=pure false:=by rfl) :
  PS X (.Expr (.Call (.Attribute (.Name x p1) "append" p2) [e] [] p3) pos) (Zht (tBM X.K "list" Zcv (ZR i) (Zhw te Jb))):=
 Zcs (BG zq qaV qaW ZbP hv (Yt p YS hs) hbase hfew hline hs rfl) hsw
section
variable {i:Nat}{x:Str}{e:Expr}{pos p1 p2 p3:Pos}{r1:Bool}{ob:List Nat}{st:Stmt}
theorem ZcU (hi:i∈own)(he:PD X G r1 e f)(hp:∀te,PE X e te->PS X st (Zht (tBM X.K "list" Zcv (ZR i) (Zhw te Jb)))):Y3 X G ob own own fr st (UD i (fun ρ=>f (Y1 own ρ))):=by
 obtain⟨t,p,q⟩:=he;exact⟨_,hp t p,Zl5 hi (WZ.a q)⟩
end
end
section
variable {X:Cx}{G:Gh}
noncomputable def dI (C:Int->Int->Bool)(g:Int->Int->D):D->D->Option D
 | .int i,.int j=>if C i j=true then some (g i j)else none
 | _,_=>none
theorem Zeo (h:dI C g d e=some c):∃i j,d=.int i/\e=.int j/\C i j=true/\c=g i j:=by
 match d,e,h with
 | .int i,.int j,h=>
  have h':(if C i j=true then some (g i j)else none)=some c:=h;simp_all
theorem Zj3 {g:Int->Int->Int}(h:Yc X f (rI C λi j=>.int (g i j)))(hc:∀i j,Cb i j=true->C i j):Xm X G f (dI Cb λi j=>.int (g i j)):=
 ⟨_,h,λHf H s x y d e c Q e1 st rx ry q k=>by
  obtain⟨i,j,rfl,rfl,hcb,rfl⟩:=Zeo q;exact⟨i,j,ja.mp rx,ja.mp ry,hc i j hcb,k _ Hf H (.refl e1) st (ja.mpr rfl) (.scal λz=>z)⟩⟩
theorem ZnG {g:Int->Int->Int}(h:Yc X f (Vi λi j=>.int (g i j))):Xm X G f (dI (λ_ _=>true) λi j=>.int (g i j)):=
 ⟨_,h,λHf H s x y d e c Q e1 st rx ry q k=>by
  obtain⟨i,j,rfl,rfl,hcb,rfl⟩:=Zeo q;exact⟨i,j,ja.mp rx,ja.mp ry,k _ Hf H (.refl e1) st (ja.mpr rfl) (.scal λz=>z)⟩⟩
theorem Zj4 {g:Int->Int->Bool}(h:Yc X f (Vi λi j=>.bl (g i j))):Xm X G f (dI (λ_ _=>true) λi j=>.bl (g i j)):=
 ⟨_,h,λHf H s x y d e c Q e1 st rx ry q k=>by
  obtain⟨i,j,rfl,rfl,hcb,rfl⟩:=Zeo q;exact⟨i,j,ja.mp rx,ja.mp ry,k _ Hf H (.refl e1) st (jd.mpr rfl) (.scal λz=>z)⟩⟩
noncomputable def Wj:=dI (λ_ _=>true) λi j=>.int (i-j)
noncomputable def U6 (i j:Int):Bool:=(decide (-(2 ^ 64)<i)&&decide (i<2 ^ 64))||(decide (-(2 ^ 64)<j)&&decide (j<2 ^ 64))
noncomputable def Ud:=dI U6 λi j=>.int (i*j)
noncomputable def UE:=dI (λ_ j=>decide (0<j)) λi j=>.int (i % j)
noncomputable def Wk:=dI (λi j=>decide (0<=j)&&decide (j<=1000000)&&decide (i.natAbs<2 ^ 64)) λi j=>.int (i ^ j.toNat)
theorem Zcw:Xm X G (binaryOp .Sub) Wj:=ZnG Znu
theorem Us:Xm X G (binaryOp .Mult) Ud:=Zj3 Zgm λi j h=>by
 simp only[U6,Bool.or_eq_true,zd,decide_eq_true_eq]at h;exact h
theorem Zcx:Xm X G (binaryOp .Mod) UE:=Zj3 Zef λi j h=>by simp_all
theorem Zep:Xm X G (binaryOp .Pow) Wk:=Zj3 Znv λi j h=>by
 simp at h;exact⟨h.1.1,h.1.2,h.2⟩
noncomputable def UL:=dI (λ_ _=>true) λi j=>.bl (decide (i<=j))
noncomputable def VH:=dI (λ_ _=>true) λi j=>.bl (decide (j<=i))
theorem ZgB:Xm X G (xk .LtE) UL:=Zj4 Zor
theorem Zj5:Xm X G (xk .GtE) VH:=Zj4 Zot
noncomputable def Z4:List D->Option (List Int)
 | []=>some []
 | .int i::ds=>(Z4 ds).map (i :: ·)
 | _::_=>none
theorem UX:∀{ds:List D} {ns:List Int},Z4 ds=some ns->ds=ns.map D.int
 | [],ns,h=>by simp[Z4]at h;subst h;rfl
 | .int i::ds,ns,h=>by
  cases e:Z4 ds with
  | none=>simp[Z4,e]at h
  | some ms=>simp[Z4,e]at h;subst h;simp[UX e]
 | .non::_,_,h=>by simp[Z4]at h
 | .bl _::_,_,h=>by simp[Z4]at h
 | .str _::_,_,h=>by simp[Z4]at h
 | .tup _::_,_,h=>by simp[Z4]at h
 | .lst _::_,_,h=>by simp[Z4]at h
 | .dk _::_,_,h=>by simp[Z4]at h
 | .dt _::_,_,h=>by simp[Z4]at h
 | .du _::_,_,h=>by simp[Z4]at h
 | .df _::_,_,h=>by simp[Z4]at h
 | .pen::_,_,h=>by simp[Z4]at h
 | .ty _::_,_,h=>by simp[Z4]at h
theorem Zbf (ns:List Int):Z4 (ns.map D.int)=some ns:=by
 induction ns with
 | nil=>rfl
 | cons n ns ih=>simp[Z4,ih]
theorem jp:∀{ns:List Int} {vs:List V},Zi G H (ns.map D.int) vs->vs=ns.map V.int
 | [],vs,h=>Zi.nil_iff.mp h
 | n::ns,vs,h=>by
  obtain⟨v,r,rfl,h1,h2⟩:=je.mp h;rw[ja.mp h1,jp h2];rfl
noncomputable def UM:D->D->Option D
 | .int i,.int j=>some (.bl (decide (i<j)))
 | .tup a,.tup b=>match Z4 a,Z4 b with | some ns,some ms=>some (.bl (HT.lexLt ns ms)) | _,_=>none
 | _,_=>none
theorem ZgC (hu:X.A.units<cLine):Xm X G (xk .Lt) UM:=
 ⟨_,ZjD.or (Znz hu),λHf H s x y d e c Q e1 st rx ry q k=>by
  match d,e,q,rx,ry with
  | .int i,.int j,q,rx,ry=>
   cases q
   exact .inl ⟨i,j,ja.mp rx,ja.mp ry,k _ Hf H (.refl e1) st (jd.mpr rfl) (.scal λz=>z)⟩
  | .tup a,.tup b,q,rx,ry=>
   have q:(match Z4 a,Z4 b with | some ns,some ms=>some (D.bl (HT.lexLt ns ms)) | _,_=>none)=some c:=q
   cases ea:Z4 a with
   | none=>simp_all
   | some ns=>
    cases eb:Z4 b with
    | none=>simp_all
    | some ms=>
     rw[ea,eb]at q
     cases q
     rw[UX ea]at rx;rw[UX eb]at ry;obtain⟨p,vs,rfl,np,hp,rp⟩:=jb.mp rx;obtain⟨p2,vs2,rfl,np2,hp2,rp2⟩:=jb.mp ry;rw[jp rp]at hp;rw[jp rp2]at hp2;exact .inr ⟨p,p2,ns,ms,rfl,rfl,ZU.of (e1 _ _ np hp),ZU.of (e1 _ _ np2 hp2),k _ Hf H (.refl e1) st (jd.mpr rfl) (.scal λz=>z)⟩⟩
theorem Zl6:Yc X (binaryOp .Add) (λx y H Q=>∃a b ys,x=.ref a/\y=.ref b/\ZU X.K H a []/\ZU X.K H b ys/\Q (.ref b) H):=by
 intro jJ s σ H x y v u Q I rx ry h;obtain⟨a,b,ys,rfl,rfl,ha,hb,q⟩:=h
 cases rx
 cases ry
 obtain⟨jK,r1,p1,_⟩:=I.tuple ha;obtain⟨ke,r2,p2,_⟩:=I.tuple hb;have e0:jK=[]:=by cases r1;rfl
 subst e0;obtain⟨⟨cls,dd,data,sl⟩,ho,hc,n,hd⟩:=id p1;obtain⟨⟨cls2,dd2,data2,sl2⟩,ho2,hc2,n2,hd2⟩:=id p2;subst hc hd hc2 hd2;exact concat_meets ⟨_,ho,rfl⟩ ⟨_,ho2,rfl⟩ noFill_tuple_add seq_tuple_add yS yI (yB _ _)
   (tuple_addW0 a b ([]:List Value).toArray ke.toArray n n2 dd dd2 sl sl2 rfl) ⟨ho,ho2,⟨.ref b,H,I,rfl,q⟩⟩
noncomputable def YK:D->D->Option D
 | .int i,.int j=>some (.int (i+j))
 | .tup a,.tup b=>if a.length+b.length<=xg then some (.tup (a++b))else none
 | .lst a,.lst b=>if a.length+b.length<=xg then some (.lst (a++b))else none
 | _,_=>none
theorem Wu:Xm X G (binaryOp .Add) YK:=
 ⟨_,Zgl.or (ZnD.or (ZlV.or Zl6)),λHf H s x y d e c Q e1 st rx ry q k=>by
  match d,e,q,rx,ry with
  | .int i,.int j,q,rx,ry=>
   cases q
   exact .inl ⟨i,j,ja.mp rx,ja.mp ry,k _ Hf H (.refl e1) st (ja.mpr rfl) (.scal λz=>z)⟩
  | .lst a,.lst b,q,rx,ry=>
   have q:(if a.length+b.length<=xg then some (D.lst (a++b))else none)=some c:=q;split at q
   ·rename_i hz
    cases q
    obtain⟨p,vs,rfl,np,hp,rp⟩:=jc.mp rx;obtain⟨p2,vs2,rfl,np2,hp2,rp2⟩:=jc.mp ry;refine .inr (.inl ⟨p,p2,vs,vs2,rfl,rfl,e1 _ _ np hp,e1 _ _ np2 hp2,by rw[<-rp.length,<-rp2.length];exact hz,λl hl=>?_⟩);have nf:=Gh.nofp st hl;have g2:=Gr.new (o:=.lst (vs++vs2)) e1 hl nf;have rr:=rp.append rp2;exact k (.ref l) _ _ g2 (Gh.grow st hl) (jc.mpr ⟨l,_,rfl,nf,ZG,rr.ext g2.ff⟩) (Z3.mk e1 hl nf rr)
   ·cases q
  | .tup a,.tup b,q,rx,ry=>
   have q:(if a.length+b.length<=xg then some (D.tup (a++b))else none)=some c:=q;split at q
   ·rename_i hz
    cases q
    obtain⟨p,vs,rfl,np,hp,rp⟩:=jb.mp rx;obtain⟨p2,vs2,rfl,np2,hp2,rp2⟩:=jb.mp ry;by_cases hv:vs=[]
    ·subst hv
     have ea:a=[]:=zZ.mp (by rw[rp.length];rfl);subst ea;exact .inr (.inr (.inr ⟨p,p2,vs2,rfl,rfl,ZU.of (e1 _ _ np hp),ZU.of (e1 _ _ np2 hp2),k _ Hf H (.refl e1) st ry (.scal λz=>z)⟩))
    ·refine .inr (.inr (.inl ⟨p,p2,vs,vs2,rfl,rfl,ZU.of (e1 _ _ np hp),ZU.of (e1 _ _ np2 hp2),hv,by rw[<-rp.length,<-rp2.length];exact hz,λz=>?_,λ_ l hl=>?_⟩))
     ·subst z
      have eb:=zZ.mp (by rw[rp2.length];rfl);subst eb;rw[zg]at k;exact k _ Hf H (.refl e1) st rx (.scal λz=>z)
     ·have nf:=Gh.nofp st hl
      have g2:=Gr.new (o:=.tup (vs++vs2)) e1 hl nf;exact k (.ref l) _ _ g2 (Gh.grow st hl) (jb.mpr ⟨l,_,rfl,nf,ZG,(rp.append rp2).ext g2.ff⟩) (.scal λz=>z)
   ·cases q⟩
noncomputable def Zq:D->D->Option D
 | .lst ds,.int i=>XZ ds i
 | .tup ds,.int i=>XZ ds i
 | _,_=>none
theorem ZhG (r:Zi G Hf ds vs)(h:XZ ds i=some c):∃v,XZ vs i=some v/\Zl G Hf c v:=by
 unfold XZ at h⊢;rw[<-r.length]
 cases e:UJ ds.length i with
 | none=>simp_all
 | some j=>
  rw[e]at h;obtain⟨v,h1,h2⟩:=r.get h;exact⟨v,h1,h2⟩
theorem Z8:IxD X G Zq:=
 ⟨_,WJ.or ZnA,λHf H s x y d e c Q e1 st rx ry q k=>by
  match d,e,q,rx,ry with
  | .lst ds,.int i,q,rx,ry=>
   obtain⟨p,vs,rfl,np,hp,rp⟩:=jc.mp rx;obtain⟨v,h1,h2⟩:=ZhG rp q;exact .inl ⟨p,vs,i,v,rfl,ja.mp ry,ZJ.of (e1 _ _ np hp),h1,k v h2⟩
  | .tup ds,.int i,q,rx,ry=>
   obtain⟨p,vs,rfl,np,hp,rp⟩:=jb.mp rx;obtain⟨v,h1,h2⟩:=ZhG rp q;exact .inr ⟨p,vs,i,v,rfl,ja.mp ry,ZU.of (e1 _ _ np hp),h1,k v h2⟩⟩
theorem ji (h:Zi G H [d] xs):∃v,xs=[v]/\Zl G H d v:=by
 obtain⟨v,r,rfl,h1,h2⟩:=je.mp h;rw[Zi.nil_iff.mp h2];exact⟨v,rfl,h1⟩
theorem jl (h:Zi G H [d,e] xs):∃v w,xs=[v,w]/\Zl G H d v/\Zl G H e w:=by
 obtain⟨v,r,rfl,h1,h2⟩:=je.mp h;obtain⟨w,rfl,h3⟩:=ji h2;exact⟨v,w,rfl,h1,h3⟩
noncomputable def Y2:List D->Option D
 | [.lst ds]=>some (.int ds.length)
 | [.tup ds]=>some (.int ds.length)
 | _=>none
theorem ZgD:Wy X G (.builtin "len") Y2:=
 ⟨_,Zal,λHf H s xs ds c Q e1 st r q k=>by
  match ds,q,r with
  | [.lst es],q,r=>
   cases q
   obtain⟨v,rfl,rv⟩:=ji r;obtain⟨p,vs,rfl,np,hp,rp⟩:=jc.mp rv;exact⟨p,vs,rfl,.inl (ZJ.of (e1 _ _ np hp)),k _ Hf H (.refl e1) st (ja.mpr (by rw[rp.length])) (.scal λz=>z)⟩
  | [.tup es],q,r=>
   cases q
   obtain⟨v,rfl,rv⟩:=ji r;obtain⟨p,vs,rfl,np,hp,rp⟩:=jb.mp rv;exact⟨p,vs,rfl,.inr (ZU.of (e1 _ _ np hp)),k _ Hf H (.refl e1) st (ja.mpr (by rw[rp.length])) (.scal λz=>z)⟩⟩
noncomputable def JH:List D->Option D
 | [.lst ds]=>some (.tup ds)
 | [.tup ds]=>some (.tup ds)
 | _=>none
theorem Zam:Wy X G (.type "tuple") JH:=
 ⟨_,Zdy,λHf H s xs ds c Q e1 st r q k=>by
  match ds,q,r with
  | [.lst es],q,r=>
   cases q
   obtain⟨v,rfl,rv⟩:=ji r;obtain⟨p,vs,rfl,np,hp,rp⟩:=jc.mp rv;refine⟨p,vs,rfl,.inl ⟨ZJ.of (e1 _ _ np hp),λl hl=>?_⟩⟩;have nf:=Gh.nofp st hl;have g2:=Gr.new (o:=.tup vs) e1 hl nf;exact k (.ref l) _ _ g2 (Gh.grow st hl) (jb.mpr ⟨l,_,rfl,nf,ZG,rp.ext g2.ff⟩) (.scal λz=>z)
  | [.tup es],q,r=>
   cases q
   obtain⟨v,rfl,rv⟩:=ji r;obtain⟨p,vs,rfl,np,hp,rp⟩:=jb.mp rv;exact⟨p,vs,rfl,.inr ⟨ZU.of (e1 _ _ np hp),k _ Hf H (.refl e1) st rv (.scal λz=>z)⟩⟩⟩
noncomputable def JR:List D->Option D
 | [.int i,.int j]=>some (.int (if j > i then j else i))
 | _=>none
noncomputable def U7:List D->Option D
 | [.int i,.int j]=>some (.int (if j<i then j else i))
 | _=>none
theorem Zbg (hc:X.calm=true):Wy X G (.builtin "max") JR:=
 ⟨_,Zin hc,λHf H s xs ds c Q e1 st r q k=>by
  match ds,q,r with
  | [.int i,.int j],q,r=>
   cases q
   obtain⟨v,w,rfl,rv,rw'⟩:=jl r;rw[ja.mp rv,ja.mp rw'];exact⟨i,j,rfl,k _ Hf H (.refl e1) st (ja.mpr rfl) (.scal λz=>z)⟩⟩
theorem Zbh (hc:X.calm=true):Wy X G (.builtin "min") U7:=
 ⟨_,Zio hc,λHf H s xs ds c Q e1 st r q k=>by
  match ds,q,r with
  | [.int i,.int j],q,r=>
   cases q
   obtain⟨v,w,rfl,rv,rw'⟩:=jl r;rw[ja.mp rv,ja.mp rw'];exact⟨i,j,rfl,k _ Hf H (.refl e1) st (ja.mpr rfl) (.scal λz=>z)⟩⟩
noncomputable def Va:List D->Option D
 | [.int i]=>some (.int i)
 | [.bl b]=>some (.int (if b then 1 else 0))
 | _=>none
theorem Zbi:Wy X G (.type "int") Va:=
 ⟨_,Zip,λHf H s xs ds c Q e1 st r q k=>by
  match ds,q,r with
  | [.int i],q,r=>
   cases q
   obtain⟨v,rfl,rv⟩:=ji r;rw[ja.mp rv];exact .inl ⟨i,rfl,k _ Hf H (.refl e1) st (ja.mpr rfl) (.scal λz=>z)⟩
  | [.bl i],q,r=>
   cases q
   obtain⟨v,rfl,rv⟩:=ji r;rw[jd.mp rv];exact .inr ⟨i,rfl,k _ Hf H (.refl e1) st (ja.mpr rfl) (.scal λz=>z)⟩⟩
theorem ZhH {pos:Pos}(hg:Gl X x)(hm:X.mg x=none)(hv:xj x=some (.type n))(hn:x≠"__name__":=by decide)(hd:(x==("__debug__" : Str))=false:=by decide):PD X G true (.Name x pos) (dC (.ty n)):=by
 refine⟨_,Zee (v:=.ty n) hg hm hv rfl hn hd,fun σ Hf H ρ s d s' Q e1 e2 e3 e4 k=>?_⟩;obtain⟨rfl,rfl⟩:=ZP e4;exact k _ Hf H (.refl e1) e3 (jq.mpr rfl) λ_=>.scal λz=>z
noncomputable def Zeq:D->Option String
 | .non=>some "NoneType"
 | .bl _=>some "bool"
 | .int _=>some "int"
 | .str _=>some "str"
 | .tup _=>some "tuple"
 | .lst _=>some "list"
 | .dk _=>some "dict"
 | .dt _=>none
 | .du _=>none
 | .df _=>none
 | _=>none
noncomputable def BK:List String:=["int","bool","str","tuple","list","dict"]
noncomputable def Jd:List D->Option D
 | [d,.ty T]=>match Zeq d with
  | some n=>if BK.contains T then some (.bl (n==T||(n == "bool" && T == "int")))else none
  | none=>none
 | _=>none
theorem Zl7 (K:qf):∀n∈["NoneType","bool","int","str","tuple","list","dict"],∀T∈BK,yH K (.type n) (.type T)=some (n==T||(n == "bool" && T == "int")):=by
 intro n hn T hT;simp only[BK,qy,zV,or_false]at hn hT;rcases hn with rfl | rfl | rfl | rfl | rfl | rfl | rfl <;> rcases hT with rfl | rfl | rfl | rfl | rfl | rfl <;> rfl
theorem Zix (e1:Zz G Hf H)(r:Zl G Hf d v)(h:Zeq d=some n):TyOf X.K H v (.type n)/\n∈["NoneType","bool","int","str","tuple","list","dict"]:=by
 cases d with
 | non=>cases h;rw[jh.mp r];exact⟨.non,by decide⟩
 | bl b=>cases h;rw[jd.mp r];exact⟨.bl b,by decide⟩
 | int b=>cases h;rw[ja.mp r];exact⟨.int b,by decide⟩
 | str b=>cases h;rw[jg.mp r];exact⟨.str b,by decide⟩
 | tup ds=>cases h;obtain⟨p,vs,rfl,np,hp,rp⟩:=jb.mp r;exact⟨.tup (e1 _ _ np hp),by decide⟩
 | lst ds=>cases h;obtain⟨p,vs,rfl,np,hp,rp⟩:=jc.mp r;exact⟨.lst (e1 _ _ np hp),by decide⟩
 | dk ds=>cases h;obtain⟨p,rfl,np,hp⟩:=jk.mp r;exact⟨.dK (e1 _ _ np hp),by decide⟩
 | dt ds=>cases h
 | du ds=>cases h
 | df ds=>cases h
 | pen=>cases h
 | ty _=>cases h
 | clo _ _=>cases h
theorem Ziy:XJ X (.builtin "isinstance") (λxs H Q=>∃x n T,xs=[x,.ty T]/\TyOf X.K H x (.type n)/\n∈["NoneType","bool","int","str","tuple","list","dict"]/\T∈BK/\Q (.bl (n==T||(n == "bool" && T == "int"))) H):=by
 intro jJ s σ H xs us Q I r h;obtain⟨x,n,T,rfl,ty,hn,hT,q⟩:=h;obtain⟨u,w',rfl,ru,rw'⟩:=Zhv r
 cases (show w'=qaN T from rw')
 exact Zis I ru ty (Zl7 X.K n hn T hT) λtk=>⟨.bl _,H,I.tok tk,rfl,q⟩
theorem Za3:Wy X G (.builtin "isinstance") Jd:=
 ⟨_,Ziy,λHf H s xs ds c Q e1 st r q k=>by
  match ds,q,r with
  | [d,.ty T],q,r=>
   obtain⟨v,w,rfl,rv,rw'⟩:=jl r;rw[jq.mp rw'];have q:(match Zeq d with | some n=>if BK.contains T then some (D.bl (n==T||(n == "bool" && T == "int")))else none | none=>none)=some c:=q
   cases e:Zeq d with
   | none=>simp_all
   | some n=>
    rw[e]at q;simp only at q;split at q
    ·cases q
     obtain⟨t1,t2⟩:=Zix e1 rv e;exact⟨v,n,T,rfl,t1,t2,by simp_all,k _ Hf H (.refl e1) st (jd.mpr rfl) (.scal λz=>z)⟩
    ·cases q⟩
end
mutual
noncomputable def Zp:D->Bool
 | .non=>true
 | .bl _=>true
 | .int _=>true
 | .str _=>true
 | .tup ds=>YI ds
 | .lst ds=>YI ds
 | _=>false
noncomputable def YI:List D->Bool
 | []=>true
 | d::ds=>Zp d&&YI ds
end
mutual
noncomputable def Z0:D->Nat
 | .tup ds=>Xi ds+1
 | .lst ds=>Xi ds+1
 | _=>0
noncomputable def Xi:List D->Nat
 | []=>0
 | d::ds=>max (Z0 d) (Xi ds)
end
theorem Jz:∀{ds:List D} {d:D},d∈ds->Z0 d<=Xi ds
 | e::ds,d,h=>by
  rcases qy.mp h with rfl | h
  ·simp only[Xi];omega
  ·have:=Jz h
   simp only[Xi];omega
theorem UY:∀{ds:List D} {d:D},YI ds=true->d∈ds->Zp d=true
 | e::ds,d,n,h=>by
  have n':=by simpa[YI]using n
  rcases qy.mp h with rfl | h
  ·exact n'.1
  ·exact UY n'.2 h
mutual
noncomputable def ZB:D->D->Bool
 | .non,.non=>true
 | .bl a,.bl b=>a==b
 | .bl a,.int i=>(if a then 1 else 0)==i
 | .int i,.bl b=>i==(if b then 1 else 0)
 | .int i,.int j=>i==j
 | .str x,.str y=>x==y
 | .tup a,.tup b=>Xj a b
 | .lst a,.lst b=>Xj a b
 | _,_=>false
noncomputable def Xj:List D->List D->Bool
 | [],[]=>true
 | a::as,b::bs=>ZB a b&&Xj as bs
 | _,_=>false
end
mutual
theorem ZcV:∀d:D,Zp d=true->ZB d d=true
 | .non,_=>by simp[ZB]
 | .bl _,_=>by simp[ZB]
 | .int _,_=>by simp[ZB]
 | .str _,_=>by simp[ZB]
 | .tup ds,h=>by simp only[ZB];exact ZbR ds (by simpa[Zp]using h)
 | .lst ds,h=>by simp only[ZB];exact ZbR ds (by simpa[Zp]using h)
 | .dk _,h=>by simp[Zp]at h
 | .dt _,h=>by simp[Zp]at h
 | .du _,h=>by simp[Zp]at h
 | .df _,h=>by simp[Zp]at h
 | .pen,h=>by simp[Zp]at h
 | .ty _,h=>by simp[Zp]at h
 | .clo _ _,h=>by simp[Zp]at h
theorem ZbR:∀ds:List D,YI ds=true->Xj ds ds=true
 | [],_=>by simp[Xj]
 | d::ds,h=>by
  have n':Zp d=true/\YI ds=true:=by simpa[YI]using h
  simp only[Xj,ZcV d n'.1,ZbR ds n'.2,Bool.and_self]
end
theorem ZcW:∀{a b:List D},Xj a b=true->a.length=b.length
 | [],[],_=>rfl
 | a::as,b::bs,h=>by
  have:=by simpa[Xj]using h
  simp[ZcW this.2]
 | [],_::_,h=>by simp[Xj]at h
 | _::_,[],h=>by simp[Xj]at h
theorem Zbj:∀(a b:List D),a.length=b.length->(qu a.length).all (λj=>ZB (a.getD j .non) (b.getD j .non))=Xj a b
 | [],[],_=>rfl
 | a::as,b::bs,h=>by
  have h':=by simpa using h
  rw[qV,qbe,List.all_cons,List.all_map,Xj,<-Zbj as bs h'];rfl
 | [],_::_,h=>by simp at h
 | _::_,[],h=>by simp at h
theorem Zfb:∀(a b:List D),((qu (min a.length b.length)).all (λj=>ZB (a.getD j .non) (b.getD j .non))&&a.length==b.length)=Xj a b:=λa b=>by
 by_cases h:a.length=b.length
 ·rw[<-Zbj a b h,h];simp
 ·have:Xj a b=false:=by
   cases e:Xj a b with
   | false=>rfl
   | true=>exact absurd (ZcW e) h
  simp_all
mutual
theorem Zl.inj {G:Gh}{H:Hp}:∀{d e:D} {v:V},Zp d=true->Zp e=true->Zl G H d v->Zl G H e v->d=e
 | .non,e,v,_,pe,h,h'=>by
  rw[jh.mp h]at h'
  cases e <;> first | rfl | (simp[Zp]at pe;done) | (simp[Zl]at h')
 | .bl b,e,v,_,pe,h,h'=>by
  rw[jd.mp h]at h'
  cases e <;> first | (simp[Zp]at pe;done) | (simp[Zl]at h';rw[h']) | (simp[Zl]at h')
 | .int b,e,v,_,pe,h,h'=>by
  rw[ja.mp h]at h'
  cases e <;> first | (simp[Zp]at pe;done) | (simp[Zl]at h';rw[h']) | (simp[Zl]at h')
 | .str b,e,v,_,pe,h,h'=>by
  rw[jg.mp h]at h'
  cases e <;> first | (simp[Zp]at pe;done) | (simp[Zl]at h';rw[h']) | (simp[Zl]at h')
 | .tup ds,e,v,pd,pe,h,h'=>by
  obtain⟨a,vs,rfl,n,q,r⟩:=jb.mp h
  cases e with
  | tup es=>
   obtain⟨a',vs',e',n',q',r'⟩:=jb.mp h'
   cases e'
   rw[q]at q';cases q';rw[Zi.inj (by simpa[Zp]using pd) (by simpa[Zp]using pe) r r']
  | lst es=>
   obtain⟨a',vs',e',n',q',r'⟩:=jc.mp h'
   cases e'
   rw[q]at q';cases q'
  | _=>first | (simp[Zl]at h';done) | (simp[Zp]at pe;done)
 | .lst ds,e,v,pd,pe,h,h'=>by
  obtain⟨a,vs,rfl,n,q,r⟩:=jc.mp h
  cases e with
  | lst es=>
   obtain⟨a',vs',e',n',q',r'⟩:=jc.mp h'
   cases e'
   rw[q]at q';cases q';rw[Zi.inj (by simpa[Zp]using pd) (by simpa[Zp]using pe) r r']
  | tup es=>
   obtain⟨a',vs',e',n',q',r'⟩:=jb.mp h'
   cases e'
   rw[q]at q';cases q'
  | _=>first | (simp[Zl]at h';done) | (simp[Zp]at pe;done)
 | .dk _,_,_,pd,_,_,_=>by simp[Zp]at pd
 | .dt _,_,_,pd,_,_,_=>by simp[Zp]at pd
 | .du _,_,_,pd,_,_,_=>by simp[Zp]at pd
 | .df _,_,_,pd,_,_,_=>by simp[Zp]at pd
 | .pen,_,_,pd,_,_,_=>by simp[Zp]at pd
 | .ty _,_,_,pd,_,_,_=>by simp[Zp]at pd
 | .clo _ _,_,_,pd,_,_,_=>by simp[Zp]at pd
theorem Zi.inj {G:Gh}{H:Hp}:∀{ds es:List D} {vs:List V},YI ds=true->YI es=true->Zi G H ds vs->Zi G H es vs->ds=es
 | [],es,vs,_,pe,h,h'=>by
  rw[Zi.nil_iff.mp h]at h'
  cases es with
  | nil=>rfl
  | cons e es=>obtain⟨v,r,e1,_⟩:=je.mp h';cases e1
 | d::ds,es,vs,pd,pe,h,h'=>by
  obtain⟨v,r,rfl,r1,r2⟩:=je.mp h;have pd':Zp d=true/\YI ds=true:=by simpa[YI]using pd
  cases es with
  | nil=>have:=Zi.nil_iff.mp h';cases this
  | cons e es=>
   obtain⟨v',r',e1,r1',r2'⟩:=je.mp h'
   cases e1
   have pe':Zp e=true/\YI es=true:=by simpa[YI]using pe
   rw[Zl.inj pd'.1 pe'.1 r1 r1',Zi.inj pd'.2 pe'.2 r2 r2']
end
section
variable {X:Cx}{G:Gh}{jJ:Qb}{σ:St}{Hf H:Hp}{s:Shared}
theorem Za4 (A:xz):A.in1.units=A.units+1:=rfl
theorem Zcy (r:Zi G Hf ds vs)(rv:Zy vs us)(h:j<us.toArray.size):∃v,Zl G Hf (ds.getD j .non) v/\ZE v us.toArray[j]/\ds.getD j .non∈ds:=by
 have hl:j<ds.length:=by rw[r.length,rv.length];omega
 have e:ds[j]?=some (ds.getD j .non):=by simp[hl]
 obtain⟨v,h1,h2⟩:=r.get e;obtain⟨u,h3,h4⟩:=rv.get h1;refine⟨v,h2,?_,?_⟩
 ·have:us.toArray[j]=u:=by
   have h':j<us.length:=by omega
   simp_all
  simp_all
 ·simp[hl]
theorem Zj6 (I:Inv X jJ σ H s)(e1:Zz G Hf H):∀(n:Nat) (A:xz) (d e:D) (x y:V) (u v:Value),Z0 d<=n->Z0 e<=n->A.units+n+1<cLine->Zp d=true->Zp e=true->Zl G Hf d x->Zl G Hf e y->ZE x u->ZE y v->
  yb A s u v (ZB d e)/\qbt A s u v (ZB d e)/\qaX A s u v (!ZB d e):=by
 intro n
 induction n with
 | zero=>
  intro A d e x y u v hd he hu pd pe rd re ru rv;have hu':A.units<cLine:=by omega
  cases d with
  | tup ds=>simp[Z0]at hd
  | lst ds=>simp[Z0]at hd
  | dk _=>simp[Zp]at pd
  | dt _=>simp[Zp]at pd
  | du _=>simp[Zp]at pd
  | df _=>simp[Zp]at pd
  | pen=>simp[Zp]at pd
  | ty _=>simp[Zp]at pd
  | clo _ _=>simp[Zp]at pd
  | non=>
   rw[jh.mp rd]at ru
   cases (show u=qO from ru)
   cases e with
   | tup ds=>simp[Z0]at he
   | lst ds=>simp[Z0]at he
   | dk _=>simp[Zp]at pe
   | dt _=>simp[Zp]at pe
   | du _=>simp[Zp]at pe
   | df _=>simp[Zp]at pe
   | pen=>simp[Zp]at pe
   | ty _=>simp[Zp]at pe
   | clo _ _=>simp[Zp]at pe
   | non=>rw[jh.mp re]at rv;cases (show v=qO from rv);simp only[ZB];exact⟨.same _,.none_none,.none_none⟩
   | bl b=>rw[jd.mp re]at rv;cases (show v=qZ b from rv);simp only[ZB];exact⟨.none_bool b,.none_bool b,.none_bool b⟩
   | int b=>rw[ja.mp re]at rv;obtain⟨t,rfl⟩:=rv;simp only[ZB];exact⟨.none_int b t,.none_int b t,.none_int b t⟩
   | str b=>rw[jg.mp re]at rv;obtain⟨t,rfl⟩:=rv;simp only[ZB];exact⟨.none_str b t,.none_str b t,.none_str b t⟩
  | bl a=>
   rw[jd.mp rd]at ru
   cases (show u=qZ a from ru)
   cases e with
   | tup ds=>simp[Z0]at he
   | lst ds=>simp[Z0]at he
   | dk _=>simp[Zp]at pe
   | dt _=>simp[Zp]at pe
   | du _=>simp[Zp]at pe
   | df _=>simp[Zp]at pe
   | pen=>simp[Zp]at pe
   | ty _=>simp[Zp]at pe
   | clo _ _=>simp[Zp]at pe
   | non=>rw[jh.mp re]at rv;cases (show v=qO from rv);simp only[ZB];exact⟨.bool_none a,.bool_none a,.bool_none a⟩
   | bl b=>rw[jd.mp re]at rv;cases (show v=qZ b from rv);simp only[ZB];exact⟨.bool_bool a b,.bool_bool a b,.bool_bool a b⟩
   | int b=>rw[ja.mp re]at rv;obtain⟨t,rfl⟩:=rv;simp only[ZB];exact⟨.bool_int a b t,.bool_int a b t,.bool_int a b t⟩
   | str b=>rw[jg.mp re]at rv;obtain⟨t,rfl⟩:=rv;simp only[ZB];exact⟨.bool_str a b t,.bool_str a b t,.bool_str a b t⟩
  | int a=>
   rw[ja.mp rd]at ru;obtain⟨ta,rfl⟩:=ru
   cases e with
   | tup ds=>simp[Z0]at he
   | lst ds=>simp[Z0]at he
   | dk _=>simp[Zp]at pe
   | dt _=>simp[Zp]at pe
   | du _=>simp[Zp]at pe
   | df _=>simp[Zp]at pe
   | pen=>simp[Zp]at pe
   | ty _=>simp[Zp]at pe
   | clo _ _=>simp[Zp]at pe
   | non=>rw[jh.mp re]at rv;cases (show v=qO from rv);simp only[ZB];exact⟨.int_none a ta,.int_none a ta,.int_none a ta⟩
   | bl b=>rw[jd.mp re]at rv;cases (show v=qZ b from rv);simp only[ZB];exact⟨.int_bool a ta b,.int_bool a ta b,.int_bool a ta b⟩
   | int b=>rw[ja.mp re]at rv;obtain⟨t,rfl⟩:=rv;simp only[ZB];exact⟨.int_int a ta b t,.int_int a ta b t,.int_int a ta b t⟩
   | str b=>rw[jg.mp re]at rv;obtain⟨t,rfl⟩:=rv;simp only[ZB];exact⟨.int_str a ta b t,.int_str a ta b t,.int_str a ta b t⟩
  | str a=>
   rw[jg.mp rd]at ru;obtain⟨ta,rfl⟩:=ru
   cases e with
   | tup ds=>simp[Z0]at he
   | lst ds=>simp[Z0]at he
   | dk _=>simp[Zp]at pe
   | dt _=>simp[Zp]at pe
   | du _=>simp[Zp]at pe
   | df _=>simp[Zp]at pe
   | pen=>simp[Zp]at pe
   | ty _=>simp[Zp]at pe
   | clo _ _=>simp[Zp]at pe
   | non=>rw[jh.mp re]at rv;cases (show v=qO from rv);simp only[ZB];exact⟨.str_none a ta,.str_none a ta,.str_none a ta⟩
   | bl b=>rw[jd.mp re]at rv;cases (show v=qZ b from rv);simp only[ZB];exact⟨.str_bool a ta b,.str_bool a ta b,.str_bool a ta b⟩
   | int b=>rw[ja.mp re]at rv;obtain⟨t,rfl⟩:=rv;simp only[ZB];exact⟨.str_int a ta b t,.str_int a ta b t,.str_int a ta b t⟩
   | str b=>rw[jg.mp re]at rv;obtain⟨t,rfl⟩:=rv;simp only[ZB];exact⟨.str_str a ta b t,.str_str a ta b t,.str_str a ta b t⟩
 | succ n ih=>
  intro A d e x y u v hd he hu pd pe rd re ru rv;have hu':A.units<cLine:=by omega
  by_cases hs:Z0 d<=n/\Z0 e<=n
  ·exact ih A d e x y u v hs.1 hs.2 (by omega) pd pe rd re ru rv
  -- two refs
  have same:∀{l b:Addr},x=.ref l->y=.ref b->l=b->ZB d e=true:=λex ey el=>by
   subst ex ey el;have:=Zl.inj pd pe rd re;subst this;exact ZcV d pd
  cases d with
  | dk _=>simp[Zp]at pd
  | dt _=>simp[Zp]at pd
  | du _=>simp[Zp]at pd
  | df _=>simp[Zp]at pd
  | pen=>simp[Zp]at pd
  | ty _=>simp[Zp]at pd
  | clo _ _=>simp[Zp]at pd
  | tup ds=>
   obtain⟨l,vs,rfl,nl,hl,rl⟩:=jb.mp rd
   cases (show u=qm l from ru)
   obtain⟨jK,rits,pits,_⟩:=I.tuple (ZU.of (K:=X.K) (e1 _ _ nl hl));have il:s.heap.IsTuple l jK.toArray:=pits
   cases e with
   | dk _=>simp[Zp]at pe
   | dt _=>simp[Zp]at pe
   | du _=>simp[Zp]at pe
   | df _=>simp[Zp]at pe
   | pen=>simp[Zp]at pe
   | ty _=>simp[Zp]at pe
   | clo _ _=>simp[Zp]at pe
   | non=>rw[jh.mp re]at rv;cases (show v=qO from rv);simp only[ZB];exact⟨.tuple_none il hu',.tuple_none il hu',.tuple_none il hu'⟩
   | bl b=>rw[jd.mp re]at rv;cases (show v=qZ b from rv);simp only[ZB];exact⟨.tuple_bool b il hu',.tuple_bool b il hu',.tuple_bool b il hu'⟩
   | int b=>rw[ja.mp re]at rv;obtain⟨t,rfl⟩:=rv;simp only[ZB];exact⟨.tuple_int b t il hu',.tuple_int b t il hu',.tuple_int b t il hu'⟩
   | str b=>rw[jg.mp re]at rv;obtain⟨t,rfl⟩:=rv;simp only[ZB];exact⟨.tuple_str b t il hu',.tuple_str b t il hu',.tuple_str b t il hu'⟩
   | lst es=>
    obtain⟨b,ws,rfl,nb,hb,rb⟩:=jc.mp re
    cases (show v=qm b from rv)
    obtain⟨ke,ko,j7,_⟩:=I.list (ZJ.of (K:=X.K) (e1 _ _ nb hb));simp only[ZB];exact⟨.tuple_list il j7.isList hu',.tuple_list il j7.isList hu',.tuple_list il j7.isList hu'⟩
   | tup es=>
    obtain⟨b,ws,rfl,nb,hb,rb⟩:=jb.mp re
    cases (show v=qm b from rv)
    obtain⟨ke,ko,j7,_⟩:=I.tuple (ZU.of (K:=X.K) (e1 _ _ nb hb));have ib:s.heap.IsTuple b ke.toArray:=j7;have hit:∀j (h1:j<jK.toArray.size) (h2:j<ke.toArray.size),yb A.in1 s jK.toArray[j] ke.toArray[j] ((λj=>ZB (ds.getD j .non) (es.getD j .non)) j):=λj h1 h2=>by
     obtain⟨v1,a1,a2,a3⟩:=Zcy rl rits h1;obtain⟨v2,b1,b2,b3⟩:=Zcy rb ko h2;exact(ih A.in1 _ _ v1 v2 _ _ (qI (Jz a3) (by simp[Z0]at hd;omega)) (qI (Jz b3) (by simp[Z0]at he;omega)) (by rw[Za4];omega)
      (UY (by simpa[Zp]using pd) a3) (UY (by simpa[Zp]using pe) b3) a1 b1 a2 b2).1
    have sz1:jK.toArray.size=ds.length:=by rw[rl.length,rits.length];simp
    have sz2:ke.toArray.size=es.length:=by rw[rb.length,ko.length];simp
    have rc:=qbt.tuples (e:=λj=>ZB (ds.getD j .non) (es.getD j .non)) il ib hu' hit;have rn:=qaX.tuples (e:=λj=>ZB (ds.getD j .non) (es.getD j .non)) il ib hu' hit;rw[sz1,sz2,Zfb]at rc rn;simp only[ZB];refine⟨?_,rc,rn⟩;by_cases hlb:l=b
    ·have q:=same rfl rfl hlb
     simp only[ZB]at q;subst hlb;rw[q];exact .same _
    ·exact .of_refs hlb rc
  | lst ds=>
   obtain⟨l,vs,rfl,nl,hl,rl⟩:=jc.mp rd
   cases (show u=qm l from ru)
   obtain⟨jK,rits,pits,_⟩:=I.list (ZJ.of (K:=X.K) (e1 _ _ nl hl));have il:=pits.isList
   cases e with
   | dk _=>simp[Zp]at pe
   | dt _=>simp[Zp]at pe
   | du _=>simp[Zp]at pe
   | df _=>simp[Zp]at pe
   | pen=>simp[Zp]at pe
   | ty _=>simp[Zp]at pe
   | clo _ _=>simp[Zp]at pe
   | non=>rw[jh.mp re]at rv;cases (show v=qO from rv);simp only[ZB];exact⟨.list_none il hu',.list_none il hu',.list_none il hu'⟩
   | bl b=>rw[jd.mp re]at rv;cases (show v=qZ b from rv);simp only[ZB];exact⟨.list_bool b il hu',.list_bool b il hu',.list_bool b il hu'⟩
   | int b=>rw[ja.mp re]at rv;obtain⟨t,rfl⟩:=rv;simp only[ZB];exact⟨.list_int b t il hu',.list_int b t il hu',.list_int b t il hu'⟩
   | str b=>rw[jg.mp re]at rv;obtain⟨t,rfl⟩:=rv;simp only[ZB];exact⟨.list_str b t il hu',.list_str b t il hu',.list_str b t il hu'⟩
   | tup es=>
    obtain⟨b,ws,rfl,nb,hb,rb⟩:=jb.mp re
    cases (show v=qm b from rv)
    obtain⟨ke,ko,j7,_⟩:=I.tuple (ZU.of (K:=X.K) (e1 _ _ nb hb));have ib:s.heap.IsTuple b ke.toArray:=j7;simp only[ZB];exact⟨.list_tuple il ib hu',.list_tuple il ib hu',.list_tuple il ib hu'⟩
   | lst es=>
    obtain⟨b,ws,rfl,nb,hb,rb⟩:=jc.mp re
    cases (show v=qm b from rv)
    obtain⟨ke,ko,j7,_⟩:=I.list (ZJ.of (K:=X.K) (e1 _ _ nb hb));have ib:=j7.isList;have hit:∀j (h1:j<jK.toArray.size) (h2:j<ke.toArray.size),yb A.in1 s jK.toArray[j] ke.toArray[j] ((λj=>ZB (ds.getD j .non) (es.getD j .non)) j):=λj h1 h2=>by
     obtain⟨v1,a1,a2,a3⟩:=Zcy rl rits h1;obtain⟨v2,b1,b2,b3⟩:=Zcy rb ko h2;exact(ih A.in1 _ _ v1 v2 _ _ (qI (Jz a3) (by simp[Z0]at hd;omega)) (qI (Jz b3) (by simp[Z0]at he;omega)) (by rw[Za4];omega)
      (UY (by simpa[Zp]using pd) a3) (UY (by simpa[Zp]using pe) b3) a1 b1 a2 b2).1
    have sz1:jK.toArray.size=ds.length:=by rw[rl.length,rits.length];simp
    have sz2:ke.toArray.size=es.length:=by rw[rb.length,ko.length];simp
    have key:qbt A s (.ref l) (.ref b) (Xj ds es)/\qaX A s (.ref l) (.ref b) (!Xj ds es):=by
     by_cases hsz:ds.length=es.length
     ·have rc:=qbt.lists (e:=λj=>ZB (ds.getD j .non) (es.getD j .non)) il ib (by rw[sz1,sz2];exact hsz) hu' hit
      have rn:=qaX.lists (e:=λj=>ZB (ds.getD j .non) (es.getD j .non)) il ib (by rw[sz1,sz2];exact hsz) hu' hit;rw[sz1,Zbj ds es hsz]at rc rn;exact⟨rc,rn⟩
     ·have hne:(jK.toArray.size != ke.toArray.size)=true:=by rw[sz1,sz2];simpa using hsz
      have hf:Xj ds es=false:=by
       cases e:Xj ds es with
       | false=>rfl
       | true=>exact absurd (ZcW e) hsz
      rw[hf];exact⟨.lists_lengths il ib hne hu',.lists_lengths il ib hne hu'⟩
    simp only[ZB];refine⟨?_,key.1,key.2⟩;by_cases hlb:l=b
    ·have q:=same rfl rfl hlb
     simp only[ZB]at q;subst hlb;rw[q];exact .same _
    ·exact .of_refs hlb key.1
  | non=>
   rw[jh.mp rd]at ru
   cases (show u=qO from ru)
   cases e with
   | tup es=>
    obtain⟨b,ws,rfl,nb,hb,rb⟩:=jb.mp re
    cases (show v=qm b from rv)
    obtain⟨ke,ko,j7,_⟩:=I.tuple (ZU.of (K:=X.K) (e1 _ _ nb hb));have ib:s.heap.IsTuple b ke.toArray:=j7;simp only[ZB];exact⟨.none_tuple ib hu',.none_tuple ib hu',.none_tuple ib hu'⟩
   | lst es=>
    obtain⟨b,ws,rfl,nb,hb,rb⟩:=jc.mp re
    cases (show v=qm b from rv)
    obtain⟨ke,ko,j7,_⟩:=I.list (ZJ.of (K:=X.K) (e1 _ _ nb hb));have ib:=j7.isList;simp only[ZB];exact⟨.none_list ib hu',.none_list ib hu',.none_list ib hu'⟩
   | _=>simp[Z0]at hs
  | bl a=>
   rw[jd.mp rd]at ru
   cases (show u=qZ a from ru)
   cases e with
   | tup es=>
    obtain⟨b,ws,rfl,nb,hb,rb⟩:=jb.mp re
    cases (show v=qm b from rv)
    obtain⟨ke,ko,j7,_⟩:=I.tuple (ZU.of (K:=X.K) (e1 _ _ nb hb));have ib:s.heap.IsTuple b ke.toArray:=j7;simp only[ZB];exact⟨.bool_tuple a ib hu',.bool_tuple a ib hu',.bool_tuple a ib hu'⟩
   | lst es=>
    obtain⟨b,ws,rfl,nb,hb,rb⟩:=jc.mp re
    cases (show v=qm b from rv)
    obtain⟨ke,ko,j7,_⟩:=I.list (ZJ.of (K:=X.K) (e1 _ _ nb hb));have ib:=j7.isList;simp only[ZB];exact⟨.bool_list a ib hu',.bool_list a ib hu',.bool_list a ib hu'⟩
   | _=>simp[Z0]at hs
  | int a=>
   rw[ja.mp rd]at ru;obtain⟨ta,rfl⟩:=ru
   cases e with
   | tup es=>
    obtain⟨b,ws,rfl,nb,hb,rb⟩:=jb.mp re
    cases (show v=qm b from rv)
    obtain⟨ke,ko,j7,_⟩:=I.tuple (ZU.of (K:=X.K) (e1 _ _ nb hb));have ib:s.heap.IsTuple b ke.toArray:=j7;simp only[ZB];exact⟨.int_tuple a ta ib hu',.int_tuple a ta ib hu',.int_tuple a ta ib hu'⟩
   | lst es=>
    obtain⟨b,ws,rfl,nb,hb,rb⟩:=jc.mp re
    cases (show v=qm b from rv)
    obtain⟨ke,ko,j7,_⟩:=I.list (ZJ.of (K:=X.K) (e1 _ _ nb hb));have ib:=j7.isList;simp only[ZB];exact⟨.int_list a ta ib hu',.int_list a ta ib hu',.int_list a ta ib hu'⟩
   | _=>simp[Z0]at hs
  | str a=>
   rw[jg.mp rd]at ru;obtain⟨ta,rfl⟩:=ru
   cases e with
   | tup es=>
    obtain⟨b,ws,rfl,nb,hb,rb⟩:=jb.mp re
    cases (show v=qm b from rv)
    obtain⟨ke,ko,j7,_⟩:=I.tuple (ZU.of (K:=X.K) (e1 _ _ nb hb));have ib:s.heap.IsTuple b ke.toArray:=j7;simp only[ZB];exact⟨.str_tuple a ta ib hu',.str_tuple a ta ib hu',.str_tuple a ta ib hu'⟩
   | lst es=>
    obtain⟨b,ws,rfl,nb,hb,rb⟩:=jc.mp re
    cases (show v=qm b from rv)
    obtain⟨ke,ko,j7,_⟩:=I.list (ZJ.of (K:=X.K) (e1 _ _ nb hb));have ib:=j7.isList;simp only[ZB];exact⟨.str_list a ta ib hu',.str_list a ta ib hu',.str_list a ta ib hu'⟩
   | _=>simp[Z0]at hs
end
section
variable {X:Cx}{G:Gh}
noncomputable def Vf (d e:D):Bool:=Zp d&&Zp e&&decide (Z0 d<=60)&&decide (Z0 e<=60)
theorem ZdP (h:Vf d e=true):Zp d=true/\Zp e=true/\Z0 d<=60/\Z0 e<=60:=by
 simp only[Vf]at h;simp_all
noncomputable def Ya (d e:D):Option D:=if Vf d e=true then some (.bl (ZB d e))else none
noncomputable def Yo (d e:D):Option D:=if Vf d e=true then some (.bl (!ZB d e))else none
noncomputable def rEqD (G:Gh)(neg:Bool):R2:=λx y H Q=>∃Hf d e,Zz G Hf H/\Vf d e=true/\Zl G Hf d x/\Zl G Hf e y/\Q (.bl (if neg then !ZB d e else ZB d e)) H
theorem ZgE (hu:X.A.units+64<cLine):Yc X (xk .Eq) (rEqD G false):=by
 intro jJ s σ H x y v u Q I rx ry h;obtain⟨Hf,d,e,e1,ok,rd,re,q⟩:=h;obtain⟨o1,o2,o3,o4⟩:=ZdP ok;exact(Zj6 I e1 60 X.A d e x y v u o3 o4 (by omega) o1 o2 rd re rx ry).2.1 _ _ _ _ ⟨.bl (ZB d e),H,I,rfl,q⟩
theorem ZnH (hu:X.A.units+64<cLine):Yc X (xk .NotEq) (rEqD G true):=by
 intro jJ s σ H x y v u Q I rx ry h;obtain⟨Hf,d,e,e1,ok,rd,re,q⟩:=h;obtain⟨o1,o2,o3,o4⟩:=ZdP ok;exact(Zj6 I e1 60 X.A d e x y v u o3 o4 (by omega) o1 o2 rd re rx ry).2.2 _ _ _ _ ⟨.bl (!ZB d e),H,I,rfl,q⟩
theorem Ww (hu:X.A.units+64<cLine):Xm X G (xk .Eq) Ya:=
 ⟨_,ZgE hu,λHf H s x y d e c Q e1 st rx ry q k=>by
  unfold Ya at q;split at q
  ·rename_i ok
   cases q
   exact⟨Hf,d,e,e1,ok,rx,ry,k _ Hf H (.refl e1) st (jd.mpr rfl) (.scal λz=>z)⟩
  ·cases q⟩
theorem Vt (hu:X.A.units+64<cLine):Xm X G (xk .NotEq) Yo:=
 ⟨_,ZnH hu,λHf H s x y d e c Q e1 st rx ry q k=>by
  unfold Yo at q;split at q
  ·rename_i ok
   cases q
   exact⟨Hf,d,e,e1,ok,rx,ry,k _ Hf H (.refl e1) st (jd.mpr rfl) (.scal λz=>z)⟩
  ·cases q⟩
noncomputable def WX (x:D)(ds:List D):Bool:=Zp x&&YI ds&&decide (Z0 x<=60)&&decide (Xi ds<=60)
noncomputable def W0 (x:D)(ds:List D):Bool:=ds.any λd=>ZB d x
theorem Ziz (h:WX x ds=true):Zp x=true/\YI ds=true/\Z0 x<=60/\Xi ds<=60:=by
 simp only[WX]at h;simp_all
open Classical in
noncomputable def Je (G:Gh)(Hf:Hp)(x:D)(u:Value):Bool:=if h:∃d v,Zp d=true/\Zl G Hf d v/\ZE v u then ZB h.choose x else false
theorem ZhI (pd:Zp d=true)(r:Zl G Hf d v)(ru:ZE v u):Je G Hf x u=ZB d x:=by
 have h:∃d v,Zp d=true/\Zl G Hf d v/\ZE v u:=⟨d,v,pd,r,ru⟩;unfold Je;rw[dif_pos h];obtain⟨v',p',r',ru'⟩:=h.choose_spec;have ev:=ZE.inj ru' ru;subst ev;rw[Zl.inj p' pd r' r]
theorem Zfc:∀{ds:List D} {vs:List V} {us:List Value},YI ds=true->Zi G Hf ds vs->Zy vs us->us.any (Je G Hf x)=W0 x ds
 | [],vs,us,_,r,rv=>by
  rw[Zi.nil_iff.mp r]at rv
  cases rv
  rfl
 | d::ds,vs,us,p,r,rv=>by
  obtain⟨v,rr,rfl,r1,r2⟩:=je.mp r;have p':=by simpa[YI]using p
  cases rv with
  | cons a b=>
   rw[qby,ZhI p'.1 r1 a,Zfc p'.2 r2 b];rfl
theorem Zfd:∀{ds:List D} {vs:List V} {us:List Value} {u:Value},Zi G Hf ds vs->Zy vs us->u∈us->∃d v,d∈ds/\Zl G Hf d v/\ZE v u
 | [],vs,us,u,r,rv,m=>by
  rw[Zi.nil_iff.mp r]at rv
  cases rv
  simp at m
 | d::ds,vs,us,u,r,rv,m=>by
  obtain⟨v,rr,rfl,r1,r2⟩:=je.mp r
  cases rv with
  | cons a b=>
   rcases qy.mp m with e | m
   ·subst e;exact⟨d,v,by simp,r1,a⟩
   ·obtain⟨d',v',m',h1,h2⟩:=Zfd r2 b m
    exact⟨d',v',by simp[m'],h1,h2⟩
noncomputable def rInD (G:Gh)(neg:Bool):R2:=λx y H Q=>∃Hf d ds,Zz G Hf H/\WX d ds=true/\Zl G Hf d x/\(Zl G Hf (.lst ds) y∨Zl G Hf (.tup ds) y)/\Q (.bl (if neg then !W0 d ds else W0 d ds)) H
theorem Zcz {σ:St}(hu:X.A.units+64<cLine)(I:Inv X jJ σ H s)(e1:Zz G Hf H)(ok:WX d ds=true)(rd:Zl G Hf d x)(rx:ZE x v)
  (rl:Zi G Hf ds vs) (rv:Zy vs jK):(∀y,y∈jK.toArray->yb X.A.in1 s y v (Je G Hf d y))/\jK.toArray.any (Je G Hf d)=W0 d ds:=by
 obtain⟨o1,o2,o3,o4⟩:=Ziz ok;refine⟨λy hy=>?_,?_⟩
 ·obtain⟨c,w,m,h1,h2⟩:=Zfd rl rv (by simpa using hy)
  rw[ZhI (UY o2 m) h1 h2];exact(Zj6 I e1 60 X.A.in1 c d w x y v (qI (Jz m) o4) o3 (by grind) (UY o2 m) o1 h1 rd h2 rx).1
 ·rw[show jK.toArray.any (Je G Hf d)=jK.any (Je G Hf d) by simp,Zfc o2 rl rv]
theorem ZnI (hu:X.A.units+64<cLine):Yc X (xk .In) (rInD G false):=by
 intro jJ s σ H x y v u Q I rx ry h;obtain⟨Hf,d,ds,e1,ok,rd,hl,q⟩:=h;rcases hl with hl | hl
 ·obtain⟨p,vs,rfl,np,hp,rp⟩:=jc.mp hl
  cases (show u=qm p from ry)
  obtain⟨jK,rv,pl,hz⟩:=I.list (ZJ.of (e1 _ _ np hp));obtain⟨c1,c2⟩:=Zcz hu I e1 ok rd rx rp rv;refine SeqAt.in_listAt _ pl.isList c1 ⟨.bl _,H,I,rfl,?_⟩;rw[c2];exact q
 ·obtain⟨p,vs,rfl,np,hp,rp⟩:=jb.mp hl
  cases (show u=qm p from ry)
  obtain⟨jK,rv,pl,hz⟩:=I.tuple (ZU.of (e1 _ _ np hp));obtain⟨c1,c2⟩:=Zcz hu I e1 ok rd rx rp rv;refine SeqAt.in_tupleAt _ pl c1 ⟨.bl _,H,I,rfl,?_⟩;rw[c2];exact q
theorem ZiA (hu:X.A.units+64<cLine):Yc X (xk .NotIn) (rInD G true):=by
 intro jJ s σ H x y v u Q I rx ry h;obtain⟨Hf,d,ds,e1,ok,rd,hl,q⟩:=h;rcases hl with hl | hl
 ·obtain⟨p,vs,rfl,np,hp,rp⟩:=jc.mp hl
  cases (show u=qm p from ry)
  obtain⟨jK,rv,pl,hz⟩:=I.list (ZJ.of (e1 _ _ np hp));obtain⟨c1,c2⟩:=Zcz hu I e1 ok rd rx rp rv;refine SeqAt.notIn_listAt _ pl.isList c1 ⟨.bl _,H,I,rfl,?_⟩;rw[c2];exact q
 ·obtain⟨p,vs,rfl,np,hp,rp⟩:=jb.mp hl
  cases (show u=qm p from ry)
  obtain⟨jK,rv,pl,hz⟩:=I.tuple (ZU.of (e1 _ _ np hp));obtain⟨c1,c2⟩:=Zcz hu I e1 ok rd rx rp rv;refine SeqAt.notIn_tupleAt _ pl c1 ⟨.bl _,H,I,rfl,?_⟩;rw[c2];exact q
end
theorem ZiB:typeLookup (.type "list") "keys" = pure none:=by rfl
theorem Zar:entryFor table "dict.update.loop" = some Builtin.«dict.update.loop»:=entryFor_of_tree (by kernel_rfl)
theorem Zab:plainId "dict.update.loop" = true:=by decide +kernel
theorem Zbk {prog:xy}{w:World}{A:xz}{E:xA}{s:Shared}{a:Addr}{o:Obj}{xs:Array Value}{k:Nat}{Q:Option Value->Shared->Prop}
  (hx:s.heap.get? a=some o) (hc:o.cls=.type "list") (hdat:o.data=.seq xs k) (hd:o.dict=none) (hA:A.handled=none)
  (h:∀h' tk,(∀b o,s.heap.get? b=some o->h'.get? b=some o)->Q none { s with heap:=h',toks:=tk }) :
  xf (xw prog w) A (getAttr? (.ref a) "keys") Q E s:=by
 have hmiss:=ZiB;have hname:(["__module__","__name__","__qualname__","__doc__","__annotations__"]:List Str).contains ("keys" : Str)=false:=by decide +kernel
 have hsz:("keys" : Str).length+100<=xg:=by decide +kernel
 obtain⟨c,dct,dat,sl⟩:=o;simp only at hc hdat hd;subst hc hdat hd;obtain⟨hp,g,d,tk,os⟩:=s;have hT:∀tk',(⟨hp,g,d,tk',os⟩:Shared).TypeIs (.ref a) "list":=λ_=>⟨_,hx,rfl⟩;have f1:=sub_AttributeError;have f3:=yD.lookup;have f4:=yD.bind (.ref a);have f5:=am_list_getattr_none;unfold getAttr? getAttrBy?;refine xa ?_;refine wpAny_mkText ?_;refine xa (wpAny_attempt ?_);unfold getAttrBy
 repeat (any_goals (first | assumption | exact hT _ | ((with_reducible show xf _ _ (call (z8 "list.__getattribute__") _ _) _ _ _);refine call_meets yD (hT _) am_entry_list_getattribute (F.args_list_getattribute_2 _ _) (meets_getattribute_miss_list a xs k sl "keys" _ hmiss hname hsz) ⟨hx,hA,λh' tk' e hx'=>?_⟩) | wp_step))
 obtain⟨t',u',he⟩:=hx'.there;have hTe:∀tk',(⟨h',g,d,tk',os⟩:Shared).TypeIs (.ref e) "AttributeError":=λ_=>⟨_,he,rfl⟩;have fin:∀tk',xf (xw prog w) A (do
   let b<-isInstance (.ref e) (.type "AttributeError")
   if b=true then pure none else throw (.ref e)) Q E ⟨h',g,d,tk',os⟩:=λtk'=>by
  refine xa (wpAny_isInstance (hTe _) f1 ?_);simp only[if_true];exact xb (h h' tk' hx'.of.keeps)
 show xf _ _ (getattributeRaised _ _ _ _ _ _ _) _ _ _;unfold getattributeRaised
 repeat (any_goals (first | assumption | exact fin _ | wp_step))
section
variable {X:Cx}{jJ:Qb}{σ:St}{H:Hp}{s:Shared}{A:xz}{E:xA}{a:Addr}{y v:V}{u r:Value}
theorem ZiC (hu:A.units<cLine)(I:Inv X jJ σ H s)(g:WV H a y v H')(ry:ZE y u)(rv:ZE v r)(h:∀s',Inv X jJ σ H' s'->Q () s') :
  xf (xw X.prog X.w) A (dictSet a u r) Q E s:=by
 rcases g with⟨kvs,k,e,ey,l,eH⟩ | ⟨kvs,k,b,e,ey,eb,l,eH⟩
 ·subst ey eH
  obtain⟨z,hd,vs,rel,dd⟩:=ZmW I.hok e;have hz:vs.length<=xg:=by rw[<-rel.length];exact z
  have hl:(YW kvs k v).length<=xg:=by have:=Jm kvs k v;omega
  refine wpAny_dictSet_pairs (hsz:=hz) (BH ry) dd λh' dd' hs=>h _ ?_;have he:∃q,h'.get? a=some q:=let ⟨q,_,_,hq,_⟩:=dd';⟨q,hq⟩;exact Bo I (by rw[e];exact zl) hs he (ZjS hl hd (rel.put k rv) dd')
 ·subst ey eH
  cases (show u=qm b from ry)
  obtain⟨z,hd,xs,rel,dd⟩:=ZjR I.hok e;have hz:xs.length<=xg:=by rw[<-z7 rel];exact z
  have hl:(YW kvs k v).length<=xg:=by have:=Jm kvs k v;omega
  refine wpAny_dictSet_heap hu (JE I.hok eb) dd λh' dd' hs=>h _ ?_;obtain⟨q,es,ep,hq,h2,h3,h4,_,h5⟩:=dd';refine Bo I (by rw[e];exact zl) hs ⟨q,hq⟩ ⟨hl,hd,_,(rel.put k eb rv).keeps λc ys ec=>?_,q,es,ep,hq,h2,h3,h4,h5⟩;rw[Zj (Zjw ec e (λz=>nomatch z))];exact ec
end
section
variable {X:Cx}{jJ:Qb}{σ:St}
inductive Puts (d:Addr):Hp->List V->Hp->Prop
 | nil {H:Hp}:Puts d H [] H
 | cons {H H1 H2:Hp} {b:Addr} {k v:V} {r:List V}:H b=some (.tup [k,v])->WV H d k v H1->Puts d H1 r H2->Puts d H (.ref b::r) H2
theorem Zj7 {Q:Shared->Prop}(hA:A.handled=none)(hu:A.units+1<cLine)
  (hQ:∀s',Inv X jJ σ H' s'->Q s') (hfp:∀Hx:Hp,Hx it=none->Wz X jJ Hx it) :
  ∀(k i:Nat) (s:Shared) (H:Hp),vs.length-i=k->i<=vs.length->Inv X jJ σ H s->H it=none->s.heap.IsListIter it l i->H l=some (.lst vs)->l≠d->(∀Hx Hy y v,WV Hx d y v Hy->Hx l=some (.lst vs)->Hy l=some (.lst vs))->Puts d H (vs.drop i) H'->
   xo (xw X.prog X.w) A (.builtin "dict.update.loop" ⟨[.ref d,.ref it,rawInt i,.none],[]⟩) (wants (λr s₂=>r=.none/\Q s₂) E) s:=by
 intro k
 induction k with
 | zero=>
  intro i s H hk hi I hit st hl hne hkeep hp;have hil:i=vs.length:=by omega
  obtain⟨jK,rv,pl,hz⟩:=I.list (ZJ.of (K:=X.K) hl);refine xm Zar ?_;rw[yn Zab _];show xf _ A.in1 (pyNext (.ref it) >>= _) _ _ s;obtain⟨f0,f1,f2,f3,f4,f5⟩:=hfp H hit;have jR:=rv.length;refine xa (wpAny_pyNext_list_end (A:=A.in1) hA st pl.isList (by simp;omega) λh' eb=>?_);have I2:Inv X jJ σ H { s with heap:=h' }:=I.turned (t':=s.toks) (λb o hb e=>eb b o hb e) f0 f1 f3 f4 f5;have e0:vs.drop i=[]:=by rw[hil];simp
  rw[e0]at hp
  cases hp
  show xf _ _ (Builtin.Dict.addKeywords d [] >>= _) _ _ _;refine xa (xb ?_);exact xb ⟨rfl,hQ _ I2⟩
 | succ k ih=>
  intro i s H hk hi I hit st hl hne hkeep hp;have hlt:i<vs.length:=by omega
  obtain⟨jK,rv,pl,hz⟩:=I.list (ZJ.of (K:=X.K) hl);have jR:=rv.length;refine xm Zar ?_;rw[yn Zab _];show xf _ A.in1 (pyNext (.ref it) >>= _) _ _ s;obtain⟨f0,f1,f2,f3,f4,f5⟩:=hfp H hit;have hd:vs.drop i=vs[i]::vs.drop (i+1):=yy hlt;rw[hd]at hp;generalize hvi:vs[i]=x at hp;generalize hrest:vs.drop (i+1)=rest at hp
  cases hp with
  | @cons _ H1 _ b k0 v0 _ hb hput hrec=>
   have gx:vs[i]?=some (.ref b):=by rw[zE hlt,hvi]
   obtain⟨u,hu1,ru⟩:=rv.get gx
   cases (show u=qm b from ru)
   refine xa (wpAny_pyNext_list_item (A:=A.in1) st pl.isList (x:=.ref b) (by simpa using hu1) λh' st' sb=>?_);have I1:Inv X jJ σ H { s with heap:=h' }:=I.turned (t':=s.toks) (λc o hc e=>(sb.2 c hc).trans e) f0 f1 f3 f4 f5;obtain⟨ke,rv2,pt,_⟩:=I1.tuple (ZU.of (K:=X.K) hb);obtain⟨ku,vu,e2,rk,rvv⟩:=rv2.two;subst e2;obtain⟨o,ho,hoc,n,hod⟩:=id pt;show xf _ _ (holding [qm b] _ >>= _) _ _ _;refine xa (xt ?_);refine xa (wpAny_tryCatch ?_);unfold Builtin.Dict.pairItems;refine xa (wpAny_typeOf (T:="tuple") ⟨o,ho,hoc⟩ ?_);rw[if_pos (by decide)];refine xa (wpAny_seqItems ho hod ?_);refine xb ?_;show xf _ _ (holding [ku,vu] (dictSet d ku vu)) _ _ _;refine xt ?_;obtain⟨oi,hoi,ci,di⟩:=id st';have Ip:=I1.pinned (fp:=[it]) (λc hc=>by
    have e:c=it:=by simpa using hc
    subst e;exact hfp H hit) (λc hc=>by
    have e:c=it:=by simpa using hc
    subst e;exact⟨oi,hoi,λw z=>by rw[di]at z;cases z⟩)
   refine ZiC (by rw[Za4];exact hu) Ip hput rk rvv λs2 I2=>?_;have pit:=I2.pin (it,oi) (qH _ (qH _ (Jp (by simp) hoi)));have ec:((i:Int)+1)=((i+1:Nat):Int):=by push_cast;rfl
   show xf _ _ (again (.builtin "dict.update.loop" ⟨[.ref d,.ref it,rawInt ((i:Int)+1),.none],[]⟩)) _ _ _;rw[ec];refine xb ⟨plainId_quiet Zab _,?_⟩;refine ih (i+1) s2 H1 (by omega) hlt I2.unpinned pit.2.1 ⟨oi,pit.1,ci,di⟩ (hkeep _ _ _ _ hput hl) hne hkeep ?_;rw[hrest];exact hrec
theorem ZcX (hc:X.calm=true)(hu:X.A.units+64<cLine)(tk:Bool):XJ X (.type "dict") (λxs H Q=>∃l vs,xs=[.ref l]/\H l=some (.lst vs)/\∀p,H p=none->∃H',Puts p (upd H p (if tk then .dT []else .dK [])) vs H'/\Q (.ref p) H'):=by
 intro jJ s σ H xs us Q I r h;obtain⟨l,vs,rfl,hl,q⟩:=h;obtain⟨u,rfl,ru⟩:=Wx r
 cases (show u=qm l from ru)
 obtain⟨H',puts,q'⟩:=q s.heap.objs.size (I.hok.fresh (qq _));have hA:=I.ok.hd hc;refine callType_codes (Q₁:=λobj s₁=>obj=.ref s.heap.objs.size/\s₁ = { s with heap:=s.heap.push { cls:=.type "dict",data:=.dict #[] } }) F.kt_called_dict (F.kt_typeCall_dict_1 _) F.entry_dict_init (kt_code_dict_new _ ⟨rfl,rfl⟩) ?_;rintro obj s₁ ⟨rfl,rfl⟩;have hbig:=I.big;have I1:Inv X jJ σ (upd H s.heap.objs.size (if tk then .dT []else .dK [])) { s with heap:=s.heap.push { cls:=.type "dict",data:=.dict #[] } }:=
  I.laid (t':=s.toks) (λb o e=>qj _ e) (qq _) (by
   cases tk
   ·exact ZjT s.heap hbig
   ·exact Ze7 s.heap hbig)
 have hnew:(s.heap.push { cls:=.type "dict",data:=.dict #[] }).get? s.heap.objs.size=some { cls:=.type "dict",data:=.dict #[] }:=qw _ rfl;have hTd:({ s with heap:=s.heap.push { cls:=.type "dict",data:=.dict #[] } }:Shared).TypeIs (.ref s.heap.objs.size) "dict":=⟨_,hnew,rfl⟩;have hld:l≠s.heap.objs.size:=ZY hl (I.hok.fresh (qq _));have hl1:(upd H s.heap.objs.size (if tk then HO.dT []else HO.dK [])) l=some (.lst vs):=by rw[Zj hld];exact hl
 obtain⟨zz,jK,n,rits,hlo⟩:=(show Ym X.prog X.w _ _ l (.lst vs)from I1.hok l _ hl1);refine⟨hTd,F.args_dict_init_2 _ _,?_⟩;unfold Builtin.«dict.__init__»;refine xa ?_;unfold Builtin.Dict.selfAndRest;refine xa (wpAny_notOrdered_dict hTd ?_);show xf _ _ (pure (s.heap.objs.size,[qm l])) _ _ _;refine xb ?_;show xf _ _ (qa4 "dict.__init__" s.heap.objs.size (.ref l) [] .none) _ _ _;unfold qa4;have hTl:({ s with heap:=s.heap.push { cls:=.type "dict",data:=.dict #[] } }:Shared).TypeIs (.ref l) "list":=⟨_,hlo,rfl⟩;refine xa (wpAny_typeOf hTl ?_);rw[if_pos (by decide)];refine xa (Zbk hlo rfl rfl rfl hA λh2 tk2 kp2=>?_);simp only[Option.isNone_none,if_true];refine xa (wpAny_rule ?_);have I2:Inv X jJ σ (upd H s.heap.objs.size (if tk then .dT []else .dK [])) { s with heap:=h2,toks:=tk2 }:=I1.kept kp2;obtain⟨its',rv',pl',hz'⟩:=I2.list (ZJ.of (K:=X.K) hl1);refine xa (wpAny_pyIter_list pl'.isList ?_);refine xb ⟨plainId_quiet Zab _,?_⟩;have I3:Inv X jJ σ (upd H s.heap.objs.size (if tk then .dT []else .dK [])) { s with heap:=h2.push { cls:=.type "list_iterator",data:=.fields #[.ref l,.int 0 0] },toks:=tk2 }:=I2.kept (t':=tk2) λb o e=>qj _ e;have hfresh:(upd H s.heap.objs.size (if tk then HO.dT []else HO.dK [])) h2.objs.size=none:=I2.hok.fresh (qq _);have hst:(h2.push { cls:=.type "list_iterator",data:=.fields #[.ref l,.int 0 0] }).IsListIter h2.objs.size l 0:=⟨_,qw _ rfl,rfl,rfl⟩;refine Zj7 (l:=l) (vs:=vs) (H':=H') (A:=X.A.in1) (jJ:=jJ) (σ:=σ) hA (by rw[Za4];omega) (λs' I'=>⟨.ref s.heap.objs.size,H',I',rfl,q'⟩) (λHx hn=>I2.fpOk (qq _) hn) vs.length 0 _ _ rfl (zc _) I3 hfresh hst hl1 hld ?_ puts;intro Hx Hy y v hput hxl;rcases hput with⟨kvs,k,e,ey,l',eH⟩ | ⟨kvs,k,b,e,ey,eb,l',eH⟩
 ·subst eH;rw[Zj hld];exact hxl
 ·subst eH;rw[Zj hld];exact hxl
end
section
variable {X:Cx}{G:Gh}
noncomputable def Vy:D->Option ZC
 | .int i=>some (.inl i)
 | .str x=>some (.inr x)
 | _=>none
noncomputable def Xz:List D->Option (List ZC)
 | []=>some []
 | d::ds=>match Vy d,Xz ds with | some k,some ks=>some (k::ks) | _,_=>none
noncomputable def V3:D->Option V
 | .int i=>some (.int i)
 | .bl b=>some (.bl b)
 | .str x=>some (.str x)
 | .non=>some .non
 | _=>none
theorem ZbS (h:Vy d=some k)(r:Zl G H d v):v=kV k:=by
 cases d with
 | int i=>cases h;rw[ja.mp r];rfl
 | str i=>cases h;rw[jg.mp r];rfl
 | _=>cases h
theorem UV:∀{ds:List D} {vs:List V} {ks:List ZC},Xz ds=some ks->Zi G H ds vs->vs=ks.map kV
 | [],vs,ks,h,r=>by cases h;exact Zi.nil_iff.mp r
 | d::ds,vs,ks,h,r=>by
  obtain⟨v,rr,rfl,r1,r2⟩:=je.mp r;unfold Xz at h
  cases e1:Vy d with
  | none=>simp_all
  | some k=>
   cases e2:Xz ds with
   | none=>simp_all
   | some ks'=>
    rw[e1,e2]at h
    cases h
    rw[ZbS e1 r1,UV e2 r2];rfl
theorem ZdQ (h:V3 d=some w)(r:Zl G H d v):v=w:=by
 cases d with
 | int i=>cases h;exact ja.mp r
 | str i=>cases h;exact jg.mp r
 | bl i=>cases h;exact jd.mp r
 | non=>cases h;exact jh.mp r
 | _=>cases h
noncomputable def Zj8:D->Option (List ZC×V)
 | .tup [.tup ks,v]=>match Xz ks,V3 v with | some k,some w=>some (k,w) | _,_=>none
 | _=>none
noncomputable def Zj9:D->Option (ZC×V)
 | .tup [k,v]=>match Vy k,V3 v with | some k,some w=>some (k,w) | _,_=>none
 | _=>none
noncomputable def V4:List (List ZC×V)->List D->Option (List (List ZC×V))
 | jU,[]=>some jU
 | jU,d::ds=>match Zj8 d with | some (k,v)=>V4 (YW jU k v) ds | none=>none
noncomputable def Vb:List (ZC×V)->List D->Option (List (ZC×V))
 | jU,[]=>some jU
 | jU,d::ds=>match Zj9 d with | some (k,v)=>Vb (YW jU k v) ds | none=>none
theorem ZgF (h:Zj8 d=some (k,v)):∃ks w,d=.tup [.tup ks,w]/\Xz ks=some k/\V3 w=some v:=by
 match d,h with
 | .tup [.tup ks,w],h=>
  have h':(match Xz ks,V3 w with | some k,some w=>some (k,w) | _,_=>none)=some (k,v):=h
  cases e1:Xz ks with
  | none=>simp_all
  | some k'=>
   cases e2:V3 w with
   | none=>simp_all
   | some w'=>rw[e1,e2]at h';cases h';exact⟨ks,w,rfl,e1,e2⟩
theorem ZgG (h:Zj9 d=some (k,v)):∃ks w,d=.tup [ks,w]/\Vy ks=some k/\V3 w=some v:=by
 match d,h with
 | .tup [ks,w],h=>
  have h':(match Vy ks,V3 w with | some k,some w=>some (k,w) | _,_=>none)=some (k,v):=h
  cases e1:Vy ks with
  | none=>simp_all
  | some k'=>
   cases e2:V3 w with
   | none=>simp_all
   | some w'=>rw[e1,e2]at h';cases h';exact⟨ks,w,rfl,e1,e2⟩
theorem Zka (e1:Zz G Hf H)(hp:H p=none):∀{ds:List D} {vs:List V} {jU res:List (List ZC×V)},Zi G Hf ds vs->V4 jU ds=some res->jU.length+ds.length<=xg->Puts p (upd H p (.dT jU)) vs (upd H p (.dT res))
 | [],vs,jU,res,r,h,_=>by
  rw[Zi.nil_iff.mp r]
  cases h
  exact .nil
 | d::ds,vs,jU,res,r,h,hl=>by
  obtain⟨v,rr,rfl,r1,r2⟩:=je.mp r;unfold V4 at h
  cases e:Zj8 d with
  | none=>simp_all
  | some kv=>
   obtain⟨k,w⟩:=kv;rw[e]at h;obtain⟨ks,wd,rfl,q1,q2⟩:=ZgF e;obtain⟨b,ws,rfl,nb,hb,rb⟩:=jb.mp r1;obtain⟨v1,v2,rfl,rk,rv⟩:=jl rb;obtain⟨c,cs,rfl,nc,hcx,rc⟩:=jb.mp rk;have ec:=UV q1 rc;subst ec;have ev:=ZdQ q2 rv;subst ev;have hb':=e1 _ _ nb hb;have hc':=e1 _ _ nc hcx;have ll:=Jm jU k v2;have hl':jU.length+(ds.length+1)<=xg:=by omega
   refine .cons (by rw[Zj (ZY hb' hp)];exact hb') (WV.t ZG (by rw[Zj (ZY hc' hp)];exact hc') (by omega)) ?_;rw[Zed];exact Zka e1 hp r2 h (by omega)
theorem Zkb (e1:Zz G Hf H)(hp:H p=none):∀{ds:List D} {vs:List V} {jU res:List (ZC×V)},Zi G Hf ds vs->Vb jU ds=some res->jU.length+ds.length<=xg->Puts p (upd H p (.dK jU)) vs (upd H p (.dK res))
 | [],vs,jU,res,r,h,_=>by
  rw[Zi.nil_iff.mp r]
  cases h
  exact .nil
 | d::ds,vs,jU,res,r,h,hl=>by
  obtain⟨v,rr,rfl,r1,r2⟩:=je.mp r;unfold Vb at h
  cases e:Zj9 d with
  | none=>simp_all
  | some kv=>
   obtain⟨k,w⟩:=kv;rw[e]at h;obtain⟨ks,wd,rfl,q1,q2⟩:=ZgG e;obtain⟨b,ws,rfl,nb,hb,rb⟩:=jb.mp r1;obtain⟨v1,v2,rfl,rk,rv⟩:=jl rb;have ek:=ZbS q1 rk;subst ek;have ev:=ZdQ q2 rv;subst ev;have hb':=e1 _ _ nb hb;have ll:=Jm jU k v2;have hl':jU.length+(ds.length+1)<=xg:=by omega
   refine .cons (by rw[Zj (ZY hb' hp)];exact hb') (WV.k ZG (by omega)) ?_;rw[Zed];exact Zkb e1 hp r2 h (by omega)
noncomputable def Zkc:List D->Option D
 | [.lst ds]=>if ds.length<=xg then (V4 [] ds).map .dt else none
 | _=>none
noncomputable def Zer:List D->Option D
 | [.lst ds]=>if ds.length<=xg then (Vb [] ds).map .dk else none
 | _=>none
theorem ZgH (hc:X.calm=true)(hu:X.A.units+64<cLine):XJ X (.type "dict") (λxs H Q=>∃l vs,xs=[.ref l]/\H l=some (.lst vs)/\∀p,H p=none->∃kvs,Puts p (upd H p (.dT [])) vs (upd H p (.dT kvs))/\∀o,Q (.ref p) (upd H p (.frz o (.dT kvs)))):=by
 intro jJ s σ H xs us Q I r h;obtain⟨l,vs,ex,hl,hp⟩:=h;refine ZD (ZcX hc hu true jJ s σ H xs us (λv H'=>∃p kvs,v=.ref p/\H'=upd H p (.dT kvs)/\∀o,Q (.ref p) (upd H p (.frz o (.dT kvs)))) I r ⟨l,vs,ex,hl,λp hn=>?_⟩) λu s1 ⟨v,H1,I1,r1,p,kvs,ev,eH,q⟩=>?_
 ·obtain⟨kvs,pu,q⟩:=hp p hn
  exact⟨_,pu,p,kvs,rfl,rfl,q⟩
 ·subst ev eH
  have ok:=I1.hok p (.dT kvs) ZG;obtain⟨_,_,xs',_,o,es,ep,h1,_⟩:=(show Ym X.prog X.w _ s1.heap p (.dT kvs)from ok);have I2:=I1.write (o:=.frz o (.dT kvs)) (t':=s1.toks) (by rw[ZG];trivial) (.inl rfl) (λ_ _ _ e=>e) ⟨o,h1⟩ ⟨h1,ok.stay (λ_ _ _ e=>e) (λb e=>?_) λb xs e=>?_⟩
  ·rw[Zed]at I2
   exact⟨.ref p,_,I2,r1,q o⟩
  ·have:b≠p:=λz=>by rw[z,ZG]at e;cases e
   rw[Zj this];exact e
  ·have:b≠p:=λz=>by rw[z,ZG]at e;cases e
   rw[Zj this];exact e
theorem ZgI (hc:X.calm=true)(hu:X.A.units+64<cLine):Wy X G (.type "dict") Zkc:=
 ⟨_,ZgH hc hu,λHf H s xs ds c Q e1 st r q k=>by
  match ds,q,r with
  | [.lst es],q,r=>
   have q:(if es.length<=xg then (V4 [] es).map D.dt else none)=some c:=q;split at q
   ·cases e:V4 [] es with
    | none=>simp_all
    | some res=>
     rw[e]at q
     cases q
     obtain⟨v,rfl,rv⟩:=ji r;obtain⟨l,vs,rfl,nl,hl,rl⟩:=jc.mp rv;refine⟨l,vs,rfl,e1 _ _ nl hl,λp hp=>⟨_,Zka e1 hp rl e (by simp_all),λo=>?_⟩⟩;have nf:=Gh.nofp st hp;have g2:=Gr.new (o:=.frz o (.dT res)) e1 hp nf;exact k (.ref p) _ _ g2 (Gh.grow st hp) (jm.mpr ⟨p,o,rfl,nf,ZG⟩) λa ea _=>by simp_all
   ·cases q⟩
theorem ZgJ (hc:X.calm=true)(hu:X.A.units+64<cLine):Wy X G (.type "dict") Zer:=
 ⟨_,ZcX hc hu false,λHf H s xs ds c Q e1 st r q k=>by
  match ds,q,r with
  | [.lst es],q,r=>
   have q:(if es.length<=xg then (Vb [] es).map D.dk else none)=some c:=q;split at q
   ·cases e:Vb [] es with
    | none=>simp_all
    | some res=>
     rw[e]at q
     cases q
     obtain⟨v,rfl,rv⟩:=ji r;obtain⟨l,vs,rfl,nl,hl,rl⟩:=jc.mp rv;refine⟨l,vs,rfl,e1 _ _ nl hl,λp hp=>⟨_,Zkb e1 hp rl e (by simp_all),?_⟩⟩;have nf:=Gh.nofp st hp;have g2:=Gr.new (o:=.dK res) e1 hp nf;exact k (.ref p) _ _ g2 (Gh.grow st hp) (jk.mpr ⟨p,rfl,nf,ZG⟩) λa ea _=>by simp_all
   ·cases q⟩
theorem Zkd (hu:X.A.units+1<cLine):Yc X (xk .In) (λx y H Q=>∃a o,y=.ref a/\WA H a x o/\Q (.bl o.isSome) H):=by
 intro jJ s σ H x y v u Q I rx ry h;obtain⟨a,o,rfl,g,q⟩:=h
 cases (show u=qm a from ry)
 exact d_in hu I g rx λs' I'=>⟨.bl _,H,I',rfl,q⟩
theorem ZdR (hu:X.A.units+1<cLine):Yc X (xk .NotIn) (λx y H Q=>∃a o,y=.ref a/\WA H a x o/\Q (.bl (!o.isSome)) H):=by
 intro jJ s σ H x y v u Q I rx ry h;obtain⟨a,o,rfl,g,q⟩:=h
 cases (show u=qm a from ry)
 exact ZlX hu I g rx λs' I'=>⟨.bl _,H,I',rfl,q⟩
noncomputable def Jg:D->D->Option Bool
 | x,.lst ds=>if WX x ds=true then some (W0 x ds)else none
 | x,.tup ds=>if WX x ds=true then some (W0 x ds)else none
 | .tup ks,.dt kvs=>(Xz ks).map λk=>(ZS kvs k).isSome
 | .tup ks,.du kvs=>(Xz ks).map λk=>(ZS kvs k).isSome
 | x,.dk kvs=>(Vy x).map λk=>(ZS kvs k).isSome
 | _,_=>none
noncomputable def X9 (x y:D):Option D:=(Jg x y).map .bl
noncomputable def JI (x y:D):Option D:=(Jg x y).map λb=>.bl (!b)
theorem ZdS (e1:Zz G Hf H)(rx:Zl G Hf d x)(ry:Zl G Hf e y)(h:Jg d e=some b) :
  (∃ds,WX d ds=true/\(Zl G Hf (.lst ds) y∨Zl G Hf (.tup ds) y)/\b=W0 d ds)∨∃a o,y=.ref a/\WA H a x o/\b=o.isSome:=by
 cases e with
 | lst ds=>
  have h:(if WX d ds=true then some (W0 d ds)else none)=some b:=by cases d <;> exact h
  split at h
  ·rename_i ok;cases h;exact .inl ⟨ds,ok,.inl ry,rfl⟩
  ·cases h
 | tup ds=>
  have h:(if WX d ds=true then some (W0 d ds)else none)=some b:=by cases d <;> exact h
  split at h
  ·rename_i ok;cases h;exact .inl ⟨ds,ok,.inr ry,rfl⟩
  ·cases h
 | dt kvs=>
  obtain⟨a,o,rfl,na,ha⟩:=jm.mp ry
  cases d with
  | tup ks=>
   have h:(Xz ks).map (λk=>(ZS kvs k).isSome)=some b:=h
   cases q:Xz ks with
   | none=>rw[q]at h;cases h
   | some k=>
    rw[q]at h;cases h;obtain⟨c,cs,rfl,nc,hcx,rc⟩:=jb.mp rx;have ec:=UV q rc;subst ec;exact .inr ⟨a,_,rfl,.inr ⟨kvs,k,c,.inr ⟨o,e1 _ _ na ha⟩,rfl,e1 _ _ nc hcx,rfl⟩,rfl⟩
  | _=>cases h
 | du kvs=>
  obtain⟨a,rfl,na,ha⟩:=jn.mp ry
  cases d with
  | tup ks=>
   have h:(Xz ks).map (λk=>(ZS kvs k).isSome)=some b:=h
   cases q:Xz ks with
   | none=>rw[q]at h;cases h
   | some k=>
    rw[q]at h;cases h;obtain⟨c,cs,rfl,nc,hcx,rc⟩:=jb.mp rx;have ec:=UV q rc;subst ec;exact .inr ⟨a,_,rfl,WA.t (e1 _ _ na ha) (e1 _ _ nc hcx),rfl⟩
  | _=>cases h
 | dk kvs=>
  obtain⟨a,rfl,na,ha⟩:=jk.mp ry;have h:(Vy d).map (λk=>(ZS kvs k).isSome)=some b:=by cases d <;> exact h
  cases q:Vy d with
  | none=>simp_all
  | some k=>
   rw[q]at h;cases h;have ek:=ZbS q rx;subst ek;exact .inr ⟨a,_,rfl,WA.k (e1 _ _ na ha),rfl⟩
 | _=>cases d <;> cases h
theorem ZgK (hu:X.A.units+64<cLine):Xm X G (xk .In) X9:=
 ⟨_,(ZnI hu).or (Zkd (by omega)),λHf H s x y d e c Q e1 st rx ry q k=>by
  unfold X9 at q
  cases h:Jg d e with
  | none=>simp_all
  | some b=>
   rw[h]at q;cases q;have kk:=k (.bl b) Hf H (.refl e1) st (jd.mpr rfl) (.scal λz=>z);rcases ZdS e1 rx ry h with⟨ds,ok,hl,rfl⟩ | ⟨a,o,ey,g,rfl⟩
   ·exact .inl ⟨Hf,d,ds,e1,ok,rx,hl,kk⟩
   ·exact .inr ⟨a,o,ey,g,kk⟩⟩
theorem ZiD (hu:X.A.units+64<cLine):Xm X G (xk .NotIn) JI:=
 ⟨_,(ZiA hu).or (ZdR (by omega)),λHf H s x y d e c Q e1 st rx ry q k=>by
  unfold JI at q
  cases h:Jg d e with
  | none=>simp_all
  | some b=>
   rw[h]at q;cases q;have kk:=k (.bl (!b)) Hf H (.refl e1) st (jd.mpr rfl) (.scal λz=>z);rcases ZdS e1 rx ry h with⟨ds,ok,hl,rfl⟩ | ⟨a,o,ey,g,rfl⟩
   ·exact .inl ⟨Hf,d,ds,e1,ok,rx,hl,kk⟩
   ·exact .inr ⟨a,o,ey,g,kk⟩⟩
end
section
variable {X:Cx}{G:Gh}{own ob:List Nat}{fr:Bool}{f:Zc->M D}
noncomputable def Zl8 (ta:TA):TE:=fun σ H Q=>ta σ H λvs H1=>∃j:Int,vs=[.int j]/\∀p,H1 p=none->Q (.ref p) (upd H1 p (.rng 0 j))
theorem ZiE (hg:Gl X "range")(hm:X.mg "range" = none)(ha:PA X [a] ta)(hs:xh [a] X.env=[(false,eval a X.env)]:=by rfl):PE X (.Call (.Name "range" p) [a] [] pos) (Zl8 ta):=by
 intro jJ s σ H Q I h;refine Call_ (JC I hg hm boot_range (zM (ZD (ha pos jJ s σ H _ I h) λus s1 ⟨vs,H1,I1,r1,q1⟩=>?_) hs rfl));obtain⟨j,e,q⟩:=q1;subst e
 cases r1 with
 | cons r rr=>
  cases rr
  obtain⟨t,rfl⟩:=r;refine call_range_1 ⟨.ref s1.heap.objs.size,upd H1 s1.heap.objs.size (.rng 0 j),I1.laid (λb o e=>qj _ e) (qq _) ?_,rfl,q _ (I1.hok.fresh (qq _))⟩;exact⟨_,_,_,qw _ rfl⟩
theorem ZcY:∀(ys:List Value) (lo:Int),(∀(j:Nat) v,ys[j]?=some v->∃t,v=.int (lo+j) t)->Zy ((qu ys.length).map λ(i:Nat)=>V.int (lo+i)) ys
 | [],lo,_=>.nil
 | y::ys,lo,h=>by
  obtain⟨t,e⟩:=h 0 y rfl;rw[qV,qbe,qK,qJ];refine .cons ⟨t,by rw[e]⟩ ?_;have q:=ZcY ys (lo+1) λj v hv=>by
   obtain⟨t,e⟩:=h (j+1) v (by simpa using hv);exact⟨t,by rw[e];congr 1;push_cast;omega⟩
  have ee:((λ(i:Nat)=>V.int (lo+i))∘Nat.succ)=λ(i:Nat)=>V.int (lo+1+i):=by
   funext i;show V.int (lo+(Nat.succ i:Nat))=V.int (lo+1+i);congr 1;push_cast;omega
  rw[ee];exact q
theorem Zes (hc:X.calm=true):XJ X (.type "list") (λxs H Q=>∃r j,xs=[.ref r]/\H r=some (.rng 0 j)/\-(2 ^ 62)<=j/\j<=2 ^ 24/\∀l,H l=none->Q (.ref l) (upd H l (.lst ((qu j.toNat).map λ(i:Nat)=>V.int (0+i))))):=by
 intro jJ s σ H xs us Q I r h;obtain⟨rr,j,rfl,hr,h1,h2,q⟩:=h;obtain⟨u,rfl,ru⟩:=Wx r
 cases (show u=qm rr from ru)
 obtain⟨t,u',v',hro⟩:=(show Ym X.prog X.w H s.heap rr (.rng 0 j)from I.hok rr _ hr);have hn:qa3 0 j 1=((j.toNat:Nat):Int):=by rw[rangeSize_one];split <;> omega
 refine call_list_range (I.ok.hd hc) (show IsRange s.heap rr 0 j 1 t u' v' from hro) (small_one (by omega) (by omega) h1 (by omega)) hn (by omega) λh' tk acc' c' hk hS hacc=>?_;obtain⟨sz,hit⟩:=hacc;have rv:=ZcY acc'.toList 0 λi v hv=>by
  simp_all
 have el:acc'.toList.length=j.toNat:=by omega
 rw[el]at rv;refine⟨.ref s.heap.objs.size,upd H s.heap.objs.size (.lst ((qu j.toNat).map λ(i:Nat)=>V.int (0+i))),I.laid hk (qq _) ?_,rfl,q _ (I.hok.fresh (qq _))⟩;refine⟨?_,acc'.toList,c',rv,?_⟩
 ·rw[qp,zb]
  show j.toNat<=2 ^ 24;omega
 ·omega
noncomputable def WG (f:Zc->M D):Zc->M D:=fun ρ=>Zk (f ρ) λd=>match d with | .int j=>if -(2 ^ 62)<=j/\j<=2 ^ 24 then ZL (.lst (Yv 0 j.toNat))else ZK | _=>ZK
theorem ZcZ (lo:Int):∀(l:List Nat),Zi G Hf (l.map λ(i:Nat)=>D.int (lo+i)) (l.map λ(i:Nat)=>V.int (lo+i))
 | []=>Zi.nil_iff.mpr rfl
 | i::l=>Zi.cons (ja.mpr rfl) (ZcZ lo l)
theorem Zan {p1 p2 pos1 pos:Pos}(hc:X.calm=true)(hg:Gl X "range")(hm:X.mg "range" = none)(hg2:Gl X "list")(hm2:X.mg "list" = none)(hv2:xj "list" = some (.type "list"))(ha:PD X G r1 a f)
  (hs:xh [a] X.env=[(false,eval a X.env)]:=by rfl)
  (he:xh [.Call (.Name "range" p1) [a] [] pos1] X.env=(false,eval (.Call (.Name "range" p1) [a] [] pos1) X.env)::xh [] X.env:=by rfl):PD X G true (.Call (.Name "list" p2) [.Call (.Name "range" p1) [a] [] pos1] [] pos) (WG f):=by
 obtain⟨t,pa,qa⟩:=ha.drop;refine⟨_,ZdJ (Zes hc) hg2 hm2 hv2 (Yt (ZiE hg hm (Yt pa YS (by rw[hs];rfl)) hs) YS he) (by decide) (by decide) he rfl,fun σ Hf H ρ s d s' Q e1 e2 e3 e4 k=>?_⟩;obtain⟨dj,s1,a1,a2⟩:=Zv e4
 cases dj with
 | int j=>
  obtain⟨c,a3⟩:=Xy a2;obtain⟨rfl,rfl⟩:=ZP a3;refine qa σ Hf H ρ s _ _ _ e1 e2 e3 a1 λv jW H1 g st r=>?_;rw[ja.mp r];refine⟨j,rfl,λp hp=>⟨p,j,rfl,ZG,c.1,c.2,λl hl=>?_⟩⟩;have hlp:l≠p:=λz=>by rw[z,ZG]at hl;cases hl
  have hl1:H1 l=none:=by rw[Zj hlp]at hl;exact hl
  have j6:G.st s' (upd H1 p (.rng 0 j)):=Gh.grow st hp;have nf:=Gh.nofp j6 hl;have fp:jW p=none:=by
   cases q:jW p with
   | none=>rfl
   | some o=>rw[g.fh p o (Gh.nofp st hp) q]at hp;cases hp
  have gA:Gr G jW H1 jW (upd H1 p (.rng 0 j)):=⟨λb o n q=>by rw[Zj (ZY q hp)];exact q,.refl _ _,λb o n q=>by rw[Zj (ZY q fp)];exact g.fh b o n q,λb n h1 h2=>h1⟩;have gB:=Gr.new (o:=.lst ((qu j.toNat).map λ(i:Nat)=>V.int (0+i))) gA.fh hl nf;have rr:Zi G jW (Yv 0 j.toNat) ((qu j.toNat).map λ(i:Nat)=>V.int (0+i)):=ZcZ 0 _;refine k (.ref l) _ _ ((g.trans gA).trans gB) (Gh.grow j6 hl) (jc.mpr ⟨l,_,rfl,nf,ZG,rr.ext gB.ff⟩) λ_=>?_;exact Z3.old (g.trans gA).hh (λa ea _=>by simp_all) (Z3.mk gA.fh hl nf rr)
 | _=>cases a2
end
structure BlkS (X:Cx)(XN:List Str)(NS:List (Str×NameKind))(N':List Str)(src:List (Option Nat))(scope:Scope):Prop where
 xn:X.N=XN
 ns:X.env.scope.names=NS
 nocell:∀y∈scope.names,y.2≠.cell
 kind:scope.kind=.function
 names:∀y∈scope.names,y.2=.local->scope.names.lookup y.1=some .local
 len:src.length=N'.length
 free:∀y∈scope.names,y.2=.free->NS.lookup y.1=some .cell∨NS.lookup y.1=some .free
 from_:(src.zip N').all (λp=>match p.1 with | some j=>decide (XN[j]?=some p.2)&&(decide (NS.lookup p.2=some .cell)||decide (NS.lookup p.2=some .free))&&decide (scope.names.lookup p.2=some .free) | none=>true)=true
theorem Zak {env:Env}:∀{names:List (Str×NameKind)} {x:Str},names.lookup x=some .free->
  (names.map λ(n,k)=>if (k==ze&&env.scope.kind == .function&&env.kindOf n==some .cell)then (n,yq)else (n,k)).lookup x=some .cell∨
  (names.map λ(n,k)=>if (k==ze&&env.scope.kind == .function&&env.kindOf n==some .cell)then (n,yq)else (n,k)).lookup x=some .free
 | [],_,h=>by simp at h
 | (n,k)::r,x,h=>by
  have ih:=@Zak env r x;show yR x ((if (k==ze&&env.scope.kind == .function&&env.kindOf n==some .cell)=true then (n,yq)else (n,k))::_)=_∨yR x ((if (k==ze&&env.scope.kind == .function&&env.kindOf n==some .cell)=true then (n,yq)else (n,k))::_)=_
  cases hx:x==n with
  | true=>
   simp only[qR,hx]at h
   cases h
   by_cases hc:(ze==ze&&env.scope.kind == .function&&env.kindOf n==some .cell)=true
   ·rw[if_pos hc];left;simp[qR,hx]
   ·rw[if_neg hc];right;simp_all
  | false=>
   simp only[qR,hx]at h;by_cases hc:(k==ze&&env.scope.kind == .function&&env.kindOf n==some .cell)=true
   ·rw[if_pos hc];simp only[qR,hx];exact ih h
   ·rw[if_neg hc];simp only[qR,hx];exact ih h
theorem Zad {env:Env}:∀{names:List (Str×NameKind)} {x:Str} {k':NameKind},(∀y∈names,y.2≠.cell)->(k'=.cell∨k'=.free)->
  (names.map λ(n,k)=>if (k==ze&&env.scope.kind == .function&&env.kindOf n==some .cell)then (n,yq)else (n,k)).lookup x=some k'->names.lookup x=some .free
 | [],_,_,_,_,h=>by simp at h
 | (n,k)::r,x,k',nc,hk,h=>by
  have ih:=@Zad env r x k' (λy hy=>nc y (qL _ hy)) hk;have h:yR x ((if (k==ze&&env.scope.kind == .function&&env.kindOf n==some .cell)=true then (n,yq)else (n,k))::_)=_:=h
  cases hx:x==n with
  | true=>
   by_cases hc:(k==ze&&env.scope.kind == .function&&env.kindOf n==some .cell)=true
   ·have:k=.free:=by
     simp_all
    simp_all
   ·simp_all
  | false=>
   by_cases hc:(k==ze&&env.scope.kind == .function&&env.kindOf n==some .cell)=true
   ·rw[if_pos hc]at h;simp only[qR,hx]at h⊢;exact ih h
   ·rw[if_neg hc]at h;simp only[qR,hx]at h⊢;exact ih h
theorem Zao:∀(names:List (Str×NameKind)) (jU:List (Str×Addr)),(∀y∈names,y.2=.free->∃c,env.cells.lookup y.1=some c)->
  (∀x c,jU.lookup x=some c->env.cells.lookup x=some c)->
  ∃cl,(forIn names jU λ(p:Str×NameKind) (cs:List (Str×Addr))=>(if (p.2==ze)=true then do let a<-cellOf env p.1;pure (yd ((p.1,a)::cs))else pure (yd cs):Sem (ForInStep (List (Str×Addr)))))=pure cl/\
   (∀x c,cl.lookup x=some c->env.cells.lookup x=some c)/\(∀x c,jU.lookup x=some c->∃c',cl.lookup x=some c')/\∀y∈names,y.2=.free->∃c,cl.lookup y.1=some c
 | [],jU,_,h2=>⟨jU,by simp,h2,λx c h=>⟨c,h⟩,λy hy=>by simp at hy⟩
 | (n,k)::r,jU,h1,h2=>by
  by_cases hk:k=.free
  ·subst hk
   obtain⟨c,hc⟩:=h1 (n,.free) qay rfl;have hcell:cellOf env n=pure c:=by unfold cellOf;rw[hc]
   obtain⟨cl,q1,q2,q3,q4⟩:=Zao (env:=env) r ((n,c)::jU) (λy hy=>h1 y (qL _ hy)) λx c' h=>by
    cases hx:x==n with
    | true=>
     simp only[qR,hx]at h
     cases h
     have:x=n:=by simpa using hx
     rw[this];exact hc
    | false=>simp only[qR,hx]at h;exact h2 x c' h
   refine⟨cl,?_,q2,λx c' h=>?_,λy hy hf=>?_⟩
   ·rw[List.forIn_cons]
    simp only[beq_self_eq_true,if_true,hcell,pure_bind];exact q1
   ·cases hx:x==n with
    | true=>exact q3 x c (by simp[qR,hx])
    | false=>exact q3 x c' (by simp only[qR,hx];exact h)
   ·rcases qy.mp hy with e | hy
    ·subst e;exact q3 n c (by simp[qR])
    ·exact q4 y hy hf
  ·obtain⟨cl,q1,q2,q3,q4⟩:=Zao (env:=env) r jU (λy hy=>h1 y (qL _ hy)) h2
   refine⟨cl,?_,q2,q3,λy hy hf=>?_⟩
   ·rw[List.forIn_cons]
    simp_all
   ·rcases qy.mp hy with e | hy
    ·simp_all
    ·exact q4 y hy hf
theorem BlkS.ok (B:BlkS X XN NS N' src scope)(ok:X.Ok):∃cl,BlkOk X N' src scope cl:=by
 have hcells:∀y∈scope.names,y.2=.free->∃c,X.env.cells.lookup y.1=some c:=λy hy hf=>ok.has y.1 (by
  have:=B.free y hy hf;rw[<-B.ns]at this;exact this)
 obtain⟨cl,q1,q2,q3,q4⟩:=Zao scope.names [] hcells (λx c h=>by simp at h);refine⟨cl,?_,B.nocell,B.kind,B.names,B.len,q2,λx hx=>?_,λi j x e1 e2=>?_⟩
 ·unfold closureFor
  simp_all
 ·have hf:scope.names.lookup x=some .free:=by
   rcases hx with h | h
   ·exact Zad B.nocell (.inl rfl) h
   ·exact Zad B.nocell (.inr rfl) h
  exact q4 (x,.free) (qW hf) rfl
 ·have hm:=by
   have:(src.zip N')[i]?=some (some j,x):=by
    rw[yz];exact⟨e1,e2⟩
   exact qP this
  have q:=zy.mp B.from_ _ hm;simp at q;obtain⟨⟨p1,p2⟩,p3⟩:=q;refine⟨by rw[B.xn];exact p1,?_,Zak p3⟩;show X.env.scope.names.lookup x=_∨X.env.scope.names.lookup x=_;rw[B.ns];exact p2
section
variable {X:Cx}{G:Gh}{elt tg iter:Expr}{ifs:List Expr}{scope:Scope}{pos pos' spos:Pos}{XN:List Str}{NS:List (Str×NameKind)}{N':List Str}{src:List (Option Nat)}{fi:Zc->M (List D)}{τ:D->Zc->Option Zc}{ft:Zc->M Bool}{fe:Zc->M D}{r1:Bool}{i:Nat}{x:Str}
theorem Zke (hc:X.calm=true)(B:BlkS X XN NS N' src scope)(hi:Vj X G tg iter fi)
  (hg:∀cl jJ C s H fp,Uh (Yx X jJ N' scope cl C s H fp) G tg (λi=>src[i]?=some none) τ) (ht:∀cl jJ C s H fp,VE (Yx X jJ N' scope cl C s H fp) ifs (Jc G ft)) (he:∀cl jJ C s H fp,PD (Yx X jJ N' scope cl C s H fp) G r1 elt fe)
  (hs:∀x,foldedSetIterable iter X.env x=pure x:=by intro _;rfl):PD X G true (.ListComp elt [⟨tg,iter,ifs,0⟩] scope pos) (Yw src fi τ ft fe):=by
 obtain⟨wi,pi,qi⟩:=hi;refine⟨_,λjJ s σ H Q I h=>?_,Zfa (r1:=r1) qi⟩;obtain⟨cl,B'⟩:=B.ok I.ok;exact Zl0 hc B' pi (λjJ C s H fp=>(hg cl jJ C s H fp).canon) (ht cl) (λjJ C s H fp=>(he cl jJ C s H fp).canon) hs jJ s σ H Q I h
theorem Be (hN:X.N.Nodup)(hi':X.N[i]?=some x)(hx:Wn X.env.scope x)
  (hc:X.calm=true) (B:BlkS X XN NS N' src scope) (hi:Vj X G tg iter fi)
  (hg:∀cl jJ C s H fp,Uh (Yx X jJ N' scope cl C s H fp) G tg (λi=>src[i]?=some none) τ) (ht:∀cl jJ C s H fp,VE (Yx X jJ N' scope cl C s H fp) ifs (Jc G ft)) (he:∀cl jJ C s H fp,PD (Yx X jJ N' scope cl C s H fp) G r1 elt fe)
  (hsw:xr (.ListComp elt [⟨tg,iter,ifs,0⟩] scope pos) (some (.Name x pos')) spos.line X.env=pure true:=by rfl)
  (hs:∀x,foldedSetIterable iter X.env x=pure x:=by intro _;rfl)
  (hf:X.fn x=true∨X.env.scope.names.lookup x=some .local:=by first | exact .inl rfl | exact .inr rfl | assumption) :
  BT X G true i (.Assign [.Name x pos'] (.ListComp elt [⟨tg,iter,ifs,0⟩] scope pos) spos) (Yw src fi τ ft fe):=by
 obtain⟨wi,pi,qi⟩:=hi;refine⟨_,λjJ s σ H D I h=>?_,Zfa (r1:=r1) qi⟩;obtain⟨cl,B'⟩:=B.ok I.ok;exact Zl1 hN hi' hx hc B' pi (λjJ C s H fp=>(hg cl jJ C s H fp).canon) (ht cl) (λjJ C s H fp=>(he cl jJ C s H fp).canon) hsw hs hf jJ s σ H D I h
end
noncomputable def ZX (P:xy)(w:World)(K:qf)(mg:Str->Option Value)(base:Heap)(k:Nat)(x:Str)(n:Nat)(fr:Bool)(GG:Gh->Prop)(F:List D->M D):Prop:=
 ∃f fd ps,FnOk P w K mg base ZH k f fd ps (Z1 n fr GG F)/\mg x=some (.ref f)/\qY K (.ref f)=true/\YC K fd ps []
theorem ZX.mono {K:qf}(c:ZX P w K mg base j x n fr GG F)(h:j<=k:=by decide):ZX P w K mg base k x n fr GG F:=
 let ⟨f,fd,ps,a,b,c,d⟩:=c
 ⟨f,fd,ps,a.mono h,b,c,d⟩
theorem Zkf {p pos:Pos}(c:ZX X.prog X.w X.K X.mg X.base k x n fr GG F)(hG:GG G)(hr:Room k X.A)(hg:Gl X x)
  (ha:Xw X G (e::es) fs) (hal:∀ρ s ds s',fs ρ s=some (ds,s')->ds.length=(e::es).length) (jR:(e::es).length=n:=by rfl)
  (hdb:(x==("__debug__" : Str))=false:=by decide) (he:xh (e::es) X.env=(false,eval e X.env)::xh es X.env:=by rfl) (hpl:(backTo pos (xh es X.env)).any (·.1)=false:=by rfl) :
  PD X G fr (.Call (.Name x p) (e::es) [] pos) (Zt F fs):=by
 obtain⟨f,fd,ps,a,b,c,d⟩:=c;exact Zl2 a hG hr hg b c d BI ha jR hal hdb he hpl
noncomputable def Vg (h base:Heap)(as:List Addr):Heap:=qab h ((qu h.objs.size).filter λa=>!((base.get? a).isSome||decide (a∈as)))
theorem ZiF:(Vg h base as).objs.size=h.objs.size:=qbl _ _
theorem Zfe (e:h.get? b=some o)(n:(∃u,base.get? b=some u)∨b∈as):(Vg h base as).get? b=some o:=
 qao _ e λhm=>by grind
theorem ZhJ (e:(Vg h base as).get? b=some o):h.get? b=some o/\((∃u,base.get? b=some u)∨b∈as):=by
 have e':=qaw _ e;refine⟨e',?_⟩;by_cases c:((base.get? b).isSome||decide (b∈as))=true
 ·rcases Bool.or_eq_true_iff.mp c with c | c
  ·exact .inl (qU.mp c)
  ·simp_all
 ·have z:(Vg h base as).get? b=none:=qbm _ (qC.mpr ⟨zJ.mpr (qt e'),by grind⟩)
  grind
theorem jC {K:qf}(e:Env0 P w K mg base A outer s H)(ha:∀b∈as,H b=none)(hf:∀b∈as,b∉Yp outer) :
  Env0 P w K mg (Vg s.heap base as) A outer s H:=by
 have up:∀b o,base.get? b=some o->(Vg s.heap base as).get? b=some o:=λb o q=>Zfe (e.bs b o q).1 (.inl ⟨o,q⟩);refine⟨e.frames,⟨e.mod.kin.keeps up,e.mod.glob.keeps up,let ⟨mb,h1,h2⟩:=e.mod.blt;⟨mb,h1.keeps up,h2⟩,e.mod.nolimit.keeps up⟩,λb o q=>?_,qbG ZiF,?_,e.frf,e.hok,e.bare⟩
 ·obtain⟨q1,q2⟩:=ZhJ q
  refine⟨q1,?_⟩;rcases q2 with⟨u,q2⟩ | q2
  ·exact(e.bs b u q2).2
  ·exact ha b q2
 ·have all:∀l,(∀b∈Yp l,b∈Yp outer)->s.heap.FunFrames base l->s.heap.FunFrames (Vg s.heap base as) l:=by
   intro l
   induction l with
   | nil=>intro _ _;trivial
   | cons env r ih=>
    intro hs hl;obtain⟨hk,⟨L,o,hf',hn,ho,hd⟩,hr⟩:=hl;have hL:=hs L (by unfold Yp;simp_all);refine⟨hk,⟨L,o,hf',?_,ho,hd⟩,ih (λb hb=>hs b (by unfold Yp;rw[zY,hf'];exact qL _ hb)) hr⟩
    cases q:(Vg s.heap base as).get? L with
    | none=>rfl
    | some u=>
     rcases (ZhJ q).2 with⟨u',q'⟩ | q'
     ·grind
     ·simp_all
  exact all outer (λ_ h=>h) e.funs
noncomputable def fnφ (p:Addr)(fd:xx):Heap->Prop:=λh=>∃oc od sl,h.get? p=some ⟨oc,od,.func fd,sl⟩
noncomputable def codeφ (c:Addr)(q:Str):Heap->Prop:=λh=>h.CodeRec (.ref c) q
theorem fnφ_at (ok:Yf P w H h)(e:H p=some (.ext (fnφ p fd))):fnφ p fd h:=(ok p _ e).1
theorem codeφ_at (ok:Yf P w H h)(e:H c=some (.ext (codeφ c q))):h.CodeRec (.ref c) q:=(ok c _ e).1
structure CloScope (N ps:List Str)(sc:Scope):Prop where
 kind:sc.kind=.function
 co:sc.isCoroutine=false
 gen:sc.isGenerator=false
 nd:N.Nodup
 pre:N.take ps.length=ps
 par:∀x∈ps,sc.names.lookup x=some .local
 nocell:∀y∈sc.names,y.2≠.cell
noncomputable def B9 (CX:VG)(P:xy)(w:World)(K:qf)(mg:Str->Option Value)(base:Heap)(N:List Str)(qual:Str)(scope:Scope)(f:Addr)(cd:Value)(cl:List (Str×Addr))(A:xz)(outer:List Env)(s:Shared)(H:Hp)(E:XK):Cx where
 prog:=P
 w:=w
 K:=K
 mg:=mg
 base:=base
 A:=A.deeper (zW qual scope s.heap.objs.size f cd cl)
 N:=N
 s₀:=s
 H₀:=H
 env:=zW qual scope s.heap.objs.size f cd cl
 outer:=outer
 stack:=zW qual scope s.heap.objs.size f cd cl::outer
 ex:=[]
 calm:=true
 fn:=λ_=>false
 pn:=[]
 xe:=λe s'=>xf (xw P w) (A.deeper (zW qual scope s.heap.objs.size f cd cl)) (leaving (zW qual scope s.heap.objs.size f cd cl) e) (λ_ s''=>CX outer H s E e s'') (λe' s''=>CX outer H s E e' s'') s'
structure CloAt (base:Heap)(cl:List (Str×Addr))(sc:Scope)(N ps:List Str)(cvs:List V):Prop where
 inj:∀x y c,cl.lookup x=some c->cl.lookup y=some c->x=y
 cell:∀x c,cl.lookup x=some c->∃v,base.IsCell c v
 has:∀x,sc.names.lookup x=some .free->∃c,cl.lookup x=some c
 cap:∀(i:Nat) (x:Str) (v:V),N[ps.length+i]?=some x->cvs[i]?=some v->sc.names.lookup x=some .free/\∃c u,cl.lookup x=some c/\base.IsCell c (some u)/\ZE v u
 len:N.length=ps.length+cvs.length
theorem Zbs {α:Type}:∀{l:List (Str×α)} {x:Str} {u:α},(l.map (·.1)).Nodup->(x,u)∈l->l.lookup x=some u
 | [],_,_,_,h=>by simp at h
 | (y,w)::l,x,u,nd,h=>by
  rw[qK,zh]at nd;rcases qy.mp h with e | hm
  ·simp_all
  ·have hne:(x==y)=false:=by
    simp;rintro rfl;exact nd.1 (yr (f:=(·.1)) hm)
   rw[qR,hne];exact Zbs nd.2 hm
theorem Zb7:∀(ps:List Str) (us:List Value),((ps.zip us).map (·.1)).Sublist ps
 | [],_=>by simp
 | _::_,[]=>by simp
 | p::ps,u::us=>by simpa using Zb7 ps us
theorem Zc0 {ps:List Str}{us:List Value}{i:Nat}(nd:ps.Nodup)(h1:ps[i]?=some x)(h2:us[i]?=some u):(ps.zip us).reverse.lookup x=some u:=by
 refine Zbs ?_ ?_
 ·rw[List.map_reverse]
  refine List.pairwise_reverse.mpr ?_;exact(nd.sublist (Zb7 _ _)).imp qN
 ·rw[List.mem_reverse]
  exact qP (yz.mpr ⟨h1,h2⟩)
theorem Zl9 {K:qf}
  (S:CloScope N ps scope) (C:CloAt base cl scope N ps cvs) (hd:A.handled=none) (e0:Env0 P w K mg base A outer s H) (hl:vs.length=ps.length) (r:Zy vs us)
  (hns:h'.Ns s.heap.objs.size (λx=>(ps.zip us).reverse.lookup x)) (hk:∀b o,s.heap.get? b=some o->h'.get? b=some o) :
  Inv (B9 CX P w K mg base N qual scope f cd cl A outer s H E) [] (vs.map some++cvs.map some) H { s with heap:=h',toks:=tk }:=by
 have noA:∀b:Addr,b∉(B9 CX P w K mg base N qual scope f cd cl A outer s H E).ex:=λb z=>absurd (show b∈([]:List Addr)from z) (by simp);have up:∀b o,base.get? b=some o->h'.get? b=some o:=λb o q=>hk b o (e0.bs b o q).1;have cellAt:∀x c,cl.lookup x=some c->∃v,base.IsCell c v:=C.cell;refine⟨⟨e0.mod,S.kind,rfl,rfl,qq _,λy z c h1 h2=>C.inj y z c h1 h2,λy hy=>?_,λy c z _=>(by cases z),λ_=>hd,qbp e0.frames,.inr ⟨rfl,rfl⟩,λb z=>absurd z (noA b),e0.bs,e0.bsz,λb _ _=>noA b,λb z=>absurd z (noA b),e0.funs,e0.frf⟩,
  rfl,e0.bare,Un.kept hk,⟨_,hns,λi y v h1 h2 h3=>?_⟩,λy c h=>?_,e0.hok.fresh (qq _),λy c h=>?_,λp hp=>absurd (show p∈([]:Qb)from hp) (by simp),e0.hok.kept hk,?_⟩
 ·have hy:scope.names.lookup y=some .cell∨scope.names.lookup y=some .free:=hy
  rcases hy with hy | hy
  ·exact absurd rfl (S.nocell _ (qW hy))
  ·exact C.has y hy
 ·have h1:N[i]?=some y:=h1
  by_cases hi:i<vs.length
  ·have ha:vs[i]?=some v:=by
    rw[qS (by simpa using hi),qE]at h2
    cases e:vs[i]? with
    | none=>rw[e]at h2;cases h2
    | some a=>rw[e]at h2;cases h2;rfl
   obtain⟨u,hu,rv⟩:=r.get ha;have hp:ps[i]?=some y:=by
    rw[<-S.pre,qaS (by omega)];exact h1
   have ndP:ps.Nodup:=by rw[<-S.pre];exact S.nd.sublist (yN _ _)
   exact⟨u,rv,.inl ⟨S.par y (qP hp),Zc0 ndP hp hu⟩⟩
  ·rw[zx (by simpa using hi),qE,qp]at h2
   have hc:cvs[i-vs.length]?=some v:=by
    cases e:cvs[i-vs.length]? with
    | none=>simp_all
    | some a=>rw[e]at h2;simp_all
   obtain⟨q1,c,u,q2,q3,q4⟩:=C.cap (i-vs.length) y v (by simp_all) hc;exact⟨u,q4,.inr ⟨.inr q1,c,q2,q3.keeps up⟩⟩
 ·obtain⟨v,q⟩:=C.cell y c h
  exact⟨v,q.keeps up⟩
 ·obtain⟨v,o,q,_⟩:=C.cell y c h
  exact(e0.bs c o q).2
 ·show _=N.length
  rw[C.len];simp[hl]
theorem Zma {K:qf}
  (S:CloScope N ps scope) (C:CloAt base cl scope N ps cvs) (len:∀vs H Q E,sp vs H Q E->vs.length=ps.length)
  (at_:∀vs H Q E,sp vs H Q E->H f=some (.ext (fnφ f (zK name qual params body scope cl pm (.ref c') ct)))/\H c'=some (.ext (codeφ c' qual)))
  (hbody:∀(A:xz) (outer:List Env) (s:Shared) (H:Hp) (vs:List V) (Q:VK) (E:XK),Room k (A.deeper (zW qual scope s.heap.objs.size f (.ref c') cl))->sp vs H Q E->
   ∃t,PE (B9 CX P w K mg base N qual scope f (.ref c') cl A outer s H E) body t/\t (vs.map some++cvs.map some) H Q) :
  FnOk P w K mg base CX (k+1) f (zK name qual params body scope cl pm (.ref c') ct) ps sp:=by
 refine⟨len,λA outer s H args us vs Q E hr e0 hb r hsp=>?_⟩;have hl:=len _ _ _ _ hsp;obtain⟨a1,a2⟩:=at_ _ _ _ _ hsp;obtain⟨oc,od,sl,ho⟩:=fnφ_at e0.hok a1;have lim:=e0.mod.nolimit.keeps λb o e=>(e0.bs b o e).1;have hkind:∀y∈ps.zip us,scope.names.lookup y.1=some .local:=λ⟨n,v⟩ hy=>S.par n (qac hy).1;refine PySem.W.kla_callFunE hr.depth ho rfl S.co S.gen rfl (codeφ_at e0.hok a2) (hb _ _ _ _ ?_);refine wpAny_newFunctionEnv S.nocell hkind (λh' hns hsb=>?_) S.kind;have hk:=λb o e=>hsb.extBut b o (qG (qt e)) (qj _ e);refine⟨lim.keeps hk,?_⟩;obtain⟨t,ht,hq⟩:=hbody A outer s H vs Q E (hr.deeper _) hsp;refine PySem.W.kla_codeExpr (xc (ht [] _ _ H Q (Zl9 S C hr.hd e0 hl r hns hk) hq) (λu s' hs=>?_) λe s' hs=>hs);obtain⟨v,H',J,rv,q⟩:=hs;exact⟨v,H',J.os,J.bare,J.base,J.hok,rv,q⟩
structure Mk0 (X:Cx)(c P:Addr):Prop where
 code:X.env.code=.ref c
 hd:zL X.base c P
 bm:∃bm o,X.mg "__builtins__" = some (.ref bm)/\bm≠builtinsNs/\bm≠mainGlobals/\X.base.get? bm=some o/\o.cls=.type "module"/\o.dict=some builtinsNs/\o.data=.plain
noncomputable def Slot (P:Addr)(q:Str)(lpos:Pos)(ps:Array Value)(H Hm:Hp)(c':Addr):Prop:=
 (Hm=H/\codeAmong lpos ps.toList=some (.ref c')/\H c'=some (.ext (codeφ c' q)))∨(codeAmong lpos ps.toList=none/\H c'=none/\c'≠P/\Hm=upd (upd H P (.tbl (ps ++ #[rawInt lpos.line,rawInt lpos.col,.ref c']))) c' (.ext (codeφ c' q)))
noncomputable def ZoC (P:Addr)(q:Str)(lpos:Pos)(isFd:xx->Addr->Prop)(H:Hp)(R:Addr->Addr->xx->Hp->Prop):Prop:=
 ∃ps,H P=some (.tbl ps)/\TriplesOk ps.toList/\(∀cv,codeAmong lpos ps.toList=some cv->∃c',cv=.ref c'/\H c'=some (.ext (codeφ c' q)))/\
  ∀p c' fd Hm,isFd fd c'->Slot P q lpos ps H Hm c'->Hm p=none->R p c' fd (upd Hm p (.ext (fnφ p fd)))
section
variable {X:Cx}{jJ:Qb}{σ:St}{H:Hp}{s:Shared}{c P:Addr}{ps:Array Value}
theorem Mk0.bat (M:Mk0 X c P)(I:Inv X jJ σ H s)(hP:H P=some (.tbl ps)):s.heap.BuiltinsAt X.mg P:=by
 obtain⟨bm,o,e1,e2,e3,e4,e5⟩:=M.bm;refine⟨bm,o,e1,e2,e3,λz=>?_,I.bk _ _ e4,e5⟩;have:=(I.bs _ _ e4).2
 grind
theorem gne (I:Inv X jJ σ H s)(hP:H P=some (.tbl ps)):mainGlobals≠P:=λz=>by
 obtain⟨o,es,ep,e,_⟩:=I.mod.glob;have:=(I.bs _ _ e).2
 grind
theorem ZgL (h1:φ h)(h2:∃o,h.get? a=some o)(h3:∀h1 h2:Heap,φ h1->(∀o,h1.get? a=some o->h2.get? a=some o)->φ h2):Ym P0 w H' h a (.ext φ):=⟨h1,h2,h3⟩
theorem fnφ_keep:∀h1 h2:Heap,fnφ p fd h1->(∀o,h1.get? p=some o->h2.get? p=some o)->fnφ p fd h2:=λh1 h2 ⟨oc,od,sl,e⟩ k=>⟨oc,od,sl,k _ e⟩
theorem codeφ_keep:∀h1 h2:Heap,codeφ p q h1->(∀o,h1.get? p=some o->h2.get? p=some o)->codeφ p q h2:=λh1 h2 ⟨a,o,vs,t,e,e1,r⟩ k=>by
 cases e
 exact⟨p,o,vs,t,rfl,k _ e1,r⟩
theorem codeφ_there (x:codeφ p q h):∃o,h.get? p=some o:=by
 obtain⟨a,o,vs,t,e,e1,r⟩:=x;simp_all
theorem Zmb {c':Addr}(I:Inv X jJ σ H s)(hP:H P=some (.tbl ps))(hx:Heap.ExtBut P s.heap h')(hge:s.heap.objs.size<=c')(hc:h'.CodeRec (.ref c') q)(ht:h'.get? P=some (qat (ps++more))) :
  Inv X jJ σ (upd (upd H P (.tbl (ps++more))) c' (.ext (codeφ c' q))) { s with heap:=h',toks:=tk }/\H c'=none/\c'≠P:=by
 have hc0:H c'=none:=I.hok.fresh hge;have hcP:c'≠P:=λz=>by rw[z,hP]at hc0;cases hc0
 have old:∀{b:Addr} {u:HO},H b=some u->b≠c':=λe z=>by rw[z,hc0]at e;cases e
 have get:∀{b:Addr} {u:HO},H b=some u->b≠P->upd (upd H P (.tbl (ps++more))) c' (.ext (codeφ c' q)) b=some u:=λ{b u} e n=>by rw[Zj (old e),Zj n];exact e
 refine⟨I.call (g':=s.gens) (d':=s.drawn) (ch:=[]) ?_ ?_ I.bare (λb hb=>absurd hb (by simp)),hc0,hcP⟩
 ·refine⟨λb o e n _ _=>hx b o (λz=>by rw[z,hP]at n;cases n) e,λb o e n _ _=>⟨o.slots,hx b o (λz=>by rw[z,hP]at n;cases n) e⟩,λb o e n _=>?_,λb o e _=>?_,λb xs e=>get e (λz=>by rw[z,hP]at e;cases e),λb o u e=>get e (λz=>by rw[z,hP]at e;cases e),λb ps' e=>?_⟩
  ·rw[Zj (qG (qB (qt e) hge)),Zj (λz=>by rw[z,hP]at n;cases n)];exact n
  ·by_cases hb:b=P
   ·exact⟨_,hb▸ht⟩
   ·exact⟨o,hx b o hb e⟩
  ·by_cases hb:b=P
   ·subst hb
    rw[hP]at e;cases e;exact⟨more,by rw[Zj (old hP),ZG]⟩
   ·exact⟨#[],by rw[get e hb];simp⟩
 ·intro a o e
  by_cases ha:a=c'
  ·subst ha
   rw[ZG]at e;cases e;exact ZgL hc (codeφ_there hc) codeφ_keep
  ·rw[Zj ha]at e
   by_cases hb:a=P
   ·subst hb
    rw[ZG]at e;cases e;exact ht
   ·rw[Zj hb]at e
    refine(I.hok a o e).stay (λb u hb' r=>hx b u ?_ r) (λb r=>get r (λz=>by grind)) λb xs r=>get r (λz=>by grind)
    grind
structure CloOf (X:Cx)(scope:Scope)(cl:List (Str×Addr)):Prop where
 of:∀x c,cl.lookup x=some c->X.env.cells.lookup x=some c
 has:∀y∈scope.names,y.2=.free->∃c,cl.lookup y.1=some c
theorem Zmc (ok:X.Ok)(hfree:∀y∈scope.names,y.2=.free->X.env.kindOf y.1=some .cell∨X.env.kindOf y.1=some .free):∃cl,closureFor scope X.env=pure cl/\CloOf X scope cl:=by
 obtain⟨cl,q1,q2,q3,q4⟩:=Zao scope.names [] (λy hy hf=>ok.has y.1 (hfree y hy hf)) (λx c h=>by simp at h);refine⟨cl,?_,q2,q4⟩;unfold closureFor;simp_all
theorem ZnJ (M:Mk0 X c P)(hq:X.env.qual ++ "<lambda>" = q)(hfree:∀y∈scope.names,y.2=.free->X.env.kindOf y.1=some .cell∨X.env.kindOf y.1=some .free)(hdef:defaultsOf params X.env=([],[]):=by rfl) :
  PE X (.Lambda params body scope lpos) (fun σ H Q=>ZoC P q lpos (λfd c'=>∃cl pm ctv,CloOf X scope cl/\fd=zK "<lambda>" q params body scope cl pm (.ref c') ctv) H λp _ _ H'=>Q (.ref p) H'):=by
 intro jJ s σ H Q I ⟨ps,hP,ht,hhit,h⟩;obtain⟨cl,hcl,co⟩:=Zmc I.ok hfree;have hP':=I.hok P _ hP;have hg:=I.mod.glob.keeps I.bk;have hb:=M.bat I hP;refine PySem.W.kla_eval hdef ?_;rw[hq]
 cases hc:codeAmong lpos ps.toList with
 | some cv=>
  obtain⟨c',rfl,hc'⟩:=hhit cv hc;refine PySem.W.kla_makeFunctionHit hcl I.ok.glob hg M.code (M.hd.keeps I.bk) hP' ht hc hb λctv h' tk hk hsz=>?_;refine⟨.ref h'.objs.size,upd H h'.objs.size (.ext (fnφ _ _)),I.laid (λb u e=>qj _ (hk b u e)) hsz (ZgL ⟨_,_,_,qw _ rfl⟩ ⟨_,qw _ rfl⟩ fnφ_keep),rfl,h _ c' _ H ⟨cl,_,_,co,rfl⟩ (.inl ⟨rfl,hc,hc'⟩) (I.hok.fresh hsz)⟩
 | none=>
  refine PySem.W.kla_makeFunction hcl I.ok.glob hg M.code (M.hd.keeps I.bk) hP' ht hc (gne I hP) hb λc' ctv h' tk hx hge hlt hrec htb=>?_;obtain⟨I1,hc0,hcP⟩:=Zmb (tk:=tk) I hP hx hge hrec htb;refine⟨.ref h'.objs.size,upd _ h'.objs.size (.ext (fnφ _ _)),I1.laid (λb u e=>qj _ e) (qq _) (ZgL ⟨_,_,_,qw _ rfl⟩ ⟨_,qw _ rfl⟩ fnφ_keep),rfl,h _ c' _ _ ⟨cl,_,_,co,rfl⟩ (.inr ⟨hc,hc0,hcP,rfl⟩) (I1.hok.fresh (qq _))⟩
end
structure Cells (X:Cx)(σ:St)(base':Heap):Prop where
 inj:∀x y c,X.env.cells.lookup x=some c->X.env.cells.lookup y=some c->x=y
 cell:∀x c,X.env.cells.lookup x=some c->∃v,base'.IsCell c v
 has:∀x,(X.env.kindOf x=some .cell∨X.env.kindOf x=some .free)->∃c,X.env.cells.lookup x=some c
 val:∀(i:Nat) (x:Str) (v:V),X.N[i]?=some x->σ[i]?=some (some v)->X.env.kindOf x=some .cell->∃c u,X.env.cells.lookup x=some c/\base'.IsCell c (some u)/\ZE v u
section
variable {X:Cx}{jJ:Qb}{σ:St}{H:Hp}{s:Shared}
noncomputable def BL (X:Cx):List Addr:=X.env.cells.filterMap λp=>X.env.cells.lookup p.1
theorem ZiG (e:X.env.cells.lookup x=some c):c∈BL X:=yc.mpr ⟨(x,c),qW e,e⟩
theorem Zff (h:c∈BL X):∃x,X.env.cells.lookup x=some c:=by
 obtain⟨p,_,e⟩:=yc.mp h;exact⟨p.1,e⟩
theorem ZiH (I:Inv X jJ σ H s)(hfn:∀x,X.fn x=true):Env0 X.prog X.w X.K X.mg (Vg s.heap X.base (BL X)) X.A X.stack s H/\Cells X σ (Vg s.heap X.base (BL X)):=by
 have cellK:∀x c v,X.env.cells.lookup x=some c->s.heap.IsCell c v->(Vg s.heap X.base (BL X)).IsCell c v:=λx c v e ⟨o,ho,hd⟩=>⟨o,Zfe ho (.inr (ZiG e)),hd⟩;refine⟨jC I.env0 (λb hb=>?_) λb hb hf=>?_,⟨I.ok.inj,λx c e=>?_,I.ok.has,λi x v h1 h2 h3=>?_⟩⟩
 ·obtain⟨x,e⟩:=Zff hb
  exact I.freeC x b e
 ·obtain⟨x,e⟩:=Zff hb
  rcases qy.mp (I.stkSub b hf)with z | z
  ·exact I.cne x b e z
  ·obtain⟨_,o,ho,_⟩:=I.ok.funs.mem z
   exact absurd (qB (qt ho) (I.ok.cab x b (hfn x) e)) (zQ _)
 ·obtain⟨v,q⟩:=I.cell x c e
  exact⟨v,cellK x c v e q⟩
 ·obtain⟨m,_,hl⟩:=I.loc
  obtain⟨u,r,l⟩:=hl i x v h1 h2 (.inr (.inl h3));rcases l with⟨hk,_⟩ | ⟨_,c,hc,hcell⟩
  ·grind
  ·exact⟨c,u,hc,cellK x c _ hc hcell,r⟩
theorem Zkg {p pos:Pos}{sp:Heap->Sp}(F:∀base,FnOk X.prog X.w X.K X.mg base ZH k f fd ps (sp base))(hfn:∀x,X.fn x=true)(hr:Room k X.A)(hg:Gl X x)(hm:X.mg x=some (.ref f))(hk:qY X.K (.ref f)=true)(hb:YC X.K fd ps [])
  (ha:PA X (e::es) t) (hdb:(x==("__debug__" : Str))=false:=by decide) (he:xh (e::es) X.env=(false,eval e X.env)::xh es X.env:=by rfl) (hpl:(backTo pos (xh es X.env)).any (·.1)=false:=by rfl) :
  PE X (.Call (.Name x p) (e::es) [] pos) (fun σ H Q=>t σ H λvs H1=>∀base',Cells X σ base'->sp base' vs H1 Q E0):=by
 intro jJ s σ H Q I h;refine wpAny_Call_Name_kw (U0 I hg hm ?_ hdb);refine zN I.ok.mod.kin hk (ZD (ha pos jJ s σ H _ I h) λus s1 ⟨vs,H1,I1,r,q⟩=>⟨I1.kIn,?_⟩) he hpl;obtain⟨e0,cs⟩:=ZiH I1 hfn;have q':=q _ cs;have hl:(us ++ []).length=ps.length:=by rw[zg,<-r.length];exact(F _).len _ _ _ _ q'
 refine xu (codeAny_mono ((F _).run X.A X.stack s1 H1 ⟨us,[]⟩ us vs Q E0 hr e0 (by have:=hb s1 us I1.kIn hl;simp_all) r q') λr s' hq=>?_)
 cases r with
 | error e=>exact hq.elim
 | ok fl=>
  cases fl with
  | ret u=>exact I1.after hq
  | next=>exact qM hq
  | brk=>exact qM hq
  | cont=>exact qM hq
theorem Zkh {pos:Pos}(hf:PE X (.Name x p) (ZR i))(hr:Room k X.A)(ha:PA X (e::es) t)
  (he:xh (e::es) X.env=(false,eval e X.env)::xh es X.env:=by rfl) (hpl:(backTo pos (xh es X.env)).any (·.1)=false:=by rfl) :
  PE X (.Call (.Name x p) (e::es) [] pos) (fun σ H Q=>∃f fd ps sp,σ[i]?=some (some (.ref f))/\YC X.K fd ps []/\FnOk X.prog X.w X.K X.mg X.base ZH k f fd ps sp/\(∀h:Heap,Yf X.prog X.w H h->X.K.In h->fnφ f fd h)/\
   t σ H λvs H1=>(∀h:Heap,Yf X.prog X.w H1 h->X.K.In h->fnφ f fd h)/\sp vs H1 Q E0):=by
 intro jJ s σ H Q I ⟨f,fd,ps,sp,e,hb,F,h0,h⟩;refine wpAny_Call_Name_kw (ZD (hf jJ s σ H (λv H'=>v=.ref f/\H'=H) I ⟨_,e,rfl,rfl⟩) λu s1 ⟨v,H1,I1,rv,ev,eH⟩=>?_);subst ev eH
 cases (show u=qm f from rv)
 have at1:∀{jJ σ H s},Inv X jJ σ H s->(∀h,Yf X.prog X.w H h->X.K.In h->fnφ f fd h)->PySem.W.FnAt f s.heap:=λI z=>by
  obtain⟨oc,od,sl,q⟩:=z _ I.hok I.kIn;exact⟨oc,od,fd,sl,q⟩
 refine PySem.W.callWith_F (at1 I1 h0) (ZD (ha pos jJ s1 σ _ _ I1 h) λus s2 ⟨vs,H2,I2,r,h2,q⟩=>⟨at1 I2 h2,?_⟩) he hpl;exact Zeg F hr hb .nil BI I2 r (by simp_all)
end
mutual
noncomputable def ZW:D->Bool
 | .tup ds=>YT ds
 | .lst ds=>YT ds
 | .clo _ _=>false
 | _=>true
noncomputable def YT:List D->Bool
 | []=>true
 | d::ds=>ZW d&&YT ds
end
mutual
theorem Zl.re {G G':Gh}{H:Hp}(hf:G'.fp=G.fp)(hp:G'.pen=G.pen):∀{d:D} {v:V},ZW d=true->Zl G H d v->Zl G' H d v
 | .non,_,_,h=>jh.mpr (jh.mp h)
 | .bl _,_,_,h=>jd.mpr (jd.mp h)
 | .int _,_,_,h=>ja.mpr (ja.mp h)
 | .str _,_,_,h=>jg.mpr (jg.mp h)
 | .tup ds,v,n,h=>by
  obtain⟨a,vs,e1,nf,e2,r⟩:=jb.mp h;exact jb.mpr ⟨a,vs,e1,by rw[hf];exact nf,e2,Zi.re hf hp (by simpa[ZW]using n) r⟩
 | .lst ds,v,n,h=>by
  obtain⟨a,vs,e1,nf,e2,r⟩:=jc.mp h;exact jc.mpr ⟨a,vs,e1,by rw[hf];exact nf,e2,Zi.re hf hp (by simpa[ZW]using n) r⟩
 | .dk _,_,_,h=>by
  obtain⟨a,e1,nf,e2⟩:=jk.mp h;exact jk.mpr ⟨a,e1,by rw[hf];exact nf,e2⟩
 | .dt _,_,_,h=>by
  obtain⟨a,o,e1,nf,e2⟩:=jm.mp h;exact jm.mpr ⟨a,o,e1,by rw[hf];exact nf,e2⟩
 | .du _,_,_,h=>by
  obtain⟨a,e1,nf,e2⟩:=jn.mp h;exact jn.mpr ⟨a,e1,by rw[hf];exact nf,e2⟩
 | .df _,_,_,h=>by
  obtain⟨a,o,e1,nf,e2⟩:=js.mp h;exact js.mpr ⟨a,o,e1,by rw[hf];exact nf,e2⟩
 | .pen,_,_,h=>jo.mpr ((jo.mp h).trans hp.symm)
 | .ty _,_,_,h=>jq.mpr (jq.mp h)
 | .clo _ _,_,n,_=>by simp[ZW]at n
theorem Zi.re {G G':Gh}{H:Hp}(hf:G'.fp=G.fp)(hp:G'.pen=G.pen):∀{ds:List D} {vs:List V},YT ds=true->Zi G H ds vs->Zi G' H ds vs
 | [],_,_,h=>Zi.nil_iff.mpr (Zi.nil_iff.mp h)
 | d::ds,vs,n,h=>by
  obtain⟨v,r,e,h1,h2⟩:=je.mp h;have n':ZW d=true/\YT ds=true:=by simpa[YT]using n
  exact je.mpr ⟨v,r,e,Zl.re hf hp n'.1 h1,Zi.re hf hp n'.2 h2⟩
end
theorem Gr.re (hf:G'.fp=G.fp)(g:Gr G Hf H Hf' H'):Gr G' Hf H Hf' H':=
 ⟨λb o n=>g.hh b o (by simp_all),λb o n=>g.ff b o (by simp_all),λb o n=>g.fh b o (by simp_all),λb n=>g.nw b (by simp_all)⟩
theorem Zz.re (hf:G'.fp=G.fp)(g:Zz G H H'):Zz G' H H':=λb o n=>g b o (by simp_all)
theorem Z3.re (hf:G'.fp=G.fp)(hp:G'.pen=G.pen)(n:ZW d=true)(h:Z3 G H Hf' d v):Z3 G' H Hf' d v:=λa e m=>by
 obtain⟨h1,h2⟩:=h a e m;refine⟨h1,λds ed=>?_⟩;obtain⟨vs,Hm,q1,q2,q3,q4⟩:=h2 ds ed;subst ed;exact⟨vs,Hm,q1,q2,q3.re hf,q4.re hf hp (by simpa[ZW]using n)⟩
noncomputable def spK (n:Nat)(G:Gh)(cvs:List V)(F:List D->M D):Sp:=λus H Q _=>∃(Hf:Hp) (ds cds:List D) (s:Pn) (d:D) (s':Pn),us.length=n/\Zz G Hf H/\Zi G Hf ds us/\Zi G Hf cds cvs/\G.st s H/\F (ds++cds) s=some (d,s')/\
 ∀v Hf' H',Gr G Hf H Hf' H'->G.st s' H'->Zl G Hf' d v->Q v H'
noncomputable def JW (P:xy)(w:World)(K:qf)(mg:Str->Option Value)(k n:Nat)(T:Nat->List D->M D)(base:Heap)(G:Gh):Prop:=
 ∀t v cvs,G.clo t v cvs->∃f fd ps,v=.ref f/\ps.length=n/\YC K fd ps []/\(∀s H,G.st s H->∀h:Heap,Yf P w H h->K.In h->fnφ f fd h)/\FnOk P w K mg base ZH k f fd ps (spK n G cvs (T t))
noncomputable def BV (T:Nat->List D->M D)(i:Nat)(fs:Zc->M (List D)):Zc->M D:=fun ρ=>Zk (Za i ρ) λc=>Zk (fs ρ) λds=>match c with | .clo t cds=>T t (ds++cds) | _=>ZK
theorem ZiI (h:Za i ρ s=some (d,s')):ρ[i]?=some (some d)/\s'=s:=by
 obtain⟨e,rfl⟩:=Y5 h
 cases q:ρ[i]? with
 | none=>simp_all
 | some o=>simp_all
section
variable {X:Cx}{G:Gh}
theorem Zki {pos:Pos}(hG:JW X.prog X.w X.K X.mg k n T X.base G)(hr:Room k X.A)(hf:PE X (.Name x p) (ZR i))(ha:Xw X G (e::es) fs)
  (hal:∀ρ s ds s',fs ρ s=some (ds,s')->ds.length=(e::es).length) (jR:(e::es).length=n:=by rfl)
  (he:xh (e::es) X.env=(false,eval e X.env)::xh es X.env:=by rfl) (hpl:(backTo pos (xh es X.env)).any (·.1)=false:=by rfl) :
  PD X G false (.Call (.Name x p) (e::es) [] pos) (BV T i fs):=by
 obtain⟨t,pa,qa⟩:=ha;refine⟨_,Zkh hf hr pa he hpl,fun σ Hf H ρ s d s' Q e1 e2 e3 e4 k=>?_⟩;obtain⟨c,s0,b0,b1⟩:=Zv e4;obtain⟨a0,rfl⟩:=ZiI b0;obtain⟨ds,s1,a1,a2⟩:=Zv b1
 cases c with
 | clo t cds=>
  obtain⟨v,hσ,r⟩:=e2 i _ a0;obtain⟨cvs,hc,rc⟩:=jv.mp r;obtain⟨f,fd,ps,rfl,hl,hb,hat,F⟩:=hG t v cvs hc;refine⟨f,fd,ps,_,hσ,hb,F,hat _ H e3,qa σ Hf H ρ _ ds s1 _ e1 e2 e3 a1 λvs jW H1 g1 j9 r1=>⟨hat _ H1 j9,jW,ds,cds,s1,d,s',?_,g1.fh,r1,rc.ext g1.ff,j9,a2,λv jZ H2 g2 j6 r2=>k v jZ H2 (g1.trans g2) j6 r2 (λz=>by cases z)⟩⟩;rw[<-r1.length,hal _ _ _ _ a1];exact jR
 | _=>cases a2
end
noncomputable def Ue (n:Nat)(f:Zc->M D):List D->M D:=λds=>if ds.length=n then f (ds.map some)else ZK
theorem Zmd (r:Zi G Hf ds vs):Yh G Hf (vs.map some) (ds.map some):=λi d e=>by
 cases q:ds[i]? with
 | none=>simp_all
 | some d'=>
  obtain⟨v,h1,h2⟩:=r.get q;simp_all
theorem fnKE {K:qf}
  (S:CloScope N ps scope) (C:CloAt base cl scope N ps cvs) (hG:∀s H,G.st s H->H f=some (.ext (fnφ f (zK name qual params body scope cl pm (.ref c') ct)))/\H c'=some (.ext (codeφ c' qual)))
  (hb:∀(A:xz) (outer:List Env) (s:Shared) (H:Hp) (E:XK),Room k (A.deeper (zW qual scope s.heap.objs.size f (.ref c') cl))->PD (B9 ZH P w K mg base N qual scope f (.ref c') cl A outer s H E).nox G fr body fe) :
  FnOk P w K mg base ZH (k+1) f (zK name qual params body scope cl pm (.ref c') ct) ps (spK ps.length G cvs (Ue N.length fe)):=by
 refine Zma S C (λvs H Q E ⟨_,_,_,_,_,_,h,_⟩=>h) (λvs H Q E ⟨_,_,_,s,_,_,_,_,_,_,st,_⟩=>hG s H st) λA outer s H vs Q E hr h=>?_;obtain⟨Hf,ds,cds,pn,d,pn',el,e1,r1,r2,st,eF,k'⟩:=h;obtain⟨t,p,q⟩:=hb A outer s H E hr;refine⟨t,p.nox,?_⟩;obtain⟨hl,a0⟩:=Xy eF;have env:=Zmd (r1.append r2);rw[qQ]at env;exact q _ Hf H _ pn d pn' Q e1 env st a0 λv Hf' H' g st' r _=>k' v Hf' H' g st' r
structure TabG (P:Addr)(q:Str)(G:Gh):Prop where
 get:∀s H,G.st s H->∃ps,H P=some (.tbl ps)/\TriplesOk ps.toList/\∀pos cv,codeAmong pos ps.toList=some cv->∃c',cv=.ref c'/\H c'=some (.ext (codeφ c' q))/\¬G.fp c'
 fp:G.fp P
 put:∀s H ps (pos:Pos) c',G.st s H->H P=some (.tbl ps)->H c'=none->codeAmong pos ps.toList=none->G.st s (upd (upd H P (.tbl (ps ++ #[rawInt pos.line,rawInt pos.col,.ref c']))) c' (.ext (codeφ c' q)))
noncomputable def WC (G:Gh)(t:Nat)(p c':Addr)(fd:xx)(q:Str)(cvs:List V):Gh where
 fp:=G.fp
 rd:=G.rd
 pen:=G.pen
 st:=λs H=>G.st s H/\H p=some (.ext (fnφ p fd))/\H c'=some (.ext (codeφ c' q))
 mono:=λs H H' ⟨h1,h2,h3⟩ k1 k2 k3=>⟨G.mono s H H' h1 k1 k2 k3,k2 _ _ h2,k2 _ _ h3⟩
 sub:=G.sub
 dom:=λs H b h=>G.dom s H b h.1
 ntp:=λs H b vs h=>G.ntp s H b vs h.1
 clo:=λt' v cs=>t'=t/\v=.ref p/\cs=cvs
noncomputable def JX (P:xy)(w:World)(K:qf)(mg:Str->Option Value)(k:Nat)(x:Str)(n:Nat)(fr:Bool)(GG:Heap->Gh->Prop)(F:List D->M D):Prop:=
 ∃f fd ps,(∀base,FnOk P w K mg base ZH k f fd ps (Z1 n fr (GG base) F))/\mg x=some (.ref f)/\qY K (.ref f)=true/\YC K fd ps []
theorem JX.mono {K:qf}(c:JX P w K mg j x n fr GG F)(h:j<=k:=by decide):JX P w K mg k x n fr GG F:=
 let ⟨f,fd,ps,a,b,c,d⟩:=c
 ⟨f,fd,ps,λbase=>(a base).mono h,b,c,d⟩
structure CapS (X:Cx)(XN:List Str)(NS:List (Str×NameKind))(N ps:List Str)(cix:List Nat)(scope:Scope):Prop where
 xn:X.N=XN
 ns:X.env.scope.names=NS
 len:N.length=ps.length+cix.length
 at_:(cix.zip (N.drop ps.length)).all (λp=>decide (XN[p.1]?=some p.2)&&decide (NS.lookup p.2=some .cell)&&decide (scope.names.lookup p.2=some .free))=true
 free:∀y∈scope.names,y.2=.free->NS.lookup y.1=some .cell∨NS.lookup y.1=some .free
theorem CapS.hfree (B:CapS X XN NS N ps cix scope):∀y∈scope.names,y.2=.free->X.env.kindOf y.1=some .cell∨X.env.kindOf y.1=some .free:=λy hy hf=>by
 have:=B.free y hy hf;rw[<-B.ns]at this;exact this
theorem CapS.cloAt (B:CapS X XN NS N ps cix scope)(cs:Cells X σ base')(co:CloOf X scope cl)(hl:cvs.length=cix.length)
  (hv:∀(i j:Nat) (v:V),cix[i]?=some j->cvs[i]?=some v->σ[j]?=some (some v)):CloAt base' cl scope N ps cvs:=by
 refine⟨λx y c h1 h2=>cs.inj x y c (co.of x c h1) (co.of y c h2),λx c h=>cs.cell x c (co.of x c h),λx h=>co.has (x,.free) (qW h) rfl,λi x v h1 h2=>?_,by rw[B.len,hl]⟩;have hi:i<cix.length:=by rw[<-hl];exact(qx.mp h2).1
 have hj:=zE hi;have hx:(N.drop ps.length)[i]?=some x:=by simp_all
 have q:=zy.mp B.at_ (cix[i],x) (qP (yz.mpr ⟨hj,hx⟩));simp at q;obtain⟨⟨q1,q2⟩,q3⟩:=q;refine⟨q3,?_⟩;obtain⟨c,u,e1,e2,e3⟩:=cs.val cix[i] x v (by rw[B.xn];exact q1) (hv i _ v hj h2) (by show X.env.scope.names.lookup x=_;rw[B.ns];exact q2);obtain⟨c2,e4⟩:=co.has (x,.free) (qW q3) rfl;have e5:=co.of x c2 e4;rw[e1]at e5;cases e5;exact⟨c,u,e4,e2,e3⟩
noncomputable def JS (ρ:Zc):List Nat->Option (List D)
 | []=>some []
 | i::r=>((ρ[i]?).bind id).bind λd=>(JS ρ r).map (d :: ·)
theorem Zfg (e:Yh G Hf σ ρ):∀{cix:List Nat} {cds:List D},JS ρ cix=some cds->∃cvs,cvs.length=cix.length/\Zi G Hf cds cvs/\∀(i j:Nat) (v:V),cix[i]?=some j->cvs[i]?=some v->σ[j]?=some (some v)
 | [],cds,h=>by cases h;exact⟨[],rfl,Zi.nil_iff.mpr rfl,λi j v h1=>by simp at h1⟩
 | a::r,cds,h=>by
  unfold JS at h
  cases q:(ρ[a]?).bind id with
  | none=>simp_all
  | some d=>
   rw[q]at h
   cases q2:JS ρ r with
   | none=>simp_all
   | some ds=>
    rw[q2]at h;cases h;obtain⟨v,h1,h2⟩:=e a d (by
     cases q3:ρ[a]? with
     | none=>simp_all
     | some o=>simp_all)
    obtain⟨cvs,l1,l2,l3⟩:=Zfg e q2;refine⟨v::cvs,by simp[l1],Zi.cons h2 l2,λi j u e1 e2=>?_⟩
    cases i with
    | zero=>simp at e1 e2;subst e1;subst e2;exact h1
    | succ i=>exact l3 i j u (by simpa using e1) (by simpa using e2)
noncomputable def dFnC (F:List D->M D)(t:Nat)(cix:List Nat)(f:Zc->M D):Zc->M D:=fun ρ=>Zk (f ρ) λd=>Zk (Yy (JS ρ cix)) λcds=>if (ZW d&&YT cds)=true then Zk (F [d,.clo t cds]) λc=>if ZW c=true then ZL c else ZK else ZK
section
variable {X:Cx}{G:Gh}{P c:Addr}{q:Str}
theorem Zme (TG:TabG P q G)(st:G.st s H)(hP:H P=some (.tbl ps))(sl:Slot P q lpos ps H Hm c'):G.st s Hm/\Hm c'=some (.ext (codeφ c' q))/\Zz G H Hm:=by
 rcases sl with⟨rfl,h1,h2⟩ | ⟨h1,h2,h3,rfl⟩
 ·exact⟨st,h2,.refl _ _⟩
 ·refine⟨TG.put s H ps lpos c' st hP h2 h1,ZG,λb o n e=>?_⟩
  rw[Zj (ZY e h2),Zj (λz=>n (by rw[z];exact TG.fp))];exact e
theorem Zmf (e1:Zz G Hf H)(ex:Zz G H Hm)(hp:Hm p=none):Gr G Hf H Hf (upd Hm p o):=by
 have hh:Zz G H (upd Hm p o):=λb u n e=>by
  have:=ex b u n e;rw[Zj (ZY this hp)];exact this
 exact⟨hh,.refl _ _,e1.trans hh,λ_ _ h _=>h⟩
theorem ZnK (hb:YC X.K fd ps [])(hF:FnOk X.prog X.w X.K X.mg base' ZH k p fd ps (spK ps.length (WC G t p c' fd q cvs) cvs F))(hT:T t=F) :
  JW X.prog X.w X.K X.mg k ps.length T base' (WC G t p c' fd q cvs):=by
 rintro t' v cs ⟨rfl,rfl,rfl⟩;exact⟨p,fd,ps,rfl,rfl,hb,λs H st h ok _=>fnφ_at ok st.2.1,by simp_all⟩
variable {k kl:Nat}{x:Str}{fr frb:Bool}{F:List D->M D}{T:Nat->List D->M D}{t:Nat}{e1:Expr}{f1:Zc->M D}{r1:Bool}{params:Arguments}{scope:Scope}{lpos ppos pos:Pos}{XN N ps:List Str}{NS:List (Str×NameKind)}{cix:List Nat}
theorem ofC (n:ZW d=true)(r:Zl (WC G t p c' fd q cvs) H d v):Zl G H d v:=Zl.re (G:=WC G t p c' fd q cvs) (G':=G) rfl rfl n r
theorem toC (n:ZW d=true)(r:Zl G H d v):Zl (WC G t p c' fd q cvs) H d v:=Zl.re (G:=G) (G':=WC G t p c' fd q cvs) rfl rfl n r
theorem toCL (n:YT d=true)(r:Zi G H d v):Zi (WC G t p c' fd q cvs) H d v:=Zi.re (G:=G) (G':=WC G t p c' fd q cvs) rfl rfl n r
theorem grC (g:Gr (WC G t p c' fd q cvs) Hf H Hf' H'):Gr G Hf H Hf' H':=Gr.re (G:=WC G t p c' fd q cvs) rfl g
theorem frC (n:ZW d=true)(h:Z3 (WC G t p c' fd q cvs) H Hf' d v):Z3 G H Hf' d v:=Z3.re (G:=WC G t p c' fd q cvs) rfl rfl n h
theorem ZgM (M:Mk0 X c P)(TG:TabG P q G)(hW:JX X.prog X.w X.K X.mg k x 2 fr (JW X.prog X.w X.K X.mg (kl+1) ps.length T) F)(hfn:∀x,X.fn x=true)(hr:Room k X.A)(hg:Gl X x)(h1:PD X G r1 e1 f1)
  (hq:X.env.qual ++ "<lambda>" = q) (S:CloScope N ps scope) (B:CapS X XN NS N ps cix scope) (hT:T t=Ue N.length fe)
  (hbind:∀(cl:List (Str×Addr)) (pm cd ct:Value) (us:List Value),us.length=ps.length->bindArgs (zK "<lambda>" q params body scope cl pm cd ct) ⟨us,[]⟩=pure (ps.zip us))
  (hb:∀(base:Heap) (f c':Addr) (cl:List (Str×Addr)) (G:Gh) (A:xz) (outer:List Env) (s:Shared) (H:Hp) (E:XK),Room kl (A.deeper (zW q scope s.heap.objs.size f (.ref c') cl))->PD (B9 ZH X.prog X.w X.K X.mg base N q scope f (.ref c') cl A outer s H E).nox G frb body fe)
  (hdef:defaultsOf params X.env=([],[]):=by rfl) (hdb:(x==("__debug__" : Str))=false:=by decide)
  (he:xh [e1,.Lambda params body scope lpos] X.env=(false,eval e1 X.env)::xh [.Lambda params body scope lpos] X.env:=by rfl) (he2:xh [Expr.Lambda params body scope lpos] X.env=(false,eval (.Lambda params body scope lpos) X.env)::xh [] X.env:=by rfl)
  (hpl:(backTo pos (xh [Expr.Lambda params body scope lpos] X.env)).any (·.1)=false:=by rfl) :
  PD X G fr (.Call (.Name x ppos) [e1,.Lambda params body scope lpos] [] pos) (dFnC F t cix f1):=by
 obtain⟨t1,p1,q1⟩:=h1.drop;obtain⟨f,fd0,ps0,FN,hm,hk,hbd⟩:=hW;refine⟨_,Zkg FN hfn hr hg hm hk hbd (Yt p1 (Yt (ZnJ M hq B.hfree hdef) YS he2) he) hdb he hpl,fun σ Hf H ρ s d s' Q x1 x2 x3 x4 k=>?_⟩;obtain⟨d1,s1,a1,a2⟩:=Zv x4;obtain⟨cds,s2,b3,a4⟩:=Zv a2;obtain⟨a3,rfl⟩:=Y5 b3;obtain⟨hn,a5⟩:=Xy a4;obtain⟨cc,s3,a6,a7⟩:=Zv a5;obtain⟨hn2,a8⟩:=Xy a7;obtain⟨rfl,rfl⟩:=ZP a8;obtain⟨hn0,hn1⟩:=zo.mp hn;refine q1 σ Hf H ρ s d1 _ _ x1 x2 x3 a1 λv1 jW H1 g1 j9 rv1=>?_;obtain⟨tp,hP,htr,hhit⟩:=TG.get _ H1 j9;refine⟨tp,hP,htr,λcv h=>let ⟨c',z1,z2,_⟩:=hhit lpos cv h;⟨c',z1,z2⟩,λp c' fd Hm ⟨cl,pm,ctv,co,efd⟩ sl hp=>?_⟩;subst efd;obtain⟨stm,hc',ex⟩:=Zme TG j9 hP sl;have gr:=Zmf (o:=.ext (fnφ p (zK "<lambda>" q params body scope cl pm (.ref c') ctv))) g1.fh ex hp;have hcp:c'≠p:=λz=>by rw[z,hp]at hc';cases hc'
 obtain⟨cvs,l1,l2,l3⟩:=Zfg (x2.ext g1.ff) a3;intro base' cs;have C:CloAt base' cl scope N ps cvs:=B.cloAt cs co l1 l3;refine⟨WC G t p c' (zK "<lambda>" q params body scope cl pm (.ref c') ctv) q cvs,jW,[d1,.clo t cds],_,d,_,ZnK (X:=X) (.all (hbind cl pm (.ref c') ctv)) (fnKE S C (λs H st=>st.2) λA outer s H E hr=>hb base' p c' cl _ A outer s H E hr) hT,rfl,gr.fh,?_,⟨Gh.grow stm hp,ZG,by rw[Zj hcp];exact hc'⟩,a6,λv Hf3 H3 g3 st3 r3 fz=>?_⟩
 ·refine .cons (toC hn0 rv1) (.one (jv.mpr ⟨cvs,⟨rfl,rfl,rfl⟩,toCL hn1 l2⟩))
 ·have g3':=grC g3
  have gg:=(g1.trans gr).trans g3';have rr:=ofC hn2 r3;refine k v Hf3 H3 gg st3.1 rr λz=>?_;exact Z3.old (g1.hh.trans gr.hh) rr.nofp (frC hn2 (fz z))
end
theorem boot_len:xj "len" = some (.builtin "len"):=by rfl
theorem boot_isinstance:xj "isinstance" = some (.builtin "isinstance"):=by rfl
theorem boot_max:xj "max" = some (.builtin "max"):=by rfl
theorem boot_min:xj "min" = some (.builtin "min"):=by rfl
theorem boot_sorted:xj "sorted" = some (.builtin "sorted"):=by rfl
theorem boot_tuple:xj "tuple" = some (.type "tuple"):=by rfl
theorem boot_list:xj "list" = some (.type "list"):=by rfl
theorem boot_int:xj "int" = some (.type "int"):=by rfl
theorem boot_bool:xj "bool" = some (.type "bool"):=by rfl
theorem boot_dict:xj "dict" = some (.type "dict"):=by rfl
noncomputable abbrev Yb:Gh->Prop:=λ_=>True
noncomputable def stL (K:qf)(p sa:Addr)(tr:Bool)(s:Pn)(H:Hp):Prop:=
 ∃a h,s.1=[a,h]/\H p=some (.lst [.ref sa,.int a,.int h])/\sa≠p/\ZJ K H sa (s.2.map V.int)/\(tr=true->∃o,H sa=some o)/\(tr=false->∀H':Hp,ZJ K H' sa (s.2.map V.int))
noncomputable def UF (K:qf)(p sa:Addr)(tr:Bool):Gh where
 fp:=λb=>b=p
 rd:=λb=>b=p∨(tr=true/\b=sa)
 pen:=.ref p
 st:=stL K p sa tr
 mono:=λs H H' ⟨a,h,e0,e1,ne,sq,t1,t2⟩ k _ _=>by
  refine⟨a,h,e0,k p _ (.inl rfl) e1,ne,?_,λht=>?_,t2⟩
  ·cases tr with
   | false=>exact t2 rfl H'
   | true=>
    rcases sq with(q | ⟨o,q⟩) | q
    ·exact .inl (.inl (k sa _ (.inr ⟨rfl,rfl⟩) q))
    ·exact .inl (.inr ⟨o,k sa _ (.inr ⟨rfl,rfl⟩) q⟩)
    ·exact .inr q
  ·obtain⟨o,q⟩:=t1 ht
   exact⟨o,k sa o (.inr ⟨ht,rfl⟩) q⟩
 sub:=λb h=>.inl h
 dom:=λs H b ⟨a,h,e0,e1,ne,sq,t1,t2⟩ hb=>by
  rcases hb with rfl | ⟨ht,rfl⟩
  ·exact⟨_,e1⟩
  ·exact t1 ht
 ntp:=λs H b vs ⟨a,h,e0,e1,ne,sq,t1,t2⟩ hb z=>by
  rw[hb,e1]at z;cases z
noncomputable def Wl (K:qf):Gh->Prop:=λG=>∃p sa tr,G=UF K p sa tr
noncomputable def BM (ns:List Int)(a:Int):Int:=if a<ns.length then ns.getD a.toNat 0 else if 0<ns.length then ns.getD (a*7 % ns.length).toNat 0 % 1000003+a*1000003 else 0
noncomputable def Vc (c a:Int):Int:=
 if 10 ^ 18<=c then c else
  let x:=(c % 2147483647*48271+a*69621+11) % 2147483629
  let y:=(x*x+48271*x+a) % 2147483587
  y*2147483579+(y*y+69621*a) % 2147483579
noncomputable def XA (m a h:Int)(ns:List Int):Int×Int:=if h<m then (a+1,Vc (BM ns a) a)else (a,h)
noncomputable def YH:List D->M D:=λds s=>match ds,s with
 | [.pen,.int m],([a,h],ns)=>if 0<m/\m<1073741824/\0<=a then some (.int ((XA m a h ns).2 % m),([(XA m a h ns).1,(XA m a h ns).2 / m],ns))else none
 | _,_=>none
noncomputable def YL (s:Pn):Prop:=∃a h,s.1=[a,h]/\0<=a/\0<=h
theorem Zkj (c a:Int)(ha:0<=a):0<=Vc c a:=by
 unfold Vc
 grind
theorem Zet (ok:YL s)(h1:0<m)(h2:m<1073741824):∃r s',YH [.pen,.int m] s=some (.int r,s')/\0<=r/\r<m/\YL s':=by
 obtain⟨a,h,e,ha,hh⟩:=ok;obtain⟨l,ns⟩:=s;subst e;refine⟨(XA m a h ns).2 % m,([(XA m a h ns).1,(XA m a h ns).2 / m],ns),?_,qah _ (by omega),yE _ h1,⟨_,_,rfl,?_,?_⟩⟩
 ·show(if 0<m/\m<1073741824/\0<=a then _ else _)=_
  simp_all
 ·unfold XA
  split
  ·omega
  ·exact ha
 ·have:0<=(XA m a h ns).2:=by
   unfold XA;split
   ·exact Zkj _ _ ha
   ·exact hh
  exact Int.ediv_nonneg this (by omega)
noncomputable def V5 (G:Gh)(ob own own':List Nat)(fr:Bool)(g:Zc->M Out):TS:=λE σ H=>∃kn jO H0 ρ s out s',J G own kn jO H0 σ H ρ/\G.st s H/\g ρ s=some (out,s')/\Post G ob own' kn jO H0 fr out s' E
noncomputable def ZoD (K:qf)(t:TA):TE:=fun σ H Q=>t σ H λxs H1=>xs.length<=xg/\∀p,H1 p=none->K.lookup p=none->Q (.ref p) (upd H1 p (.lst xs))
theorem Zmg (h:PA X es t):PE X (.List es pos) (ZoD X.K t):=by
 intro jJ s σ H Q I hq;refine wpAny_List_spliced (ZD (h pos jJ s σ H _ I hq) λus s1 ⟨xs,H1,I1,r,z,q⟩=>⟨by rw[<-r.length];exact z,?_⟩);have hf:=I1.hok.fresh (qq _);have hk:X.K.lookup s1.heap.objs.size=none:=by
  cases e:X.K.lookup s1.heap.objs.size with
  | none=>rfl
  | some o=>
   have:=I1.kIn _ _ e;rw[qbn (qq _)]at this;cases this
 refine⟨.ref s1.heap.objs.size,upd H1 s1.heap.objs.size (.lst xs),I1.laid (λb u e=>qj _ e) (qq _) ?_,rfl,q _ hf hk⟩;exact⟨z,us,0,r,qw _ rfl⟩
noncomputable def Ok {α:Type}(m:M α)(s:Pn)(Q:α->Pn->Prop):Prop:=∃a s',m s=some (a,s')/\Q a s'
theorem Ok.bind {m:M α}{k:α->M β}{Q:β->Pn->Prop}(h:Ok m s λa s1=>Ok (k a) s1 Q):Ok (Zk m k) s Q:=by
 obtain⟨a,s1,e,b,s2,e2,q⟩:=h;exact⟨b,s2,by unfold Zk;simp_all,q⟩
theorem Ok.ret {a:α}{Q:α->Pn->Prop}(h:Q a s):Ok (ZL a) s Q:=⟨a,s,rfl,h⟩
theorem Ok.eq {m:M α}{a:α}{Q:α->Pn->Prop}(e:m s=some (a,s'))(h:Q a s'):Ok m s Q:=⟨a,s',e,h⟩
theorem Ok.mono {m:M α}{Q Q':α->Pn->Prop}(h:Ok m s Q)(k:∀a s',Q a s'->Q' a s'):Ok m s Q':=let ⟨a,s',e,q⟩:=h;⟨a,s',e,k a s' q⟩
theorem Ok.of {o:Option α}{a:α}{Q:α->Pn->Prop}(e:o=some a)(h:Q a s):Ok (Yy o) s Q:=⟨a,s,by unfold Yy;rw[e],h⟩
theorem Ok.ite {α:Type}{c:Prop}[Decidable c]{m:M α}{s:Pn}{Q:α->Pn->Prop}(hc:c)(h:Ok m s Q):Ok (if c then m else ZK) s Q:=by simp_all
section
variable {ρ:Zc}{s:Pn}{Q:Out->Pn->Prop}{f:Zc->M D}{g1 g2:Zc->M Out}
theorem Ok.seq (h:Ok (g1 ρ) s λo s1=>match o with | .nx ρ'=>Ok (g2 ρ') s1 Q | .rt d=>Q (.rt d) s1 | .bk ρ'=>Q (.bk ρ') s1 | .ct ρ'=>Q (.ct ρ') s1):Ok (Zh g1 g2 ρ) s Q:=by
 refine Ok.bind (h.mono λo s1 q=>?_)
 cases o with
 | nx ρ'=>exact q
 | rt d=>exact .ret q
 | bk ρ'=>exact .ret q
 | ct ρ'=>exact .ret q
theorem Ok.next (h:Q (.nx ρ) s):Ok (Zm ρ) s Q:=.ret h
theorem Ok.sset (h:Ok (f ρ) s λd s1=>Q (.nx (ρ.set i (some d))) s1):Ok (ZF i f ρ) s Q:=.bind (h.mono λ_ _ q=>.ret q)
theorem Ok.sown (h:Ok (f ρ) s λd s1=>Zem d=true/\Q (.nx (ρ.set i (some d))) s1):Ok (JV i f ρ) s Q:=.bind (h.mono λ_ _ q=>.ite q.1 (.ret q.2))
theorem Ok.sret (h:Ok (f ρ) s λd s1=>Q (.rt d) s1):Ok (ZM f ρ) s Q:=.bind (h.mono λ_ _ q=>.ret q)
theorem Ok.sif (h:Ok (c ρ) s λb s1=>if b=true then Ok (g1 ρ) s1 Q else Ok (g2 ρ) s1 Q):Ok (Z6 c g1 g2 ρ) s Q:=by
 refine .bind (h.mono λb s1 q=>?_)
 cases b with
 | true=>simp_all
 | false=>simp_all
theorem Ok.sapp (hi:(ρ[i]?).bind id=some (.lst ds))(hl:ds.length<xg)(h:Ok (f ρ) s λd s1=>Q (.nx (ρ.set i (some (.lst (ds ++ [d]))))) s1):Ok (UD i f ρ) s Q:=by
 refine .bind (h.mono λd s1 q=>?_);simp only[hi];exact .ite hl (.ret q)
theorem Ok.spar (h:Ok (fs ρ) s λds s1=>∃a b,ds=[a,b]/\Xr a=true/\Xr b=true/\Q (.nx ((ρ.set i (some a)).set j (some b))) s1):Ok (sPar i j fs ρ) s Q:=by
 refine .bind (h.mono λd s1 q=>?_);obtain⟨a,b,rfl,n1,n2,q⟩:=q;exact .ite (by simp_all) (.ret q)
theorem Ok.loop (I:Nat->Zc->Pn->Prop):∀(ds:List D) (k:Nat) (ρ:Zc) (s:Pn),I k ρ s->
  (∀i d ρ s,ds[i]?=some d->I (k+i) ρ s->∃ρ1,τ d ρ=some ρ1/\Ok (body ρ1) s λo s'=>∃ρ',o=.nx ρ'/\I (k+i+1) ρ' s')->Ok (Wi τ body ds ρ) s λo s'=>∃ρ',o=.nx ρ'/\I (k+ds.length) ρ' s'
 | [],k,ρ,s,h0,_=>.ret ⟨ρ,rfl,h0⟩
 | d::ds,k,ρ,s,h0,h=>by
  obtain⟨ρ1,e1,ok⟩:=h 0 d ρ s rfl h0;refine Ok.bind (.of e1 (.bind (ok.mono λo s' q=>?_)));obtain⟨ρ',rfl,q⟩:=q;refine(Ok.loop I ds (k+1) ρ' s' q λi d' ρ2 s2 e2 q2=>?_).mono λo s2 q2=>?_
  ·have:=h (i+1) d' ρ2 s2 (by simpa using e2) (by grind)
   rw[show k+(i+1)+1=k+1+i+1 by omega]at this;exact this
  ·rw[show k+(d::ds).length=k+1+ds.length by simp;omega]
   exact q2
theorem Ok.sfor (I:Nat->Zc->Pn->Prop)(h:Ok (fi ρ) s λds s1=>I 0 ρ s1/\(∀i d ρ s,ds[i]?=some d->I i ρ s->∃ρ1,τ d ρ=some ρ1/\Ok (body ρ1) s λo s'=>∃ρ',o=.nx ρ'/\I (i+1) ρ' s')/\
  ∀ρ' s',I ds.length ρ' s'->Q (.nx ρ') s'):Ok (XW fi τ body ρ) s Q:=by
 refine .bind (h.mono λds s1 q=>?_);obtain⟨q0,q1,q2⟩:=q;refine(Ok.loop I ds 0 ρ s1 q0 λi d ρ s e=>?_).mono λo s' q=>?_
 ·rw[Nat.zero_add];exact q1 i d ρ s e
 ·obtain⟨ρ',rfl,q⟩:=q
  simp_all
end
section
variable {ρ ρ':Zc}{s s1 s2:Pn}{f f2:Zc->M D}{g1 g2:Zc->M Out}{d e c:D}{r:Option (Out×Pn)}
theorem Y8 (hl:ds.length=k)(h:g (ds.map some++qk (n-k) none) s=some (.rt d,s1)):runB n k g ds s=some (d,s1):=by
 unfold runB;rw[if_pos hl];unfold Zk;rw[h];rfl
theorem Y9 (h:f ρ s=some (d,s1)):ZM f ρ s=some (.rt d,s1):=by unfold ZM Zk;rw[h];rfl
theorem YM (h:g1 ρ s=some (.rt d,s1)):Zh g1 g2 ρ s=some (.rt d,s1):=by unfold Zh Zk;rw[h];rfl
theorem YJ (h:g1 ρ s=some (.nx ρ',s1))(h2:g2 ρ' s1=r):Zh g1 g2 ρ s=r:=by unfold Zh Zk;simp_all
theorem XR (h:f ρ s=some (d,s1)):ZF i f ρ s=some (.nx (ρ.set i (some d)),s1):=by unfold ZF Zk;rw[h];rfl
theorem ZA (h1:f ρ s=some (d,s1))(h2:f2 ρ s1=some (e,s2))(h:g d e=some c):Zd g f f2 ρ s=some (c,s2):=by
 unfold Zd Zk;rw[h1];simp;rw[h2];simp;unfold Yy;rw[h]
theorem YB (h1:fs ρ s=some (ds,s1))(h:g ds=some c):ZO g fs ρ s=some (c,s1):=by
 unfold ZO Zk;rw[h1];simp;unfold Yy;rw[h]
theorem Yn (h1:fs ρ s=some (ds,s1))(h:F ds s1=q):Zt F fs ρ s=q:=by
 unfold Zt Zk;simp_all
theorem Zg (h1:f ρ s=some (d,s1))(h2:fs ρ s1=some (ds,s2)):Zb f fs ρ s=some (d::ds,s2):=by
 unfold Zb Zk;rw[h1];simp;rw[h2];rfl
theorem XI (h1:fs ρ s=some (ds,s1))(hl:ds.length<=xg):Yi fs ρ s=some (.tup ds,s1):=by
 unfold Yi Zk;rw[h1];simp;rw[if_pos hl];rfl
theorem W8 (h1:fs ρ s=some (ds,s1))(hl:ds.length<=xg):Z9 fs ρ s=some (.lst ds,s1):=by
 unfold Z9 Zk;rw[h1];simp;rw[if_pos hl];rfl
theorem Yg (h:f ρ s=some (.bl b,s1)):Zu f ρ s=some (b,s1):=by unfold Zu Zk;rw[h];rfl
theorem Bs (h:fb ρ s=some (b,s1)):Wg fb ρ s=some (!b,s1):=by unfold Wg Zk;rw[h];rfl
end
theorem ZdT (r:D->Zc)(b:D->Bool)(c:D->D):∀(ds:List D),(∀d∈ds,τ d ρ=some (r d)/\ft (r d) s=some (b d,s)/\(b d=true->fe (r d) s=some (c d,s)))->
  Ux τ ft fe ρ ds s=some ((ds.filter b).map c,s)
 | [],_=>rfl
 | d::ds,h=>by
  obtain⟨h1,h2,h3⟩:=h d (by simp);have ih:=ZdT r b c ds λd' m=>h d' (by simp[m]);unfold Ux;simp only[Zk,Yy,h1,h2]
  cases hb:b d with
  | true=>simp[Zk,h3 hb,ih,hb,ZL]
  | false=>simp_all
theorem Zc1 (P:D->Prop)(I:Pn->Prop):∀(ds:List D) (s:Pn),I s->(∀d∈ds,∀s,I s->∃ρ1,τ d ρ=some ρ1/\Ok (fe ρ1) s λc s'=>P c/\I s')->
  Ok (Ux τ YN fe ρ ds) s λr s'=>r.length=ds.length/\(∀c∈r,P c)/\I s'
 | [],s,hs,_=>.ret ⟨rfl,by simp,hs⟩
 | d::ds,s,hs,h=>by
  obtain⟨ρ1,e1,ok⟩:=h d (by simp) s hs;refine .bind (.of e1 (.bind (.ret ?_)));refine .bind (ok.mono λc s1 q=>.bind ((Zc1 P I ds s1 q.2 λd' m=>h d' (by simp[m])).mono λr s2 q2=>.ret ⟨by simp[q2.1],?_,q2.2.2⟩));simp_all
end TF
namespace TP
open L2 TF
noncomputable def ZgN:Zc->M Out:=(Zh (JV 1 (Z9 Ze))
 (Zh (XW (Xt (ZO Y2 (Zb (Za 0) Ze))) (ZZ 2)
 (Zh (XW (Br (Zd YK (Za 2) (dC (.int 1))) (ZO Y2 (Zb (Za 0) Ze))) (ZZ 3)
 (Zh (UD 1 (fun ρ=>(Yi (Zb (Zd Zq (Za 0) (Za 2)) (Zb (Zd Zq (Za 0) (Za 3)) Ze))) (Y1 [1] ρ)))
 Zm))
 Zm))
 (Zh (ZM (Za 1))
 Zm)))
noncomputable def Bf:List D->M D:=runB 4 1 ZgN
noncomputable def Zc2:Zc->M Out:=(Zh (ZM (Zd X9 (Yi (Zb (ZO U7 (Zb (Za 1) (Zb (Za 2) Ze))) (Zb (ZO JR (Zb (Za 1) (Zb (Za 2) Ze))) Ze))) (Za 0)))
 Zm)
noncomputable def W4:List D->M D:=runB 3 3 Zc2
noncomputable def ZnL:Zc->M Out:=(Zh (ZM (Yw [none,some 0,some 1] (Xt (Zd Zq (Za 0) (dC (.int 0)))) (ZZ 0) (Zu (Zt W4 (Zb (Zd Zq (Za 1) (dC (.int 1))) (Zb (Za 2) (Zb (Za 0) Ze))))) (Za 0)))
 Zm)
noncomputable def JJ:List D->M D:=runB 2 2 ZnL
noncomputable def Zdz:Zc->M Out:=(Zh (ZM (ZO Zkc (Zb (Yw [none] (Uw (Zd Zq (Za 0) (dC (.int 1)))) (ZZ 0) YN (Yi (Zb (Za 0) (Zb (dC (.bl true)) Ze)))) Ze)))
 Zm)
noncomputable def UR:List D->M D:=runB 1 1 Zdz
noncomputable def ZaU:Zc->M Out:=(Zh (Z6 (Zu (Zd VH (Za 0) (Zd Wk (dC (.int 10)) (dC (.int 18)))))
 (Zh (ZM (Za 0))
 Zm)
 Zm)
 (Zh (ZF 2 (Zd UE (Zd YK (Zd YK (Zd Ud (Zd UE (Za 0) (dC (.int 2147483647))) (dC (.int 48271))) (Zd Ud (Za 1) (dC (.int 69621)))) (dC (.int 11))) (dC (.int 2147483629))))
 (Zh (ZF 2 (Zd UE (Zd YK (Zd YK (Zd Ud (Za 2) (Za 2)) (Zd Ud (dC (.int 48271)) (Za 2))) (Za 1)) (dC (.int 2147483587))))
 (Zh (ZM (Zd YK (Zd Ud (Za 2) (dC (.int 2147483579))) (Zd UE (Zd YK (Zd Ud (Za 2) (Za 2)) (Zd Ud (dC (.int 69621)) (Za 1))) (dC (.int 2147483579)))))
 Zm))))
noncomputable def US:List D->M D:=runB 3 2 ZaU
noncomputable def ZgO:Zc->M Out:=(Zh (ZF 2 (Zt YH (Zb (Za 0) (Zb (Zd YK (Za 1) (dC (.int 1))) Ze))))
 (Zh (sPar 3 4 (Zb (Zt YH (Zb (Za 0) (Zb (dC (.int 4)) Ze))) (Zb (Zd YK (dC (.int 1)) (Zt YH (Zb (Za 0) (Zb (dC (.int 3)) Ze)))) Ze)))
 (Zh (ZF 5 (Yw [none,some 0] (Xt (Za 2)) (ZZ 0) YN (Zt YH (Zb (Za 1) (Zb (dC (.int 2)) Ze)))))
 (Zh (JV 6 (Z9 Ze))
 (Zh (XW (Xt (Za 2)) (ZZ 7)
 (Zh (XW (Br (Zd YK (Za 7) (dC (.int 1))) (Za 2)) (ZZ 8)
 (Zh (ZF 9 (fun ρ=>(Zd UM (Zt YH (Zb (Za 0) (Zb (dC (.int 4)) Ze))) (Za 4)) (Y1 [6] ρ)))
 (Zh (Z6 (Xb (Zu (Zd Ya (Za 3) (dC (.int 0)))) (Xb (Zu (Zd Ya (Zd Zq (Za 5) (Za 7)) (dC (.int 1)))) (Zu (Zd Ya (Zd Zq (Za 5) (Za 8)) (dC (.int 1))))))
 (Zh (ZF 9 (fun ρ=>(dC (.bl true)) (Y1 [6] ρ)))
 Zm)
 Zm)
 (Zh (Z6 (Zu (Zd Ya (Za 3) (dC (.int 1))))
 (Zh (ZF 9 (fun ρ=>(Jl (Zd Ya (Zd Wj (Za 8) (Za 7)) (dC (.int 1))) (Zd Ya (Zd Wj (Za 8) (Za 7)) (Zd Wj (Za 2) (dC (.int 1))))) (Y1 [6] ρ)))
 Zm)
 Zm)
 (Zh (Z6 (Zu (Za 9))
 (Zh (UD 6 (fun ρ=>(Yi (Zb (Za 7) (Zb (Za 8) Ze))) (Y1 [6] ρ)))
 Zm)
 Zm)
 Zm)))))
 Zm))
 (Zh (ZM (Yi (Zb (Za 2) (Zb (ZO JH (Zb (Za 6) Ze)) Ze))))
 Zm))))))
noncomputable def Bg:List D->M D:=runB 10 2 ZgO
noncomputable def Zb8:Zc->M Out:=(Zh (ZM (Zd X9 (Yi (Zb (ZO U7 (Zb (Za 1) (Zb (Za 2) Ze))) (Zb (ZO JR (Zb (Za 1) (Zb (Za 2) Ze))) Ze))) (Zd Zq (Za 0) (dC (.int 1)))))
 Zm)
noncomputable def W2:List D->M D:=runB 3 3 Zb8
noncomputable def ZgP:Zc->M Out:=(Zh (ZM (Wh (ZO Jd (Zb (Za 0) (Zb (dC (.ty "int")) Ze))) (WB (ZO Jd (Zb (Za 0) (Zb (dC (.ty "bool")) Ze))))))
 Zm)
noncomputable def ZaI:List D->M D:=runB 1 1 ZgP
noncomputable def ZgQ:Zc->M Out:=(Zh (ZM (Wh (Zt ZaI (Zb (Za 1) Ze)) (Wh (Zd UL (dC (.int 0)) (Za 1)) (Zd UM (Za 1) (Za 0)))))
 Zm)
noncomputable def WH:List D->M D:=runB 2 2 ZgQ
local macro_rules | `(tactic| walk_at "ev")=>`(tactic| simp[runB,Zh,ZM,ZF,Zm,Z6,Zu,Zd,ZO,Zb,Ze,Yi,Z9,Za,dC,Zt,Zk,ZL,Yy,YK,Wj,dI,Y1,Wf,Jl,Wh,WB,Xb,X0,Wg])
noncomputable def ZI (p:Nat×Nat):D:=.tup [.int p.1,.int p.2]
noncomputable def Z5 (n:Nat)(ties:Qa):D:=.tup [.int n,.tup (ties.map ZI)]
noncomputable def tied (ties:Qa)(a b:Nat):Bool:=decide ((min a b,max a b)∈ties)
theorem Zkk (p q:Nat×Nat):ZB (ZI p) (ZI q)=decide (p=q):=by
 simp only[ZI,ZB,Xj]
 grind
theorem ZiJ (p:Nat×Nat)(ties:Qa):W0 (ZI p) (ties.map ZI)=decide (p∈ties):=by
 unfold W0
 induction ties with
 | nil=>simp
 | cons t ts ih=>
  rw[qK,qby,ih,Zkk]
  grind
theorem Zas:∀ties:Qa,YI (ties.map ZI)=true
 | []=>by rfl
 | t::ts=>by simp[YI,ZI,Zp,Zas ts]
theorem Zbl:∀ties:Qa,Xi (ties.map ZI)<=1
 | []=>by simp[Xi]
 | t::ts=>by
  have:=Zbl ts;simp only[qK,Xi,ZI,Z0];omega
theorem Zkl (p:Nat×Nat):Z0 (ZI p)=1:=by rfl
theorem ZgR (p:Nat×Nat):Zp (ZI p)=true:=by rfl
theorem ZgS (p:Nat×Nat)(ties:Qa):WX (ZI p) (ties.map ZI)=true:=by
 have:=Zbl ties;simp[WX,ZgR,Zas,Zkl];omega
theorem ZiK (p:Nat×Nat)(ties:Qa):X9 (ZI p) (.tup (ties.map ZI))=some (.bl (decide (p∈ties))):=by
 have:Jg (ZI p) (.tup (ties.map ZI))=some (decide (p∈ties)):=by
  show(if WX (ZI p) (ties.map ZI)=true then some (W0 (ZI p) (ties.map ZI))else none)=_;rw[if_pos (ZgS p ties),ZiJ]
 unfold X9;simp_all
theorem Uy (x:α)(xs:List α):XZ (x::xs) 0=some x:=W6 rfl
theorem Uz (x y:α)(xs:List α):XZ (x::y::xs) 1=some y:=W6 rfl
theorem Vu:2<=xg:=by decide
theorem Zc3 (a b:Nat):D.tup [.int (if b<a then (b:Int)else a),.int (if a<b then (b:Int)else a)]=ZI (min a b,max a b):=by
 unfold ZI
 grind
theorem Zb9 (n:Nat)(ties:Qa)(a b:Nat)(s:Pn):W2 [Z5 n ties,.int a,.int b] s=some (.bl (tied ties a b),s):=by
 simp[W2,Zb8,runB,Zh,ZM,Zd,ZO,Zb,Ze,Yi,Za,dC,Zk,ZL,Yy,U7,JR,Vu,Zc3,Z5,Zq,Uz,ZiK,tied]
theorem WK (r:D->Zc)(b:D->Bool)(c:D->D)(hi:fi ρ s=some (ds,s))(hl:ds.length<=xg)
  (h:∀d∈ds,τ d (Wf src ρ)=some (r d)/\ft (r d) s=some (b d,s)/\(b d=true->fe (r d) s=some (c d,s))):Yw src fi τ ft fe ρ s=some (.lst ((ds.filter b).map c),s):=by
 unfold Yw;simp only[Zk,hi,hl,if_true,ZdT r b c ds h,ZL]
theorem ZiL (n:Nat)(h:n<=100000):-(2 ^ 62)<=(n:Int)/\(n:Int)<2 ^ 62:=by omega
theorem XF:xg=16777216:=by decide
theorem Up {n:Nat}(h:f ρ s=some (.int n,s))(hn:n<=100000):Xt f ρ s=some (Yv 0 n,s):=by
 unfold Xt;simp only[Zk,h];rw[if_pos (ZiL n hn)];rfl
theorem ZdU {a n:Nat}(h:f ρ s=some (.int a,s))(h2:g ρ s=some (.int n,s))(ha:a<=100000)(hn:n<=100000):Br f g ρ s=some (Yv a (n-a),s):=by
 unfold Br;simp only[Zk,h,h2];rw[if_pos (by omega),show((n:Int)-(a:Int)).toNat=n-a by omega];rfl
theorem W5 (lo:Int)(n:Nat):(Yv lo n).length=n:=by simp[Yv]
theorem ZaJ {lo:Nat}(h:(Yv lo n)[i]?=some d):i<n/\d=.int ((lo+i:Nat):Int):=by
 have hi:=by
  have:=(qx.mp h).1;simpa[Yv]using this
 unfold Yv at h;simp_all
theorem Zc4 (h:d∈Yv 0 n):∃i:Nat,i<n/\d=.int (i:Int):=by
 obtain⟨i,hi,e⟩:=qA.mp h;exact⟨i,by simp_all,by simp_all⟩
theorem JA (n:Nat):Yv 0 n=(qu n).map λ(i:Nat)=>D.int (i:Int):=by
 unfold Yv;simp
noncomputable def Xu:D->Nat
 | .int i=>i.toNat
 | _=>0
theorem Zfh (n:Nat)(p:Nat->Bool):((Yv 0 n).filter λd=>p (Xu d)).map (λd=>d)=((qu n).filter p).map λ(i:Nat)=>D.int (i:Int):=by
 rw[JA,yf];simp;congr 1
theorem jI {m:M α}{a:α}(h:Ok m s λb t=>b=a/\t=s'):m s=some (a,s'):=by
 obtain⟨b,t,e,rfl,rfl⟩:=h;exact e
theorem Zeu (hn:n<=100000):(Yv 0 n).length<=xg:=by rw[W5,XF];omega
noncomputable def JY (row:D)(ds:List D):Prop:=row=.lst ds∨row=.tup ds
theorem JY.len (h:JY row ds):Y2 [row]=some (.int ds.length):=by
 rcases h with rfl | rfl <;> rfl
theorem JY.ix (h:JY row ds)(hi:i<ds.length):Zq row (.int (i:Int))=some (ds.getD i .non):=by
 have e:ds[i]?=some (ds.getD i .non):=by simp[hi]
 rcases h with rfl | rfl <;> exact W6 e
noncomputable def Xv (n i:Nat):Qa:=(qu i).flatMap λa=>(qu (n-(a+1))).map λk=>(a,a+1+k)
noncomputable def XO (n:Nat):Qa:=Xv n n
theorem Bh (n i:Nat):Xv n (i+1)=Xv n i++(qu (n-(i+1))).map λk=>(i,i+1+k):=by
 unfold Xv;rw[qai];simp
theorem Zbt (n:Nat):∀i,(Xv n i).length<=i*n
 | 0=>by simp[Xv]
 | i+1=>by
  have:=Zbt n i;rw[Bh,zO,qp,zb]
  grind
noncomputable def UN (ds:List D)(p:Nat×Nat):D:=.tup [ds.getD p.1 .non,ds.getD p.2 .non]
theorem ZhK (n i j:Nat)(hn:n<=1000)(hi:i<n)(hj:j<=n):(Xv n i).length+j<xg:=by
 have h1:=Zbt n i;have h2:i*n<=1000*1000:=qbh (by omega) hn;rw[XF];omega
theorem Zfi (row:D)(ds:List D)(h:JY row ds)(hn:ds.length<=1000)(s:Pn):Bf [row] s=some (.lst ((XO ds.length).map (UN ds)),s):=by
 refine Y8 rfl (jI ?_);refine Ok.seq (.sown (.eq (a:=.lst []) rfl ⟨rfl,?_⟩));show Ok _ s _;refine Ok.seq (.sfor (λi ρ s'=>s=s'/\∃o2 o3,ρ=[some row,some (.lst ((Xv ds.length i).map (UN ds))),o2,o3]) (.eq (Up (YB (Zg rfl rfl) h.len) (by omega)) ⟨⟨rfl,none,none,rfl⟩,λi d ρ s' hd hI=>?_,fun ρ' s' hI=>?_⟩))
 ·obtain⟨rfl,o2,o3,rfl⟩:=hI
  obtain⟨hi,rfl⟩:=ZaJ hd;refine⟨_,rfl,?_⟩;refine Ok.seq (.sfor (λj ρ s'=>s=s'/\∃o3,ρ=[some row,some (.lst ((Xv ds.length i).map (UN ds)++(qu j).map λk=>UN ds (i,i+1+k))),some (.int ((0+i:Nat):Int)),o3]) (.eq (ZdU (a:=i+1) (ZA (d:=.int ((0+i:Nat):Int)) (e:=.int 1) (c:=.int ((i+1:Nat):Int)) rfl rfl (by simp[YK])) (YB (Zg rfl rfl) h.len) (by omega) (by omega)) ⟨⟨rfl,o3,by simp⟩,λj d ρ s' hd hJ=>?_,fun ρ' s' hJ=>?_⟩))
  ·obtain⟨rfl,o3,rfl⟩:=hJ
   obtain⟨hj,rfl⟩:=ZaJ hd;refine⟨_,rfl,?_⟩;refine Ok.seq (.sapp (ds:=(Xv ds.length i).map (UN ds)++(qu j).map λk=>UN ds (i,i+1+k)) rfl (by simp only[zO,qp,zb];exact ZhK _ _ _ hn hi (by omega)) (.eq (XI (Zg (ZA (d:=row) (e:=.int ((0+i:Nat):Int)) rfl rfl (by rw[Nat.zero_add];exact h.ix hi)) (Zg (ZA (d:=row) (e:=.int ((i+1+j:Nat):Int)) rfl rfl (h.ix (by omega))) rfl)) Vu) ?_));refine Ok.next ⟨_,rfl,rfl,some (.int ((i+1+j:Nat):Int)),?_⟩;rw[qai,qQ,<-qaK];rfl
  ·obtain⟨rfl,o3',rfl⟩:=hJ
   refine Ok.next ⟨_,rfl,rfl,some (.int ((0+i:Nat):Int)),o3',?_⟩;rw[Bh,qQ,qJ,W5];rfl
 ·obtain⟨rfl,o2,o3,rfl⟩:=hI
  refine Ok.seq (.sret (.eq rfl ⟨?_,rfl⟩));rw[W5];rfl
noncomputable def Uf (p:Nat×Nat):List ZC:=[.inl (p.1:Int),.inl (p.2:Int)]
theorem Zkm (h:Uf p=Uf q):p=q:=by
 simp only[Uf]at h
 grind
noncomputable def kvT (jU:List (List ZC×V))(ties:Qa):List (List ZC×V):=ties.foldl (λjU p=>YW jU (Uf p) (.bl true)) jU
theorem ZdV:∀(ties:Qa) (jU:List (List ZC×V)),V4 jU (ties.map λp=>D.tup [ZI p,.bl true])=some (kvT jU ties)
 | [],jU=>rfl
 | t::ts,jU=>by
  exact ZdV ts _
theorem Zfj (p:Nat×Nat):∀(ties:Qa) (jU:List (List ZC×V)),(ZS (kvT jU ties) (Uf p)).isSome=(decide (p∈ties)||(ZS jU (Uf p)).isSome)
 | [],jU=>by simp[kvT]
 | t::ts,jU=>by
  have ih:=Zfj p ts (YW jU (Uf t) (.bl true));have e:kvT jU (t::ts)=kvT (YW jU (Uf t) (.bl true)) ts:=rfl;rw[e,ih,Ze5];by_cases h:p=t
  ·simp_all
  ·have hk:=λz=>h (Zkm z)
   simp_all
theorem ZdW (n:Nat)(ties:Qa)(s:Pn)(hl:ties.length<=100000):UR [Z5 n ties] s=some (.dt (kvT [] ties),s):=by
 have hc:Yw [none] (Uw (Zd Zq (Za 0) (dC (.int 1)))) (ZZ 0) YN (Yi (Zb (Za 0) (Zb (dC (.bl true)) Ze))) [some (Z5 n ties)] s=some (.lst ((ties.map ZI).map λd=>D.tup [d,.bl true]),s):=by
  have q:=WK (src:=[none]) (fi:=Uw (Zd Zq (Za 0) (dC (.int 1)))) (τ:=ZZ 0) (ft:=YN) (fe:=Yi (Zb (Za 0) (Zb (dC (.bl true)) Ze))) (ρ:=[some (Z5 n ties)]) (s:=s) (λd=>[some d]) (λ_=>true) (λd=>D.tup [d,.bl true])
   (by rfl) (by rw[qp,XF];omega)
   (λd hd=>⟨rfl,rfl,λ_=>XI (Zg rfl (Zg rfl rfl)) Vu⟩)
  have q2:(ties.map ZI).filter (λ_=>true)=ties.map ZI:=qaq.mpr (by simp);rw[q,q2]
 refine Y8 rfl (YM (Y9 (YB (Zg hc rfl) ?_)));rw[qJ];show(if ((ties.map ((λd=>D.tup [d,.bl true])∘ZI)).length<=xg)then (V4 [] _).map D.dt else none)=_;rw[if_pos (by rw[qp,XF];omega)];have e:=ZdV ties [];show(V4 [] (ties.map λp=>D.tup [ZI p,.bl true])).map D.dt=_;rw[e];rfl
theorem Zbu (h:p∈Xv n i):p.1<i/\p.1<p.2/\p.2<n:=by
 obtain⟨a,ha,h⟩:=List.mem_flatMap.mp h;obtain⟨k,hk,rfl⟩:=qA.mp h;simp at ha hk
 grind
theorem ZiM (h:p∈XO n):UN (Yv 0 n) p=ZI p:=by
 obtain⟨h1,h2,h3⟩:=Zbu h;have g:∀i,i<n->(Yv 0 n).getD i .non=.int (i:Int):=λi hi=>by
  rw[JA];simp[hi]
 unfold UN ZI;rw[g _ h1,g _ h3]
theorem Zfk (s:Pn)(hn:n<=1000):Bf [.lst (Yv 0 n)] s=some (.lst ((XO n).map ZI),s):=by
 rw[Zfi _ _ (.inl rfl) (by rw[W5];exact hn) s,W5];congr 3;exact qar λp hp=>ZiM hp
theorem ZaK {n:Nat}(h:f ρ s=some (.int n,s))(hn:n<=1000):WG f ρ s=some (.lst (Yv 0 n),s):=by
 unfold WG Zk;rw[h];show(if -(2 ^ 62)<=(n:Int)/\(n:Int)<=2 ^ 24 then ZL (D.lst (Yv 0 (n:Int).toNat))else ZK) s=_;rw[if_pos (by omega)];rfl
theorem Zkn (n:Nat)(hn:n<=1000):(XO n).length<=1000000:=by
 have h1:=Zbt n n;have h2:=qbh hn hn;unfold XO;omega
theorem Zev (l:Qa)(b:D->Bool)(q:Nat×Nat->Bool)(h:∀p,b (ZI p)=q p):((l.map ZI).filter b).map (λd=>d)=(l.filter q).map ZI:=by
 rw[yf,List.map_id'];congr 1;exact List.filter_congr λp _=>h p
noncomputable def nat2:D->Nat×Nat
 | .tup [a,b]=>(Xu a,Xu b)
 | _=>(0,0)
end TP
namespace TF
open L2
theorem Ok.runB (hl:ds.length=k)(h:Ok (g (ds.map some++qk (n-k) none)) s λo s'=>match o with | .rt d=>Q d s' | .nx _=>Q .non s' | _=>False):Ok (runB n k g ds) s Q:=by
 unfold TF.runB;rw[if_pos hl];refine .bind (h.mono λo s' q=>?_)
 cases o with
 | rt d=>exact .ret q
 | nx ρ=>exact .ret q
 | bk ρ=>exact q.elim
 | ct ρ=>exact q.elim
theorem Ok.band (h:Ok (f ρ) s λb s1=>if b=true then Ok (g ρ) s1 Q else Q false s1):Ok (Xb f g ρ) s Q:=by
 refine .bind (h.mono λb s1 q=>?_)
 cases b with
 | true=>simp_all
 | false=>exact .ret (by simp_all)
theorem Ok.fn (h1:fs ρ s=some (ds,s1))(h:Ok (F ds) s1 Q):Ok (Zt F fs ρ) s Q:=by
 obtain⟨a,s',e,q⟩:=h;exact⟨a,s',Yn h1 e,q⟩
theorem Ok.draw {m:Nat}(ok:YL s)(h1:fs ρ s=some ([.pen,.int (m:Int)],s))(hm:0<m)(hm2:m<1073741824)(h:∀(r:Nat) s',r<m->YL s'->Q (.int (r:Int)) s'):Ok (Zt YH fs ρ) s Q:=by
 obtain⟨r,s1,e,r0,r1,ok1⟩:=Zet ok (show 0<(m:Int) by omega) (show(m:Int)<1073741824 by omega);obtain⟨n,rfl⟩:=yJ r0;exact .fn h1 (.eq e (h n s1 (by omega) ok1))
theorem Ok.op (h:Ok (f ρ) s λd s1=>Ok (f2 ρ) s1 λe s2=>∃c,g d e=some c/\Q c s2):Ok (Zd g f f2 ρ) s Q:=
 .bind (h.mono λd s1 q=>.bind (q.mono λe s2 q=>let ⟨c,e1,q⟩:=q;.of e1 q))
theorem Ok.cons (h:Ok (f ρ) s λd s1=>Ok (fs ρ) s1 λds s2=>Q (d::ds) s2):Ok (Zb f fs ρ) s Q:=
 .bind (h.mono λd s1 q=>.bind (q.mono λe s2 q=>.ret q))
theorem Ok.nil (h:Q [] s):Ok (Ze ρ) s Q:=.ret h
theorem Ok.comp (P:D->Prop)(I:Pn->Prop)(hi:fi ρ s=some (ds,s))(hl:ds.length<=xg)(h0:I s)
  (hb:∀d∈ds,∀s,I s->∃ρ1,τ d (Wf src ρ)=some ρ1/\Ok (fe ρ1) s λc s'=>P c/\I s') (hq:∀r s',r.length=ds.length->(∀c∈r,P c)->I s'->Q (.lst r) s'):Ok (Yw src fi τ YN fe ρ) s Q:=by
 refine .bind (.eq hi ?_);exact .ite hl (.bind ((Zc1 P I ds s h0 hb).mono λr s' q=>.ret (hq r s' q.1 q.2.1 q.2.2)))
end TF
namespace TP
open L2 TF
theorem Zc5 (n:Nat):∀i,(Xv n i).Nodup
 | 0=>by simp[Xv]
 | i+1=>by
  rw[Bh,qaL];refine⟨Zc5 n i,?_,?_⟩
  ·refine yP.mpr (qaD.imp ?_ qaY)
   simp
  ·intro a ha b hb e
   have h1:=(Zbu ha).1;obtain⟨k,_,rfl⟩:=qA.mp hb;simp_all
theorem Zc6 (n:Nat):(XO n).Nodup:=Zc5 n n
theorem Zbv:p∈XO n↔p.1<p.2/\p.2<n:=by
 constructor
 ·intro h;exact(Zbu h).2
 ·intro ⟨h1,h2⟩
  refine List.mem_flatMap.mpr ⟨p.1,by simp;omega,qA.mpr ⟨p.2-(p.1+1),by simp;omega,?_⟩⟩
  grind
theorem Zfl (h:(Yv 0 n)[i]?=some d):i<n/\d=.int (i:Int):=by
 have:=ZaJ h;simp_all
noncomputable def YD (n:Nat)(ties:Qa):Prop:=ties.Sublist (XO n)
theorem YD.mem (h:YD n ties)(hp:p∈ties):p.1<p.2/\p.2<n:=Zbv.mp (h.subset hp)
theorem YD.len (h:YD n ties)(hn:n<=24):ties.length<=576:=by
 have h1:=h.length_le;have h2:=Zbt n n;have h3:=qbh hn hn;unfold XO at h1;omega
theorem YD.filter (f:Nat×Nat->Bool):YD n ((XO n).filter f):=zI
theorem ZcA (h:a<b):tied ties a b=decide ((a,b)∈ties):=by
 unfold tied
 grind
theorem ZbT (ties:Qa)(a b:Nat):tied ties a b=tied ties b a:=by
 unfold tied
 grind
theorem ZhL (n:Nat)(ties:Qa):Z0 (Z5 n ties)<=3:=by
 have:=Zbl ties;simp only[Z5,Z0,Xi];omega
theorem JZ:Zq (Z5 n ties) (.int 0)=some (.int n):=by rfl
theorem BW:Zq (Z5 n ties) (.int 1)=some (.tup (ties.map ZI)):=by rfl
theorem Zfm (way rate n i j:Nat)(somes:List D)(hi:i<somes.length)(hj:j<somes.length)(hs:∀c∈somes,∃k:Int,c=.int k)(x0 x1 x6:Option D)(s:Pn)(o9:Bool)
  (hg:∀b,Ok (g [x0,x1,some (.int n),some (.int way),some (.int rate),some (.lst somes),x6,some (.int i),some (.int j),some (.bl b)]) s Q) :
  Ok ((Zh (Z6 (Xb (Zu (Zd Ya (Za 3) (dC (.int 0)))) (Xb (Zu (Zd Ya (Zd Zq (Za 5) (Za 7)) (dC (.int 1)))) (Zu (Zd Ya (Zd Zq (Za 5) (Za 8)) (dC (.int 1))))))
 (Zh (ZF 9 (fun ρ=>(dC (.bl true)) (Y1 [6] ρ)))
 Zm)
 Zm)
 (Zh (Z6 (Zu (Zd Ya (Za 3) (dC (.int 1))))
 (Zh (ZF 9 (fun ρ=>(Jl (Zd Ya (Zd Wj (Za 8) (Za 7)) (dC (.int 1))) (Zd Ya (Zd Wj (Za 8) (Za 7)) (Zd Wj (Za 2) (dC (.int 1))))) (Y1 [6] ρ)))
 Zm)
 Zm) g)) [x0,x1,some (.int n),some (.int way),some (.int rate),some (.lst somes),x6,some (.int i),some (.int j),some (.bl o9)]) s Q:=by
 have Ui:∀a b:Int,Ya (.int a) (.int b)=some (.bl (a==b)):=λa b=>by
  unfold Ya;rw[if_pos (by simp[Vf,Zp,Z0])];simp[ZB]
 have ixs:∀k,k<somes.length->∃v:Int,Zq (.lst somes) (.int (k:Int))=some (.int v):=λk hk=>by
  obtain⟨v,hv⟩:=hs (somes[k]) (qaZ hk);exact⟨v,by rw[<-hv];exact W6 (by simp[hk])⟩
 obtain⟨v1,e1⟩:=ixs i hi;obtain⟨v2,e2⟩:=ixs j hj;have last:∀b,Ok ((Zh (Z6 (Zu (Zd Ya (Za 3) (dC (.int 1))))
 (Zh (ZF 9 (fun ρ=>(Jl (Zd Ya (Zd Wj (Za 8) (Za 7)) (dC (.int 1))) (Zd Ya (Zd Wj (Za 8) (Za 7)) (Zd Wj (Za 2) (dC (.int 1))))) (Y1 [6] ρ)))
 Zm)
 Zm) g) [x0,x1,some (.int n),some (.int way),some (.int rate),some (.lst somes),x6,some (.int i),some (.int j),some (.bl b)]) s Q:=by
  intro b;refine .seq (.sif (.eq (Yg (ZA (d:=.int (way:Int)) (e:=.int 1) rfl rfl (Ui _ _))) ?_));split
  ·refine .seq (.sset ?_)
   refine .bind (.eq (ZA (d:=.int ((j:Int)-i)) (e:=.int 1) (ZA (d:=.int (j:Int)) (e:=.int (i:Int)) rfl rfl rfl) rfl (Ui _ _)) ?_);generalize ((j:Int)-i==1)=c
   cases c with
   | true=>
    refine .ret (.next ?_);exact hg true
   | false=>
    refine .eq (ZA (d:=.int ((j:Int)-i)) (e:=.int ((n:Int)-1)) (ZA (d:=.int (j:Int)) (e:=.int (i:Int)) rfl rfl rfl) (ZA (d:=.int (n:Int)) (e:=.int 1) rfl rfl rfl) (Ui _ _)) (.next ?_);exact hg _
  ·refine .next ?_
   exact hg b
 refine .seq (.sif (.band (.eq (Yg (ZA (d:=.int (way:Int)) (e:=.int 0) rfl rfl (Ui _ _))) ?_)));split
 ·refine .band (.eq (Yg (ZA (d:=.int v1) (e:=.int 1) (ZA (d:=.lst somes) (e:=.int (i:Int)) rfl rfl e1) rfl (Ui _ _))) ?_)
  split
  ·refine .eq (Yg (ZA (d:=.int v2) (e:=.int 1) (ZA (d:=.lst somes) (e:=.int (j:Int)) rfl rfl e2) rfl (Ui _ _))) ?_
   split
   ·refine .seq (.sset (.eq (a:=.bl true) rfl ?_))
    refine .next ?_;exact last true
   ·refine .next ?_
    exact last o9
  ·refine .next ?_
   exact last o9
 ·refine .next ?_
  exact last o9
theorem Zmh {l:Qa}(h:l.Sublist (Xv n i++(qu j).map λk=>(i,i+1+k)))(hn:n<=1000)(hi:i<n)(hj:j<=n):(l.map ZI).length<xg:=by
 have h1:=h.length_le;rw[zO,qp,zb]at h1;have h2:=ZhK n i j hn hi hj
 grind
theorem ZnM (ok:YL s)(most:Nat)(hm:most<=24):Ok (Bg [.pen,.int (most:Int)]) s λd s'=>YL s'/\∃n ties,d=Z5 n ties/\n<=most/\YD n ties:=by
 refine Ok.runB rfl ?_;refine Ok.seq (.sset (.draw (m:=most+1) ok (Zg rfl (Zg (ZA (d:=.int (most:Int)) (e:=.int 1) rfl rfl rfl) rfl)) (by omega) (by omega) λn s1 hn ok1=>?_));refine Ok.seq (.spar (.cons (.draw (m:=4) ok1 (Zg rfl (Zg rfl rfl)) (by omega) (by omega) λway s2 hw ok2=>.cons (.op (.eq (a:=.int 1) rfl (.draw (m:=3) ok2 (Zg rfl (Zg rfl rfl)) (by omega) (by omega) λr s3 hr ok3=>⟨.int ((1+r:Nat):Int),by simp[YK],.nil ⟨_,_,rfl,rfl,rfl,?_⟩⟩))))));refine Ok.seq (.sset (.comp (ds:=Yv 0 n) (λc=>∃k:Int,c=.int k) YL (Up rfl (by omega)) (Zeu (by omega)) ok3 (λd hd s ok=>⟨_,rfl,.draw (m:=2) ok (Zg rfl (Zg rfl rfl)) (by omega) (by omega) λr s' _ ok'=>⟨⟨_,rfl⟩,ok'⟩⟩) λsomes s4 hl hs ok4=>?_));rw[W5]at hl;refine Ok.seq (.sown (.eq (a:=.lst []) rfl ⟨rfl,?_⟩));refine Ok.seq (.sfor (λi ρ s'=>YL s'/\∃(ties:Qa) (o7 o8 o9:Option D),ties.Sublist (Xv n i)/\ρ=[some .pen,some (.int (most:Int)),some (.int (n:Int)),some (.int (way:Int)),some (.int ((1+r:Nat):Int)),some (.lst somes),some (.lst (ties.map ZI)),o7,o8,o9]) (.eq (Up rfl (by omega)) ⟨⟨ok4,[],none,none,none,List.nil_sublist _,rfl⟩,λi d ρ s' hd hI=>?_,fun ρ' s' hI=>?_⟩))
 ·obtain⟨ok5,ties,o7,o8,o9,hsub,rfl⟩:=hI
  obtain⟨hi,rfl⟩:=Zfl hd;refine⟨_,rfl,?_⟩;refine Ok.seq (.sfor (λj ρ s'=>YL s'/\∃(ties:Qa) (o8 o9:Option D),ties.Sublist (Xv n i++(qu j).map λk=>(i,i+1+k))/\ρ=[some .pen,some (.int (most:Int)),some (.int (n:Int)),some (.int (way:Int)),some (.int ((1+r:Nat):Int)),some (.lst somes),some (.lst (ties.map ZI)),some (.int (i:Int)),o8,o9]) (.eq (ZdU (a:=i+1) (n:=n) (ZA (d:=.int (i:Int)) (e:=.int 1) (c:=.int ((i+1:Nat):Int)) rfl rfl (by simp[YK])) rfl (by omega) (by omega)) ⟨⟨ok5,ties,o8,o9,by simpa using hsub,rfl⟩,λj d ρ s' hd hJ=>?_,fun ρ' s' hJ=>?_⟩))
  ·obtain⟨ok6,ties,o8,o9,hsub,rfl⟩:=hJ
   obtain⟨hj,rfl⟩:=ZaJ hd;refine⟨_,rfl,?_⟩;refine Ok.seq (.sset (.op (.draw (m:=4) ok6 (Zg rfl (Zg rfl rfl)) (by omega) (by omega) λv s7 hv ok7=>.eq (a:=.int ((1+r:Nat):Int)) rfl ⟨_,rfl,?_⟩)));have fin:∀b,Ok (Zh (Z6 (Zu (Za 9)) (Zh (UD 6 (fun ρ=>(Yi (Zb (Za 7) (Zb (Za 8) Ze))) (Y1 [6] ρ))) Zm) Zm) Zm [some .pen,some (.int (most:Int)),some (.int (n:Int)),some (.int (way:Int)),some (.int ((1+r:Nat):Int)),some (.lst somes),some (.lst (ties.map ZI)),some (.int (i:Int)),some (.int ((i+1+j:Nat):Int)),some (.bl b)]) s7
     λo s'=>∃ρ',o=.nx ρ'/\YL s'/\∃(ties:Qa) (o8 o9:Option D),ties.Sublist (Xv n i++(qu (j+1)).map λk=>(i,i+1+k))/\ρ'=[some .pen,some (.int (most:Int)),some (.int (n:Int)),some (.int (way:Int)),some (.int ((1+r:Nat):Int)),some (.lst somes),some (.lst (ties.map ZI)),some (.int (i:Int)),o8,o9]:=by
    intro b;refine Ok.seq (.sif (.eq (Yg rfl) ?_))
    cases b with
    | true=>
     refine .seq (.sapp (ds:=ties.map ZI) rfl (Zmh hsub (by omega) hi (by omega)) (.eq (XI (Zg rfl (Zg rfl rfl)) Vu) ?_));refine .next (.next ⟨_,rfl,ok7,ties ++ [(i,i+1+j)],some (.int ((i+1+j:Nat):Int)),some (.bl true),?_,?_⟩)
     ·rw[qai,qQ,<-qaK]
      exact List.Sublist.append hsub (List.Sublist.refl _)
     ·rw[qQ];rfl
    | false=>
     refine .next (.next ⟨_,rfl,ok7,ties,some (.int ((i+1+j:Nat):Int)),some (.bl false),?_,rfl⟩);rw[qai,qQ,<-qaK];exact hsub.trans (qa0 _ _)
   exact Zfm way (1+r) n i (i+1+j) somes (by omega) (by omega) hs (some .pen) (some (.int (most:Int))) (some (.lst (ties.map ZI))) s7 (decide ((v:Int)<((1+r:Nat):Int))) fin
  ·obtain⟨ok6,ties,o8',o9',hsub,rfl⟩:=hJ
   refine Ok.next ⟨_,rfl,ok6,ties,some (.int (i:Int)),o8',o9',?_,rfl⟩;rw[Bh]
   rwa[W5]at hsub
 ·obtain⟨ok5,ties,o7,o8,o9,hsub,rfl⟩:=hI
  rw[W5]at hsub;exact Ok.seq (.sret (.eq (XI (Zg rfl (Zg (YB (Zg rfl rfl) rfl) rfl)) Vu) ⟨ok5,n,ties,rfl,by omega,hsub⟩))
end TP
namespace HT
section
variable {prog:xy}{w:World}{A:xz}{E:xA}{s:Shared}
theorem getItem_tuple_whole {lo:Option Int}(ht:IsTup s.heap t items)(hs:s.heap.IsSliceOf sl vl vu .none)(pl:IsPart vl lo)(pu:IsPart vu hi)
  (hw:sIx items.size 0 lo=0/\sIx items.size items.size hi=items.size)
  (h:Q (.ref t) s)
  (hsz:items.size<=xg):xf (xw prog w) A (getItem (.ref t) (.ref sl)) Q E s:=by
 obtain⟨os,hos,hcs,hds⟩:=id hs;have hTs:s.TypeIs (.ref sl) "slice":=⟨os,hos,hcs⟩;unfold getItem
 try with_reducible refine xt ?_
 first | refine xa (xb ?_) | skip
 refine xa (wpAny_sequenceKey ht.typeIs (by decide) ?_);refine xa (wpAny_callSpecial?_slot (name:=qd "__getitem__") ht.typeIs qX
  (wpAny_call_entry qX ht.typeIs entry_tuple_getitem ?_ (args_tuple_getitem _ _)))
 show xf _ _ (qaC (.ref t) >>= _) _ _ s;refine xa (tupleItemsOf_ ht ?_);refine xa (wpAny_typeOf hTs ?_);rw[if_pos (by decide)];refine xa (ZaA hs pl pu ?_);have hyes:((((sIx items.size 0 lo:Nat):Int)==0&&(1:Int)==1&&(sIx items.size items.size hi-sIx items.size 0 lo)==items.size)=true):=by
  rw[hw.1,hw.2];simp
 show xf _ _ (if (((sIx items.size 0 lo:Nat):Int)==0&&(1:Int)==1&&(sIx items.size items.size hi-sIx items.size 0 lo)==items.size)=true then _ else _) _ _ s;rw[if_pos hyes];refine xa (xa (wpAny_typeOf ht.typeIs ?_));refine xb ?_;refine xa (wpAny_rule ?_)
 first
  | rfl
  | exact xa (xb (xb ⟨_,rfl,xb h⟩))
end
end HT
namespace TF
open L2
noncomputable def ZoE (K:qf):V->Option Int->Option Int->Hp->VK->Prop:=λx lo hi H Q=>∃a xs,x=.ref a/\ZU K H a xs/\
 (HT.sIx xs.length 0 lo=0/\HT.sIx xs.length xs.length hi=xs.length)/\Q (.ref a) H
section
variable {X:Cx}{G:Gh}
theorem Zmi:UI X (ZoE X.K):=by
 intro jJ s σ H x v vl vu lo hi sl Q I rx hs pl pu h;obtain⟨a,xs,rfl,hx,hw,q⟩:=h
 cases rx
 obtain⟨jK,r,ht,hz⟩:=I.tuple hx;have jR:jK.toArray.size=xs.length:=(r.length.symm);refine⟨"tuple",_,qX.lookup,ht.typeIs,?_⟩;exact HT.getItem_tuple_whole ht hs pl pu (by rw[jR];exact hw) ⟨.ref a,H,I,rfl,q⟩ (by rw[jR];exact hz)
noncomputable def Vh (ds:List D)(lo hi:Option Int):List D:=(ds.drop (HT.sIx ds.length 0 lo)).take (HT.sIx ds.length ds.length hi-HT.sIx ds.length 0 lo)
noncomputable def POD (X:Cx)(G:Gh)(e:Option Expr)(f:Zc->M (Option Int)):Prop:=
 ∃t,PO X e t/\∀(σ:St) (Hf H:Hp) (ρ:Zc) (s:Pn) (o:Option Int) (s':Pn) (Q:Option Int->Hp->Prop),Zz G Hf H->Yh G Hf σ ρ->G.st s H->f ρ s=some (o,s')->
  (∀Hf' H',Gr G Hf H Hf' H'->G.st s' H'->Q o H')->t σ H Q
noncomputable def Zko:Zc->M (Option Int):=λ_=>ZL none
noncomputable def Zkp (f:Zc->M D):Zc->M (Option Int):=fun ρ=>Zk (f ρ) λd=>match d with | .int i=>ZL (some i) | _=>ZK
theorem Zkq:POD X G none Zko:=⟨_,ZlT,fun σ Hf H ρ s o s' Q e1 e2 e3 e4 k=>by
 obtain⟨rfl,rfl⟩:=ZP e4;exact k Hf H (.refl e1) e3⟩
theorem Zkr (h:PD X G r1 e f):POD X G (some e) (Zkp f):=by
 obtain⟨t,p,q⟩:=h.drop;refine⟨_,ZlU p,fun σ Hf H ρ s o s' Q e1 e2 e3 e4 k=>?_⟩;obtain⟨d,s1,a1,a2⟩:=Zv e4;refine q σ Hf H ρ s d s1 _ e1 e2 e3 a1 λv jW H1 g1 j9 r1=>?_
 match d,a2,r1 with
 | .int i,a2,r1=>
  obtain⟨rfl,rfl⟩:=ZP a2;exact⟨i,ja.mp r1,k jW H1 g1 j9⟩
noncomputable def BB (f:Zc->M D)(fl fh:Zc->M (Option Int)):Zc->M D:=fun ρ=>Zk (f ρ) λd=>Zk (fl ρ) λlo=>Zk (fh ρ) λhi=>match d with
 | .tup ds=>ZL (.tup (Vh ds lo hi))
 | .lst ds=>ZL (.lst (Vh ds lo hi))
 | _=>ZK
theorem ZhM (r:Zi G Hf ds vs)(lo hi:Option Int):Zi G Hf (Vh ds lo hi) (UC vs lo hi):=by
 unfold Vh UC;rw[r.length];exact(r.drop _).take _
theorem ZgT {lo:Option Int}(h:HT.sIx ds.length 0 lo=0/\HT.sIx ds.length ds.length hi=ds.length):Vh ds lo hi=ds:=by
 unfold Vh;simp_all
theorem Zks {lo:Option Expr}(he:PD X G r1 e f)(hl:POD X G lo fl)(hh:POD X G hi fh):PD X G true (.Subscript e (.Slice lo hi none p2) pos) (BB f fl fh):=by
 obtain⟨t,p,q⟩:=he.drop;obtain⟨tl,pl,ql⟩:=hl;obtain⟨th,ph,qh⟩:=hh;refine⟨_,ZjO (ZlW.or (Zny.or Zmi)) p pl ph,fun σ Hf H ρ s d s' Q e1 e2 e3 e4 k=>?_⟩;obtain⟨d0,s1,a1,a2⟩:=Zv e4;obtain⟨lo',s2,a3,a4⟩:=Zv a2;obtain⟨hi',s3,a5,a6⟩:=Zv a4;refine q σ Hf H ρ s d0 s1 _ e1 e2 e3 a1 λv jW H1 g1 j9 r1=>?_;refine ql σ jW H1 ρ s1 lo' s2 _ g1.fh (e2.ext g1.ff) j9 a3 λjZ H2 g2 j6=>?_;refine qh σ jZ H2 ρ s2 hi' s3 _ g2.fh ((e2.ext g1.ff).ext g2.ff) j6 a5 λHf3 H3 g3 st3=>?_;have rr:=(r1.ext g2.ff).ext g3.ff;have g:=(g1.trans g2).trans g3
 match d0,a6,rr with
 | .lst ds,a6,rr=>
  obtain⟨rfl,rfl⟩:=ZP a6;obtain⟨a,vs,rfl,na,ha,ra⟩:=jc.mp rr;refine .inl ⟨a,vs,rfl,ZJ.of (g.fh _ _ na ha),λl hl=>?_⟩;have nf:=Gh.nofp st3 hl;have g2:=Gr.new (o:=.lst (UC vs lo' hi')) g.fh hl nf;have rr:=ZhM ra lo' hi';exact k (.ref l) _ _ (g.trans g2) (Gh.grow st3 hl) (jc.mpr ⟨l,_,rfl,nf,ZG,rr.ext g2.ff⟩) λ_=>Z3.old g.hh (λa ea _=>by cases ea;exact nf) (Z3.mk g.fh hl nf rr)
 | .tup ds,a6,rr=>
  obtain⟨rfl,rfl⟩:=ZP a6;obtain⟨a,vs,rfl,na,ha,ra⟩:=jb.mp rr;by_cases hw:HT.sIx vs.length 0 lo'=0/\HT.sIx vs.length vs.length hi'=vs.length
  ·refine .inr (.inr ⟨a,vs,rfl,ZU.of (g.fh _ _ na ha),hw,?_⟩)
   rw[<-ra.length]at hw;exact k (.ref a) _ _ g st3 (by rw[ZgT hw];exact rr) λ_=>.scal λz=>z
  ·refine .inr (.inl ⟨a,vs,rfl,ZU.of (g.fh _ _ na ha),hw,λl hl=>?_⟩)
   have nf:=Gh.nofp st3 hl;have g2:=Gr.new (o:=.tup (UC vs lo' hi')) g.fh hl nf;exact k (.ref l) _ _ (g.trans g2) (Gh.grow st3 hl) (jb.mpr ⟨l,_,rfl,nf,ZG,(ZhM ra lo' hi').ext g2.ff⟩) λ_=>.scal λz=>z
noncomputable def J4 (o:Option D):M Bool:=match o with | some (.bl k)=>ZL k | _=>ZK
theorem Zfn (h:J4 o s=some (b,s')):o=some (.bl b)/\s'=s:=by
 unfold J4 at h;split at h
 ·obtain⟨rfl,rfl⟩:=ZP h
  simp
 ·cases h
theorem ZX.none {K:qf}(hm:mg x=some (.ref f))(hk:qY K (.ref f)=true)(hb:YC K fd ps []) :
  ZX P w K mg base k x n fr GG (λ_=>ZK):=by
 refine⟨f,fd,ps,⟨λvs H Q E h=>?_,λA outer s H args us vs Q E _ _ _ _ h=>?_⟩,hm,hk,hb⟩
 ·obtain⟨G,Hf,ds,s,d,s',_,_,_,_,_,h,_⟩:=h
  cases h
 ·obtain⟨G,Hf,ds,s,d,s',_,_,_,_,_,h,_⟩:=h
  cases h
end
open PySem.SeqAt
open AutoSeq1 (wpAny_loadPart')
theorem ZgU (l:Addr)(items:Array Value)(n:Nat)(dd:Option Addr)(sl:Array (Option Value))(x:Int)(u:Tok)(hc0:¬((x < -(2 ^ 63):Bool)||(x≥2 ^ 63:Bool))=true)(hc1:¬(items.isEmpty||x==1)=true)(hc2:¬((x<=0:Bool)||items.isEmpty)=true)
  (hc3:¬((items.size:Int)*x > (2 ^ 63-1) / 8)) (hc4:¬qaE ((items.size:Int)*x)=true) (hsz:(qae (λx1 x2=>x1++x2) #[] (qk x.toNat items)).size<=xg) :
  Meets (Builtin.«tuple.__mul__» ⟨[.ref l,.int x u],[]⟩) (λ_ R s=>s.heap.get? l=some { cls:=.type "tuple",dict:=dd,data:=.seq items n,slots:=sl }/\R (.ok (.ret (qm s.heap.objs.size))) { s with heap:=s.heap.push { cls:=qaN "tuple",data:=Data.seq (qae (λx1 x2=>x1++x2) #[] (qk x.toNat items)) },toks:=s.toks }):=
 .of_wp λprog w A R s h=>by
  obtain⟨hp,g,d,tk,os⟩:=s;obtain⟨hl,h⟩:=h;have f1:=qa1;have f2:=zU;have f3:=yU;have f4:=yK;have f5:=yL;wp_walk using wpAny_loadPart' hl;rw[if_neg hc0];wp_walk using wpAny_loadPart' hl;rw[if_neg hc3];wp_walk using wpAny_loadPart' hl
  try (refine wpAny_ite_false (decide_eq_false (Nat.not_lt.mpr hsz)) ?_;wp_walk)
  exact⟨_,rfl,h⟩
theorem Zag:fillsNumberSlot (.type "tuple") "mul" = pure false:=
 PySem.fillsNumberSlot_seq yi.lookup (by rfl) PySem.F.slot_tuple_rmul.lookup (by rfl)
theorem ZaL:seqRepeat? (.type "tuple")=pure (some (.builtin "tuple.__mul__")):=by
 rfl
theorem Zaq (a:Int)(t:Tok)(l:Addr)(items:Array Value)(n:Nat)(dd:Option Addr)(sl:Array (Option Value)) :
  Meets (Builtin.«int.__rmul__» ⟨[.int a t,.ref l],[]⟩) (λ_ R s=>s.heap.get? l=some { cls:=.type "tuple",dict:=dd,data:=.seq items n,slots:=sl }/\R (.ok (.ret qbq)) s):=
 .of_wp λprog w A R s h=>by obtain⟨hl,h⟩:=h;wp_walk;exact⟨_,rfl,h⟩
section
variable {X:Cx}{G:Gh}
noncomputable def ZoF (K:qf):R2:=λx y H Q=>∃l k xs,x=.ref l/\y=.int k/\ZU K H l xs/\xs≠[]/\2<=k/\k<2 ^ 62/\xs.length*k.toNat<=xg/\
 ∀p,H p=none->Q (.ref p) (upd H p (.tup (qk k.toNat xs).flatten))
theorem Zmj:Yc X (binaryOp .Mult) (ZoF X.K):=by
 intro jJ s σ H x y v u Q I rx ry h;obtain⟨l,k,xs,rfl,rfl,hH,hne,h1,h2,hz,q⟩:=h
 cases rx
 obtain⟨t,rfl⟩:=ry;obtain⟨jK,r,p1,_⟩:=I.tuple hH;obtain⟨⟨cls,dd,data,sl⟩,ho,hc,n,hd⟩:=id p1;simp only at hc hd;subst hc hd;have hl:=r.length;have hsz:jK.toArray.size=xs.length:=by rw[za];exact hl.symm
 have hne':jK≠[]:=λz=>hne (r.nil_iff.mp z);have hemp:jK.toArray.isEmpty=false:=by cases jK with | nil=>exact absurd rfl hne' | cons a b=>rfl
 have e0:((k.toNat:Nat):Int)=k:=by omega
 have hcap:((jK.toArray.size:Int)*k)=((xs.length*k.toNat:Nat):Int):=by rw[hsz,Int.natCast_mul,e0]
 have sl2:(xg:Nat)=16777216:=sizeLine_eq;have hnew:qae (λx1 x2=>x1++x2) #[] (qk k.toNat jK.toArray)=(qk k.toNat jK).flatten.toArray:=by
  have:=ZbO jK k.toNat [];rw[List.nil_append]at this;exact this
 have hfl:(qk k.toNat jK).flatten.length<=xg:=by rw[Zei,qbH,<-hl];exact hz
 refine wpAny_binaryOp_repeat_ref (T:="tuple") (U:="int") (by decide) ⟨_,ho,rfl⟩ (λs'=>typeIs_int s' k t) Zag qaf zD ZaL yX.lookup
  (call_meets zD (typeIs_int s k t) yY (yO _ _) (Zaq k t l jK.toArray n dd sl)
   ⟨ho,rfl,⟨_,ho,rfl⟩,call_meets yi ⟨_,ho,rfl⟩ yM (yF _ _) (ZgU l jK.toArray n dd sl k t ?_ ?_ ?_ ?_ ?_ ?_) ⟨ho,?_⟩⟩)
 ·simp;omega
 ·rw[hemp];simp;omega
 ·rw[hemp];simp;omega
 ·rw[hcap];omega
 ·unfold qaE
  grind
 ·rw[hnew];exact hfl
 ·rw[hnew]
  exact⟨.ref s.heap.objs.size,_,I.laid (o:=.tup (qk k.toNat xs).flatten) (λb ob q=>qj _ q) (qq _) ⟨by rw[Zei,qbH];exact hz,_,r.rep k.toNat,qax _ _⟩,rfl,q _ (I.hok.fresh (qq _))⟩
theorem Zi.rep (r:Zi G Hf ds vs):∀k:Nat,Zi G Hf (qk k ds).flatten (qk k vs).flatten
 | 0=>Zi.nil_iff.mpr rfl
 | k+1=>by
  exact r.append (Zi.rep r k)
noncomputable def Vz:D->D->Option D
 | .int i,.int j=>if U6 i j=true then some (.int (i*j))else none
 | .tup ds,.int k=>if ds≠[]/\2<=k/\k<2 ^ 62/\ds.length*k.toNat<=xg then some (.tup (qk k.toNat ds).flatten)else none
 | .lst ds,.int k=>if -(2 ^ 63)<=k/\k<2 ^ 63/\ds.length*k.toNat<=xg then some (.lst (qk k.toNat ds).flatten)else none
 | _,_=>none
theorem Zfo:Xm X G (binaryOp .Mult) Vz:=by
 obtain⟨r0,po,qo⟩:=Us (X:=X) (G:=G);refine⟨_,po.or (Zmj.or ZnE),λHf H s x y d e c Q e1 st rx ry q k=>?_⟩
 match d,e,q,rx,ry with
 | .int i,.int j,q,rx,ry=>exact .inl (qo Hf H s x y _ _ c Q e1 st rx ry q k)
 | .tup ds,.int j,q,rx,ry=>
  have q:(if ds≠[]/\2<=j/\j<2 ^ 62/\ds.length*j.toNat<=xg then some (D.tup (qk j.toNat ds).flatten)else none)=some c:=q;split at q
  ·rename_i hz
   cases q
   obtain⟨p,vs,rfl,np,hp,rp⟩:=jb.mp rx;refine .inr (.inl ⟨p,j,vs,rfl,ja.mp ry,ZU.of (e1 _ _ np hp),λz=>hz.1 (zZ.mp (by rw[rp.length,z];rfl)),hz.2.1,hz.2.2.1,by rw[<-rp.length];exact hz.2.2.2,λl hl=>?_⟩);have nf:=Gh.nofp st hl;have g2:=Gr.new (o:=.tup (qk j.toNat vs).flatten) e1 hl nf;exact k (.ref l) _ _ g2 (Gh.grow st hl) (jb.mpr ⟨l,_,rfl,nf,ZG,(rp.rep _).ext g2.ff⟩) (.scal λz=>z)
  ·cases q
 | .lst ds,.int j,q,rx,ry=>
  have q:(if -(2 ^ 63)<=j/\j<2 ^ 63/\ds.length*j.toNat<=xg then some (D.lst (qk j.toNat ds).flatten)else none)=some c:=q;split at q
  ·rename_i hz
   cases q
   obtain⟨p,vs,rfl,np,hp,rp⟩:=jc.mp rx;refine .inr (.inr ⟨p,j,vs,rfl,ja.mp ry,e1 _ _ np hp,hz.1,hz.2.1,by rw[<-rp.length];exact hz.2.2,λl hl=>?_⟩);have nf:=Gh.nofp st hl;have g2:=Gr.new (o:=.lst (qk j.toNat vs).flatten) e1 hl nf;exact k (.ref l) _ _ g2 (Gh.grow st hl) (jc.mpr ⟨l,_,rfl,nf,ZG,(rp.rep _).ext g2.ff⟩) (Z3.mk e1 hl nf (rp.rep _))
  ·cases q
end
end TF
namespace TF
open L2
section
variable {X:Cx}{G:Gh}
theorem Zkt:PD X G true (.UnaryOp .USub (.Constant (.int i) j p) pos) (dC (.int (-i))):=by
 refine⟨_,ZmU ZjC Xf,fun σ Hf H ρ s d s' Q e1 e2 e3 e4 k=>?_⟩;obtain⟨rfl,rfl⟩:=ZP e4;exact⟨i,rfl,k _ Hf H (.refl e1) e3 (ja.mpr rfl) λ_=>.scal λz=>z⟩
end
section
variable {f g:Zc->M D}{ρ:Zc}{s s1:Pn}{a b:Bool}{r:Option (D×Pn)}
theorem BC (h:f ρ s=some (.bl true,s1))(h2:g ρ s1=r):Wh f g ρ s=r:=by unfold Wh Zk;simp_all
theorem Zew (h:f ρ s=some (.bl false,s1)):Wh f g ρ s=some (.bl false,s1):=by unfold Wh Zk;rw[h];rfl
theorem ZhN (h:f ρ s=some (.bl a,s))(h2:a=true->g ρ s=some (.bl b,s)):Wh f g ρ s=some (.bl (a&&b),s):=by
 cases a with
 | false=>exact Zew h
 | true=>exact BC h (h2 rfl)
theorem JB (h:f ρ s=some (.bl a,s1)):WB f ρ s=some (.bl (!a),s1):=by unfold WB Zk;rw[h];rfl
end
section
variable {f g:Zc->M Bool}{ρ:Zc}{s s1:Pn}{a b:Bool}{r:Option (Bool×Pn)}
theorem ZnN (h:f ρ s=some (false,s1)):Xb f g ρ s=some (false,s1):=by unfold Xb Zk;rw[h];rfl
theorem ZnO (h:f ρ s=some (true,s1))(h2:g ρ s1=r):Xb f g ρ s=r:=by unfold Xb Zk;rw[h];exact h2
theorem ZoG (h:f ρ s=some (true,s1)):X0 f g ρ s=some (true,s1):=by unfold X0 Zk;rw[h];rfl
theorem Zku (h:f ρ s=some (false,s1))(h2:g ρ s1=r):X0 f g ρ s=r:=by unfold X0 Zk;rw[h];exact h2
theorem ZnP (h:f ρ s=some (a,s))(h2:a=false->g ρ s=some (b,s)):X0 f g ρ s=some (a||b,s):=by
 cases a with
 | true=>exact ZoG h
 | false=>exact Zku h (h2 rfl)
theorem Zex (h:f ρ s=some (a,s))(h2:a=true->g ρ s=some (b,s)):Xb f g ρ s=some (a&&b,s):=by
 cases a with
 | false=>exact ZnN h
 | true=>exact ZnO h (h2 rfl)
end
section
variable {c:Zc->M Bool}{g1 g2:Zc->M Out}{ρ:Zc}{s s1:Pn}{r:Option (Out×Pn)}
theorem ZhO (h:c ρ s=some (true,s1))(h2:g1 ρ s1=r):Z6 c g1 g2 ρ s=r:=by unfold Z6 Zk;rw[h];exact h2
theorem U8 (h:c ρ s=some (false,s1))(h2:g2 ρ s1=r):Z6 c g1 g2 ρ s=r:=by unfold Z6 Zk;rw[h];exact h2
end
section
variable {fa fb:Zc->M D}{f:D->Zc->M Bool}{g:D->D->Option D}{ρ:Zc}{s s1 s2:Pn}{d e:D}{k:Bool}{r:Option (Bool×Pn)}
end
theorem Ui (a b:Int):Ya (.int a) (.int b)=some (.bl (a==b)):=by
 rfl
theorem nei (a b:Int):Yo (.int a) (.int b)=some (.bl (!(a==b))):=by
 rfl
theorem ZhP {ds:List D}(h:r<ds.length):∃d∈ds,Zq (.lst ds) (.int (r:Int))=some d:=
 ⟨ds[r],qaZ h,W6 (zE h)⟩
theorem Zbw (h:τ d ρ=some ρ1)(hb:body ρ1 s=some (.nx ρ2,s1))(h2:Wi τ body ds ρ2 s1=r):Wi τ body (d::ds) ρ s=r:=by
 unfold Wi Zk Yy;simp_all
theorem Zey (h:τ d ρ=some ρ1)(hb:body ρ1 s=some (.rt e,s1)):Wi τ body (d::ds) ρ s=some (.rt e,s1):=by
 unfold Wi Zk Yy;simp only[h,hb];rfl
theorem ZhQ (h:fi ρ s=some (ds,s1))(h2:Wi τ body ds ρ s1=r):XW fi τ body ρ s=r:=by
 unfold XW Zk;simp_all
theorem Zmk (h:f ρ s=some (.tup ds,s1)):Uw f ρ s=some (ds,s1):=by unfold Uw Zk;rw[h];rfl
theorem VW (h:f ρ s=some (.lst ds,s1)):YF f ρ s=some (ds,s1):=by unfold YF Zk;rw[h];rfl
end TF
namespace TP
open L2 TF
noncomputable def XB:D->Bool
 | .non=>true | .bl _=>true | .int _=>true | .str _=>true | .tup _=>true | .lst _=>true | _=>false
noncomputable def intB:D->Bool | .int _=>true | .bl _=>true | _=>false
noncomputable def ZmX:D->Bool | .bl _=>true | _=>false
noncomputable def Zkv:D->Bool | .int _=>true | _=>false
theorem ZhR (h:XB d=true):Jd [d,.ty "int"]=some (.bl (intB d)):=by
 cases d <;> first | rfl | cases h
theorem Zfp (h:XB d=true):Jd [d,.ty "bool"]=some (.bl (ZmX d)):=by
 cases d <;> first | rfl | cases h
theorem Zfq (h:XB d=true)(s:Pn):ZaI [d] s=some (.bl (Zkv d),s):=by
 refine Y8 rfl (YM (Y9 ?_));have e:Zkv d=((intB d) && !(ZmX d)):=by cases d <;> rfl
 rw[e];exact ZhN (YB (Zg rfl (Zg rfl rfl)) (ZhR h)) λ_=>JB (YB (Zg rfl (Zg rfl rfl)) (Zfp h))
noncomputable def VZ (n:Int):D->Bool | .int i=>decide (0<=i)&&decide (i<n) | _=>false
theorem Jq (h:VZ n d=true):∃i,d=.int i:=by
 cases d <;> first | exact⟨_,rfl⟩ | cases h
theorem Zat (h:XB d=true)(n:Int)(s:Pn):WH [.int n,d] s=some (.bl (VZ n d),s):=by
 refine Y8 rfl (YM (Y9 ?_));have hw:=Yn (ρ:=[some (D.int n),some d]) (fs:=Zb (Za 1) Ze) (Zg rfl rfl) (Zfq h s)
 cases d with
 | int i=>exact BC hw (ZhN (ZA rfl rfl rfl) λ_=>ZA rfl rfl rfl)
 | pen=>cases h
 | ty _=>cases h
 | clo _ _=>cases h
 | dk _=>cases h
 | dt _=>cases h
 | _=>exact Zew hw
theorem Jr {α:Type}(l:List α):l.filter (λ_=>true)=l:=qaq.mpr (by simp)
end TP
namespace TF
open L2
section
variable {f:Zc->M D}{fs:Zc->M (List D)}{ρ:Zc}{s:Pn}
end
theorem Zfr (h:f ρ s=some (.tup ds,s))(hl:fl ρ s=some (ll,s))(hh:fh ρ s=some (hi,s)):BB f fl fh ρ s=some (.tup (Vh ds ll hi),s):=by
 unfold BB Zk;simp only[h,hl,hh];rfl
theorem Zkw {GG:Gh->Prop}(h:∀G,GG G->Xp X G ob own own' fr sts g):YU X sts (λE σ H=>∃G,GG G/\V5 G ob own own' fr g E σ H):=by
 intro jJ s σ H D I ⟨G,hG,kn,jO,H0,ρ,pn,out,pn',j,st,e,po⟩;obtain⟨t,p,q⟩:=h G hG;exact p jJ s σ H D I (q kn jO H0 σ H ρ pn out pn' D j st e po)
theorem ZnQ {K:qf}(sq:ZJ K H a xs)(hp:H p=none):ZJ K (upd H p o) a xs:=by
 have hne:∀u,H a=some u->a≠p:=λu e z=>by grind
 rcases sq with(q | ⟨o',q⟩) | q
 ·exact .inl (.inl (by rw[Zj (hne _ q)];exact q))
 ·exact .inl (.inr ⟨o',by rw[Zj (hne _ q)];exact q⟩)
 ·exact .inr q
noncomputable def XD (L:List (Addr×Str))(b:Addr):Prop:=∃q,(b,q)∈L
noncomputable def ZmY (G0:Gh)(L:List (Addr×Str))(P:Addr)(q:Str)(H:Hp):Prop:=∃ps,H P=some (.tbl ps)/\TriplesOk ps.toList/\∀pos cv,codeAmong pos ps.toList=some cv->∃c',cv=.ref c'/\H c'=some (.ext (codeφ c' q))/\¬G0.fp c'/\¬XD L c'
noncomputable def U9 (G0:Gh)(L:List (Addr×Str)):Gh where
 fp:=λb=>G0.fp b∨XD L b
 rd:=λb=>G0.rd b∨XD L b
 pen:=G0.pen
 st:=λs H=>G0.st s H/\∀P q,(P,q)∈L->ZmY G0 L P q H
 mono:=λs H H' ⟨h1,h2⟩ k1 k2 k3=>⟨G0.mono s H H' h1 (λb o r=>k1 b o (.inl r)) k2 k3,λP q m=>by
  obtain⟨ps,e,t,h⟩:=h2 P q m;refine⟨ps,k1 P _ (.inr ⟨q,m⟩) e,t,λpos cv hc=>?_⟩;obtain⟨c',z1,z2,z3⟩:=h pos cv hc;exact⟨c',z1,k2 _ _ z2,z3⟩⟩
 sub:=λb h=>h.elim (λz=>.inl (G0.sub b z)) .inr
 dom:=λs H b ⟨h1,h2⟩ hb=>by
  rcases hb with z | ⟨q,m⟩
  ·exact G0.dom s H b h1 z
  ·obtain⟨ps,e,_⟩:=h2 b q m
   exact⟨_,e⟩
 ntp:=λs H b vs ⟨h1,h2⟩ hb=>by
  rcases hb with z | ⟨q,m⟩
  ·exact G0.ntp s H b vs h1 z
  ·obtain⟨ps,e,_⟩:=h2 b q m
   rw[e];intro z;cases z
theorem ZdA {pos:Pos}(l:List Value)(h:TriplesOk l)(hc:codeAmong pos' (l ++ [rawInt pos.line,rawInt pos.col,c])=some cv):codeAmong pos' l=some cv∨cv=c:=by
 fun_induction TriplesOk l with
 | case1=>
  simp only[List.nil_append,rawInt,codeAmong]at hc;simp_all
 | case2 a b d e f rest ih=>
  simp only[List.cons_append,codeAmong]at hc⊢;split at hc
  ·rename_i h1;rw[if_pos h1];exact .inl hc
  ·rename_i h1;rw[if_neg h1];exact ih h hc
 | case3=>cases h
theorem Zfs {pos:Pos}(l:List Value)(h:TriplesOk l):TriplesOk (l ++ [rawInt pos.line,rawInt pos.col,c]):=by
 fun_induction TriplesOk l with
 | case1=>simp[TriplesOk,rawInt]
 | case2 a b d e f rest ih=>exact ih h
 | case3=>cases h
noncomputable def VI (L:List (Addr×Str)):Prop:=∀P q q',(P,q)∈L->(P,q')∈L->q=q'
noncomputable def XX (GG0:Gh->Prop)(L:List (Addr×Str))(G:Gh):Prop:=∃G0,GG0 G0/\(∀b,XD L b->¬G0.rd b)/\G=U9 G0 L
theorem Zml (lo:VI L)(hrd:∀b,XD L b->¬G0.rd b)(m:(P,q)∈L):TabG P q (U9 G0 L):=by
 refine⟨λs H st=>?_,.inr ⟨q,m⟩,λs H ps pos c' st hP hc hn=>?_⟩
 ·obtain⟨ps,e,t,h⟩:=st.2 P q m
  refine⟨ps,e,t,λpos cv hc=>?_⟩;obtain⟨c',z1,z2,z3,z4⟩:=h pos cv hc;exact⟨c',z1,z2,λz=>z.elim z3 z4⟩
 ·have hcP:c'≠P:=λz=>by rw[z,hP]at hc;cases hc
  have notL:¬XD L c':=λ⟨q',m'⟩=>by
   obtain⟨_,e,_⟩:=st.2 c' q' m';rw[hc]at e;cases e
  have k2:∀b φ,H b=some (.ext φ)->upd (upd H P (.tbl (ps ++ #[rawInt pos.line,rawInt pos.col,.ref c']))) c' (.ext (codeφ c' q)) b=some (.ext φ):=λb φ e=>by
   rw[Zj (ZY e hc),Zj (λz=>by rw[z,hP]at e;cases e)];exact e
  refine⟨G0.mono s H _ st.1 (λb o r e=>?_) k2 (λb vs e=>by rw[Zj (ZY e hc),Zj (λz=>by rw[z,hP]at e;cases e)];exact e),λP' q' m'=>?_⟩
  ·rw[Zj (ZY e hc),Zj (λz=>hrd P ⟨q,m⟩ (by simp_all))];exact e
  ·by_cases hb:P'=P
   ·subst hb
    have:=lo P' q q' m m';subst this;obtain⟨ps',e,t,h⟩:=st.2 P' q m;rw[hP]at e;cases e;refine⟨_,by rw[Zj (qN hcP),ZG],?_,λpos' cv hcv=>?_⟩
    ·rw[qbA];exact Zfs _ t
    ·rw[qbA]at hcv
     rcases ZdA _ t hcv with z | z
     ·obtain⟨c2,z1,z2,z3⟩:=h pos' cv z
      exact⟨c2,z1,k2 _ _ z2,z3⟩
     ·exact⟨c',z,ZG,Gh.nofp st.1 hc,notL⟩
   ·obtain⟨ps',e,t,h⟩:=st.2 P' q' m'
    refine⟨ps',by rw[Zj (ZY e hc),Zj hb];exact e,t,λpos' cv hcv=>?_⟩;obtain⟨c2,z1,z2,z3⟩:=h pos' cv hcv;exact⟨c2,z1,k2 _ _ z2,z3⟩
noncomputable def XT (L:List (Addr×Str))(G:Gh):Prop:=∀P q,(P,q)∈L->TabG P q G
theorem jx (lo:VI L)(h:XX GG0 L G):XT L G:=by
 obtain⟨G0,_,hrd,rfl⟩:=h;exact λP q m=>Zml lo hrd m
mutual
theorem Zl.tr {G G':Gh}{H H':Hp}(h:∀a o,¬G.fp a->H a=some o->(∀ps,o≠.tbl ps)->¬G'.fp a/\H' a=some o)(hp:G'.pen=G.pen):∀{d:D} {v:V},ZW d=true->Zl G H d v->Zl G' H' d v
 | .non,_,_,r=>jh.mpr (jh.mp r)
 | .bl _,_,_,r=>jd.mpr (jd.mp r)
 | .int _,_,_,r=>ja.mpr (ja.mp r)
 | .str _,_,_,r=>jg.mpr (jg.mp r)
 | .tup ds,v,n,r=>by
  obtain⟨a,vs,e1,nf,e2,r⟩:=jb.mp r;obtain⟨z1,z2⟩:=h a _ nf e2 (λ_ z=>by cases z);exact jb.mpr ⟨a,vs,e1,z1,z2,Zi.tr h hp (by simpa[ZW]using n) r⟩
 | .lst ds,v,n,r=>by
  obtain⟨a,vs,e1,nf,e2,r⟩:=jc.mp r;obtain⟨z1,z2⟩:=h a _ nf e2 (λ_ z=>by cases z);exact jc.mpr ⟨a,vs,e1,z1,z2,Zi.tr h hp (by simpa[ZW]using n) r⟩
 | .dk _,_,_,r=>by
  obtain⟨a,e1,nf,e2⟩:=jk.mp r;obtain⟨z1,z2⟩:=h a _ nf e2 (λ_ z=>by cases z);exact jk.mpr ⟨a,e1,z1,z2⟩
 | .dt _,_,_,r=>by
  obtain⟨a,o,e1,nf,e2⟩:=jm.mp r;obtain⟨z1,z2⟩:=h a _ nf e2 (λ_ z=>by cases z);exact jm.mpr ⟨a,o,e1,z1,z2⟩
 | .du _,_,_,r=>by
  obtain⟨a,e1,nf,e2⟩:=jn.mp r;obtain⟨z1,z2⟩:=h a _ nf e2 (λ_ z=>by cases z);exact jn.mpr ⟨a,e1,z1,z2⟩
 | .df _,_,_,r=>by
  obtain⟨a,o,e1,nf,e2⟩:=js.mp r;obtain⟨z1,z2⟩:=h a _ nf e2 (λ_ z=>by cases z);exact js.mpr ⟨a,o,e1,z1,z2⟩
 | .pen,_,_,r=>jo.mpr ((jo.mp r).trans hp.symm)
 | .ty _,_,_,r=>jq.mpr (jq.mp r)
 | .clo _ _,_,n,_=>by simp[ZW]at n
theorem Zi.tr {G G':Gh}{H H':Hp}(h:∀a o,¬G.fp a->H a=some o->(∀ps,o≠.tbl ps)->¬G'.fp a/\H' a=some o)(hp:G'.pen=G.pen):∀{ds:List D} {vs:List V},YT ds=true->Zi G H ds vs->Zi G' H' ds vs
 | [],_,_,r=>Zi.nil_iff.mpr (Zi.nil_iff.mp r)
 | d::ds,vs,n,r=>by
  obtain⟨v,rr,e,h1,h2⟩:=je.mp r;have n':ZW d=true/\YT ds=true:=by simpa[YT]using n
  exact je.mpr ⟨v,rr,e,Zl.tr h hp n'.1 h1,Zi.tr h hp n'.2 h2⟩
end
open Classical in
noncomputable def Ug (L:List (Addr×Str))(H H2:Hp):Hp:=λb=>if XD L b then H2 b else H b
theorem Zmm (h:XD L b):Ug L H H2 b=H2 b:=by unfold Ug;simp_all
theorem WI (h:¬XD L b):Ug L H H2 b=H b:=by unfold Ug;simp_all
theorem Zmn {K:qf}(FN:FnOk P w K mg base ZH k f fd ps (Z1 n fr GG0 F))
  (hF:∀ds s d s',F ds s=some (d,s')->YT ds=true/\ZW d=true):FnOk P w K mg base ZH k f fd ps (Z1 n fr (XX GG0 L) F):=by
 refine FN.imp λvs H Q E h=>?_;obtain⟨G,Hf,ds,s,d,s',⟨G0,hG0,hrd,rfl⟩,hl,e1,r,st,eF,k⟩:=h;obtain⟨n1,n2⟩:=hF _ _ _ _ eF;have nfp:∀b,XD L b->¬G0.fp b:=λb m z=>hrd b m (G0.sub b z);have e1':Zz G0 (Ug L Hf λ_=>none) H:=λb o nb q=>by
  by_cases m:XD L b
  ·rw[Zmm m]at q;cases q
  ·rw[WI m]at q;exact e1 b o (λz=>z.elim nb m) q
 refine⟨G0,Ug L Hf λ_=>none,ds,s,d,s',hG0,hl,e1',Zi.tr (G:=U9 G0 L) (G':=G0) (λa o na q _=>?_) rfl n1 r,st.1,eF,λv Hf' H' g st' r' fz=>?_⟩
 ·have m:¬XD L a:=λz=>na (.inr z)
  exact⟨λz=>na (.inl z),by rw[WI m];exact q⟩
 ·have tab:∀b,XD L b->∃ps,H' b=some (.tbl ps):=λb ⟨q,m⟩=>by
   obtain⟨ps,e,_⟩:=st.2 b q m;exact⟨ps,g.hh b _ (nfp b ⟨q,m⟩) e⟩
  have out:∀a o,¬G0.fp a->Hf' a=some o->(∀ps,o≠.tbl ps)->¬XD L a:=λa o na q no m=>by
   obtain⟨ps,e⟩:=tab a m;rw[g.fh a o na q]at e;exact no ps (zf e)
  have tr:∀a o,¬G0.fp a->Hf' a=some o->(∀ps,o≠.tbl ps)->¬(U9 G0 L).fp a/\Ug L Hf' Hf a=some o:=λa o na q no=>by
   have m:=out a o na q no;exact⟨λz=>z.elim na m,by rw[WI m];exact q⟩
  refine k v (Ug L Hf' Hf) H' ⟨λb o nb q=>g.hh b o (λz=>nb (.inl z)) q,λb o nb q=>?_,λb o nb q=>?_,λb nb q1 q2=>?_⟩ ⟨st',λP q m=>?_⟩ (Zl.tr (G:=G0) (G':=U9 G0 L) tr rfl n2 r') λz a ea mu=>?_
  ·have m:¬XD L b:=λz=>nb (.inr z)
   rw[WI m];exact g.ff b o (λz=>nb (.inl z)) (by rw[WI m];exact q)
  ·have m:¬XD L b:=λz=>nb (.inr z)
   rw[WI m]at q;exact g.fh b o (λz=>nb (.inl z)) q
  ·have m:¬XD L b:=λz=>nb (.inr z)
   rw[WI m];exact g.nw b (λz=>nb (.inl z)) (by rw[WI m];exact q1) q2
  ·obtain⟨ps,e,t,h⟩:=st.2 P q m
   refine⟨ps,g.hh P _ (nfp P ⟨q,m⟩) e,t,λpos cv hc=>?_⟩;obtain⟨c',z1,z2,z3,z4⟩:=h pos cv hc;exact⟨c',z1,g.hh c' _ z3 z2,z3,z4⟩
  ·obtain⟨h1,h2⟩:=fz z a ea mu
   refine⟨h1,λxs ed=>?_⟩;obtain⟨us,Hm,q1,q2,q3,q4⟩:=h2 xs ed;have na:¬XD L a:=λm=>by
    obtain⟨q,m⟩:=m;obtain⟨ps,e,_⟩:=st.2 a q m;rw[h1]at e;cases e
   refine⟨us,Ug L Hm λ_=>none,by rw[WI na];exact q1,by rw[WI na];exact q2,λb o nb q=>?_,?_⟩
   ·have m:=λz=>nb (.inr z)
    rw[WI m]at q⊢;exact q3 b o (λz=>nb (.inl z)) q
   ·subst ed
    refine Zi.tr (G:=G0) (G':=U9 G0 L) (λb o nb q no=>?_) rfl (by simpa[ZW]using n2) q4;have m:=out b o nb (q3 b o nb q) no;exact⟨λz=>z.elim nb m,by rw[WI m];exact q⟩
theorem Zkx {K:qf}(c:ZX P w K mg base k x n fr GG0 F)(hF:∀ds s d s',F ds s=some (d,s')->YT ds=true/\ZW d=true):ZX P w K mg base k x n fr (XX GG0 L) F:=
 let ⟨f,fd,ps,a,b,c,d⟩:=c
 ⟨f,fd,ps,Zmn a hF,b,c,d⟩
structure KTh where
 fp:Addr->Prop
 rd:Addr->Prop
 st:List Int->Hp->Prop
 mono:∀c H H',st c H->(∀b o,rd b->H b=some o->H' b=some o)->(∀b vs,H b=some (.tup vs)->H' b=some (.tup vs))->st c H'
 sub:∀b,fp b->rd b
 dom:∀c H b,st c H->rd b->∃o,H b=some o
 ntp:∀c H b vs,st c H->fp b->H b≠some (.tup vs)
 clo:Nat->V->List V->Prop
noncomputable def Zs (G0:Gh)(k:KTh):Gh where
 fp:=λb=>G0.fp b∨k.fp b
 rd:=λb=>G0.rd b∨k.rd b
 pen:=G0.pen
 st:=λs H=>∃s0:Pn,∃c,s=(s0.1++c,s0.2)/\s0.1.length=2/\G0.st s0 H/\k.st c H
 mono:=λs H H' ⟨s0,c,e,l,h1,h2⟩ k1 k2 k3=>⟨s0,c,e,l,G0.mono s0 H H' h1 (λb o r=>k1 b o (.inl r)) k2 k3,k.mono c H H' h2 (λb o r=>k1 b o (.inr r)) k3⟩
 sub:=λb h=>h.elim (λz=>.inl (G0.sub b z)) λz=>.inr (k.sub b z)
 dom:=λs H b ⟨s0,c,_,_,h1,h2⟩ hb=>hb.elim (G0.dom s0 H b h1) (k.dom c H b h2)
 ntp:=λs H b vs ⟨s0,c,_,_,h1,h2⟩ hb=>hb.elim (G0.ntp s0 H b vs h1) (k.ntp c H b vs h2)
 clo:=k.clo
noncomputable def XC (F:List D->M D):List D->M D:=λds s=>match F ds (s.1.take 2,s.2)with
 | none=>none
 | some (d,s')=>some (d,(s'.1++s.1.drop 2,s'.2))
noncomputable def Zky (GG0:Gh->Prop)(G:Gh):Prop:=∃G0 k,GG0 G0/\(∀s H,G0.st s H->s.1.length=2)/\(∀b,k.rd b->¬G0.rd b)/\G=Zs G0 k
open Classical in
noncomputable def WD (p:Addr->Prop)(H H2:Hp):Hp:=λb=>if p b then H2 b else H b
theorem ZcB {p:Addr->Prop}(h:p b):WD p H H2 b=H2 b:=by unfold WD;simp_all
theorem XG {p:Addr->Prop}(h:¬p b):WD p H H2 b=H b:=by unfold WD;simp_all
theorem W9 {s0:Pn}(h:s0.1.length=2)(c:List Int):(((s0.1++c).take 2,s0.2):Pn)=s0/\(s0.1++c).drop 2=c:=by
 obtain⟨l,ns⟩:=s0;have h:l.length=2:=h;refine⟨?_,?_⟩
 ·show((l++c).take 2,ns)=(l,ns)
  rw[<-h,List.take_left]
 ·show(l++c).drop 2=c
  rw[<-h,List.drop_left]
theorem ZgV {F:List D->M D}{s0:Pn}(h:s0.1.length=2)(e:XC F ds (s0.1++c,s0.2)=some (d,s')):∃s1,F ds s0=some (d,s1)/\s'=(s1.1++c,s1.2):=by
 unfold XC at e;obtain⟨a,b⟩:=W9 h c;dsimp only at e;rw[a,b]at e
 cases q:F ds s0 with
 | none=>rw[q]at e;cases e
 | some p=>rw[q]at e;cases e;exact⟨p.2,rfl,rfl⟩
theorem Zmo {K:qf}(FN:FnOk P w K mg base ZH k f fd ps (Z1 n fr GG0 F))
  (hF:∀ds s d s',F ds s=some (d,s')->YT ds=true/\ZW d=true):FnOk P w K mg base ZH k f fd ps (Z1 n fr (Zky GG0) (XC F)):=by
 refine FN.imp λvs H Q E h=>?_;obtain⟨G,Hf,ds,s,d,s',⟨G0,T,hG0,jR,hrd,rfl⟩,hl,e1,r,⟨s0,c,rfl,l2,st0,stT⟩,eF,k⟩:=h;obtain⟨s1,eF',rfl⟩:=ZgV l2 eF;obtain⟨n1,n2⟩:=hF _ _ _ _ eF';have nfp:∀b,T.fp b->¬G0.fp b:=λb m z=>hrd b (T.sub b m) (G0.sub b z);have e1':Zz G0 (WD T.fp Hf λ_=>none) H:=λb o nb q=>by
  by_cases m:T.fp b
  ·rw[ZcB m]at q;cases q
  ·rw[XG m]at q;exact e1 b o (λz=>z.elim nb m) q
 refine⟨G0,WD T.fp Hf λ_=>none,ds,s0,d,s1,hG0,hl,e1',Zi.tr (G:=Zs G0 T) (G':=G0) (λa o na q _=>?_) rfl n1 r,st0,eF',λv Hf' H' g st' r' fz=>?_⟩
 ·have m:¬T.fp a:=λz=>na (.inr z)
  exact⟨λz=>na (.inl z),by rw[XG m];exact q⟩
 ·have there:∀b,T.fp b->∃u,H b=some u/\∀vs,u≠.tup vs:=λb m=>by
   obtain⟨u,e⟩:=T.dom c H b stT (T.sub b m);exact⟨u,e,λvs z=>T.ntp c H b vs stT m (by rw[e,z])⟩
  have out:∀a o,¬G0.fp a->Hf' a=some o->¬T.fp a:=λa o na q m=>by
   have:=g.nw a na (by rw[ZcB m]) (there a m);rw[this]at q;cases q
  have tr:∀a o,¬G0.fp a->Hf' a=some o->(∀ps,o≠.tbl ps)->¬(Zs G0 T).fp a/\WD T.fp Hf' Hf a=some o:=λa o na q _=>by
   have m:=out a o na q;exact⟨λz=>z.elim na m,by rw[XG m];exact q⟩
  refine k v (WD T.fp Hf' Hf) H' ⟨λb o nb q=>g.hh b o (λz=>nb (.inl z)) q,λb o nb q=>?_,λb o nb q=>?_,λb nb q1 q2=>?_⟩ ⟨s1,c,rfl,jR _ _ st',st',?_⟩ (Zl.tr (G:=G0) (G':=Zs G0 T) tr rfl n2 r') λz a ea mu=>?_
  ·have m:¬T.fp b:=λz=>nb (.inr z)
   rw[XG m];exact g.ff b o (λz=>nb (.inl z)) (by rw[XG m];exact q)
  ·have m:¬T.fp b:=λz=>nb (.inr z)
   rw[XG m]at q;exact g.fh b o (λz=>nb (.inl z)) q
  ·have m:¬T.fp b:=λz=>nb (.inr z)
   rw[XG m];exact g.nw b (λz=>nb (.inl z)) (by rw[XG m];exact q1) q2
  ·exact T.mono c H H' stT (λb o rb e=>g.hh b o (λz=>hrd b rb (G0.sub b z)) e) λb vs e=>g.hh b _ (λz=>G0.ntp s0 H b vs st0 z e) e
  ·obtain⟨h1,h2⟩:=fz z a ea mu
   refine⟨h1,λxs ed=>?_⟩;obtain⟨us,Hm,q1,q2,q3,q4⟩:=h2 xs ed;have na:¬T.fp a:=λm=>by
    obtain⟨u,e,_⟩:=there a m;rw[h1]at e;cases e
   refine⟨us,WD T.fp Hm λ_=>none,by rw[XG na];exact q1,by rw[XG na];exact q2,λb o nb q=>?_,?_⟩
   ·have m:¬T.fp b:=λz=>nb (.inr z)
    rw[XG m]at q⊢;exact q3 b o (λz=>nb (.inl z)) q
   ·subst ed
    refine Zi.tr (G:=G0) (G':=Zs G0 T) (λb o nb q no=>?_) rfl (by simpa[ZW]using n2) q4;have m:=out b o nb (q3 b o nb q);exact⟨λz=>z.elim nb m,by rw[XG m];exact q⟩
theorem Zkz {K:qf}(c:ZX P w K mg base k x n fr GG0 F)(hF:∀ds s d s',F ds s=some (d,s')->YT ds=true/\ZW d=true):ZX P w K mg base k x n fr (Zky GG0) (XC F):=
 let ⟨f,fd,ps,a,b,c,d⟩:=c
 ⟨f,fd,ps,Zmo a hF,b,c,d⟩
structure KS where
 n:Int
 ties:List (Int×Int)
 deeds:List (Bool×Int×Int)
noncomputable def BN:List (Int×Int)->List Int
 | []=>[]
 | p::r=>p.1::p.2::BN r
noncomputable def JT:List (Bool×Int×Int)->List Int
 | []=>[]
 | p::r=>(if p.1 then 1 else 0)::p.2.1::p.2.2::JT r
noncomputable def YV (q:KS):List Int:=q.n::(q.ties.length:Int)::(BN q.ties++JT q.deeds)
noncomputable def unP:Nat->List Int->Option (List (Int×Int)×List Int)
 | 0,r=>some ([],r)
 | k+1,a::b::r=>(unP k r).map λz=>((a,b)::z.1,z.2)
 | _+1,_=>none
noncomputable def unT:List Int->List (Bool×Int×Int)
 | d::a::b::r=>(d==1,a,b)::unT r
 | _=>[]
noncomputable def kdec:List Int->Option KS
 | n::m::r=>(unP m.toNat r).map λz=>⟨n,z.1,unT z.2⟩
 | _=>none
theorem Zft:∀(l:List (Int×Int)) (r:List Int),unP l.length (BN l++r)=some (l,r)
 | [],r=>rfl
 | p::l,r=>by
  show(unP l.length (BN l++r)).map _=_;rw[Zft l r];rfl
theorem Zfu:∀l:List (Bool×Int×Int),unT (JT l)=l
 | []=>rfl
 | p::l=>by
  show((if p.1 then (1:Int)else 0)==1,p.2.1,p.2.2)::unT (JT l)=_;rw[Zfu l];obtain⟨b,x⟩:=p
  cases b <;> rfl
theorem ZdX (q:KS):kdec (YV q)=some q:=by
 show(unP ((q.ties.length:Int)).toNat (BN q.ties++JT q.deeds)).map _=_;rw[yj,Zft];show some (KS.mk q.n q.ties (unT (JT q.deeds)))=_;rw[Zfu]
noncomputable def X7:M KS:=λs=>(kdec (s.1.drop 2)).map λq=>(q,s)
noncomputable def J0 (q:KS):M Unit:=λs=>some ((),(s.1.take 2++YV q,s.2))
structure KAd where
 a:Addr
 t:Addr
 l:Addr
 C:Addr
 dx:Addr
noncomputable def VA (b:Bool):Str:=if b then "tied" else "loosened"
noncomputable def Ja (H:Hp)(d:Bool×Int×Int)(v:V):Prop:=∃b c,v=.ref b/\H b=some (.tup [.str (VA d.1),.ref c])/\H c=some (.tup [.int d.2.1,.int d.2.2])
noncomputable def Xq (H:Hp):List (Bool×Int×Int)->List V->Prop
 | [],vs=>vs=[]
 | d::r,vs=>∃v us,vs=v::us/\Ja H d v/\Xq H r us
noncomputable def kvT (l:List (Int×Int)):List (List ZC×V):=l.map λp=>([.inl p.1,.inl p.2],.bl true)
theorem Xq.mono {H H':Hp}(h:∀b vs,H b=some (.tup vs)->H' b=some (.tup vs)):∀{ds vs},Xq H ds vs->Xq H' ds vs
 | [],_,e=>e
 | d::r,_,⟨v,us,e,⟨b,c,e1,e2,e3⟩,k⟩=>⟨v,us,e,⟨b,c,e1,h _ _ e2,h _ _ e3⟩,Xq.mono h k⟩
noncomputable def XU (k:KAd)(q:KS)(H:Hp):Prop:=
 H k.a=some (.ins k.C k.dx [("n",.int q.n),("ties",.ref k.t),("deeds",.ref k.l)])/\H k.t=some (.dT (kvT q.ties))/\∃vs,H k.l=some (.lst vs)/\Xq H q.deeds vs
noncomputable def Zn (k:KAd):KTh where
 fp:=λb=>b=k.t∨b=k.l
 rd:=λb=>b=k.a∨b=k.t∨b=k.l
 st:=λc H=>∃q,c=YV q/\XU k q H
 mono:=λc H H' ⟨q,e,h1,h2,vs,h3,h4⟩ k1 k2=>⟨q,e,k1 _ _ (.inl rfl) h1,k1 _ _ (.inr (.inl rfl)) h2,vs,k1 _ _ (.inr (.inr rfl)) h3,h4.mono k2⟩
 sub:=λb h=>.inr h
 dom:=λc H b ⟨q,e,h1,h2,vs,h3,h4⟩ hb=>by
  rcases hb with rfl | rfl | rfl
  ·exact⟨_,h1⟩
  ·exact⟨_,h2⟩
  ·exact⟨_,h3⟩
 ntp:=λc H b us ⟨q,e,h1,h2,vs,h3,h4⟩ hb z=>by
  rcases hb with rfl | rfl
  ·rw[h2]at z;cases z
  ·rw[h3]at z;cases z
 clo:=λt v vs=>t=0/\v=.ref k.a/\vs=[]
theorem VP (st:(Zs G0 (Zn k)).st s H)(e:X7 s=some (q,s')):s'=s/\XU k q H:=by
 obtain⟨s0,c,rfl,l2,h1,q',rfl,h2⟩:=st;unfold X7 at e;rw[show((s0.1++YV q',s0.2):Pn).1.drop 2=YV q' from(W9 l2 _).2,ZdX]at e
 cases e
 exact⟨rfl,h2⟩
noncomputable def XM (i:Nat)(g:KS->Option D):Zc->M D:=fun ρ=>Zk (Za i ρ) λd=>match d with | .clo 0 []=>Zk X7 λq=>Yy (g q) | _=>ZK
theorem ZaM (e:XM i g ρ s=some (d,s')):(ρ[i]?).bind id=some (.clo 0 [])/\∃q s1,X7 s=some (q,s1)/\g q=some d/\s'=s1:=by
 obtain⟨d0,s1,a1,a2⟩:=Zv e;obtain⟨b1,rfl⟩:=Y5 a1
 match d0,a2 with
 | .clo 0 [],a2=>
  obtain⟨q,s2,c1,c2⟩:=Zv a2;obtain⟨c3,rfl⟩:=Y5 c2;exact⟨b1,q,_,c1,c3,rfl⟩
section
variable {X:Cx}
theorem WL {i:Nat}{k:KAd}(e2:Yh (Zs G0 (Zn k)) Hf σ ρ)(h:(ρ[i]?).bind id=some (.clo 0 [])):σ[i]?=some (some (.ref k.a)):=by
 have e':ρ[i]?=some (some (.clo 0 [])):=by
  cases q:ρ[i]? with
  | none=>simp_all
  | some o=>simp_all
 obtain⟨v,h1,h2⟩:=e2 i _ e';obtain⟨vs,c,r⟩:=(show ∃vs,(Zs G0 (Zn k)).clo 0 v vs/\Zi (Zs G0 (Zn k)) Hf [] vs by unfold Zl at h2;exact h2);rw[h1,c.2.1]
theorem Bm {i:Nat}{k:KAd}(hv:PE X (.Name x p) (ZR i))(c:Cls X.K k.C)(na:YG X.K k.C "n")(hb:xq (.Name x p) "n" X.env (eval (.Name x p) X.env)=eval (.Name x p) X.env:=by rfl) :
  PD X (Zs G0 (Zn k)) true (.Attribute (.Name x p) "n" pos) (XM i λq=>some (.int q.n)):=by
 refine⟨_,Vq hv hb,fun σ Hf H ρ s d s' Q e1 e2 e3 e4 kk=>?_⟩;obtain⟨b1,q,s1,b2,b3,rfl⟩:=ZaM e4;obtain⟨rfl,st⟩:=VP e3 b2
 cases b3
 exact⟨_,WL e2 b1,k.a,k.C,k.dx,_,.int q.n,rfl,st.1,c,na,rfl,kk _ Hf H (.refl e1) e3 (ja.mpr rfl) λ_=>.scal λz=>z⟩
end
noncomputable def YO (F:List D->M D)(i:Nat)(fs:Zc->M (List D)):Zc->M D:=fun ρ=>Zk (Za i ρ) λc=>match c with
 | .clo 0 []=>Zk (fs ρ) λds=>F (.clo 0 []::ds)
 | _=>ZK
section
variable {X:Cx}
theorem Zfv {i:Nat}{k:KAd}{G0:Gh}{GG:Gh->Prop}{fs:Zc->M (List D)}{F:List D->M D}{t:TA}{m:Str}(hG:GG (Zs G0 (Zn k)))(hl:m≠"n"/\m≠"ties"/\m≠"deeds")
  (ya:∀(σ:St) (Hf H:Hp) (ρ:Zc) (s:Pn) (ds:List D) (s':Pn) (Q:List V->Hp->Prop),Zz (Zs G0 (Zn k)) Hf H->Yh (Zs G0 (Zn k)) Hf σ ρ->(Zs G0 (Zn k)).st s H->fs ρ s=some (ds,s')->
   (∀vs Hf' H',Gr (Zs G0 (Zn k)) Hf H Hf' H'->(Zs G0 (Zn k)).st s' H'->Zi (Zs G0 (Zn k)) Hf' ds vs->Q vs H')->t σ H Q)
  (hal:∀ρ s ds s',fs ρ s=some (ds,s')->ds.length+1=n) (E:XK) :
  WZ (Zs G0 (Zn k)) fr (ZjH k.C m (Z1 n fr GG F) [] E (ZR i) t) (YO F i fs):=fun σ Hf H ρ s d s' Q e1 e2 e3 e4 kk=>by
 obtain⟨c0,s1,a1,a2⟩:=Zv e4;obtain⟨b1,rfl⟩:=Y5 a1
 match c0,a2,b1 with
 | .clo 0 [],a2,b1=>
  obtain⟨ds,s2,c1,c2⟩:=Zv a2;obtain⟨s0,cc,es,l2,g0,q0,ec,kq⟩:=id e3;have hself:=WL e2 b1;refine⟨_,hself,k.a,k.dx,_,rfl,kq.1,?_,?_⟩
  ·obtain⟨h1,h2,h3⟩:=hl
   have b1:(m==("n" : Str))=false:=by simpa using h1
   have b2:(m==("ties" : Str))=false:=by simpa using h2
   have b3:(m==("deeds" : Str))=false:=by simpa using h3
   simp only[yR,b1,b2,b3]
  ·refine ya σ Hf H ρ _ ds s2 _ e1 e2 e3 c1 λvs Hf' H' g st' r=>?_
   rw[zg];have jR:=hal _ _ _ _ c1;refine⟨Zs G0 (Zn k),Hf',.clo 0 []::ds,s2,d,s',hG,by rw[qV,<-r.length];exact jR,g.fh,?_,st',c2,λv jZ H2 g2 j6 r2 fz=>kk v jZ H2 (g.trans g2) j6 r2 λz=>?_⟩
   ·refine Zi.cons ?_ r
    unfold Zl;exact⟨[],⟨rfl,rfl,rfl⟩,Zi.nil_iff.mpr rfl⟩
   ·exact Z3.old g.hh r2.nofp (fz z)
theorem Zmp {i:Nat}{k:KAd}{G0:Gh}{GG:Gh->Prop}{pl:Sem Bool}{kl:Nat}(FN:FnOk X.prog X.w X.K X.mg X.base CX kl f fd ps (Z1 n fr GG F))(hG:GG (Zs G0 (Zn k)))(hr:Room kl X.A)(hv:PE X (.Name x p) (ZR i))(c:Cls X.K k.C)(hm:Meth X.K k.C m f)(hb:YC X.K fd ps [])(hx:Wv CX X E)
  (hl:m≠"n"/\m≠"ties"/\m≠"deeds") (ha:Xw X (Zs G0 (Zn k)) (e::es) fs) (hal:∀ρ s ds s',fs ρ s=some (ds,s')->ds.length+1=n)
  (hst:xh (e::es) X.env=(false,eval e X.env)::xh es X.env:=by rfl) (hpl:(backTo pos (xh es X.env)).any (·.1)=false:=by rfl)
  (ht:eval (.Call (.Attribute (.Name x p) m apos) (e::es) [] pos) X.env=(do
   let ov<-eval (.Name x p) X.env
   standAt apos.atName
   let (f,first)<-holding [ov] (getMethod ov m pl)
   callWith pos f first (backTo pos (xh (e::es) X.env)) (xp pos (xi [] X.env))):=by rfl) :
  PD X (Zs G0 (Zn k)) fr (.Call (.Attribute (.Name x p) m apos) (e::es) [] pos) (YO F i fs):=by
 obtain⟨t,pa,qa⟩:=ha;exact⟨_,Zhx hv c hm FN hr hb .nil hx pa hst hpl ht,Zfv hG hl qa hal E⟩
theorem ZkA {i:Nat}{k:KAd}{G0:Gh}{GG:Gh->Prop}{pl:Sem Bool}{kl:Nat}(FN:FnOk X.prog X.w X.K X.mg X.base CX kl f fd ps (Z1 1 fr GG F))(hG:GG (Zs G0 (Zn k)))(hr:Room kl X.A)(hv:PE X (.Name x p) (ZR i))(c:Cls X.K k.C)(hm:Meth X.K k.C m f)(hb:YC X.K fd ps [])(hx:Wv CX X E)
  (hl:m≠"n"/\m≠"ties"/\m≠"deeds")
  (ht:eval (.Call (.Attribute (.Name x p) m apos) [] [] pos) X.env=(do
   let ov<-eval (.Name x p) X.env
   standAt apos.atName
   let (f,first)<-holding [ov] (getMethod ov m pl)
   callWith pos f first (backTo pos (xh [] X.env)) (xp pos (xi [] X.env))):=by rfl) :
  PD X (Zs G0 (Zn k)) fr (.Call (.Attribute (.Name x p) m apos) [] [] pos) (YO F i Ze):=
 ⟨_,ZjI hv c hm FN hr hb .nil hx ht,Zfv hG hl (fun σ Hf H ρ s ds s' Q e1 e2 e3 e4 kk=>by
  obtain⟨rfl,rfl⟩:=ZP e4;exact kk [] Hf H (.refl e1) e3 (Zi.nil_iff.mpr rfl)) (fun ρ s ds s' q=>by rw[Ws ρ s ds s' q]) E⟩
end
theorem ZkB {X:Cx}(hs:PE X (.Name "self" q1) (ZR 0))(hs2:PE X (.Name "self" q2) (ZR 0))(hs3:PE X (.Name "self" q3) (ZR 0))(hn:PE X (.Name "n" q4) (ZR 1))(tl:PE X (.List [] q5) tL)
  (w1:xr (.Name "n" q4) (some (.Attribute (.Name "self" q1) "n" r1)) p1.line X.env=pure false:=by rfl)
  (w2:xr (.Dict [] [] q6) (some (.Attribute (.Name "self" q2) "ties" r2)) p2.line X.env=pure false:=by rfl)
  (w3:xr (.List [] q5) (some (.Attribute (.Name "self" q3) "deeds" r3)) p3.line X.env=pure false:=by rfl) :
  YU X [.Assign [.Attribute (.Name "self" q1) "n" r1] (.Name "n" q4) p1,.Assign [.Attribute (.Name "self" q2) "ties" r2] (.Dict [] [] q6) p2,.Assign [.Attribute (.Name "self" q3) "deeds" r3] (.List [] q5) p3]
   (WU (VD X.K (ZR 0) (ZR 1) "n") (WU (VD X.K (ZR 0) Zej "ties") (VD X.K (ZR 0) tL "deeds"))):=
 Xo (Zgp hs hn w1) (Xo (Zgp hs2 ZjU w2) (Vp (Zgp hs3 tl w3)))
theorem ZkC {K:qf}{D:Ends}{σ:St}{H:Hp}{a C dx:Addr}{n:Int}(hc:Cls K C)(nn:YG K C "n")(nt:YG K C "ties")(nd:YG K C "deeds")(s0:σ[0]?=some (some (.ref a)))(s1:σ[1]?=some (some (.int n)))(ha:H a=some (.ins C dx []))
  (h:∀t l H',H t=none->H l=none->t≠l->t≠a->l≠a->H' a=some (.ins C dx [("n",.int n),("ties",.ref t),("deeds",.ref l)])->H' t=some (.dT [])->H' l=some (.lst [])->(∀b,b≠a->b≠t->b≠l->H' b=H b)->D.nx σ H') :
  (WU (VD K (ZR 0) (ZR 1) "n") (WU (VD K (ZR 0) Zej "ties") (VD K (ZR 0) (tLst Jb) "deeds"))) D σ H:=by
 refine⟨_,s1,_,s0,a,C,dx,[],rfl,ha,hc,nn,by decide,λt ht=>?_⟩;have ta:t≠a:=λz=>by rw[z,ZG]at ht;cases ht
 have ht0:H t=none:=by rw[Zj ta]at ht;exact ht
 refine⟨_,s0,a,C,dx,[("n",.int n)],rfl,by rw[Zj (qN ta),ZG];rfl,hc,nt,by show 1<1000;decide,⟨zc _,λl hl=>?_⟩⟩;have la:l≠a:=λz=>by rw[z,ZG]at hl;cases hl
 have lt:l≠t:=λz=>by rw[z,Zj ta,ZG]at hl;cases hl
 have hl0:H l=none:=by rw[Zj la,Zj lt,Zj la]at hl;exact hl
 refine⟨_,s0,a,C,dx,[("n",.int n),("ties",.ref t)],rfl,by rw[Zj (qN la),ZG];rfl,hc,nd,by show 2<1000;decide,?_⟩;refine h t l _ ht0 hl0 (qN lt) ta la (by rw[ZG];rfl) ?_ ?_ λb h1 h2 h3=>?_
 ·rw[Zj ta,Zj (qN lt),Zj ta,ZG]
 ·rw[Zj la,ZG]
 ·rw[Zj h1,Zj h3,Zj h1,Zj h2,Zj h1]
noncomputable def Zez (C:Addr):Sp:=λvs H Q _=>∃(a dx:Addr) (n:Int),vs=[.ref a,.int n]/\H a=some (.ins C dx [])/\
 ∀(t l:Addr) (H':Hp),H t=none->H l=none->t≠l->t≠a->l≠a->H' a=some (.ins C dx [("n",.int n),("ties",.ref t),("deeds",.ref l)])->H' t=some (.dT [])->H' l=some (.lst [])->(∀b,b≠a->b≠t->b≠l->H' b=H b)->Q .non H'
theorem Zmq {K:qf}{st:Stmt}{C:Addr}(F:Fun K x qual st f fd)(S:FnScope ["self","n"] ["self","n"] (Zx st))(hc:Cls K C)(nn:YG K C "n")(nt:YG K C "ties")(nd:YG K C "deeds")
  (hp:∀(cdv:Value) (A:xz) (outer:List Env) (s:Shared) (H:Hp) (E:XK),Room k (A.deeper (envOfC qual (Zx st) s.heap.objs.size f cdv))->
   YU (Xh ZH P w K mg base ["self","n"] qual (Zx st) f cdv A outer s H E).nox (Y6 st) (WU (VD K (ZR 0) (ZR 1) "n") (WU (VD K (ZR 0) Zej "ties") (VD K (ZR 0) (tLst Jb) "deeds")))) :
  FnOk P w K mg base ZH (k+1) f fd ["self","n"] (Zez C):=by
 refine F.ok S (λvs H Q E h=>?_) λcdv A outer s H vs Q E hr h=>?_
 ·obtain⟨a,dx,n,rfl,_⟩:=h;rfl
 ·obtain⟨a,dx,n,rfl,ha,q⟩:=h
  exact⟨_,hp cdv A outer s H E hr,ZkC hc nn nt nd rfl rfl ha λt l H' h1 h2 h3 h4 h5 h6 h7 h8 h9=>q t l H' h1 h2 h3 h4 h5 h6 h7 h8 h9⟩
theorem ZiN {G0:Gh}{T:KTh}(h:TabG P q G0)(hrd:∀b,T.rd b->¬G0.rd b)(hx:∀c H b φ,T.st c H->T.fp b->H b≠some (.ext φ)):TabG P q (Zs G0 T):=by
 obtain⟨h1,h2,h3⟩:=h;refine⟨λs H st=>?_,.inl h2,λs H ps pos c' st hP hc hn=>?_⟩
 ·obtain⟨s0,c,rfl,l2,st0,stT⟩:=st
  obtain⟨ps,e,t,z⟩:=h1 s0 H st0;refine⟨ps,e,t,λpos cv hcv=>?_⟩;obtain⟨c',z1,z2,z3⟩:=z pos cv hcv;exact⟨c',z1,z2,λy=>y.elim z3 λm=>hx c H c' _ stT m z2⟩
 ·obtain⟨s0,c,rfl,l2,st0,stT⟩:=st
  have h4:=h3 s0 H ps pos c' st0 hP hc hn;refine⟨s0,c,rfl,l2,h4,T.mono c H _ stT (λb o rb e=>?_) λb vs e=>?_⟩
  ·have n1:b≠c':=λz=>by rw[z,hc]at e;cases e
   have n2:b≠P:=λz=>hrd b rb (by rw[z];exact G0.sub P h2);rw[Zj n1,Zj n2];exact e
  ·have n1:b≠c':=λz=>by rw[z,hc]at e;cases e
   have n2:b≠P:=λz=>by rw[z,hP]at e;cases e
   rw[Zj n1,Zj n2];exact e
theorem ZiO (k:KAd):∀c H b φ,(Zn k).st c H->(Zn k).fp b->H b≠some (.ext φ):=λc H b φ ⟨q,e,h1,h2,vs,h3,h4⟩ hb z=>by
 rcases hb with rfl | rfl
 ·rw[h2]at z;cases z
 ·rw[h3]at z;cases z
noncomputable def Vv (ρ:Zc):Bool:=ρ.all λo=>match o with | some d=>ZW d | none=>true
theorem ZbU {ρ:Zc}{i:Nat}{d:D}(h:Vv ρ=true)(e:ρ[i]?=some (some d)):ZW d=true:=by
 unfold Vv at h;have:=zy.mp h _ (qP e);exact this
noncomputable def JU (i:Nat)(m:M Out):M Out:=λs=>match m s with
 | some (.nx ρ,s')=>if Vv (ρ.set i none)=true then some (.nx (ρ.set i none),(s'.1.take 2,s'.2))else none
 | some (.rt d,s')=>if ZW d=true/\Xr d=true then some (.rt d,(s'.1.take 2,s'.2))else none
 | _=>none
noncomputable def BO (i:Nat)(f:Zc->M D)(g:Zc->M Out):Zc->M Out:=fun ρ=>Zk (f ρ) λd=>match d with
 | .int n=>if i < ρ.length/\Vv (ρ.set i none)=true then JU i (λs=>g (ρ.set i (some (.clo 0 []))) (s.1++YV ⟨n,[],[]⟩,s.2))else ZK
 | _=>ZK
theorem ZkD {G:Gh}{k:KAd}(g0:Gr G jO H0 jW H1)(cr:∀b o,H1 b=some o->H' b=some o)(ft:H1 k.t=none)(fl:H1 k.l=none)(gi:Gr (Zs G (Zn k)) jW H' jZ H2) :
  Gr G jO H0 (WD (Zn k).fp jZ λ_=>none) H2:=by
 have nk:∀b o,H1 b=some o->¬(Zn k).fp b:=λb o e z=>by
  rcases z with rfl | rfl
  ·rw[ft]at e;cases e
  ·rw[fl]at e;cases e
 refine⟨λb o n e=>?_,λb o n e=>?_,λb o n e=>?_,λb n h1 h2=>?_⟩
 ·have e1:=g0.hh b o n e
  exact gi.hh b o (λz=>z.elim n (nk b o e1)) (cr b o e1)
 ·have e1:=g0.ff b o n e
  have e2:=nk b o (g0.fh b o n e1);rw[XG e2];exact gi.ff b o (λz=>z.elim n e2) e1
 ·by_cases z:(Zn k).fp b
  ·rw[ZcB z]at e;cases e
  ·rw[XG z]at e
   exact gi.fh b o (λy=>y.elim n z) e
 ·by_cases z:(Zn k).fp b
  ·rw[ZcB z]
  ·rw[XG z]
   obtain⟨u,e,nt⟩:=h2;exact gi.nw b (λy=>y.elim n z) (g0.nw b n h1 ⟨u,e,nt⟩) ⟨u,cr b u (g0.hh b u n e),nt⟩
theorem ZhS {G:Gh}{k:KAd}(nc:ZW d=true)(r:Zl (Zs G (Zn k)) jZ d v):Zl G (WD (Zn k).fp jZ λ_=>none) d v:=
 Zl.tr (G:=Zs G (Zn k)) (G':=G) (λa o na q _=>⟨λz=>na (.inl z),by rw[XG λz=>na (.inr z)];exact q⟩) rfl nc r
theorem ZkE {G:Gh}{k:KAd}{s:Pn}(h:(Zs G (Zn k)).st s H):G.st (s.1.take 2,s.2) H:=by
 obtain⟨s0,c,rfl,l2,h1,_⟩:=h;rw[(W9 l2 c).1];exact h1
theorem ZkF {G:Gh}{g:Zc->M Out}{σ:St}{ρ:Zc}{i:Nat}{n:Int}{C:Addr}{s1 s':Pn}{out:Out}(jR:∀s H,G.st s H->s.1.length=2)(j:Jf G [] kn jO H0 σ Hf H1 ρ)(st:G.st s1 H1)(hi:i < ρ.length)(nc:Vv (ρ.set i none)=true)
  (hx:H1 x=none) (hdx:H1 dx=none) (ne:dx≠x) (ht:H1 t=none) (hl:H1 l=none) (cr:∀b o,H1 b=some o->H' b=some o) (ha:H' x=some (.ins C dx [("n",.int n),("ties",.ref t),("deeds",.ref l)])) (et:H' t=some (.dT [])) (el:H' l=some (.lst []))
  (hg:JU i (λs=>g (ρ.set i (some (.clo 0 []))) (s.1++YV ⟨n,[],[]⟩,s.2)) s1=some (out,s')) (po:Post G ob [] kn jO H0 fr out s' E) :
  ∃k:KAd,(k.C=C/\∀b,(Zn k).rd b->¬G.rd b)/\V5 (Zs G (Zn k)) ob [] [] fr g E (σ.set i (some (.ref x))) H':=by
 let k:KAd:=⟨x,t,l,C,dx⟩
 have nord:∀b,(Zn k).rd b->¬G.rd b:=λb z=>by
  rcases z with rfl | rfl | rfl
  ·exact ju st hx
  ·exact ju st ht
  ·exact ju st hl
 have nk:∀b o,H1 b=some o->¬(Zn k).fp b:=λb o e z=>by
  rcases z with rfl | rfl
  ·rw[show H1 k.t=none from ht]at e;cases e
  ·rw[show H1 k.l=none from hl]at e;cases e
 have e1:Zz (Zs G (Zn k)) Hf H':=λb o nb q=>cr b o (j.gr.fh b o (λz=>nb (.inl z)) q);have j6:(Zs G (Zn k)).st (s1.1++YV ⟨n,[],[]⟩,s1.2) H':=⟨s1,_,rfl,jR _ _ st,G.mono s1 H1 H' st (λb o _ e=>cr b o e) (λb φ e=>cr b _ e) λb vs e=>cr b _ e,⟨n,[],[]⟩,rfl,ha,et,[],el,rfl⟩;unfold JU at hg;refine⟨k,⟨rfl,nord⟩,Hf,Hf,H',ρ.set i (some (.clo 0 [])),(s1.1++YV ⟨n,[],[]⟩,s1.2),?_⟩;have jj:J (Zs G (Zn k)) [] Hf Hf H' (σ.set i (some (.ref x))) H' (ρ.set i (some (.clo 0 []))):=by
  refine⟨Hf,by simp[j.len],.refl _ _,.refl e1,λm d _ e=>?_,λm d z=>by simp at z,λm d a di dj z=>by simp at z⟩;by_cases h:i=m
  ·subst h
   rw[qD hi]at e
   cases e
   refine⟨.ref x,qD (by rw[j.len];exact hi),?_⟩;unfold Zl;exact⟨[],⟨rfl,rfl,rfl⟩,Zi.nil_iff.mpr rfl⟩
  ·rw[qv h]at e⊢
   obtain⟨v,q1,q2⟩:=j.fz m d (by simp) e;refine⟨v,q1,Zl.tr (G:=G) (G':=Zs G (Zn k)) (λa o na q _=>⟨λz=>z.elim na (nk a o (j.gr.fh a o na q)),q⟩) rfl (ZbU nc (by rw[qv h];exact e)) q2⟩
 have knH:∀jZ H2,Gr (Zs G (Zn k)) Hf H' jZ H2->Zz G kn (WD (Zn k).fp jZ λ_=>none):=λjZ H2 gi b o nb q=>by
  have q1:=j.kn b o nb q;have q2:=nk b o (j.gr.fh b o nb q1);rw[XG q2];exact gi.ff b o (λz=>z.elim nb q2) q1
 cases hq:g (ρ.set i (some (.clo 0 []))) (s1.1++YV ⟨n,[],[]⟩,s1.2)with
 | none=>simp only[hq]at hg;cases hg
 | some p=>
  obtain⟨o,s2⟩:=p;simp only[hq]at hg;refine⟨o,s2,jj,j6,rfl,?_⟩
  cases o with
  | nx ρ2=>
   simp only at hg;split at hg
   ·rename_i nc2
    cases hg
    intro σ2 H2 ⟨jZ,j2⟩ st3;refine po σ2 H2 ⟨WD (Zn k).fp jZ λ_=>none,by simp[j2.len],knH _ _ j2.gr,ZkD j.gr cr ht hl j2.gr,λm d _ e=>?_,λm d z=>by simp at z,λm d a di dj z=>by simp at z⟩ (ZkE st3);by_cases h:i=m
    ·subst h
     rw[List.getElem?_set]at e;split at e
     ·split at e <;> cases e
     ·exact absurd rfl ‹_›
    ·have e2:=e
     rw[qv h]at e2;obtain⟨v,q1,q2⟩:=j2.fz m d (by simp) e2;exact⟨v,q1,ZhS (ZbU nc2 e) q2⟩
   ·cases hg
  | rt d=>
   simp only at hg;split at hg
   ·rename_i h
    cases hg
    intro v jZ H2 gi st3 r _;exact po v _ H2 (ZkD j.gr cr ht hl gi) (ZkE st3) (ZhS h.1 r) λ_=>.scal λz=>ZdO h.2 z
   ·cases hg
  | bk ρ2=>simp only at hg;cases hg
  | ct ρ2=>simp only at hg;cases hg
section
variable {X:Cx}{G:Gh}{ob:List Nat}{fr:Bool}
theorem ZiP {i kl:Nat}{C f:Addr}{fd:xx}{x nm:Str}{e:Expr}{fe:Zc->M D}{sts:List Stmt}{g:Zc->M Out}{p pos pos' apos:Pos}(jR:∀s H,G.st s H->s.1.length=2)(M:Mk X.K C f)(F:FnOk X.prog X.w X.K X.mg X.base ZH kl f fd ["self","n"] (Zez C))(hr:Room (kl+1) X.A)(hg:Gl X nm)(hm:X.mg nm=some (.ref C))
  (hb:YC X.K fd ["self","n"] []) (he:PD X G r1 e fe) (hN:X.N.Nodup) (hi:X.N[i]?=some x) (hx:Wn X.env.scope x)
  (hrest:∀k:KAd,k.C=C->(∀b,(Zn k).rd b->¬G.rd b)->Xp X (Zs G (Zn k)) ob [] [] fr sts g)
  (hdb:(nm==("__debug__" : Str))=false:=by decide) (hst:xh [e] X.env=(false,eval e X.env)::xh [] X.env:=by rfl) (hs:xr (.Call (.Name nm p) [e] [] pos) (some (.Name x pos')) apos.line X.env=pure false:=by rfl)
  (hf:X.fn x=true∨X.env.scope.names.lookup x=some .local:=by first | exact .inl rfl | exact .inr rfl | assumption) :
  Xp X G ob [] [] fr (.Assign [.Name x pos'] (.Call (.Name nm p) [e] [] pos) apos::sts) (BO i fe g):=by
 obtain⟨te,pe,ye⟩:=he;have rest:YU X sts (λE σ H=>∃k:KAd,(k.C=C/\∀b,(Zn k).rd b->¬G.rd b)/\V5 (Zs G (Zn k)) ob [] [] fr g E σ H):=by
  intro jJ s σ H D I ⟨k,⟨h1,h2⟩,kn,jO,H0,ρ,pn,out,pn',j,st,e,po⟩;obtain⟨t,p,q⟩:=hrest k h1 h2;exact p jJ s σ H D I (q kn jO H0 σ H ρ pn out pn' D j st e po)
 refine⟨_,Xo (We hN hi hx (ZlR M F hr hg hm hb .nil BI (Yt pe YS hst) hdb hst rfl) hs hf) rest,λkn jO H0 σ H ρ s out s' E ⟨Hf,j⟩ st e4 po=>?_⟩;obtain⟨d,s1,a1,a2⟩:=Zv e4
 match d,a1,a2 with
 | .int n,a1,a2=>
  obtain⟨⟨hi',nc⟩,a3⟩:=Xy a2;have env:Yh G Hf σ ρ:=by
   have:=j.envA;rw[Jv]at this;exact this
  refine ye σ Hf H ρ s _ s1 _ j.gr.fh env st a1 λv jW H1 g1 j9 r fz=>?_
  cases ja.mp r
  intro x dx hx hdx ne;refine⟨x,dx,n,rfl,ZG,λt l H' ht hl tl tx lx ea et el oth=>⟨rfl,?_⟩⟩;have tdx:t≠dx:=λz=>by rw[z,Zj ne,ZG]at ht;cases ht
  have ldx:l≠dx:=λz=>by rw[z,Zj ne,ZG]at hl;cases hl
  rw[Zj tx,Zj tdx]at ht;rw[Zj lx,Zj ldx]at hl;refine ZkF jR (j.grow g1) j9 hi' nc hx hdx ne ht hl (λb o q=>?_) ea et el a3 po;have n1:b≠x:=ZY q hx;have n2:b≠dx:=ZY q hdx;rw[oth b n1 (ZY q ht) (ZY q hl),Zj n1,Zj n2];exact q
end
end TF
namespace L2
section
variable {P:xy}{w:World}
structure Fly (P:xy)(w:World)(outer:List Env)(H:Hp)(s:Shared)(x:Addr)(cls:Value)(B:Heap)(a0:Value)(H':Hp)(s':Shared):Prop where
 os:s'.os=s.os
 bare:AllBare s'.gens
 un:Un (Yp outer) [] H H' s.heap s'.heap
 hok:Yf P w H' s'.heap
 fl:qbI B outer x cls a0 s'.heap
 tr:∀b u o,H' b=some u->s'.heap.get? b=some o->B.get? b=some o
 old:∀b o,s.heap.get? b=some o->b∉Yp outer->∃o',B.get? b=some o'
 new:s.heap.get? x=none
 nx:H' x=none
theorem Ym.obj {H:Hp}{h:Heap}{a:Addr}{o:HO}(x:Ym P w H h a o):∃u,h.get? a=some u:=by
 cases o with
 | lst xs=>obtain⟨_,_,_,_,e⟩:=x;exact⟨_,e⟩
 | tup xs=>obtain⟨_,_,_,o,e,_⟩:=x;exact⟨_,e⟩
 | dK kvs=>obtain⟨_,_,_,_,o,_,_,e,_⟩:=x;exact⟨_,e⟩
 | dT kvs=>obtain⟨_,_,_,_,o,_,_,e,_⟩:=x;exact⟨_,e⟩
 | set S n=>obtain⟨o,_,_,_,e,_⟩:=x;exact⟨_,e⟩
 | ins C dx fs=>obtain⟨_,_,_,e,_⟩:=x;exact⟨_,e⟩
 | own y=>exact x
 | xd fs=>obtain⟨_,⟨_,_,_,e,_⟩,_⟩:=x;exact⟨_,e⟩
 | rng lo hi=>obtain⟨_,_,_,e⟩:=x;exact⟨_,e⟩
 | frz ob u=>obtain⟨e,_⟩:=x;exact⟨_,e⟩
 | tbl ps=>exact⟨_,x⟩
 | met f y=>exact⟨_,x⟩
 | ext φ=>exact x.2.1
theorem Fly.at {outer:List Env}{H H':Hp}{s s':Shared}{x:Addr}{cls a0:Value}{B h:Heap}(F:Fly P w outer H s x cls B a0 H' s')(st:B.StaysIn h)(sl:s'.heap.UpToSlots h) :
  Un (Yp outer) [] H H' s.heap h/\Yf P w H' h:=by
 have inB:∀b o,s'.heap.get? b=some o->(∃o',B.get? b=some o')->h.get? b=some o:=λb o e ⟨o',e'⟩=>by
  have:=F.fl.1 b o' e';rw[e]at this;cases this;exact st b o e'
 have fr:∀b,b∈Yp outer->∀o,s'.heap.get? b=some o->∃sl,h.get? b=some { o with slots:=sl }:=λb hb o e=>by
  obtain⟨_,o',e',nf⟩:=F.fl.2.2.1.mem hb;rw[e]at e';cases e';exact sl b o e nf
 refine⟨⟨λb o e n hb _=>inB b o (F.un.keep b o e n hb (by simp)) (F.old b o e hb),λb o e n hb _=>?_,F.un.free,λb o e _=>?_,F.un.tups,F.un.frzs,F.un.tbls⟩,λa o e=>?_⟩
 ·obtain⟨s1,e1⟩:=F.un.slot b o e n hb (by simp)
  obtain⟨s2,e2⟩:=fr b hb _ e1;exact⟨s2,e2⟩
 ·obtain⟨o1,e1⟩:=F.un.there b o e (by simp)
  by_cases hb:b∈Yp outer
  ·obtain⟨s2,e2⟩:=fr b hb _ e1
   exact⟨_,e2⟩
  ·exact⟨o1,inB b o1 e1 (F.old b o e hb)⟩
 ·refine(F.hok a o e).stay (λb u hb q=>?_) (λ_ q=>q) λ_ _ q=>q
  rcases hb with rfl | hb
  ·exact st _ _ (F.tr b o u e q)
  ·exact st _ _ (F.tr b _ u hb q)
noncomputable def XE (P:xy)(w:World):VG:=λouter H s E e s'=>∃x cls B a0 H',e=.ref x/\Fly P w outer H s x cls B a0 H' s'/\E cls none H'
theorem Un.shrink {fs fs':List Addr}{H H':Hp}{h h':Heap}(u:Un fs [] H H' h h')(k:∀b o,h.get? b=some o->b∈fs->b∈fs'):Un fs' [] H H' h h':=
 ⟨λb o e n hb hx=>u.keep b o e n (λz=>hb (k b o e z)) hx,λb o e n _ hx=>u.any e n hx,u.free,u.there,u.tups,u.frzs,u.tbls⟩
section
variable {K:qf}{mg:Str->Option Value}{base:Heap}{N:List Str}{qual:Str}{scope:Scope}{f:Addr}{cd:Value}{A:xz}{outer:List Env}{s₀:Shared}{H₀:Hp}{E:XK}
noncomputable abbrev Vk (P:xy)(w:World)(K:qf)(mg:Str->Option Value)(base:Heap)(N:List Str)(qual:Str)(scope:Scope)(f:Addr)(cd:Value)(A:xz)(outer:List Env)(s₀:Shared)(H₀:Hp)(E:XK):Cx:=Xh (XE P w) P w K mg base N qual scope f cd A outer s₀ H₀ E
variable {jJ:Qb}{σ:St}{H H':Hp}{s s':Shared}{x:Addr}{cls a0:Value}{B h:Heap}
theorem ZkG (I:Inv (Vk P w K mg base N qual scope f cd A outer s₀ H₀ E) jJ σ H s)(u:Un (Yp (envOfC qual scope s₀.heap.objs.size f cd::outer)) [] H H' s.heap h)(ho:s'.os=s.os)(hb:AllBare s'.gens)(hok:Yf P w H' h)
  (fl:qbI B outer x cls a0 h) (tr:∀b u o,H' b=some u->h.get? b=some o->B.get? b=some o) (old:∀b o,s.heap.get? b=some o->b∉Yp (envOfC qual scope s₀.heap.objs.size f cd::outer)->∃o',B.get? b=some o') (new:s.heap.get? x=none) (nx:H' x=none) :
  Fly P w outer H₀ s₀ x cls B a0 H' { s' with heap:=h }:=by
 have I2:Inv (Xh (XE P w) P w K mg base N qual scope f cd A outer s₀ H₀ E) jJ σ H s:=I;have hL:∀b o,s₀.heap.get? b=some o->b∈Yp (envOfC qual scope s₀.heap.objs.size f cd::outer)->b∈Yp outer:=λb o e hb=>by
  unfold Yp at hb;rw[zY]at hb;have hf:(envOfC qual scope s₀.heap.objs.size f cd).frame=some s₀.heap.objs.size:=rfl;rw[hf]at hb;rcases qy.mp hb with z | z
  ·exact absurd (qt e) (by rw[z];exact zQ _)
  ·exact z
 have u0:Un (Yp (envOfC qual scope s₀.heap.objs.size f cd::outer)) [] H₀ H s₀.heap s.heap:=(show Un (Yp outer) [] H₀ H s₀.heap s.heap from I2.base).mono (λb hb=>by
  unfold Yp;rw[zY];exact qL _ hb) λ_ z=>z
 refine⟨ho.trans I2.os,hb,(u0.trans u).shrink hL,hok,fl,tr,λb o e hb'=>?_,?_,nx⟩
 ·obtain⟨o1,e1⟩:=u0.there b o e (by simp)
  exact old b o1 e1 λz=>hb' (hL b o e z)
 ·cases e:s₀.heap.get? x with
  | none=>rfl
  | some o=>
   obtain⟨o1,e1⟩:=u0.there x o e (by simp);rw[new]at e1;cases e1
theorem ZmZ:Wv (XE P w) (Vk P w K mg base N qual scope f cd A outer s₀ H₀ E) E:=by
 rintro jJ σ H s e s' I ⟨x,cls,B,a0,H',rfl,F,hE⟩;have F:Fly P w (envOfC qual scope s₀.heap.objs.size f cd::outer) H s x cls B a0 H' s':=F;refine wpAny_leaves_onW (L:=s₀.heap.objs.size) I.ok.frames rfl F.fl λh fl sl=>?_;obtain⟨u,hok⟩:=F.at fl.1 sl;exact⟨x,cls,B,a0,H',rfl,ZkG I u F.os F.bare hok fl (λb v o e q=>by
  obtain⟨o1,e1⟩:=(F.hok b v e).obj;have:=fl.1 b o1 (F.tr b v o1 e e1);rw[q]at this;cases this;exact F.tr b v _ e e1) F.old F.new F.nx,hE⟩
end
end
noncomputable abbrev V6:List Value:=[.type "ValueError",.type "Exception",.type "BaseException",.type "object"]
structure ExcK (K:qf)(C:Addr)(bm:List Value):Prop where
 ex:∃(nm q:Str) (N:Addr) (bs:List Value) (hd:Bool) (sn:List Str) (sub:List Value) (ab:Bool) (col:Option Bool) (dd:Option Addr) (k0 k1 k2 k3 k5:Option Value),K.lookup C=some (excClassObj nm q C N bs bm hd sn sub ab col dd k0 k1 k2 k3 k5 "ValueError.__new__")/\
  ∃mN:Str->Option Value,mN "__init__" = none/\∀h:Heap,K.In h->h.Ns N mN/\OwnTail h V6 bm
 kp:qY K (.ref C)=true
theorem ZiQ {h:Heap}{bm:List Value}(T:OwnTail h V6 bm):bm.contains (.type "BaseException")=true:=T.hasType (by decide +kernel)
section
variable {P:xy}{w:World}{K:qf}{mg:Str->Option Value}{base:Heap}{N:List Str}{qual:Str}{scope:Scope}{f:Addr}{cd:Value}{A:xz}{outer:List Env}{s₀:Shared}{H₀:Hp}{E:XK}
theorem ZkH {C:Addr}{bm:List Value}{x:Str}{np cpos pos:Pos}{e0:Expr}{t:TA}(c:ExcK K C bm)(hg:Gl (Vk P w K mg base N qual scope f cd A outer s₀ H₀ E) x)(hm:mg x=some (.ref C))(ha:PA (Vk P w K mg base N qual scope f cd A outer s₀ H₀ E) [e0] t)
  (he:xh [e0] (Vk P w K mg base N qual scope f cd A outer s₀ H₀ E).env=(false,eval e0 (Vk P w K mg base N qual scope f cd A outer s₀ H₀ E).env)::xh [] (Vk P w K mg base N qual scope f cd A outer s₀ H₀ E).env:=by rfl) (hdb:(x==("__debug__" : Str))=false:=by decide) :
  PS (Vk P w K mg base N qual scope f cd A outer s₀ H₀ E) (.Raise (some (.Call (.Name x np) [e0] [] cpos)) none pos) (λ_ σ H=>t σ H λvs H1=>vs.length<=xg/\E (.ref C) none H1):=by
 intro jJ s σ H D I h;obtain⟨nm,q,NN,bs,hd,sn,sub,ab,col,dd,k0,k1,k2,k3,k5,lk,mN,hi,ns⟩:=c.ex;have hT:=(ns s.heap I.kIn).2;refine wpAny_Raise_call_subT (C:=C) (nm:=nm) (q:=q) (N:=NN) (bs:=bs) (bm:=bm) (hdct:=hd) (sn:=sn) (sub:=sub) (ab:=ab) (col:=col) (dd:=dd) (k0:=k0) (k1:=k1) (k2:=k2) (k3:=k3) (k5:=k5) (mN:=mN) qaF (ZiQ hT) (I.ok.hd rfl) ?_ hi (U0 I hg hm ⟨rfl,?_⟩ hdb)
 ·rw[he];rfl
 ·have h2:=ha cpos jJ s σ H _ I h
  rw[he]at h2⊢;refine qad (xc h2 (λus s₂ ⟨vs,H1,I1,r,hl,q1⟩=>⟨rfl,by rw[<-r.length];exact hl,I1.kIn _ _ lk,(ns _ I1.kIn).1,(ns _ I1.kIn).2,λh' e hx=>?_⟩) λ_ _ y=>y);have stk:=I1.stack;have hfr:∀b,b∈Yp (envOfC qual scope s₀.heap.objs.size f cd::outer)->H1 b=none:=I1.stkFree;have stB:(qab s₂.heap (Yp (envOfC qual scope s₀.heap.objs.size f cd::outer))).StaysIn s₂.heap:=λb o q=>qaw _ q;have inB:∀b o,s₂.heap.get? b=some o->b∉Yp (envOfC qual scope s₀.heap.objs.size f cd::outer)->(qab s₂.heap (Yp (envOfC qual scope s₀.heap.objs.size f cd::outer))).get? b=some o:=λb o e hb=>qao _ e hb;refine wpAny_leaves_madeW (L:=s₀.heap.objs.size) I1.ok.frames rfl stB (PySem.W.funFrames_hide stk λenv he a ha=>yc.mpr ⟨env,he,ha⟩) hx λh3 t fl tu tn sl=>?_;refine⟨e,.ref C,_,.ref t,H1,rfl,ZkG I1 (s':={ s₂ with heap:=h' }) (h:=h3) ⟨λb o e1 n hb _=>fl.1 _ _ (inB b o e1 hb),λb o e1 n hb _=>?_,λ_ _ _ n _=>n,λb o e1 _=>?_,λ_ _ q=>q,λ_ _ _ q=>q,λ_ ps q=>⟨#[],by rw[q];simp⟩⟩ rfl I1.bare (λa o e1=>?_) fl (λb u o e1 q=>?_) (λb o e1 hb=>⟨o,inB b o e1 hb⟩) hx.new ?_,q1⟩
  ·obtain⟨_,o',e',nf⟩:=stk.mem hb
   rw[e1]at e';cases e';exact sl b o (hx.keeps _ _ e1) nf
  ·by_cases hb:b∈Yp (envOfC qual scope s₀.heap.objs.size f cd::outer)
   ·obtain⟨_,o',e',nf⟩:=stk.mem hb
    rw[e1]at e';cases e';obtain⟨s1,e2⟩:=sl b o (hx.keeps _ _ e1) nf;exact⟨_,e2⟩
   ·exact⟨o,fl.1 _ _ (inB b o e1 hb)⟩
  ·have tk:∀b u o,H1 b=some u->s₂.heap.get? b=some o->h3.get? b=some o:=λb u o e2 q=>fl.1 _ _ (inB b o q λz=>by rw[hfr b z]at e2;cases e2)
   refine(I1.hok a o e1).stay (λb u hb q=>?_) (λ_ q=>q) λ_ _ q=>q;rcases hb with rfl | hb
   ·exact tk b o u e1 q
   ·exact tk b _ u hb q
  ·obtain⟨o1,q1⟩:=(I1.hok b u e1).obj
   have hb:b∉Yp (envOfC qual scope s₀.heap.objs.size f cd::outer):=λz=>by rw[hfr b z]at e1;cases e1
   have:=fl.1 b o1 (inB b o1 q1 hb);rw[q]at this;cases this;exact inB b _ q1 hb
  ·cases q:H1 e with
   | none=>rfl
   | some u=>
    obtain⟨o1,q1⟩:=(I1.hok e u q).obj;rw[hx.new]at q1;cases q1
end
open PySem.Builtin PySem.Builtin.Getset_descriptor PySem.Builtin.ObjectAttr PySem.Calls PySem.W
noncomputable def ZT (x C:Addr)(h:Heap):Prop:=∃o,h.get? x=some o/\o.cls=.ref C
section
variable {prog:xy}{w:World}{A:xz}{E:xA}{s:Shared}{K:Frag}{x D:Addr}
theorem ZT.ty {M:Model}{h:Heap}(p:ZT x D h):Looks M h (typeOf (.ref x)) (.ref D):=by
 obtain⟨o,h1,h2⟩:=p;exact h2▸(Looks.ld h1).andThen .now
structure ClsK (K:Frag)(D:Addr):Prop where
 g1:findIn K (.ref D) "__getattribute__" = some (some (.builtin "BaseException.__getattribute__"))
 g2:findIn K (.ref D) "__getattr__" = some none
 mb:mroIn K D (.type "BaseException")=some true
 cl:(clsIn K D).isSome=true
 fi:findIn K (.ref D) "__class__" = some (some (.builtin "object.__class__"))
 sp:specialIn K (.builtin "object.__class__") "__get__" = some (some (.builtin "getset_descriptor.__get__"))
 tk:takesIn K (.builtin "object.__class__")=some true
 mr:mroIn K D (.type "object")=some true
theorem ZkI {M:Model}{h:Heap}(X:K.In h)(c:ClsK K D):Looks M h (find (.ref x) (.ref D) "__class__") (.bind (.builtin "getset_descriptor.__get__") (.builtin "object.__class__")):=
 (looks_findIn X c.fi).andThen ((show Looks M h (getOf (some (.builtin "object.__class__"))) _ from looks_specialIn X c.sp).andThen
  ((show Looks M h (dataDescriptor? (some (.builtin "object.__class__")) (some (.builtin "getset_descriptor.__get__"))) (some (.builtin "getset_descriptor.__get__",.builtin "object.__class__"))from(looks_takesIn X c.tk).andThen .now).andThen (Looks.tag .now)))
theorem Zmr {tp:Value}{R:Result->Shared->Prop}(X:K.In s.heap)(p:ZT x D s.heap)(c:ClsK K D)(h:R (.ok (.ret (.ref D))) s) :
  xo (xw prog w) A (.call (.builtin "getset_descriptor.__get__") ⟨[.builtin "object.__class__",.ref x,tp],[]⟩) R s:=by
 obtain⟨hh,g,dr,t,os⟩:=s;have L0:=ZT.ty (M:=xw prog w) p;have L1:=looks_mroIn (M:=xw prog w) X c.mr;refine codeAny_call_builtin KF.slot_gs.plain KF.entry_gs (KF.slot_gs.check _ _ _ _ _ _ _ _ KF.type_class (KF.args_gs _ _ _) ?_);unfold Builtin.«getset_descriptor.__get__» descrGet;rw[dga_obj];refine xa (xb ?_);unfold descrGetter descrCheckInstance descrNameAndClass isInstance;simp only[KF.owner_class]
 repeat lk
 refine⟨Code.quiet_builtin _ (by decide +kernel),xm KF.entry_class ?_⟩;unfold Builtin.«object.__class__» shownTypeOf
 repeat lk
 exact h
theorem ZiR {M:Model}{nameV:Value}{Q:Unit->Shared->Prop}(X:K.In s.heap)(p:ZT x D s.heap)(c:ClsK K D)(hq:Q () s):xf M A (checkBuiltinCall "BaseException.__getattribute__" ⟨[.ref x,nameV],[]⟩) Q E s:=by
 obtain⟨hh,g,d,t,os⟩:=s;have L0:=ZT.ty (M:=M) p;have L1:=looks_mroIn (M:=M) X c.mb;have hk:builtinKind "BaseException.__getattribute__" = some .slot:=by decide +kernel
 have hsplit:splitId "BaseException.__getattribute__" = some ("BaseException","__getattribute__"):=by decide +kernel
 have ha:=F.args_bexc_ga (.ref x) nameV;simp only[checkBuiltinCall,hk,hsplit];refine xa ?_;unfold isInstance
 repeat lk
 repeat (first | wp_step | exact hq)
theorem ZiS {Q:Option Value->Shared->Prop}(X:K.In s.heap)(p:ZT x D s.heap)(c:ClsK K D)(h:Q (some (.ref D)) { s with toks:=s.toks+1 }):xf (xw prog w) A (getAttr? (.ref x) "__class__") Q E s:=by
 obtain⟨hh,g,d,t,os⟩:=s;have L0:=ZT.ty (M:=xw prog w) p;have L1:=looks_findIn (M:=xw prog w) X c.g1;have L2':=looks_findIn (M:=xw prog w) X c.g2;have L3:=ZkI (M:=xw prog w) (x:=x) X c;have f3:=F.attr_ValueError.ga.bind (.ref x);have hx1:(onTheHeap (qm D)&&z8 "BaseException.__getattribute__" == z8 "object.__getattribute__")=false:=by
  rw[show(z8 "BaseException.__getattribute__" == z8 "object.__getattribute__")=false by decide +kernel];rfl
 unfold getAttr? getAttrBy? getAttrBy;refine xa (wpAny_mkText (xa (wpAny_attempt (xt (xa (L0.at (xa (L1.at ?_))))))));show xf _ _ (if (onTheHeap (qm D)&&z8 "BaseException.__getattribute__" == z8 "object.__getattribute__")=true then _ else getAttrByItsOwn _ _ _ _ _ _) _ _ _;rw[hx1,if_neg zj];unfold getAttrByItsOwn;refine xa ((show xf _ _ (typeLookup (.ref D) "__getattr__") _ _ _ from L2'.at ?_));refine xa (wpAny_attempt (xt ?_));show xf _ _ (boundAndCalled _ _ _) _ _ _;unfold boundAndCalled;rw[f3];refine xa (xb ?_);refine xu (codeAny_call_builtin F.attr_ValueError.ga.plain F.entry_bexc_ga (ZiR X p c ?_));unfold Builtin.«object.__getattribute__»
 repeat (first | (with_reducible refine xa (L0.at ?_)) | (with_reducible refine xa (L3.at ?_)) | wp_step)
 refine Zmr (s:=⟨hh,g,d,t+1,os⟩) X p c ?_;exact xb (handed_on rfl (xb h))
theorem Zc7 (c:ClsK K D):KitX K (.ref x) (.ref D) (ZT x D) where
 ty:=λ_ _ _ p=>p.ty
 it:=λ_ _ X _=>by
  obtain⟨cd,hc⟩:=qU.mp c.cl;unfold clsIn at hc;split at hc
  ·rename_i ho
   intro A' Q' E' s' k q;unfold isType loadHead;exact xa (wpAny_loadPart (k _ _ (X _ _ ho)) (xb q))
  ·cases hc
 ne:=λh tp dd jK n sl X htp=>by
  obtain⟨cd,hc⟩:=qU.mp c.cl;refine Bool.eq_false_iff.mpr λq=>?_;have e:D=tp:=qm.inj (beq_iff_eq.mp q);subst e;unfold clsIn at hc;split at hc
  ·rename_i ho
   cases (X _ _ ho).symm.trans htp
  ·cases hc
 ca:=λX p k=>ZiS X p c k
end
end L2
namespace L2
open PySem.Calls
noncomputable abbrev Cx.inEx (X:Cx)(v:Value):Cx:={ X with A:=X.A.mark (some v),calm:=false,xe:=λ_ _=>False }
section
variable {X:Cx}{jJ:Qb}{σ:St}{H H':Hp}{s s':Shared}{v:Value}
theorem Cx.Ok.inEx (ok:X.Ok)(v:Value):(X.inEx v).Ok:=
 ⟨ok.mod,ok.kind,ok.glob,ok.blt,ok.above,ok.inj,ok.has,ok.cab,λz=>yo z,ok.frames,ok.stk,ok.exf,ok.bs,ok.bsz,ok.noex,ok.exfs,ok.funs,ok.frf⟩
theorem Inv.inEx (I:Inv X jJ σ H s)(v:Value):Inv (X.inEx v) jJ σ H s:=⟨I.ok.inEx v,I.os,I.bare,I.base,I.loc,I.cell,I.free,I.freeC,I.pin,I.hok,I.len⟩
theorem Inv.outEx (ok:X.Ok)(I:Inv (X.inEx v) jJ σ H s):Inv X jJ σ H s:=⟨ok,I.os,I.bare,I.base,I.loc,I.cell,I.free,I.freeC,I.pin,I.hok,I.len⟩
theorem ZiT {M:Model}{A:xz}{E:xA}{i:Nat}{n:Str}{pos:Pos}{Q:Unit->Shared->Prop}(I:Inv X jJ σ H s)(hN:X.N.Nodup)(hi:X.N[i]?=some n)(hk:X.env.scope.names.lookup n=some .local)
  (h:∀s',Inv X jJ (σ.set i none) H s'->Q () s'):xf M A (do bindName X.env n .none;unbindBehindTheSuite X.env n pos) Q E s:=by
 have hcls:(X.env.scope.kind == .class||(X.env.scope.kind == .module&&X.env.locals != X.env.globals))=false:=by rw[I.ok.kind];rfl
 refine xa (wpAny_bindName (Js (v:=.non) I hN hi (.inl hk) rfl (λs1 I1=>?_) (.inr hk)));unfold unbindBehindTheSuite;refine wpAny_onRaise ?_;unfold unbindName;refine xa (wpAny_point (xa ?_));unfold deleteName;have hko:X.env.kindOf n=some .local:=hk;obtain⟨m,hn,hl⟩:=id I1.loc;have hmn:(m n).isSome=true:=by
  have hiσ:i < σ.length:=by rw[I.len];exact(qx.mp hi).1
  obtain⟨u,r,q⟩:=hl i n .non hi (qD hiσ) (.inl hk);rcases q with⟨_,e⟩ | ⟨k,_⟩
  ·rw[e];rfl
  ·rcases k with k | k <;> (rw[hko]at k;cases k)
 simp only[hko,hcls];rw[if_neg (by decide)];refine xa (wpAny_nsDel_keeps hn λh2 v hn2 hs2=>?_);rw[hmn];simp only[if_true,Bool.not_true,zB,if_false];refine xb (wpAny_point (h _ ?_));have cne:=I1.cne;obtain⟨oL,_,_,hoL,_⟩:=id hn;have kp:∀b o,s1.heap.get? b=some o->b≠X.env.locals->h2.get? b=some o:=λb o e ne=>(hs2.2 b ne).trans e;have neS:∀b o,X.s₀.heap.get? b=some o->b≠X.env.locals:=λb o e=>qG (qB (qt e) I.ok.above);refine⟨I.ok,I1.os,I1.bare,⟨λb o e k hb hx=>kp b o (I1.base.keep b o e k hb hx) (neS b o e),λb o e k hb hx=>?_,I1.base.free,λb o e hx=>?_,I1.base.tups,I1.base.frzs,I1.base.tbls⟩,⟨_,hn2,λj y v' e1 e2 e3=>?_⟩,λy c e=>?_,I1.free,I1.freeC,λp hp=>?_,λb o e=>?_,by rw[List.length_set];exact I.len⟩
 ·obtain⟨sl,e1⟩:=I1.base.slot b o e k hb hx
  exact⟨sl,kp b _ e1 (neS b o e)⟩
 ·obtain⟨o',e1⟩:=I1.base.there b o e hx
  exact⟨o',kp b _ e1 (neS b o e)⟩
 ·by_cases hj:j=i
  ·subst hj
   have hiσ:j < σ.length:=by rw[I.len];exact(qx.mp hi).1
   rw[qD hiσ]at e2
   cases e2
  ·rw[qv (qN hj)]at e2
   obtain⟨u',r',q⟩:=hl j y v' e1 (by rw[qv (qN hj)];exact e2) e3;refine⟨u',r',?_⟩;rcases q with⟨k,e⟩ | ⟨k,c,e,z⟩
   ·refine .inl ⟨k,?_⟩
    have:y≠n:=λe=>hj (ZcL hN e1 (e▸hi));simp[this,e]
   ·exact .inr ⟨k,c,e,z.sameBut hs2 (cne y c e)⟩
 ·obtain⟨w',z⟩:=I1.cell y c e
  exact⟨w',z.sameBut hs2 (cne y c e)⟩
 ·obtain⟨e,k,ne,nf,d⟩:=I1.pin p hp
  exact⟨kp _ _ e ne,k,ne,nf,d⟩
 ·refine(I1.hok b o e).stay (λc w' hc q=>kp c w' q ?_) (λ_ q=>q) λ_ _ q=>q
  rintro rfl;rcases hc with rfl | hc
  ·rw[I1.free]at e;cases e
  ·rw[I1.free]at hc;cases hc
theorem ZdY (x C:Addr):∀h1 h2:Heap,ZT x C h1->(∀o,h1.get? x=some o->h2.get? x=some o)->ZT x C h2:=λ_ _ ⟨o,e,c⟩ k=>⟨o,k o e,c⟩
theorem Fly.inv {x C:Addr}{B h:Heap}{a0:Value}{tk:Nat}(I:Inv X jJ σ H s)(F:Fly X.prog X.w X.stack H s x (.ref C) B a0 H' s')(fl:qbI B X.stack x (.ref C) a0 h)(sl:s'.heap.UpToSlots h) :
  Inv X jJ σ (upd H' x (.ext (ZT x C))) { s' with heap:=h,toks:=tk }:=by
 obtain⟨u,hok⟩:=F.at fl.1 sl;have hb:∀b o,H' b=some o->b≠x:=λb o e z=>by rw[z,F.nx]at e;cases e
 refine I.call' (ch:=[]) F.os ⟨u.keep,u.slot,λb o e n hx=>?_,u.there,λb xs q=>?_,λb o xs q=>?_,λb ps q=>?_⟩ (λb o e=>?_) F.bare λ_ z=>nomatch z
 ·rw[Zj λz=>by rw[z,F.new]at e;cases e]
  exact u.free b o e n hx
 ·have:=u.tups b xs q
  rw[Zj (hb b _ this)];exact this
 ·have:=u.frzs b o xs q
  rw[Zj (hb b _ this)];exact this
 ·obtain⟨more,this⟩:=u.tbls b ps q
  exact⟨more,by rw[Zj (hb b _ this)];exact this⟩
 ·by_cases e1:b=x
  ·subst e1
   rw[ZG]at e
   cases e
   obtain⟨o,q1,q2⟩:=fl.there;exact⟨⟨o,q1,q2⟩,⟨o,q1⟩,ZdY b C⟩
  ·rw[Zj e1]at e
   exact(hok b o e).stay (λ_ _ _ q=>q) (λc q=>by rw[Zj (hb c _ q)];exact q) λc xs q=>by rw[Zj (hb c _ q)];exact q
theorem ZkJ {x C CT:Addr}{B:Heap}{a0:Value}{i:Nat}{n xT:Str}{np pos:Pos}{b₀:Stmt}{suite:List Stmt}{D:Ends}{t:TS}(I:Inv X jJ σ H s)(hst:X.stack=X.env::X.outer)(hfr:X.env.frame=some X.env.locals)
  (F:Fly X.prog X.w X.stack H s x (.ref C) B a0 H' s') (hN:X.N.Nodup) (hi:X.N[i]?=some n) (hk:X.env.scope.names.lookup n=some .local) (hg:Gl X xT) (hm:X.mg xT=some (.ref CT)) (hx:ym X.K (.ref C) (.ref CT)=some true)
  (hs:YU (X.inEx (.ref x)) (b₀::suite) t) (h:t ⟨fun σ' H'=>D.nx (σ'.set i none) H',λ_ _=>False,λ_ _=>False,λ_ _=>False⟩ (σ.set i (some (.ref x))) (upd H' x (.ext (ZT x C)))) (hdb:(xT==("__debug__" : Str))=false:=by decide) :
  xf (xw X.prog X.w) X.A (noteFrame (.ref x) X.env) (λ_ s₂=>xf (xw X.prog X.w) X.A (setFlight (.ref x) none) (λ_ s₃=>
   xf (xw X.prog X.w) X.A (handleBy (.ref x) X.env [.ExceptHandler (some (.Name xT np)) (some n) (b₀::suite) pos]) (SP X jJ D) X.xe s₃) X.xe s₂) X.xe s':=by
 have fl0:=F.fl;rw[hst]at fl0;refine wpAny_looks_onW (L:=X.env.locals) (by rw[<-hst];exact I.ok.frames) hfr fl0 λh4 held sl4=>?_;refine wpAny_landsW held λh5 fl5 sl5=>?_;rw[<-hst]at fl5;have I5:=F.inv (tk:=s'.toks) I fl5 (sl4.trans sl5);have lk5:qaB (xw X.prog X.w) h5 (typeOf (.ref x)) (.ref C):=by
  obtain⟨o,q1,q2⟩:=fl5.there;exact q2▸(qaB.ld q1).andThen .now
 refine wpAny_handleBy_cons (codeAny_handlers_test (U0 (X:=X.inEx (.ref x)) (I5.inEx _) hg hm ?_ hdb)) (by intro q;cases q);refine qaB.here (PySem.W.exm_one (K:=X.K) I5.kIn lk5 hx) ?_;refine codeAny_handlers_suite_as (lands_againW fl5 λh6 fl6 sl6=>?_);have I6:=F.inv (tk:=s'.toks) I fl6 ((sl4.trans sl5).trans sl6);refine Js (X:=X.inEx (.ref x)) (v:=.ref x) (I6.inEx _) hN hi (.inl hk) rfl (λs7 I7=>?_) (.inr hk);refine xc (hs jJ s7 _ _ _ I7 h) (λf s8 q=>?_) λ_ _ z=>z.elim
 cases f with
 | next=>
  obtain⟨σ',H2,I8,q⟩:=q;exact ZiT (I8.outEx I.ok) hN hi hk λs9 I9=>⟨_,_,I9,q⟩
 | brk=>obtain⟨_,_,_,q⟩:=q;exact q.elim
 | cont=>obtain⟨_,_,_,q⟩:=q;exact q.elim
 | ret u=>obtain⟨_,_,_,_,_,q⟩:=q;exact q.elim
end
section
variable {X:Cx}
theorem ZkK {sts:List Stmt}:YU X sts λ_ _ _=>False:=λ_ _ _ _ _ _ h=>h.elim
inductive IsiC (K:qf)(H:Hp)(C:Addr)(b:Bool):V->Prop
 | ty {T:String} (h:yH K (.ref C) (.type T)=some b):IsiC K H C b (.ty T)
 | cl {D:Addr} (h:yH K (.ref C) (.ref D)=some b):IsiC K H C b (.ref D)
 | tp {p:Addr} {ds:List Addr} (hp:H p=some (.tup (ds.map V.ref))) (h:PySem.W.kitAny K (.ref C) (ds.map qm)=some b):IsiC K H C b (.ref p)
theorem ZhT:∀{ds:List Addr} {us:List Value},Zy (ds.map V.ref) us->us=ds.map qm
 | [],_,.nil=>rfl
 | _::_,_,.cons r t=>by
  cases r
  rw[ZhT t];rfl
theorem ZiU:XJ X (.builtin "isinstance") (λvs H Q=>∃x C c b,vs=[.ref x,c]/\H x=some (.ext (ZT x C))/\ClsK X.K C/\IsiC X.K H C b c/\Q (.bl b) H):=by
 intro jJ s σ H vs us Q I r h;obtain⟨x,C,c,b,rfl,hx,ck,hc,q⟩:=h;obtain⟨u,v,rfl,ru,rv⟩:=Zhv r
 cases ru
 have p:ZT x C s.heap:=(I.hok x _ hx).1;have nb:(qm x:Value)≠.builtin "__main__.__loader__#opaque":=by intro z;cases z
 have fin:∀tk,EP X jJ σ Q (.bool b) { s with toks:=tk }:=λtk=>⟨.bl b,H,I.tok tk,rfl,q⟩
 cases hc with
 | ty h=>cases rv;exact qT (Zc7 ck) I.kIn p h nb fin
 | cl h=>cases rv;exact qT (Zc7 ck) I.kIn p h nb fin
 | tp hp h=>
  cases rv
  obtain⟨_,jK,rr,o,ho,hcl,n,hd⟩:=I.hok _ _ hp;rw[ZhT rr]at hd;obtain⟨oc,od,oda,osl⟩:=o
  cases hcl
  cases hd
  exact PySem.W.kia_tup (Zc7 ck) I.kIn p ho h nb fin
end
end L2
namespace TF
open PySem.Calls L2
section
variable {X:Cx}
end
noncomputable def VJ (n:Nat)(GG:Gh->Prop)(R:List D->M Unit)(C:Addr):Sp:=λvs H _ E=>∃(G:Gh) (Hf:Hp) (ds:List D) (s s':Pn),GG G/\vs.length=n/\Zz G Hf H/\Zi G Hf ds vs/\G.st s H/\R ds s=some ((),s')/\∀Hf' H',Gr G Hf H Hf' H'->G.st s' H'->E (.ref C) none H'
noncomputable def UG (X:Cx)(G:Gh)(own:List Nat)(sts:List Stmt)(R:Zc->M Unit)(Ex:Hp->Prop):Prop:=
 ∃t,YU X sts t/\∀(kn jO H0:Hp) (σ:St) (H:Hp) (ρ:Zc) (s s':Pn) (D:Ends),J G own kn jO H0 σ H ρ->G.st s H->R ρ s=some ((),s')->(∀Hf' H',Gr G jO H0 Hf' H'->G.st s' H'->Ex H')->t D σ H
section
variable {X:Cx}{G:Gh}{own own2:List Nat}{Ex:Hp->Prop}
noncomputable def BX (g:Zc->M Out)(R:Zc->M Unit):Zc->M Unit:=fun ρ=>Zk (g ρ) λo=>match o with | .nx ρ'=>R ρ' | _=>ZK
theorem PS.nox {st:Stmt}{t:TS}(h:PS X.nox st t):PS X st t:=λjJ s σ H D I hw=>
 xc (h jJ s σ H D (I.wish _) hw) (λ_ _ q=>q.unwish) λ_ _ z=>qM z
theorem Zfw {st:Stmt}{rest:List Stmt}{fr:Bool}{g:Zc->M Out}{R:Zc->M Unit}(h:Y3 X.nox G [] own own2 fr st g)(hr:UG X G own2 rest R Ex):UG X G own (st::rest) (BX g R) Ex:=by
 obtain⟨t,p,q⟩:=h;obtain⟨u,p2,q2⟩:=hr;refine⟨_,Xo (PS.nox p) p2,λkn jO H0 σ H ρ s s' D j st e k=>?_⟩;obtain⟨o,s1,a1,a2⟩:=Zv e
 cases o with
 | nx ρ'=>exact q kn jO H0 σ H ρ s (.nx ρ') s1 _ j st a1 fun σ' H' j' st'=>q2 kn jO H0 σ' H' ρ' s1 s' D j' st' a2 k
 | rt d=>cases a2
 | bk ρ'=>cases a2
 | ct ρ'=>cases a2
noncomputable def UO (fc:Zc->M Bool):Zc->M Unit:=fun ρ=>Zk (fc ρ) λb=>if b=true then ZL ()else ZK
theorem ZgW {c:Expr}{st:Stmt}{rest:List Stmt}{pos:Pos}{fc:Zc->M Bool}(hc:Xd X.nox G c fc)(hr:PS X st λ_ _ H=>Ex H):UG X G own (.If c [st] [] pos::rest) (UO fc) Ex:=by
 obtain⟨tc,pc,qc⟩:=hc;refine⟨_,Xo (JP pc.nox (Vp hr) Bn) ZkK,λkn jO H0 σ H ρ s s' D ⟨Hf,j⟩ st e k=>?_⟩;obtain⟨b,s1,a1,a2⟩:=Zv e;refine qc σ _ H ρ s b s1 _ Vn j.envB st a1 λHf' H' g st'=>?_;obtain⟨F,j',fF,q1,q2⟩:=j.growB g
 cases b with
 | true=>
  obtain⟨_,rfl⟩:=ZP a2;exact WW (k _ _ j'.gr st')
 | false=>cases a2
noncomputable def UH (n k:Nat)(R:Zc->M Unit):List D->M Unit:=λds=>if ds.length=k then R (ds.map some++qk (n-k) none)else ZK
end
theorem fnX {P:xy}{w:World}{K:qf}{mg:Str->Option Value}{base:Heap}{x qual:Str}{st:Stmt}{f:Addr}{fd:xx}{N ps:List Str}{k:Nat}{GG:Gh->Prop}{R:Zc->M Unit}{C:Addr}
  (F:Fun K x qual st f fd) (S:FnScope N ps (Zx st))
  (hb:∀(cdv:Value) (A:xz) (outer:List Env) (s:Shared) (H:Hp) (E:XK),Room k (A.deeper (envOfC qual (Zx st) s.heap.objs.size f cdv))->∀G,GG G->UG (Vk P w K mg base N qual (Zx st) f cdv A outer s H E) G [] (Y6 st) R λH'=>E (.ref C) none H') :
  FnOk P w K mg base (XE P w) (k+1) f fd ps (VJ ps.length GG (UH N.length ps.length R) C):=by
 obtain⟨oc,od,kV,doc,pm,an,cdv,ct,osl,rfl,lk,hcd⟩:=F.ex;refine ZjK lk hcd S (λvs H Q E h=>?_) λA outer s H vs Q E hr h=>?_
 ·obtain⟨G,Hf,ds,pn,pn',_,e,_⟩:=h
  exact e
 ·obtain⟨G,Hf,ds,pn,pn',hG,el,e1,r,st',eF,k'⟩:=h
  obtain⟨t,p,q⟩:=hb cdv A outer s H E hr G hG;refine⟨t,p,?_⟩;obtain⟨hl,a0⟩:=Xy eF;have hpl:ps.length<=N.length:=by have:=congrArg qbc S.pre;rw[zT]at this;omega
  refine q Hf Hf H (L2.start N vs) H (ds.map some++qk (N.length-ps.length) none) pn pn' _ ⟨Hf,?_,.refl _ _,.refl e1,λi d n e=>?_,λi d m e=>by simp at m,λi j a di dj mi=>by simp at mi⟩ st' a0 k'
  ·unfold L2.start;simp;omega
  ·have hi:i<ds.length:=by
    by_cases hi:i<ds.length
    ·exact hi
    ·rw[zx (by simpa using hi),zG]at e
     split at e <;> cases e
   have e':ds[i]?=some d:=by
    rw[qS (by simpa using hi),qE]at e
    cases q:ds[i]? with
    | none=>rw[q]at e;cases e
    | some c=>rw[q]at e;simp at e;rw[e]
   obtain⟨v,h1,h2⟩:=r.get e';refine⟨v,?_,h2⟩;unfold L2.start;rw[qS (by rw[qp,<-r.length];exact hi),qE,h1];rfl
end TF
namespace TF
open L2
theorem ZkL {ps:List Str}(hpl:ps.length<=N.length)(q:Dos G [] [] own fr t g)(e1:Zz G Hf H)(r:Zi G Hf ds vs)(st':G.st pn H)(eF:runB N.length ps.length g ds pn=some (d,pn'))
  (k':∀v Hf' H',Gr G Hf H Hf' H'->G.st pn' H'->Zl G Hf' d v->(fr=true->Z3 G H Hf' d v)->Q v H'):t { nx:=λ_ H'=>Q .non H',rt:=Q } (L2.start N vs) H:=by
 obtain⟨hl,a0⟩:=Xy eF;obtain⟨o,s1,a1,a2⟩:=Zv a0;have j0:Jf G [] Hf Hf H (L2.start N vs) Hf H (ds.map some++qk (N.length-ps.length) none):=by
  refine⟨?_,.refl _ _,.refl e1,λi d n e=>?_,λi d m e=>absurd m (by simp),λi j a di dj mi mj n e=>absurd mi (by simp)⟩
  ·have:=r.length
   unfold L2.start;simp;omega
  ·have hi:i<ds.length:=by
    by_cases hi:i<ds.length
    ·exact hi
    ·rw[zx (by simpa using hi),zG]at e
     split at e <;> cases e
   have e':ds[i]?=some d:=by
    rw[qS (by simpa using hi),qE]at e
    cases q:ds[i]? with
    | none=>rw[q]at e;cases e
    | some c=>rw[q]at e;simp at e;rw[e]
   obtain⟨v,h1,h2⟩:=r.get e';refine⟨v,?_,h2⟩;unfold L2.start;rw[qS (by simp;rw[<-r.length];exact hi),qE,h1];rfl
 refine q Hf Hf H (L2.start N vs) H _ pn o s1 _ ⟨Hf,j0⟩ st' a1 ?_
 cases o with
 | rt c=>
  obtain⟨rfl,rfl⟩:=ZP a2;exact λv Hf' H' g' j6 r2 fz=>k' v Hf' H' g' j6 r2 fz
 | nx ρ'=>
  obtain⟨rfl,rfl⟩:=ZP a2;exact fun σ' H' ⟨Hf',j'⟩ j6=>k' .non Hf' H' j'.gr j6 (jh.mpr rfl) λ_=>.scal λz=>z
 | bk ρ'=>cases a2
 | ct ρ'=>cases a2
theorem fnDC {K:qf}{st:Stmt}
  (F:Fun K x qual st f fd) (S:FnScope N ps (Zx st))
  (hb:∀(A:xz) (outer:List Env) (s:Shared) (H:Hp) (E:XK),Room k (A.deeper (envOfC qual (Zx st) s.heap.objs.size f fd.code))->∀G,GG G->Xp (Xh ZH P w K mg base N qual (Zx st) f fd.code A outer s H E).nox G [] [] own fr (Y6 st) g) :
  FnOk P w K mg base ZH (k+1) f fd ps (Z1 ps.length fr GG (runB N.length ps.length g)):=by
 obtain⟨oc,od,kV,doc,pm,an,cdv,ct,osl,rfl,lk,hcd⟩:=F.ex;refine ZjK lk hcd S (λvs H Q E ⟨_,_,_,_,_,_,_,e,_⟩=>e) λA outer s H vs Q E hr h=>?_;obtain⟨G,Hf,ds,pn,d,pn',hG,el,e1,r,st',eF,k'⟩:=h;obtain⟨t,p,q⟩:=hb A outer s H E hr G hG;exact⟨t,p.nox,ZkL (by have:=congrArg qbc S.pre;grind) q e1 r st' eF k'⟩
section
variable {X:Cx}{G:Gh}{P c:Addr}{q:Str}{k kl n:Nat}{x:Str}{fr frb:Bool}{F:List D->M D}{T:Nat->List D->M D}{t:Nat}{e1:Expr}{f1:Zc->M D}{r1:Bool}{params:Arguments}{scope:Scope}{lpos ppos pos:Pos}{XN N ps:List Str}{NS:List (Str×NameKind)}{cix:List Nat}
end
noncomputable def J5 (mg:Str->Option Value)(h:Heap):Prop:=∃bm o,mg "__builtins__" = some (.ref bm)/\bm≠builtinsNs/\bm≠mainGlobals/\h.get? bm=some o/\o.cls=.type "module"/\o.dict=some builtinsNs/\o.data=.plain
theorem ZiV {K:qf}{tb:List (Addr×Addr)}
  (KX:K.In s₁.heap) (hns:s₁.heap.Ns mainGlobals mg) (hb:s₁.heap.Ns builtinsNs mb) (hbb:∀x:Str,x≠"__name__"->mb x=xj x) (hlim:s₁.heap.NoLimit) (hg:s₁.gens = #[])
  (hT:∀e∈tb,zL s₁.heap e.1 e.2/\s₁.heap.get? e.2=some (qat #[])) (hKt:PySem.W.noTabs K=true) (hbm:J5 mg s₁.heap)
  (ha:s₁.heap.get? a=some { cls:=.type "list",data:=.seq vs.toArray }) (hi:IntsAre vs ns) (hl:ns.length<=xg) (hr:Room k callerA)
  (F:∀base:Heap,K.In base->base.Ns mainGlobals mg->(∀e∈tb,zL base e.1 e.2)->J5 mg base->FnOk P w K mg base CX k fa fd [x] sp) (hbind:∀(s:Shared) (u:Value),BindsTo s fd ⟨[u],[]⟩ [(x,u)])
  (hsp:∀H:Hp,ZJ K H a (ns.map V.int)->(∀e∈tb,H e.2=some (.tbl #[]))->sp [.ref a] H (λv _=>v=.bl true) λ_ _ _=>False)
  (hCX:∀H e s',CX [] H s₁ (λ_ _ _=>False) e s'->False) :
  xo (xw P w) callerA (.call (.ref fa) ⟨[.ref a],[]⟩) (λr s'=>r=.ok (.ret (.bool true))/\OldK s₁.heap s'.heap/\s'.os=s₁.os/\AllBare s'.gens) s₁:=by
 have rv:=ZdM hi;have lenV:=hi.length;have tabne:∀e∈tb,e.2≠a:=λe he z=>by
  have:=(hT e he).2;rw[z,ha]at this;cases this
 have noK:∀e∈tb,K.lookup e.2=none:=λe he=>by
  cases q:K.lookup e.2 with
  | none=>rfl
  | some o=>
   have h2:=zy.mp hKt (e.2,o) (PySem.W.mem_of_lookupK q);have e1:=KX _ _ q;rw[(hT e he).2]at e1
   cases e1
   exact absurd (show false=true from h2) zj
 have core:∀H:Hp,(∀b u,H b=some u->(b=a/\u=.frz { cls:=.type "list",data:=.seq vs.toArray } (.lst (ns.map V.int))/\K.lookup a=none)∨(u=.tbl #[]/\∃e∈tb,e.2=b))->ZJ K H a (ns.map V.int)->(∀e∈tb,H e.2=some (.tbl #[]))->
   xo (xw P w) callerA (.call (.ref fa) ⟨[.ref a],[]⟩) (λr s'=>r=.ok (.ret (.bool true))/\OldK s₁.heap s'.heap/\s'.os=s₁.os/\AllBare s'.gens) s₁:=by
  intro H hO hS hTb;have hok:Yf P w H s₁.heap:=λb u e=>by
   rcases hO b u e with⟨rfl,rfl,_⟩ | ⟨rfl,e',he,rfl⟩
   ·exact⟨ha,by rw[qp];exact hl,vs,_,rv,ha⟩
   ·exact(hT e' he).2
  have base_of:∀{b:Addr} {o:Obj},s₁.heap.get? b=some o->H b=none->(Ve s₁.heap H).get? b=some o:=λe n=>Zjx e n;have noA:∀{b:Addr} {o:Obj},s₁.heap.get? b=some o->(∀vs n,o.data≠.seq vs n)->(∀vs,o.data≠.fields vs∨o.cls≠.none)->H b=none:=λ{b o} e d1 d2=>by
   cases q:H b with
   | none=>rfl
   | some u=>
    rcases hO b u q with⟨rfl,_,_⟩ | ⟨_,e',he,rfl⟩
    ·rw[ha]at e;cases e;exact absurd rfl (d1 _ _)
    ·rw[(hT e' he).2]at e;cases e
     rcases d2 #[]with z | z
     ·exact absurd rfl z
     ·exact absurd rfl z
  have nsK:∀{b:Addr} {m:Str->Option Value},s₁.heap.Ns b m->(Ve s₁.heap H).Ns b m:=λ{b m} ⟨o,es,ep,e,d,r⟩=>⟨o,es,ep,base_of e (noA e (λ_ _ z=>by rw[d]at z;cases z) λ_=>.inl λz=>by rw[d]at z;cases z),d,r⟩;have hKb:K.In (Ve s₁.heap H):=λb o e=>base_of (KX b o e) (by
   cases q:H b with
   | none=>rfl
   | some u=>
    rcases hO b u q with⟨rfl,_,z⟩ | ⟨_,e',he,rfl⟩
    ·rw[z]at e;cases e
    ·rw[noK e' he]at e;cases e)
  have hM:Mod K mg (Ve s₁.heap H):=⟨hKb,nsK hns,⟨mb,nsK hb,hbb⟩,let ⟨mc,h1,h2⟩:=hlim;⟨mc,nsK h1,h2⟩⟩;have e0:Env0 P w K mg (Ve s₁.heap H) callerA [] s₁ H:=⟨rfl,hM,λb o e=>ZlI e,qbG (Zii _ _),trivial,λb hb=>absurd (show b∈([]:List Addr)from hb) (by simp),hok,.of_eq hg⟩;have hCd:∀e∈tb,zL (Ve s₁.heap H) e.1 e.2:=λe he=>by
   obtain⟨o,vs',file,tf,flags,tg,inF,text,tt,e1,r1,r2,r3⟩:=(hT e he).1;exact⟨o,vs',file,tf,flags,tg,inF,text,tt,base_of e1 (noA e1 (λ_ _ z=>by rw[r2]at z;cases z) λ_=>.inr (by rw[r1];nofun)),r1,r2,r3⟩
  have hBm:J5 mg (Ve s₁.heap H):=by
   obtain⟨bm,o,e1,e2,e3,e4,e5,e6,e7⟩:=hbm;exact⟨bm,o,e1,e2,e3,base_of e4 (noA e4 (λ_ _ z=>by rw[e7]at z;cases z) λ_=>.inl λz=>by rw[e7]at z;cases z),e5,e6,e7⟩
  refine codeAny_mono ((F _ hKb (nsK hns) hCd hBm).run callerA [] s₁ H ⟨[.ref a],[]⟩ [.ref a] [.ref a] _ _ hr e0 (hbind s₁ (.ref a)) (.cons rfl .nil) (hsp H hS hTb)) λr s' h=>?_
  cases r with
  | error e=>exact(hCX H e s' h).elim
  | ok fl=>
   cases fl with
   | next=>exact qM h
   | brk=>exact qM h
   | cont=>exact qM h
   | ret u=>
    obtain⟨v,H',os,bare,un,hok',r',q⟩:=h;have q':v=.bl true:=q;subst q';obtain rfl:u=qZ true:=r';refine⟨rfl,⟨λb o e=>?_,λb o e=>un.there b o e (by simp)⟩,os,bare⟩
    cases q:H b with
    | none=>exact .inl (un.keep b o e q (by intro z;exact absurd (show b∈([]:List Addr)from z) (by simp)) (by simp))
    | some u=>
     rcases hO b u q with⟨rfl,rfl,_⟩ | ⟨rfl,e',he,rfl⟩
     ·have z2:=un.frzs b _ _ q
      obtain⟨e1,_⟩:=hok b _ q;obtain⟨e2,_⟩:=hok' b _ z2;rw[e]at e1;cases e1;exact .inl e2
     ·obtain⟨more,z⟩:=un.tbls _ _ q
      have z2:s'.heap.get? e'.2=some (qat (#[]++more)):=hok' _ _ z;have e1:=(hT e' he).2;rw[e]at e1;cases e1;exact .inr (.inl ⟨((hT e' he).1.tab (hT e' he).2).isCodeTable,rfl,#[],more,rfl,z2⟩)
 cases hk:K.lookup a with
 | some o=>
  have e:=KX a o hk;rw[ha]at e
  cases e
  refine core (λb=>open Classical in if ∃e∈tb,e.2=b then some (.tbl #[])else none) (λb u z=>?_) (.inr ⟨_,vs.toArray,_,hk,rfl,rfl,rfl,by rw[za,lenV];exact hl,by simpa using rv⟩) (λe he=>if_pos ⟨e,he,rfl⟩);by_cases h:∃e∈tb,e.2=b
  ·rw[if_pos h]at z;cases z;exact .inr ⟨rfl,h⟩
  ·rw[if_neg h]at z;cases z
 | none=>
  refine core (λb=>open Classical in if ∃e∈tb,e.2=b then some (.tbl #[])else if b=a then some (.frz { cls:=.type "list",data:=.seq vs.toArray } (.lst (ns.map V.int)))else none) (λb u z=>?_) (.inl (.inr ⟨{ cls:=.type "list",data:=.seq vs.toArray },?_⟩)) (λe he=>if_pos ⟨e,he,rfl⟩)
  ·by_cases h:∃e∈tb,e.2=b
   ·rw[if_pos h]at z;cases z;exact .inr ⟨rfl,h⟩
   ·rw[if_neg h]at z
    by_cases hb:b=a
    ·rw[if_pos hb]at z;cases z;exact .inl ⟨hb,rfl,hk⟩
    ·simp_all
  ·show(if ∃e∈tb,e.2=a then _ else _)=_
   rw[if_neg (λ⟨e,he,z⟩=>tabne e he z),if_pos rfl]
theorem ZkM {l : PySem.W.OpenLaw}{K : Params -> qf}{CX : World -> VG}{sp : World -> Sp}{tb : List (Str × Addr × Addr)}
    (hn : l.most = some n) (hn2 : n <= xg) (hdf : d.params.defaults = []) (hr : Room k callerA)
    (hY : ∀ (w : World) (h : Heap), YP w h -> (K w.params).In h)
    (hrec : ∀ e ∈ tb, ∃ d, (recsOf q).find? (λr => r.name == e.1) = some d) (htab : ∀ w : World, ∀ e ∈ tb, PySem.W.tabIn (K w.params) e.1 = some e.2) (hno : ∀ w : World, PySem.W.noTabs (K w.params) = true)
    (F : ∀ (w : World) (mg : Str -> Option Value) (fa : Addr) (h : Heap), (K w.params).In h -> h.Ns mainGlobals mg -> mg d.name = some (.ref fa) ->
      ∃ fd : xx, (∀ (s : Shared) (u : Value), BindsTo s fd ⟨[u], []⟩ [(x, u)]) /\
        ∀ base : Heap, (K w.params).In base -> base.Ns mainGlobals mg -> (∀ e ∈ tb, zL base e.2.1 e.2.2) -> J5 mg base -> FnOk l.prog w (K w.params) mg base (CX w) k fa fd [x] (sp w))
    (hsp : ∀ (w : World) (H : Hp) (a : Addr) (ns : List Int), ns.length <= n -> ZJ (K w.params) H a (ns.map V.int) -> (∀ e ∈ tb, H e.2.2 = some (.tbl #[])) -> sp w [.ref a] H (λv _ => v = .bl true) λ_ _ _ => False)
    (hCX : ∀ (w : World) (H : Hp) (s : Shared) (e : Value) (s' : Shared), CX w [] H s (λ_ _ _ => False) e s' -> False) :
    qbz q loose XP YP l.row.toRowW d [] (λf vs => qbr f vs) := by
  refine Att.attach_call hn hdf λw s₀ s₁ mg mb fa o pm cd doc a vs ns G Y ho hd hcd hmg hobj hints jR hg => ?_;have KX := hY w _ Y;obtain⟨fd, hb, hF⟩ := F w mg fa _ KX G.T.g hmg;have hT : ∀ e ∈ tb.map (·.2), zL s₁.heap e.1 e.2 /\ s₁.heap.get? e.2 = some (qat #[]) := λe he => by
    obtain⟨e', he', rfl⟩ := qA.mp he;obtain⟨d', hd'⟩ := hrec e' he';exact PySem.W.tab_of G.T KX hd' (htab w e' he')
  exact ZiV KX G.T.g G.T.b G.T.builtins G.T.nolimit hg hT (hno w) (let ⟨bm, ob, a, b, c, d, e, f⟩ := G.T.bmain; ⟨bm, ob, a, b, (λz => by
      obtain⟨o, es, ep, e', hd', _⟩ := G.T.g
      grind), c, d, e, f⟩) hobj hints (qI jR hn2) hr
    (λbase h1 h2 h3 h4 => hF base h1 h2 (λe he => h3 e.2 (yr he)) h4) hb (λH hS hTb => hsp w H a ns jR hS λe he => hTb e.2 (yr he)) λH e s' => hCX w H s₁ e s'
end TF
namespace L2
section
variable {X:Cx}{jJ:Qb}{σ:St}{H:Hp}{s:Shared}{h':Heap}
end
end L2
namespace TF
open L2
section
variable {X:Cx}{G:Gh}
end
section
variable {X:Cx}{G:Gh}
noncomputable def XQ (n:Int)(r:List Int):Int:=r.foldl max n
theorem Zms (r:List Int):∀n,n<=XQ n r/\∀a∈r,a<=XQ n r:=by
 induction r with
 | nil=>intro n;exact⟨Int.le_refl _,by simp⟩
 | cons b r ih=>
  intro n;obtain⟨h1,h2⟩:=ih (max n b);refine⟨?_,λa ha=>?_⟩
  ·show n<=XQ (max n b) r;omega
  ·show a<=XQ (max n b) r
   grind
theorem ZkN (r:List Int):∀n,XQ n r∈n::r:=by
 induction r with
 | nil=>simp[XQ]
 | cons b r ih=>
  intro n;show XQ (max n b) r∈n::b::r
  grind
theorem ZkO {M:Int}(h1:M∈n::r)(h2:∀a∈n::r,a<=M):M=XQ n r:=by
 obtain⟨g1,g2⟩:=Zms r n;have g3:=h2 _ (ZkN r n)
 grind
noncomputable def ZhU:List D->Option D
 | [.lst ds]=>match Z4 ds with | some (n::r)=>some (.int (XQ n r)) | _=>none
 | _=>none
theorem ZiW (hc:X.calm=true):XJ X (.builtin "max") (λxs H Q=>∃p n r,xs=[.ref p]/\ZJ X.K H p ((n::r).map V.int)/\Q (.int (XQ n r)) H):=by
 intro jJ s σ H xs us Q I r h;obtain⟨p,n,rr,rfl,hp,q⟩:=h;obtain⟨u,rfl,ru⟩:=Wx r
 cases ru
 obtain⟨jK,rv,pl,hz⟩:=I.list hp;have hi:IntsAre jK (n::rr):=UU rv;obtain⟨xs,e⟩:=hi.allInts.items;have hns:n::rr=xs.toList.map (·.1):=by rw[<-hi.numsOf,<-nums_intItems,<-e]
 have hl:=pl.isList;rw[e]at hl;have hsz:0<xs.size:=by
  have h3:0<(n::rr).length:=by simp
  simp_all
 refine max_intList (I.ok.hd hc) hl hsz λv h' tk hv hk=>?_;obtain⟨t,rfl⟩:=intItems_at hv;obtain⟨h1,h2⟩:=argBest_gt (numAt xs) (xs.size-1);have e2:numAt xs (argBest (λi j=>decide (numAt xs i > numAt xs j)) (xs.size-1))=XQ n rr:=by
  refine ZkO ?_ λa ha=>?_
  ·rw[hns,numAt_eq];exact getD_mem (by rw[qp,zH];omega)
  ·rw[hns]at ha
   obtain⟨j,hj,rfl⟩:=mem_getD ha;rw[qp,zH]at hj;rw[<-numAt_eq];exact h2 j (by omega)
 rw[e2];exact⟨.int (XQ n rr),H,I.kept hk,⟨_,rfl⟩,q⟩
theorem ZgX (hc:X.calm=true):Wy X G (.builtin "max") ZhU:=
 ⟨_,ZiW hc,λHf H s xs ds c Q e1 st r q k=>by
  match ds,q,r with
  | [.lst es],q,r=>
   have q:(match Z4 es with | some (n::r)=>some (D.int (XQ n r)) | _=>none)=some c:=q
   cases he:Z4 es with
   | none=>simp_all
   | some ns=>
    cases ns with
    | nil=>simp_all
    | cons n rr=>
     rw[he]at q
     cases q
     obtain⟨v,rfl,rv⟩:=ji r;obtain⟨p,vs,rfl,np,hp,rp⟩:=jc.mp rv;rw[UX he]at rp;rw[jp rp]at hp;exact⟨p,n,rr,rfl,ZJ.of (e1 _ _ np hp),k _ Hf H (.refl e1) st (ja.mpr rfl) (.scal λz=>z)⟩⟩
end
theorem ZaV:∀{a b:List Int},a.Perm b->a.Pairwise (·<=·)->b.Pairwise (·<=·)->a=b
 | [],b,p,_,_=>(List.nil_perm.mp p).symm
 | x::a,[],p,_,_=>absurd p.length_eq (by simp)
 | x::a,y::b,p,ha,hb=>by
  have ha':=yg.mp ha;have hb':=yg.mp hb;have e:x=y:=by
   have h1:x∈y::b:=p.mem_iff.mp (by simp);have h2:y∈x::a:=p.mem_iff.mpr (by simp)
   grind
  subst e;rw[ZaV (List.Perm.cons_inv p) ha'.2 hb'.2]
noncomputable def WQ (ns:List Int):List Int:=ns.mergeSort λa b=>decide (a<=b)
theorem Zc8 (ns:List Int):(WQ ns).Perm ns:=qbB ns _
theorem ZeA (ns:List Int):(WQ ns).Pairwise (·<=·):=by
 have h:=qa5 (le:=λ(a b:Int)=>decide (a<=b)) (λa b c h1 h2=>by grind) (λa b=>by simp;omega) ns;exact h.imp λh=>by simp_all
theorem Zc9 (p:a.Perm ns)(h:a.Pairwise (·<=·)):a=WQ ns:=ZaV (p.trans (Zc8 ns).symm) h (ZeA ns)
section
variable {X:Cx}{G:Gh}
theorem Zbx:∀{vs:List Value} {ns:List Int},IntsAre vs ns->Zy (ns.map V.int) vs
 | _,_,.nil=>.nil
 | _,_,.cons n t r=>.cons ⟨t,rfl⟩ (Zbx r)
theorem ZgY:XJ X (.builtin "sorted") (λxs H Q=>∃(p:Addr) (ns:List Int),xs=[.ref p]/\ZJ X.K H p (ns.map V.int)/\ns.length<64/\∀l,H l=none->Q (.ref l) (upd H l (.lst ((WQ ns).map V.int)))):=by
 intro jJ s σ H xs us Q I r h;obtain⟨p,ns,rfl,hp,h64,q⟩:=h;obtain⟨u,rfl,ru⟩:=Wx r
 cases ru
 obtain⟨jK,rv,pl,hz⟩:=I.list hp;have hi:=UU rv;have hl:=rv.length;rw[qp]at hl;refine sorted_ints pl.isList hi (by omega) λout ns' a1 a2 a3=>?_;obtain⟨e,he⟩:=sortedAll_at s.heap jK out;have en:=Zc9 a2 a3;subst en;have hle:s.heap.objs.size<=s.heap.objs.size+1:=qbM _;refine⟨.ref (s.heap.objs.size+1),_,I.laid (o:=.lst ((WQ ns).map V.int)) (λ_ _=>sortedAll_old) hle ⟨?_,out.toList,e,Zbx a1,he⟩,rfl,q _ (I.hok.fresh hle)⟩;rw[qp,(Zc8 ns).length_eq,sizeLine_eq];omega
noncomputable def ZcC:List D->Option D
 | [.lst ds]=>match Z4 ds with | some ns=>if ns.length<64 then some (.lst ((WQ ns).map .int))else none | none=>none
 | _=>none
theorem Za5:∀ns:List Int,Zi G Hf (ns.map D.int) (ns.map V.int)
 | []=>Zi.nil_iff.mpr rfl
 | n::ns=>.cons (ja.mpr rfl) (Za5 ns)
theorem ZeB:Wy X G (.builtin "sorted") ZcC:=
 ⟨_,ZgY,λHf H s xs ds c Q e1 st r q k=>by
  match ds,q,r with
  | [.lst es],q,r=>
   have q:(match Z4 es with | some ns=>if ns.length<64 then some (D.lst ((WQ ns).map .int))else none | none=>none)=some c:=q
   cases he:Z4 es with
   | none=>simp_all
   | some ns=>
    rw[he]at q;have q:(if ns.length<64 then some (D.lst ((WQ ns).map .int))else none)=some c:=q;split at q
    ·rename_i h64
     cases q
     obtain⟨v,rfl,rv⟩:=ji r;obtain⟨p,vs,rfl,np,hp,rp⟩:=jc.mp rv;rw[UX he]at rp;rw[jp rp]at hp;refine⟨p,ns,rfl,ZJ.of (e1 _ _ np hp),h64,λl hl=>?_⟩;have nf:=Gh.nofp st hl;have g2:=Gr.new (o:=.lst ((WQ ns).map V.int)) e1 hl nf;exact k (.ref l) _ _ g2 (Gh.grow st hl) (jc.mpr ⟨l,_,rfl,nf,ZG,Za5 _⟩) (Z3.mk e1 hl nf (Za5 _))
    ·cases q⟩
theorem Za6:Xp X G ob own own' fr sts (λ_=>ZK):=⟨λ_ _ _=>False,λ_ _ _ _ _ _ h=>h.elim,λ_ _ _ _ _ _ _ _ _ _ _ _ e _=>by cases e⟩
end
end TF
namespace HT
section
variable {prog:xy}{w:World}{A:xz}{E:xA}{s:Shared}
end
end HT
namespace TF
open L2
section
variable {X:Cx}{G:Gh}
end
end TF
namespace L2
open AutoSeq1 (wpAny_loadPart')
section
variable {prog:xy}{w:World}{A:xz}{E:xA}{s:Shared}
end
end L2
namespace TF
open L2
section
variable {X:Cx}{G:Gh}
end
section
variable {X:Cx}{G:Gh}
noncomputable def Jh (f:Zc->M D):Zc->M D:=fun ρ=>Zk (f ρ) λd=>match d with | .int i=>ZL (.int (-i)) | _=>ZK
theorem Zmt (ha:PD X G r1 a f):PD X G true (.UnaryOp .USub a pos) (Jh f):=by
 obtain⟨t,p,q⟩:=ha.drop;refine⟨_,ZmU ZjC p,fun σ Hf H ρ s d s' Q e1 e2 e3 e4 k=>?_⟩;obtain⟨d0,s1,a1,a2⟩:=Zv e4;refine q σ Hf H ρ s d0 s1 _ e1 e2 e3 a1 λv jW H1 g1 j9 r1=>?_
 match d0,a2,r1 with
 | .int i,a2,r1=>
  obtain⟨rfl,rfl⟩:=ZP a2;exact⟨i,ja.mp r1,k _ jW H1 g1 j9 (ja.mpr rfl) λ_=>.scal λz=>z⟩
theorem ZkP {pos p2 p3:Pos}{fr:Bool}{ob:List Nat}(hi:i∈own)(hv:PE X (.Name x p1) (ZR i))(he:PD X G r1 e f)
  (hbase:xq (.Name x p1) "append" X.env (eval (.Name x p1) X.env)=eval (.Name x p1) X.env:=by rfl)
  (hfew:((backTo p3 (xh [e] X.env)).all (λx=>!x.1)&&(xp p3 (xi [] X.env)).all (λx=>x.1.isSome)
   && decide ([e].length+([]:List Keyword).length+(if ([]:List Keyword).isEmpty then 0 else 1)<30))=true:=by rfl)
  (hline:(p2.endLine==p3.line)=true:=by rfl) (hs:xh [e] X.env=(false,eval e X.env)::xh [] X.env:=by rfl)
  (hsw:xr (.Call (.Attribute (.Name x p1) "append" p2) [e] [] p3) none pos.line X.env=pure false:=by rfl) :
  Y3 X G ob own own fr (.Expr (.Call (.Attribute (.Name x p1) "append" p2) [e] [] p3) pos) (UD i (fun ρ=>f (Y1 own ρ))):=
 ZcU hi he λte p=>ZbQ hv p hbase hfew hline hs hsw
end
noncomputable def ZgZ (K:qf)(L:List (Addr×Str)):Sp:=λvs H Q _=>∃(a:Addr) (ns:List Int),vs=[.ref a]/\ZJ K H a (ns.map V.int)/\ns.length<=63/\(∀P q,(P,q)∈L->H P=some (.tbl #[]))/\∀H',Q (.bl true) H'
theorem Zg0 {L:List (Addr×Str)}{tb:List (Str×Addr×Addr)}{H:Hp}(h:∀P q,(P,q)∈L->∃x c,(x,c,P)∈tb)(hT:∀e∈tb,H e.2.2=some (.tbl #[])):∀P q,(P,q)∈L->H P=some (.tbl #[]):=λP q m=>by
 obtain⟨x,c,z⟩:=h P q m;exact hT _ z
theorem ZoH (h:∀P q,(P,q)∈L->H P=some (.tbl #[])):∀P q,(P,q)∈L->ZmY G0 L P q H:=λP q m=>⟨#[],h P q m,trivial,λpos cv hc=>by cases hc⟩
theorem ZkQ {K:qf}{N:List Str}(sq:ZJ K H a (ns.map V.int))(hTb:∀P q,(P,q)∈L->H P=some (.tbl #[]))(hp:H p=none)(hk:K.lookup p=none)(hQ:∀H',Q (.bl true) H')
  (hg:g (none::some .pen::qk n none) ([0,0],ns)=some (.rt (.bl true),s')) :
  ∃G,XX (Wl K) L G/\V5 G [] [] [] false g { nx:=λ_ H'=>Q .non H',rt:=Q } (some (.ref a)::some (.ref p)::qk n none) (upd H p (.lst [.ref a,.int 0,.int 0])):=by
 have main:∀tr:Bool,(tr=true->∃o,H a=some o/\∀ps,o≠.tbl ps)->(tr=false->∀H':Hp,ZJ K H' a (ns.map V.int))->a≠p->∃G,XX (Wl K) L G/\V5 G [] [] [] false g { nx:=λ_ H'=>Q .non H',rt:=Q } (some (.ref a)::some (.ref p)::qk n none) (upd H p (.lst [.ref a,.int 0,.int 0])):=by
  intro tr t1 t2 ne;refine⟨U9 (UF K p a tr) L,⟨UF K p a tr,⟨p,a,tr,rfl⟩,λb ⟨q,mb⟩ hb=>?_,rfl⟩,λ_=>none,λ_=>none,upd H p (.lst [.ref a,.int 0,.int 0]),none::some .pen::qk n none,([0,0],ns),_,s',⟨λ_=>none,⟨by simp,.refl _ _,.refl (λb o _ e=>by cases e),λi d _ e=>?_,λi d m=>by simp at m,λi j b di dj m=>by simp at m⟩⟩,⟨⟨0,0,rfl,ZG,ne,?_,λht=>?_,t2⟩,ZoH λP q z=>?_⟩,hg,λv Hf' H' g st r _=>?_⟩
  ·have e:=hTb b q mb
   rcases hb with rfl | ⟨ht,rfl⟩
   ·rw[hp]at e;cases e
   ·obtain⟨o,z1,z2⟩:=t1 ht
    rw[e]at z1;cases z1;exact z2 _ rfl
  ·match i,e with
   | 0,e=>cases e
   | 1,e=>cases e;exact⟨_,rfl,jo.mpr rfl⟩
   | i+2,e=>
    have e':(qk n (none:Option D))[i]?=some (some d):=e;rw[zG]at e';split at e' <;> cases e'
  ·exact ZnQ sq hp
  ·obtain⟨o,q,_⟩:=t1 ht
   exact⟨o,by rw[Zj ne];exact q⟩
  ·rw[Zj (ZY (hTb P q z) hp)];exact hTb P q z
  ·rw[jd.mp r]
   exact hQ H'
 have hne:∀o,H a=some o->a≠p:=λo e z=>by grind
 rcases sq with(q | ⟨o,q⟩) | q
 ·exact main true (λ_=>⟨_,q,λ_ z=>by cases z⟩) (λz=>by cases z) (hne _ q)
 ·exact main true (λ_=>⟨_,q,λ_ z=>by cases z⟩) (λz=>by cases z) (hne _ q)
 ·by_cases e:a=p
  ·obtain⟨o,_,_,q1,_⟩:=q
   rw[e,hk]at q1;cases q1
  ·exact main false (λz=>by cases z) (λ_ H'=>.inr q) e
theorem lok_nd:∀{L:List (Addr×Str)},(L.map (·.1)).Nodup->VI L
 | [],_=>λP q q' h=>by simp at h
 | (a,b)::L,nd=>λP q q' h1 h2=>by
  rw[qK,zh]at nd;rcases qy.mp h1 with e1 | m1
  ·grind
  ·rcases qy.mp h2 with e2 | m2
   ·grind
   ·exact lok_nd nd.2 P q q' m1 m2
theorem Zfx:∀ds s d s',YH ds s=some (d,s')->YT ds=true/\ZW d=true:=λds s d s' h=>by
 unfold YH at h;split at h
 ·split at h
  ·cases h;exact⟨rfl,rfl⟩
  ·cases h
 ·cases h
section
variable {X:Cx}{G:Gh}
theorem va (i:Nat){pos:Pos}(hN:X.N[i]?=some x:=by rfl)(hv:B3 X.env.scope x:=by first | exact qz rfl | exact qag (qz rfl) | exact qag (qag rfl))(hd:(x==("__debug__" : Str))=false:=by decide)(hcd:(x==("__classdict__" : Str))=false:=by decide):PD X G false (.Name x pos) (Za i):=By i (pv i hN hv hd hcd)
theorem bk (XN:List Str)(NS:List (Str×NameKind))(N':List Str)(src:List (Option Nat)){scope:Scope}(a:X.N=XN:=by rfl)(b:X.env.scope.names=NS:=by rfl)(c:∀y∈scope.names,y.2≠.cell:=by decide +kernel)(d:scope.kind=.function:=by rfl)(e:∀y∈scope.names,y.2=.local->scope.names.lookup y.1=some .local:=by decide +kernel)(f:src.length=N'.length:=by rfl)(g:∀y∈scope.names,y.2=.free->NS.lookup y.1=some .cell∨NS.lookup y.1=some .free:=by decide +kernel)
  (h:(src.zip N').all (λp=>match p.1 with | some j=>decide (XN[j]?=some p.2)&&(decide (NS.lookup p.2=some .cell)||decide (NS.lookup p.2=some .free))&&decide (scope.names.lookup p.2=some .free) | none=>true)=true:=by decide +kernel):BlkS X XN NS N' src scope:=⟨a,b,c,d,e,f,g,h⟩
theorem YE {N P:List Str}{sc:Scope}(a:sc.kind=.function:=by rfl)(b:sc.isCoroutine=false:=by rfl)(c:sc.isGenerator=false:=by rfl)(d:N.Nodup:=by decide +kernel)(e:N.take P.length=P:=by rfl)(f:∀x∈P,sc.names.lookup x=some .local∨sc.names.lookup x=some .cell:=by decide +kernel)(g:∀y∈sc.names,y.2≠.free:=by decide +kernel):FnScope N P sc:=⟨a,b,c,d,e,f,g⟩
end
section
variable {X:Cx}{G:Gh}{elt tg iter:Expr}{ifs:List Expr}{scope:Scope}{pos pos' spos:Pos}{XN:List Str}{NS:List (Str×NameKind)}{N':List Str}{src:List (Option Nat)}{fi:Zc->M (List D)}{τ:D->Zc->Option Zc}{ft:Zc->M Bool}{fe:Zc->M D}{r1:Bool}{i:Nat}{x:Str}
theorem Wo {cl:_}{jJ:_}{C:_}{s:_}{H:_}{fp:_}{ok:Nat->Prop}(nd:N'.Nodup:=by decide +kernel)(hi:N'[i]?=some x:=by rfl)(hx:Wn (Yx X jJ N' scope cl C s H fp).env.scope x:=by exact qz rfl)(oi:ok i:=by rfl)(hf:(Yx X jJ N' scope cl C s H fp).fn x=true∨(Yx X jJ N' scope cl C s H fp).env.scope.names.lookup x=some .local:=by first | exact .inl rfl | exact .inr rfl | assumption):Uh (Yx X jJ N' scope cl C s H fp) G (.Name x pos) ok (ZZ i):=VQ nd hi hx oi hf
theorem V7 (B:BlkS X XN NS N' src scope)(hi:Vj X G tg iter fi)
  (hg:∀{cl jJ C s H fp},Uh (Yx X jJ N' scope cl C s H fp) G tg (λi=>src[i]?=some none) τ) (ht:∀{cl jJ C s H fp},VE (Yx X jJ N' scope cl C s H fp) ifs (Jc G ft)) (he:∀{cl jJ C s H fp},PD (Yx X jJ N' scope cl C s H fp) G r1 elt fe)
  (hc:X.calm=true:=by rfl) (hs:∀x,foldedSetIterable iter X.env x=pure x:=by intro _;rfl):PD X G true (.ListComp elt [⟨tg,iter,ifs,0⟩] scope pos) (Yw src fi τ ft fe):=Zke hc B hi (λ_ _ _ _ _ _=>hg) (λ_ _ _ _ _ _=>ht) (λ_ _ _ _ _ _=>he) hs
end
theorem Ye {p pos:Pos}(c:ZX X.prog X.w X.K X.mg X.base k x n fr GG F)(hG:GG G)(hr:Room k X.A)
  (ha:Xw X G (e::es) fs) (hg:Gl X x:=by rfl) (hal:∀ρ s ds s',fs ρ s=some (ds,s')->ds.length=(e::es).length:=by first | exact Yz Ws | exact Yz (Yz Ws) | exact Yz (Yz (Yz Ws)) | exact Yz (Yz (Yz (Yz Ws))) | exact Yz (Yz (Yz (Yz (Yz Ws)))) | exact Yz (Yz (Yz (Yz (Yz (Yz Ws)))))) (jR:(e::es).length=n:=by rfl)
  (hdb:(x==("__debug__" : Str))=false:=by decide) (he:xh (e::es) X.env=(false,eval e X.env)::xh es X.env:=by rfl) (hpl:(backTo pos (xh es X.env)).any (·.1)=false:=by rfl) :
  PD X G fr (.Call (.Name x p) (e::es) [] pos) (Zt F fs):=Zkf c hG hr hg ha hal jR hdb he hpl
section
variable {X:Cx}{G:Gh}{ob own own':List Nat}{fr:Bool}
theorem Zw {st:Stmt}(h:Y3 X G ob own [] fr st g1)(h2:Xp X G ob [] own' fr sts g2):Xp X G ob own own' fr (st::sts) (Zh g1 g2):=Y4 h h2
theorem Z2 (hs:∀k,k∈own'->k∈([]:List Nat):=by decide):Xp X G ob [] own' fr [] Zm:=YA hs
theorem X2 (hc:Xd X G c fc)(ha:Xp X G ob own [] fr a g1)(hb:Xp X G ob own [] fr b g2):Y3 X G ob own [] fr (.If c a b pos) (Z6 fc g1 g2):=BA hc ha hb
theorem Uj {p pos:Pos}(hm:X.mg "len" = none)(ha:Xw X G [e] f)(hg:Gl X "len":=by rfl)(h1:xh [e] X.env=(false,eval e X.env)::xh [] X.env:=by rfl)(h2:(backTo pos (xh [] X.env)).any (·.1)=false:=by rfl):PD X G true (.Call (.Name "len" p) [e] [] pos) (ZO Y2 f):=Wb ZgD hg hm boot_len ha (he:=h1)
end
theorem ux1 {α:Type}(us:List α)(e:us.length=1):∃a,us=[a]:=by
 cases us with | nil=>cases e | cons a r=>simp_all
theorem ux2 {α:Type}(us:List α)(e:us.length=2):∃a b,us=[a,b]:=by
 cases us with | nil=>cases e | cons a r=>obtain⟨b,rfl⟩:=ux1 r (qbJ e);exact⟨a,b,rfl⟩
theorem ux3 {α:Type}(us:List α)(e:us.length=3):∃a b c,us=[a,b,c]:=by
 cases us with | nil=>cases e | cons a r=>obtain⟨b,c,rfl⟩:=ux2 r (qbJ e);exact⟨a,b,c,rfl⟩
theorem ux4 {α:Type}(us:List α)(e:us.length=4):∃a b c d,us=[a,b,c,d]:=by
 cases us with | nil=>cases e | cons a r=>obtain⟨b,c,d,rfl⟩:=ux3 r (qbJ e);exact⟨a,b,c,d,rfl⟩
noncomputable def IsC (K:qf)(x:Str)(st:Stmt)(c:Addr):Prop:=∃(f:Addr) (fd:xx),qaj K mainGlobals x=some (some (.ref f))/\Fun K x x st f fd/\fd.code=.ref c
theorem ZoJ {K:qf}{x:Str}{st:Stmt}{pm:Value}{c f:Addr}(a:qaj K mainGlobals x=some (some (.ref f)))(l:K.lookup f=some (fnO x st pm c))(cd:yk K (.ref c) x=true):IsC K x st c:=
 ⟨f,_,a,ZjV l cd (by unfold qY;dsimp only;rw[l];rfl),rfl⟩
noncomputable def ZnR:Stmt->Pos
 | .FunctionDef _ _ _ _ _ _ _ _ _ p=>p
 | _=>⟨0,0,0,0⟩
noncomputable abbrev Zg1 (st:Stmt):DefRec:=⟨"law",Wc st,Y6 st,Zx st,ZnR st⟩
noncomputable def AtR (K:qf)(mg:Str->Option Value)(ZV:Nat->Stmt)(r:DRow):Prop:=∃(f:Addr) (fd:xx),Fun K r.x r.x (ZV r.i) f fd/\mg r.x=some (.ref f)/\fd.code=.ref r.c
noncomputable def Zm0 (K:qf)(ZV:Nat->Stmt)(r:DRow):Prop:=qaj K mainGlobals r.x=some (some (.ref (r.c+1)))/\K.lookup (r.c+1)=some (fnO r.x (ZV r.i) (.str r.pm r.pt) r.c)/\yk K (.ref r.c) r.x=true
noncomputable def ZeC (K:qf)(ZV:Nat->Stmt):List DRow->Prop
 | []=>True
 | r::l=>Zm0 K ZV r/\ZeC K ZV l
theorem Zfy {K:qf}{ZV:Nat->Stmt}:∀{l:List DRow} {j:Nat} {r:DRow},ZeC K ZV l->l[j]?=some r->Zm0 K ZV r
 | _::_,0,_,h,e=>by cases e;exact h.1
 | _::l,j+1,_,h,e=>Zfy h.2 e
theorem ZnS {K:qf}{h:Heap}{mg:Str->Option Value}{ZV:Nat->Stmt}{l:List DRow}(ok:ZeC K ZV l)(X:K.In h)(G:h.Ns mainGlobals mg)(j:Nat){r:DRow}(e:l[j]?=some r:=by rfl):AtR K mg ZV r:=by
 obtain⟨a,b,c⟩:=Zfy ok e;obtain⟨f,fd,a,F,d⟩:=ZoJ a b c;exact⟨f,fd,F,zF X G a,d⟩
theorem bdc {K:qf}{x:Str}{st:Stmt}{f:Addr}{fd:xx}(ps:List Str)(F:Fun K x x st f fd)
  (h:∀(kV doc pm:Value) (an:Option Addr) (cdv ct:Value) (us:List Value),us.length=ps.length->bindArgs (zi x x (Wc st) (Y6 st) (Zx st) .none kV doc pm an cdv ct) ⟨us,[]⟩=pure (ps.zip us):=by
   intro _ _ _ _ _ _ us hl
   first
    | (obtain⟨_,rfl⟩:=TF.ux1 us hl;rfl)
    | (obtain⟨_,_,rfl⟩:=TF.ux2 us hl;rfl)
    | (obtain⟨_,_,_,rfl⟩:=TF.ux3 us hl;rfl)
    | (obtain⟨_,_,_,_,rfl⟩:=TF.ux4 us hl;rfl)
    | (obtain⟨_,_,_,_,_,rfl⟩:=TF.ux5 us hl;rfl)
    | (obtain⟨_,_,_,_,_,_,rfl⟩:=TF.ux6 us hl;rfl)
    | (obtain⟨_,_,_,_,_,_,_,rfl⟩:=TF.ux7 us hl;rfl)
    | (obtain rfl:=TF.ux0 us hl;rfl)):YC K fd ps []:=F.binds h
theorem mkc {P:xy}{w:World}{K:qf}{mg:Str->Option Value}(base:Heap){x:Str}{st:Stmt}{f:Addr}{fd:xx}{k n:Nat}{ps:List Str}{fr:Bool}{GG:Gh->Prop}{F9:List D->M D}(F:Fun K x x st f fd)(m:mg x=some (.ref f))(ok:FnOk P w K mg base ZH k f fd ps (Z1 n fr GG F9))
  (h:∀(kV doc pm:Value) (an:Option Addr) (cdv ct:Value) (us:List Value),us.length=ps.length->bindArgs (zi x x (Wc st) (Y6 st) (Zx st) .none kV doc pm an cdv ct) ⟨us,[]⟩=pure (ps.zip us):=by
   intro _ _ _ _ _ _ us hl
   first
    | (obtain⟨_,rfl⟩:=TF.ux1 us hl;rfl)
    | (obtain⟨_,_,rfl⟩:=TF.ux2 us hl;rfl)
    | (obtain⟨_,_,_,rfl⟩:=TF.ux3 us hl;rfl)
    | (obtain⟨_,_,_,_,rfl⟩:=TF.ux4 us hl;rfl)
    | (obtain⟨_,_,_,_,_,rfl⟩:=TF.ux5 us hl;rfl)
    | (obtain⟨_,_,_,_,_,_,rfl⟩:=TF.ux6 us hl;rfl)
    | (obtain⟨_,_,_,_,_,_,_,rfl⟩:=TF.ux7 us hl;rfl)
    | (obtain rfl:=TF.ux0 us hl;rfl)):ZX P w K mg base k x n fr GG F9:=⟨f,fd,ps,ok,m,F.kp,F.binds h⟩
open PySem.Calls
section
variable {X:Cx}{G:Gh}{own:List Nat}{Ex:Hp->Prop}{R:Zc->M Unit}{e:Expr}{es:List Expr}
noncomputable def PEX (X:Cx)(G:Gh)(e:Expr)(R:Zc->M Unit)(Ex:Hp->Prop):Prop:=
 ∃t,PE X e t/\∀(σ:St) (Hf H:Hp) (ρ:Zc) (s s':Pn) (Q:VK),Zz G Hf H->Yh G Hf σ ρ->G.st s H->R ρ s=some ((),s')->(∀Hf' H',Gr G Hf H Hf' H'->G.st s' H'->Ex H')->t σ H Q
theorem PEX.dox {st:Stmt}{rest:List Stmt}(h:PEX X G e R Ex)(hs:∀t,PE X e t->∃u,PS X st u/\∀D σ H,(∀Q,t σ H Q)->u D σ H):UG X G own (st::rest) R Ex:=by
 obtain⟨t,p,q⟩:=h;obtain⟨u,p2,q2⟩:=hs t p;refine⟨_,Xo p2 ZkK,λkn jO H0 σ H ρ s s' D ⟨Hf,j⟩ st e k=>q2 _ _ _ λQ=>q σ _ H ρ s s' Q Vn j.envB st e λHf' H' g st'=>?_⟩;obtain⟨F,j',fF,q1,q2⟩:=j.growB g;exact k _ _ j'.gr st'
theorem ZhV {i:Nat}{x:Str}{pos pos':Pos}{rest:List Stmt}(hN:X.N.Nodup)(hi:X.N[i]?=some x)(hx:Wn X.env.scope x)(h:PEX X G e R Ex)(hs:xr e (some (.Name x pos')) pos.line X.env=pure false:=by rfl)(hf:X.fn x=true∨X.env.scope.names.lookup x=some .local:=by first | exact .inl rfl | exact .inr rfl | assumption) :
  UG X G own (.Assign [.Name x pos'] e pos::rest) R Ex:=h.dox λt p=>⟨_,We hN hi hx p hs hf,λ_ _ _ q=>q _⟩
end
theorem BD:1<=xg:=by decide
section
variable {P:xy}{w:World}{K:qf}{mg:Str->Option Value}{base:Heap}{N:List Str}{qual:Str}{scope:Scope}{f:Addr}{cd:Value}{A:xz}{outer:List Env}{s₀:Shared}{H₀:Hp}{E:XK}
theorem Za7 {C:Addr}{bm:List Value}{x z:Str}{j}{np p cpos pos:Pos}(c:ExcK K C bm)(hm:mg x=some (.ref C))(hg:Gl (Vk P w K mg base N qual scope f cd A outer s₀ H₀ E) x:=by rfl)(hdb:(x==("__debug__" : Str))=false:=by decide):PS (Vk P w K mg base N qual scope f cd A outer s₀ H₀ E) (.Raise (some (.Call (.Name x np) [.Constant (.str z) j p] [] cpos)) none pos) λ_ _ H=>E (.ref C) none H:=
 λjJ s σ H D I h=>ZkH c hg hm (Yt Zjy YS) rfl hdb jJ s σ H D I ⟨BD,h⟩
end
theorem ns_k {K:qf}{h:Heap}{P:Params}{l:List (Str×Nat×Value)}{n:Nat}{N:Addr}(X:K.In h)(lk:K.lookup N=some (Uk P l n)):h.Ns N (nsFind (l.map λe=>dE P e.1 e.2.1 e.2.2).toArray):=⟨_,_,_,X _ _ lk,rfl,λe he=>by
 obtain⟨x,_,rfl⟩:=qA.mp (Array.mem_toArray.mp he);exact⟨_,_,rfl⟩,λ_=>rfl⟩
theorem ZcD {K:qf}{P:Params}{C N T NT:Addr}{nm nt:Str}{bs sub bs' sub':List Value}{a t1 t2 a' t1' t2' n n':Nat}{l l':List (Str×Nat×Value)}(h1:K.lookup C=some (Ji nm C N bs (.ref T::V6) sub a t1 t2))(h2:K.lookup N=some (Uk P l n))(h3:nsFind (l.map λe=>dE P e.1 e.2.1 e.2.2).toArray "__init__" = none)
  (h4:K.lookup T=some (Ji nt T NT bs' V6 sub' a' t1' t2')) (h5:K.lookup NT=some (Uk P l' n')) (h6:nsFind (l'.map λe=>dE P e.1 e.2.1 e.2.2).toArray "__init__" = none) (kp:qY K (.ref C)=true):ExcK K C (.ref T::V6):=
 ⟨⟨_,_,_,_,_,_,_,_,_,_,_,_,_,_,_,h1,_,h3,λh X=>⟨ns_k X h2,.own (X _ _ h4) (ns_k X h5) h6 .base⟩⟩,kp⟩
noncomputable abbrev RK:=Addr->Hp->Prop
noncomputable abbrev TR:=St->Hp->RK->Prop
noncomputable def rkE (E:RK):XK:=λcls _ H'=>∃C,cls=.ref C/\E C H'
noncomputable def PRE (X:Cx)(e:Expr)(t:TR):Prop:=∀(jJ:Qb) (s:Shared) (σ:St) (H:Hp) (E:RK) (Q:xA) (E':xA),Inv X jJ σ H s->t σ H E->
 (∀s1 H1 e s',Inv X jJ σ H1 s1->XE X.prog X.w X.stack H1 s1 (rkE E) e s'->E' e s')->xf (xw X.prog X.w) X.A (eval e X.env) Q E' s
noncomputable def J6 (X:Cx)(sts:List Stmt)(t:TR):Prop:=∀(jJ:Qb) (s:Shared) (σ:St) (H:Hp) (E:RK) (Q:Flow->Shared->Prop) (E':xA),Inv X jJ σ H s->t σ H E->
 (∀s1 H1 e s',Inv X jJ σ H1 s1->XE X.prog X.w X.stack H1 s1 (rkE E) e s'->E' e s')->xf (xw X.prog X.w) X.A (execs sts X.env) Q E' s
section
variable {X:Cx}
theorem Zfz {pl:Sem Bool}{o:Expr}{ta:TE}{C f:Addr}{m:Str}{fd:xx}{ps:List Str}{sp:Sp}{k:Nat}{e:Expr}{es:List Expr}{t:TA}{apos pos:Pos}(he:PE X.nox o ta)(c:Cls X.K C)(hm:Meth X.K C m f)(F:FnOk X.prog X.w X.K X.mg X.base (XE X.prog X.w) k f fd ps sp)(hr:Room k X.A)(hb:YC X.K fd ps [])(ha:PA X.nox (e::es) t)
  (hst:xh (e::es) X.env=(false,eval e X.env)::xh es X.env:=by rfl) (hpl:(backTo pos (xh es X.env)).any (·.1)=false:=by rfl)
  (ht:eval (.Call (.Attribute o m apos) (e::es) [] pos) X.env=(do
   let ov<-eval o X.env
   standAt apos.atName
   let (f,first)<-holding [ov] (getMethod ov m pl)
   callWith pos f first (backTo pos (xh (e::es) X.env)) (xp pos (xi [] X.env))):=by rfl) :
  PRE X (.Call (.Attribute o m apos) (e::es) [] pos) (fun σ H E=>ta σ H λx H1=>∃a dx fs,x=.ref a/\H1 a=some (.ins C dx fs)/\fs.lookup m=none/\t σ H1 λvs H2=>sp (.ref a::vs) H2 (λ_ _=>False) (rkE E)):=by
 intro jJ s σ H E Q E' I h hE;have I0:Inv X.nox jJ σ H s:=I.wish _;refine y6 (xc (he jJ s σ H _ I0 h) (λu s1 z=>?_) λ_ _ z=>qM z) ht;obtain⟨x,H1,I1,rx,a,dx,fs,ex,ea,l,q⟩:=z;subst ex;obtain rfl:u=qm a:=rx;refine Zbe (X:=X.nox) I1 ea c hm l ?_;refine zN I.ok.mod.kin hm.kp (xc (ha pos jJ s1 σ H1 _ I1 q) (λus s2 z=>?_) λ_ _ z=>qM z) hst hpl;obtain⟨vs,H2,I2,r,q2⟩:=z;refine⟨I2.kIn,?_⟩;have I3:Inv X jJ σ H2 s2:=I2.unwish;have r2:Zy (.ref a::vs) (qm a::us):=.cons rfl r;have hl:(qm a::us).length=ps.length:=by rw[<-r2.length];exact F.len _ _ _ _ q2
 refine xu (codeAny_mono (F.run X.A X.stack s2 H2 ⟨qm a::us,[]⟩ (qm a::us) (.ref a::vs) _ (rkE E) hr I3.env0 (by have:=hb s2 (qm a::us) I3.kIn (by rw[zg];exact hl);rw[zg]at this;exact this) r2 q2) λr s' hq=>?_)
 cases r with
 | error e=>exact hE s2 H2 e s' I3 hq
 | ok fl=>
  cases fl with
  | ret u=>obtain⟨_,_,_,_,_,_,_,z⟩:=hq;exact z.elim
  | next=>exact qM hq
  | brk=>exact qM hq
  | cont=>exact qM hq
theorem ZfA {e:Expr}{t:TR}{pos:Pos}{rest:List Stmt}(h:PRE X e t)(hs:xr e none pos.line X.env=pure false:=by rfl):J6 X (.Expr e pos::rest) t:=by
 intro jJ s σ H E Q E' I ht hE;exact wpAny_execs_cons (wpAny_Expr_any (h jJ s σ H E _ _ I ht hE) I.quiet hs)
theorem ZkR {c:Expr}{a b rest:List Stmt}{tc:TT}{t u:TR}{pos:Pos}(hc:PT X.nox c tc)(ha:J6 X a t)(hb:J6 X b u):J6 X (.If c a b pos::rest) (fun σ H E=>tc σ H λd H1=>if d=true then t σ H1 E else u σ H1 E):=by
 intro jJ s σ H E Q E' I h hE;refine wpAny_execs_cons (wpAny_If (xc (hc jJ s σ H _ (I.wish _) h) (λd s1 z=>?_) λ_ _ z=>qM z));obtain⟨H1,I1,q1⟩:=z
 cases d with
 | true=>exact ha jJ s1 σ H1 E _ _ I1.unwish q1 hE
 | false=>exact hb jJ s1 σ H1 E _ _ I1.unwish q1 hE
theorem ZhW {CT:Addr}{ie:Nat}{n xT:Str}{np hpos pos:Pos}{b₀:Stmt}{body suite:List Stmt}{t:TR}{ts:TS}(hN:X.N.Nodup)(hst:X.stack=X.env::X.outer)(hfr:X.env.frame=some X.env.locals)(hi:X.N[ie]?=some n)(hk:X.env.scope.names.lookup n=some .local)
  (hg:Gl X xT) (hm:X.mg xT=some (.ref CT)) (hb:J6 X body t) (hs:∀v,YU (X.inEx v) (b₀::suite) ts) (hdb:(xT==("__debug__" : Str))=false:=by decide) :
  PS X (.Try body [.ExceptHandler (some (.Name xT np)) (some n) (b₀::suite) hpos] [] [] pos) (λD σ H=>t σ H λC H'=>ym X.K (.ref C) (.ref CT)=some true/\∀x,H' x=none->ts ⟨fun σ' H2=>D.nx (σ'.set ie none) H2,λ_ _=>False,λ_ _=>False,λ_ _=>False⟩ (σ.set ie (some (.ref x))) (upd H' x (.ext (ZT x C)))):=by
 rintro jJ s σ H D I h;refine wpAny_Try_except (hb jJ s σ H _ _ _ I h λs1 H1 e s' I1 z=>?_);obtain⟨x,cls,B,a0,H',rfl,FL,C,rfl,hx,hE⟩:=z;exact ZkJ I1 hst hfr FL hN hi hk hg hm hx (hs _) (hE x FL.nx) hdb
end
section
variable {X:Cx}{G:Gh}{own:List Nat}{Ex:Hp->Prop}
noncomputable def ZhX (fc:Zc->M Bool)(R:Zc->M Unit):Zc->M Unit:=fun ρ=>Zk (fc ρ) λb=>if b=true then ZL ()else R ρ
theorem ZkS {c:Expr}{st:Stmt}{rest:List Stmt}{pos:Pos}{fc:Zc->M Bool}{R:Zc->M Unit}(hc:Xd X.nox G c fc)(hr:PS X st λ_ _ H=>Ex H)(hR:UG X G own rest R Ex):UG X G own (.If c [st] [] pos::rest) (ZhX fc R) Ex:=by
 obtain⟨tc,pc,qc⟩:=hc;obtain⟨u,p2,q2⟩:=hR;refine⟨_,Xo (JP pc.nox (Vp hr) Bn) p2,λkn jO H0 σ H ρ s s' D ⟨Hf,j⟩ st e k=>?_⟩;obtain⟨b,s1,a1,a2⟩:=Zv e;refine qc σ _ H ρ s b s1 _ Vn j.envB st a1 λHf' H' g st'=>?_;obtain⟨F,j',fF,q1,_⟩:=j.growB g
 cases b with
 | true=>
  obtain⟨_,rfl⟩:=ZP a2;exact WW (k _ _ j'.gr st')
 | false=>exact XV (q2 kn jO H0 σ H' ρ s1 s' D ⟨F,j'⟩ st' a2 k)
noncomputable def JK (R:List D->M Unit)(i:Nat)(fs:Zc->M (List D)):Zc->M Unit:=fun ρ=>Zk (Za i ρ) λc=>match c with
 | .clo 0 []=>Zk (fs ρ) λds=>R (.clo 0 []::ds)
 | _=>ZK
theorem ZkT {i:Nat}{k:KAd}{G0:Gh}{GG:Gh->Prop}{pl:Sem Bool}{j kl n:Nat}{f C':Addr}{fd:xx}{ps:List Str}{x m:Str}{R:List D->M Unit}{E:XK}{fs:Zc->M (List D)}{e:Expr}{es:List Expr}{p apos pos:Pos}(FN:FnOk X.prog X.w X.K X.mg X.base (XE X.prog X.w) j f fd ps (VJ n GG R C'))(hx:Wv (XE X.prog X.w) X E)(hG:GG (Zs G0 (Zn k)))(hr:Room kl X.A)(hv:PE X (.Name x p) (ZR i))(c:Cls X.K k.C)(hm:Meth X.K k.C m f)(hb:YC X.K fd ps [])
  (hl:m≠"n"/\m≠"ties"/\m≠"deeds") (ha:Xw X (Zs G0 (Zn k)) (e::es) fs) (hE2:∀H,Ex H->E (.ref C') none H) (hal:∀ρ s ds s',fs ρ s=some (ds,s')->ds.length+1=n) (hjk:j<=kl:=by decide)
  (hst:xh (e::es) X.env=(false,eval e X.env)::xh es X.env:=by rfl) (hpl:(backTo pos (xh es X.env)).any (·.1)=false:=by rfl)
  (ht:eval (.Call (.Attribute (.Name x p) m apos) (e::es) [] pos) X.env=(do
   let ov<-eval (.Name x p) X.env
   standAt apos.atName
   let (f,first)<-holding [ov] (getMethod ov m pl)
   callWith pos f first (backTo pos (xh (e::es) X.env)) (xp pos (xi [] X.env))):=by rfl) :
  PEX X (Zs G0 (Zn k)) (.Call (.Attribute (.Name x p) m apos) (e::es) [] pos) (JK R i fs) Ex:=by
 obtain⟨t,pa,qa⟩:=ha;refine⟨_,Zhx hv c hm (FN.mono hjk) hr hb .nil hx pa hst hpl ht,fun σ Hf H ρ s s' Q e1 e2 e3 e4 kk=>?_⟩;obtain⟨c0,s1,a1,a2⟩:=Zv e4;obtain⟨b1,rfl⟩:=Y5 a1
 match c0,a2,b1 with
 | .clo 0 [],a2,b1=>
  obtain⟨ds,s2,c1,c2⟩:=Zv a2;obtain⟨s0,cc,es,l2,g0,q0,ec,kq⟩:=id e3;refine⟨_,WL e2 b1,k.a,k.dx,_,rfl,kq.1,?_,?_⟩
  ·obtain⟨h1,h2,h3⟩:=hl
   have b1:(m==("n" : Str))=false:=by simpa using h1
   have b2:(m==("ties" : Str))=false:=by simpa using h2
   have b3:(m==("deeds" : Str))=false:=by simpa using h3
   simp only[yR,b1,b2,b3]
  ·refine qa σ Hf H ρ _ ds s2 _ e1 e2 e3 c1 λvs Hf' H' g st' r=>?_
   rw[zg];have jR:=hal _ _ _ _ c1;refine⟨Zs G0 (Zn k),Hf',.clo 0 []::ds,s2,s',hG,by rw[qV,<-r.length];exact jR,g.fh,?_,st',c2,λjZ H2 g2 j6=>hE2 _ (kk jZ H2 (g.trans g2) j6)⟩;refine Zi.cons ?_ r;unfold Zl;exact⟨[],⟨rfl,rfl,rfl⟩,Zi.nil_iff.mpr rfl⟩
end
end TF
namespace L2
open PySem.Calls
section
variable {X:Cx}{jJ:Qb}{σ:St}{H:Hp}{s:Shared}
theorem Inv.laidN {a:Addr}{h':Heap}{o:HO}(I:Inv X jJ σ H s)(k:∀b u,s.heap.get? b=some u->h'.get? b=some u)(hn:s.heap.get? a=none)(new:Ym X.prog X.w (upd H a o) h' a o) :
  H a=none/\Inv X jJ σ (upd H a o) { s with heap:=h' }:=by
 have na:H a=none:=by
  cases q:H a with
  | none=>rfl
  | some u=>
   obtain⟨o1,q1⟩:=(I.hok a u q).obj;rw[hn]at q1;cases q1
 have ne:∀b u,s.heap.get? b=some u->b≠a:=λb u q z=>by rw[z,hn]at q;cases q
 refine⟨na,I.un (t':=s.toks) ⟨λb u q _ _ _=>k b u q,λb u q _ _ _=>⟨u.slots,k b u q⟩,λb u q n _=>by rw[Zj (ne b u q)];exact n,λb u q _=>⟨u,k b u q⟩,λb xs q=>by rw[Zj (ZY q na)];exact q,λb u xs q=>by rw[Zj (ZY q na)];exact q,λb ps q=>⟨#[],by rw[Zj (ZY q na),q];simp⟩⟩ λb u e=>?_⟩;by_cases hb:b=a
 ·subst hb
  rw[ZG]at e;cases e;exact new
 ·rw[Zj hb]at e
  exact(I.hok b u e).stay (λc v _ q=>k c v q) (λc q=>by rw[Zj (ZY q na)];exact q) λc xs q=>by rw[Zj (ZY q na)];exact q
noncomputable def tExc (C:Addr)(t:TA):TE:=fun σ H Q=>t σ H λvs H1=>vs.length<=xg/\∀y,H1 y=none->Q (.ref y) (upd H1 y (.ext (ZT y C)))
theorem ZeD {C:Addr}{bm:List Value}{x:Str}{np pos:Pos}{e0:Expr}{t:TA}(c:ExcK X.K C bm)(hg:Gl X x)(hm:X.mg x=some (.ref C))(ha:PA X [e0] t)
  (he:xh [e0] X.env=(false,eval e0 X.env)::xh [] X.env:=by rfl) (hdb:(x==("__debug__" : Str))=false:=by decide) :
  PE X (.Call (.Name x np) [e0] [] pos) (tExc C t):=by
 intro jJ s σ H Q I h;obtain⟨nm,q,NN,bs,hd,sn,sub,ab,col,dd,k0,k1,k2,k3,k5,lk,mN,hi,ns⟩:=c.ex;refine wpAny_Call_Name_kw (U0 I hg hm ?_ hdb);refine zN I.ok.mod.kin c.kp (ZD (ha pos jJ s σ H _ I h) λus s1 ⟨vs,H1,I1,r,hl,q1⟩=>⟨I1.kIn,?_⟩) he rfl;obtain⟨nsq,T⟩:=ns _ I1.kIn;obtain⟨hp,gg,dw,tk,os⟩:=s1;refine wpAny_call_exc_subT (hrest:=by show us.length<=_;rw[<-r.length];exact hl) qaF T (I1.kIn _ _ lk) nsq hi λh' y hx=>?_;obtain⟨tt,ht,_,_⟩:=hx.there;obtain⟨n1,I2⟩:=I1.laidN (o:=.ext (ZT y C)) hx.keeps hx.new ⟨⟨_,ht,rfl⟩,⟨_,ht⟩,ZdY y C⟩;exact⟨.ref y,_,I2,rfl,q1 y n1⟩
end
end L2
namespace TF
open PySem.Calls L2
noncomputable def Wm (G:Gh)(ys:List (Addr×Addr)):Gh where
 fp:=G.fp
 rd:=λb=>G.rd b
 pen:=G.pen
 st:=λs H=>G.st s H/\∀p∈ys,H p.1=some (.ext (ZT p.1 p.2))
 mono:=λs H H' ⟨h1,h2⟩ k1 k2 k3=>⟨G.mono s H H' h1 k1 k2 k3,λp m=>k2 _ _ (h2 p m)⟩
 sub:=G.sub
 dom:=λs H b ⟨h1,_⟩=>G.dom s H b h1
 ntp:=λs H b vs ⟨h1,_⟩=>G.ntp s H b vs h1
 clo:=λt v vs=>vs=[]/\∃p,ys[t]?=some p/\v=.ref p.1
noncomputable def ZkU (m:M Out):M Out:=λs=>match m s with
 | some (.rt d,s')=>if ZW d=true/\Xr d=true then some (.rt d,s')else none
 | _=>none
noncomputable def BY:D:=.lst [.clo 0 [],.clo 1 [],.clo 2 [],.clo 3 []]
noncomputable def Zm1 (j i:Nat)(g:Zc->M Out):Zc->M Out:=fun ρ=>if i < ρ.length/\Vv (ρ.set i none)=true/\((ρ[j]?).bind id).isSome=true then ZkU (g (ρ.set i (some BY)))else ZK
theorem ZkV {G:Gh}{g:Zc->M Out}{σ:St}{ρ:Zc}{i:Nat}{s1 s':Pn}{out:Out}{ys:List (Addr×Addr)}{l:Addr}(j:Jf G [] kn jO H0 σ Hf H1 ρ)(st:G.st s1 H1)(hi:i < ρ.length)(nc:Vv (ρ.set i none)=true)
  (cr:∀b o,H1 b=some o->H' b=some o) (hy:∀p∈ys,H' p.1=some (.ext (ZT p.1 p.2))) (h4:ys.length=4) (hl:H1 l=none) (el:H' l=some (.lst (ys.map λp=>V.ref p.1)))
  (hg:ZkU (g (ρ.set i (some BY))) s1=some (out,s')) (po:Post G ob [] kn jO H0 fr out s' E) :
  V5 (Wm G ys) ob [] [] fr g E (σ.set i (some (.ref l))) H':=by
 have nl:=Gh.nofp st hl;have j6:(Wm G ys).st s1 H':=⟨G.mono s1 H1 H' st (λb o _ e=>cr b o e) (λb φ e=>cr b _ e) λb vs e=>cr b _ e,hy⟩;have g1:Gr G Hf H1 (upd Hf l (.lst (ys.map λp=>V.ref p.1))) H':=by
  refine⟨λb o _ e=>cr b o e,λb o n e=>?_,λb o n e=>?_,λb n q1 q2=>?_⟩
  ·rw[Zj (ZY (j.gr.fh b o n e) hl)];exact e
  ·by_cases hb:b=l
   ·subst hb;rw[ZG]at e;rw[<-e];exact el
   ·rw[Zj hb]at e;exact cr b o (j.gr.fh b o n e)
  ·rw[Zj λz=>by rw[z]at q2;exact q2.no hl];exact q1
 have gt:∀{Hf jZ H H2},Gr (Wm G ys) Hf H jZ H2->Gr G Hf H jZ H2:=λg=>⟨g.hh,g.ff,g.fh,g.nw⟩;have j2:=j.grow g1;unfold ZkU at hg;refine⟨upd Hf l (.lst (ys.map λp=>V.ref p.1)),upd Hf l (.lst (ys.map λp=>V.ref p.1)),H',ρ.set i (some BY),s1,?_⟩;have jj:J (Wm G ys) [] (upd Hf l (.lst (ys.map λp=>V.ref p.1))) (upd Hf l (.lst (ys.map λp=>V.ref p.1))) H' (σ.set i (some (.ref l))) H' (ρ.set i (some BY)):=by
  refine⟨_,by simp[j.len],.refl _ _,.refl (λb o n e=>j2.gr.fh b o n e),λm d _ e=>?_,λm d z=>by simp at z,λm d a di dj z=>by simp at z⟩;by_cases h:i=m
  ·subst h
   rw[qD hi]at e
   cases e
   refine⟨.ref l,qD (by rw[j.len];exact hi),jc.mpr ⟨l,_,rfl,nl,ZG,?_⟩⟩;obtain⟨a,b,c,d,rfl⟩:=ux4 ys h4;refine .cons ?_ (.cons ?_ (.cons ?_ (.cons ?_ (Zi.nil_iff.mpr rfl))))
   ·unfold Zl;exact⟨[],⟨rfl,a,rfl,rfl⟩,Zi.nil_iff.mpr rfl⟩
   ·unfold Zl;exact⟨[],⟨rfl,b,rfl,rfl⟩,Zi.nil_iff.mpr rfl⟩
   ·unfold Zl;exact⟨[],⟨rfl,c,rfl,rfl⟩,Zi.nil_iff.mpr rfl⟩
   ·unfold Zl;exact⟨[],⟨rfl,d,rfl,rfl⟩,Zi.nil_iff.mpr rfl⟩
  ·rw[qv h]at e⊢
   obtain⟨v,q1,q2⟩:=j2.fz m d (by simp) e;exact⟨v,q1,Zl.tr (G:=G) (G':=Wm G ys) (λa o na q _=>⟨na,q⟩) rfl (ZbU nc (by rw[qv h];exact e)) q2⟩
 cases hq:g (ρ.set i (some BY)) s1 with
 | none=>simp only[hq]at hg;cases hg
 | some p=>
  obtain⟨o,s2⟩:=p;simp only[hq]at hg;refine⟨o,s2,jj,j6,rfl,?_⟩
  cases o with
  | rt d=>
   simp only at hg;split at hg
   ·rename_i h
    cases hg
    intro v jZ H2 gi st3 r _;exact po v _ H2 (j2.gr.trans (gt gi)) st3.1 (Zl.tr (G:=Wm G ys) (G':=G) (λa o na q _=>⟨na,q⟩) rfl h.1 r) λ_=>.scal λz=>ZdO h.2 z
   ·cases hg
  | nx ρ2=>simp only at hg;cases hg
  | bk ρ2=>simp only at hg;cases hg
  | ct ρ2=>simp only at hg;cases hg
section
variable {X:Cx}{G:Gh}{ob:List Nat}{fr:Bool}
theorem ZiX {i j:Nat}{c1 c2 c3 c4:Addr}{m1 m2 m3 m4:List Value}{n1 n2 n3 n4 x z:Str}{p1 p2 p3 p4 q1 q2 q3 q4 r1 r2 r3 r4 pos' lp apos:Pos}{sts:List Stmt}{g:Zc->M Out}(k1:ExcK X.K c1 m1)(k2:ExcK X.K c2 m2)(k3:ExcK X.K c3 m3)(k4:ExcK X.K c4 m4)
  (g1:Gl X n1) (g2:Gl X n2) (g3:Gl X n3) (g4:Gl X n4) (h1:X.mg n1=some (.ref c1)) (h2:X.mg n2=some (.ref c2)) (h3:X.mg n3=some (.ref c3)) (h4:X.mg n4=some (.ref c4)) (hz:∀p,PE X (.Name z p) (ZR j)) (hN:X.N.Nodup) (hi:X.N[i]?=some x) (hx:Wn X.env.scope x)
  (hrest:∀ys:List (Addr×Addr),ys.map (·.2)=[c1,c2,c3,c4]->Xp X (Wm G ys) ob [] [] fr sts g)
  (hst:∀p,xh [Expr.Name z p] X.env=(false,eval (.Name z p) X.env)::xh [] X.env:=by intro _;rfl) (hd1:(n1==("__debug__" : Str))=false:=by decide) (hd2:(n2==("__debug__" : Str))=false:=by decide) (hd3:(n3==("__debug__" : Str))=false:=by decide) (hd4:(n4==("__debug__" : Str))=false:=by decide)
  (hs:xr (.List [.Call (.Name n1 p1) [.Name z q1] [] r1,.Call (.Name n2 p2) [.Name z q2] [] r2,.Call (.Name n3 p3) [.Name z q3] [] r3,.Call (.Name n4 p4) [.Name z q4] [] r4] lp) (some (.Name x pos')) apos.line X.env=pure false:=by rfl)
  (hf:X.fn x=true∨X.env.scope.names.lookup x=some .local:=by first | exact .inl rfl | exact .inr rfl | assumption) :
  Xp X G ob [] [] fr (.Assign [.Name x pos'] (.List [.Call (.Name n1 p1) [.Name z q1] [] r1,.Call (.Name n2 p2) [.Name z q2] [] r2,.Call (.Name n3 p3) [.Name z q3] [] r3,.Call (.Name n4 p4) [.Name z q4] [] r4] lp) apos::sts) (Zm1 j i g):=by
 have rest:YU X sts (λE σ H=>∃ys:List (Addr×Addr),ys.map (·.2)=[c1,c2,c3,c4]/\V5 (Wm G ys) ob [] [] fr g E σ H):=by
  intro jJ s σ H D I ⟨k,h1,kn,jO,H0,ρ,pn,out,pn',j,st,e,po⟩;obtain⟨t,p,q⟩:=hrest k h1;exact p jJ s σ H D I (q kn jO H0 σ H ρ pn out pn' D j st e po)
 refine⟨_,Xo (We hN hi hx (Zgs (Yt (ZeD k1 g1 h1 (Yt (hz _) YS (hst _)) (hst _) hd1) (Yt (ZeD k2 g2 h2 (Yt (hz _) YS (hst _)) (hst _) hd2) (Yt (ZeD k3 g3 h3 (Yt (hz _) YS (hst _)) (hst _) hd3) (Yt (ZeD k4 g4 h4 (Yt (hz _) YS (hst _)) (hst _) hd4) YS))))) hs hf) rest,λkn jO H0 σ H ρ s out s' E ⟨Hf,jf⟩ st e4 po=>?_⟩;obtain⟨⟨hi',nc,hj⟩,a3⟩:=Xy e4;obtain⟨d,hd⟩:=qU.mp hj;obtain⟨v,hv,_⟩:=jf.fz j d (by simp) (Zen hd);refine⟨v,hv,BD,λy1 e1=>⟨v,hv,BD,λy2 e2=>⟨v,hv,BD,λy3 e3=>⟨v,hv,BD,λy4 e4=>⟨by show 4<=xg;decide,λl hl=>?_⟩⟩⟩⟩⟩;have u1:∀b o,H b=some o->upd H y1 (.ext (ZT y1 c1)) b=some o:=λb o q=>by rw[Zj (ZY q e1)];exact q
 have u2:∀b o,upd H y1 (.ext (ZT y1 c1)) b=some o->upd (upd H y1 (.ext (ZT y1 c1))) y2 (.ext (ZT y2 c2)) b=some o:=λb o q=>by rw[Zj (ZY q e2)];exact q
 have u3:=λb o (q:upd (upd H y1 (.ext (ZT y1 c1))) y2 (.ext (ZT y2 c2)) b=some o)=>(show upd (upd (upd H y1 (.ext (ZT y1 c1))) y2 (.ext (ZT y2 c2))) y3 (.ext (ZT y3 c3)) b=some o by rw[Zj (ZY q e3)];exact q);have u4:=λb o (q:upd (upd (upd H y1 (.ext (ZT y1 c1))) y2 (.ext (ZT y2 c2))) y3 (.ext (ZT y3 c3)) b=some o)=>(show upd (upd (upd (upd H y1 (.ext (ZT y1 c1))) y2 (.ext (ZT y2 c2))) y3 (.ext (ZT y3 c3))) y4 (.ext (ZT y4 c4)) b=some o by rw[Zj (ZY q e4)];exact q);have hl0:H l=none:=by
  cases q:H l with
  | none=>rfl
  | some o=>rw[u4 l o (u3 l o (u2 l o (u1 l o q)))]at hl;cases hl
 refine⟨[(y1,c1),(y2,c2),(y3,c3),(y4,c4)],rfl,ZkV jf st hi' nc (λb o q=>?_) (λp m=>?_) rfl hl0 ZG a3 po⟩
 ·have:=u4 b o (u3 b o (u2 b o (u1 b o q)))
  rw[Zj (ZY this hl)];exact this
 ·have fin:∀q u,upd (upd (upd (upd H y1 (.ext (ZT y1 c1))) y2 (.ext (ZT y2 c2))) y3 (.ext (ZT y3 c3))) y4 (.ext (ZT y4 c4)) q=some u->upd (upd (upd (upd (upd H y1 (.ext (ZT y1 c1))) y2 (.ext (ZT y2 c2))) y3 (.ext (ZT y3 c3))) y4 (.ext (ZT y4 c4))) l (.lst [.ref y1,.ref y2,.ref y3,.ref y4]) q=some u:=λq u e=>by rw[Zj (ZY e hl)];exact e
  simp only[qy,zV,or_false]at m;rcases m with rfl | rfl | rfl | rfl
  ·exact fin _ _ (u4 _ _ (u3 _ _ (u2 _ _ ZG)))
  ·exact fin _ _ (u4 _ _ (u3 _ _ ZG))
  ·exact fin _ _ (u4 _ _ ZG)
  ·exact fin _ _ ZG
noncomputable def WR (tb:List Bool)(i:Nat):Zc->M D:=fun ρ=>Zk (Za i ρ) λd=>match d with
 | .clo t []=>Yy ((tb[t]?).map D.bl)
 | _=>ZK
theorem W7 {i:Nat}{tb:List Bool}{ys:List (Addr×Addr)}{x:Str}{p p0 pos:Pos}{e2:Expr}{c:V}{t2:TE}(hg:Gl X "isinstance")(hm:X.mg "isinstance" = none)(hv:PE X (.Name x p) (ZR i))(h2:PE X e2 t2)(ht:∀σ H Q,Q c H->t2 σ H Q)
  (hT:∀(t:Nat) (q:Addr×Addr) (b:Bool),ys[t]?=some q->tb[t]?=some b->ClsK X.K q.2/\∀H,IsiC X.K H q.2 b c)
  (hs:xh [.Name x p,e2] X.env=(false,eval (.Name x p) X.env)::xh [e2] X.env:=by rfl) (hs2:xh [e2] X.env=(false,eval e2 X.env)::xh [] X.env:=by rfl) (hpl:(backTo pos (xh [e2] X.env)).any (·.1)=false:=by rfl) :
  PD X (Wm G ys) true (.Call (.Name "isinstance" p0) [.Name x p,e2] [] pos) (WR tb i):=by
 refine⟨_,Ju ZiU hg hm TF.boot_isinstance (Yt hv (Yt h2 YS hs2) hs) (he:=hs) (hpl:=hpl),fun σ Hf H ρ s d s' Q e1 env e3 e4 kk=>?_⟩;obtain⟨d0,s1,a1,a2⟩:=Zv e4;obtain⟨b1,rfl⟩:=Y5 a1
 match d0,a2,b1 with
 | .clo t [],a2,b1=>
  obtain⟨b3,rfl⟩:=Y5 a2;obtain⟨v,hσ,r⟩:=env i _ (Zen b1);obtain⟨vs,⟨_,q,hq,rfl⟩,_⟩:=(show ∃vs,(Wm G ys).clo t v vs/\Zi (Wm G ys) Hf [] vs by unfold Zl at r;exact r)
  cases hb:tb[t]? with
  | none=>rw[hb]at b3;cases b3
  | some b=>
   rw[hb]at b3
   cases b3
   obtain⟨z1,z2⟩:=hT t q b hq hb;exact⟨_,hσ,ht _ _ _ ⟨q.1,q.2,c,b,rfl,e3.2 q (qP hq),z1,z2 H,kk _ Hf H (.refl e1) e3 (jd.mpr rfl) λ_=>.scal λz=>z⟩⟩
end
end TF
namespace L2
section
variable {prog:xy}{w:World}{A:xz}{E:xA}{s:Shared}
end
end L2
namespace TF
open L2
section
variable {X:Cx}{G:Gh}
end
end TF
namespace L2
end L2
namespace TF
open L2
section
variable {X:Cx}{G:Gh}
end
end TF
namespace L2
section
variable {prog:xy}{w:World}{A:xz}{E:xA}{s:Shared}{o:Obj}{es:Array DictEntry}{d it:Addr}{ep i:Nat}
theorem Zg2 (hd:(d==sysModules)=false)(ho:s.heap.get? d=some o)(hc:o.ExactDict)(hdat:o.data=.dict es ep)
  (hQ:Q (.ref s.heap.objs.size) { s with heap:=s.heap.push { cls:=.type "dict_keyiterator",data:=.fields #[.ref d,.int 0 0,.int es.size 0,.int ep 0] } }):xf (xw prog w) A (pyIter (.ref d)) Q E s:=by
 have hT:s.TypeIs (.ref d) "dict":=⟨o,ho,hc.1⟩;refine wpAny_pyIter_slot hT F.slot_dict_iter (wpAny_call_entry F.slot_dict_iter hT F.entry_dict_iter ?_ (F.args_dict_iter_1 _));refine xa ?_;refine xa (wpAny_notOrdered_dict hT ?_);refine xb ?_;show xf _ _ (qbi d >>= _) _ _ s;unfold qbi;rw[if_neg (by simp_all)];refine xa (xb ?_);refine xa (wpAny_dictEntries ho hdat ?_);refine xa (wpAny_dictEpoch ho hdat ?_);refine xa (xl (xb ⟨_,rfl,"dict_keyiterator",_,⟨_,qw _ rfl,rfl⟩,zp.lookup,?_⟩));simpa[rawInt]using hQ
theorem Zg3 (hit:s.heap.IsKeyIter it d i es.size ep)(hod:s.heap.get? d=some o)(hdd:o.data=.dict es ep)(hlt:i<es.size)
  (hQ:∀h',h'.IsKeyIter it d (i+1) es.size ep->zv it s.heap h'->Q (some es[i].key) { s with heap:=h' }):xf (xw prog w) A (pyNext (.ref it)) Q E s:=by
 obtain⟨oi,ho,hc,hd⟩:=id hit;unfold pyNext;refine xa (wpAny_attempt (wpAny_callSpecial?_slot (name:=qd "__next__") hit.typeIs zp (wpAny_call_entry zp hit.typeIs qan ?_ (qak _))));refine xa (xb ?_);refine xa ?_;refine xa ?_
 (first | refine xa (wpAny_typeNameOfWhole_keyiter hit.typeIs (xb ?_)) | refine xa (wpAny_typeNameOf_keyiter hit.typeIs (xb ?_)));refine xa (wpAny_fieldsOf ho hd ?_)
 have hown:qau "dict_keyiterator" = false:=by decide
 simp only[hown,zB,if_false];show xf _ _ (if (qm d==qO)=true then _ else _) _ _ s;rw[if_neg (show ¬((qm d==qO)=true)from zj)];refine xa (xb ?_);refine xa (wpAny_dictEntries hod hdd ?_);rw[if_neg (by simp)];refine xa (xb ?_);refine xa (wpAny_dictEpoch hod hdd ?_);rw[if_neg (by simp)];refine xb ?_;simp only[show ¬((i:Int)<0)from by omega,if_false,yj,zS hlt];refine xa ?_
 (first | refine xa (wpAny_typeNameOfWhole_keyiter hit.typeIs (xb ?_)) | refine xa (wpAny_typeNameOf_keyiter hit.typeIs (xb ?_)));refine xa (wpAny_isOneOf_keyiter hit.typeIs ?_)
 show xf _ _ (setField (.ref it) 1 (rawInt ((i:Int)+1)) >>= _) _ _ s;refine xa (wpAny_setField ho hd (by simp) ?_);have hit':(s.heap.update it (Obj.mapFields (·.setIfInBounds 1 (rawInt ((i:Int)+1))))).IsKeyIter it d (i+1) es.size ep:=⟨_,y8 _ ho (Obj.isFreed_of_fields (Obj.data_mapFields hd _)),(Obj.cls_mapFields ..).trans hc,by rw[Obj.data_mapFields hd];simp[rawInt]⟩;refine xa (xt ?_);refine xa (wpAny_isOneOf_keyiter hit'.typeIs ?_);exact xb (xb ⟨_,rfl,xb (hQ _ hit' (yt ..))⟩)
theorem ZiY (hh:A.handled=none)(hit:s.heap.IsKeyIter it d i es.size ep)(hod:s.heap.get? d=some o)(hdd:o.data=.dict es ep)(hge:es.size<=i)
  (hQ:∀h',Heap.ExtBut it s.heap h'->Q none { s with heap:=h' }):xf (xw prog w) A (pyNext (.ref it)) Q E s:=by
 obtain⟨oi,ho,hc,hd⟩:=id hit;unfold pyNext;refine xa (wpAny_attempt (wpAny_callSpecial?_slot (name:=qd "__next__") hit.typeIs zp (wpAny_call_entry zp hit.typeIs qan ?_ (qak _))));refine xa (xb ?_);refine xa ?_;refine xa ?_
 (first | refine xa (wpAny_typeNameOfWhole_keyiter hit.typeIs (xb ?_)) | refine xa (wpAny_typeNameOf_keyiter hit.typeIs (xb ?_)));refine xa (wpAny_fieldsOf ho hd ?_)
 have hown:qau "dict_keyiterator" = false:=by decide
 simp only[hown,zB,if_false];show xf _ _ (if (qm d==qO)=true then _ else _) _ _ s;rw[if_neg (show ¬((qm d==qO)=true)from zj)];refine xa (xb ?_);refine xa (wpAny_dictEntries hod hdd ?_);rw[if_neg (by simp)];refine xa (xb ?_);refine xa (wpAny_dictEpoch hod hdd ?_);rw[if_neg (by simp)];refine xb ?_;simp only[show ¬((i:Int)<0)from by omega,if_false,yj,yV hge];refine xa ?_
 (first | refine xa (wpAny_typeNameOfWhole_keyiter hit.typeIs (xb ?_)) | refine xa (wpAny_typeNameOf_keyiter hit.typeIs (xb ?_)));show xf _ _ (setField (.ref it) 0 .none >>= _) _ _ s
 refine xa (wpAny_setField ho hd (by simp) ?_);show xf _ _ (newExc (.type "StopIteration") [] >>= _) _ _ _;refine xa ?_;simp only[newExc,newTuple];refine xa (xl ?_ (by size_fits));refine xa (m:=firstArgMember _ _) (wpAny_of_eq (a:=qO) (by first | rfl | (simp only[firstArgMember];rfl)) ?_);refine xl ?_ (by size_fits);simp only[raiseNew];refine xa (wpAny_handled ?_);rw[show A.in1.handled=none from hh];refine xa (xb (wpAny_throw ?_));refine xa (wpAny_isInstance ⟨_,qw _ rfl,rfl⟩ isSubtype_stop ?_);exact xb (hQ _ (((yt ..).extBut.push _).push _))
end
section
variable {X:Cx}{tg:Expr}
end
end L2
namespace TF
open L2
section
variable {X:Cx}{G:Gh}
end
end TF
namespace TS
open PySem.W
noncomputable def Yk {α:Type}(lt:Nat->Nat->Bool)(n:Nat):KasT α->(α->Prop)->Prop
 | .ret a,Q=>Q a
 | .ask i j k,Q=>i<n/\j<n/\Yk lt n (k (lt i j)) Q
theorem Yk.bind {f:α->KasT β}{Q:β->Prop}:∀{t:KasT α},Yk lt n t (λa=>Yk lt n (f a) Q)->Yk lt n (t.bind f) Q
 | .ret _,h=>h
 | .ask i j k,h=>⟨h.1,h.2.1,Yk.bind h.2.2⟩
theorem Yk.mono {Q R:α->Prop}(hr:∀a,Q a->R a):∀{t:KasT α},Yk lt n t Q->Yk lt n t R
 | .ret _,h=>hr _ h
 | .ask i j k,h=>⟨h.1,h.2.1,Yk.mono hr h.2.2⟩
theorem jD {Q:α->Prop}{R:α->Shared->Prop}(hc:∀i j,i<n->j<n->∀C:Bool->Shared->Prop,C (lt i j) s->cmp i j C s)(hr:∀a,Q a->R a s):∀{t:KasT α},Yk lt n t Q->t.kasWp cmp R s
 | .ret _,h=>hr _ h
 | .ask i j k,h=>hc i j h.1 h.2.1 _ (jD hc hr h.2.2)
noncomputable def g (p:Array Nat)(k:Nat):Nat:=p.getD k 0
theorem Jj (h:p[i]?=q[j]?):g p i=g q j:=by
 have e:∀(r:Array Nat) (k:Nat),g r k=(r[k]?).getD 0:=λr k=>by unfold g;simp
 rw[e,e,h]
structure Pm (n:Nat)(p:Array Nat):Prop where
 pos:0<n
 pm:p.toList.Perm (qu n)
section
variable {lt:Nat->Nat->Bool}{n:Nat}{p q:Array Nat}
theorem Pm.size (h:Pm n p):p.size=n:=by
 have:=h.pm.length_eq;simpa using this
theorem Pm.of (h:Pm n p)(e:q.Perm p):Pm n q:=⟨h.pos,(Array.perm_iff_toList_perm.mp e).trans h.pm⟩
theorem Pm.bd (h:Pm n p)(k:Nat):g p k<n:=by
 unfold g;by_cases hk:k<p.size
 ·have:p.getD k 0=p[k]:=by simp[hk]
  rw[this];have m:p[k]∈p.toList:=by simp
  have:=h.pm.mem_iff.mp m;simp_all
 ·have:p.getD k 0=0:=by simp[Array.getD,hk]
  rw[this];exact h.pos
theorem Zm2 (hj:q.size=n)(hm:m<=n)(k:Nat):g (kas_rev q 0 m) k=if k<m then g q (m-1-k)else g q k:=by
 have e:=getElem?_mirror_all (xs:=q) (i:=0) (j:=m) (by omega) k;unfold kas_rev;by_cases hk:k<m
 ·rw[if_pos ⟨by omega,hk⟩]at e
  rw[if_pos hk];exact Jj (by rw[e];simp)
 ·rw[if_neg (λz=>hk z.2)]at e
  rw[if_neg hk];exact Jj e
end
structure OrdW (lt:Nat->Nat->Bool):Prop where
 tr:∀a b c,lt a b=false->lt b c=false->lt a c=false
 as:∀a b,lt a b=true->lt b a=false
section
variable {lt:Nat->Nat->Bool}{n:Nat}{p q:Array Nat}
noncomputable def W1 (lt:Nat->Nat->Bool)(p:Array Nat)(m:Nat):Prop:=∀i j,i<j->j<m->lt (g p j) (g p i)=false
noncomputable def J7 (lt:Nat->Nat->Bool)(p:Array Nat)(m:Nat):Prop:=∀i j,i<j->j<m->lt (g p i) (g p j)=false
noncomputable def EqW (lt:Nat->Nat->Bool)(p:Array Nat)(l m:Nat):Prop:=∀i j,l<=i->i<m->l<=j->j<m->lt (g p i) (g p j)=false
theorem OrdW.irr (o:OrdW lt)(a:Nat):lt a a=false:=by
 cases e:lt a a with
 | false=>rfl
 | true=>have:=o.as a a e;grind
theorem ascW (o:OrdW lt)(h:Pm n p):∀(f k:Nat),1<=k->k+f=n->W1 lt p k->Yk lt n (kas_asc p f k) (λm=>k<=m/\m<=n/\W1 lt p m/\(m<n->lt (g p m) (g p (m-1))=true))
 | 0,k,h1,h2,hs=>⟨qq _,by omega,hs,λz=>by omega⟩
 | f+1,k,h1,h2,hs=>by
  show g p k<n/\g p (k-1)<n/\Yk lt n (if lt (g p k) (g p (k-1))=true then .ret k else kas_asc p f (k+1)) _;refine⟨h.bd _,h.bd _,?_⟩
  cases e:lt (g p k) (g p (k-1))with
  | true=>rw[if_pos rfl];exact⟨qq _,by omega,hs,λ_=>e⟩
  | false=>
   refine Yk.mono (λm ⟨a,b⟩=>⟨by omega,b⟩) (ascW o h f (k+1) (by omega) (by omega) λi j hij hj=>?_);by_cases hjk:j<k
   ·exact hs i j hij hjk
   ·have:j=k:=by omega
    subst this;by_cases hi:i=j-1
    ·simp_all
    ·exact o.tr _ _ _ e (hs i (j-1) (by omega) (by omega))
theorem JL (hj:q.size=n)(hl:l<=m)(hm:m<=n)(k:Nat):g (kas_rev q l m) k=if l<=k/\k<m then g q (l+(m-1-k))else g q k:=by
 have e:=getElem?_mirror_all (xs:=q) (i:=l) (j:=m) (by omega) k;unfold kas_rev;by_cases hk:l<=k/\k<m
 ·rw[if_pos hk]at e
  rw[if_pos hk];exact Jj (by rw[e];grind)
 ·rw[if_neg hk]at e
  rw[if_neg hk];exact Jj e
theorem Zm3 (hs:p.size=n)(hl:l<=m)(hm:m<=n)(hd:J7 lt p m)(he:EqW lt p l m):J7 lt (kas_rev p l m) m:=λi j hij hj=>by
 rw[JL hs hl hm,JL hs hl hm];by_cases hi:l<=i
 ·rw[if_pos ⟨hi,by omega⟩,if_pos ⟨by omega,hj⟩]
  exact he _ _ (by omega) (by omega) (by omega) (by omega)
 ·rw[if_neg (λz=>hi z.1)]
  by_cases hjl:l<=j
  ·rw[if_pos ⟨hjl,hj⟩]
   exact hd _ _ (by omega) (by omega)
  ·rw[if_neg (λz=>hjl z.1)]
   exact hd _ _ hij hj
theorem ZhY (o:OrdW lt):∀(f k q:Nat) (p:Array Nat),Pm n p->q+1<=k->k+f=n->J7 lt p k->EqW lt p (k-(q+1)) k->
  Yk lt n (kas_desc f p k q) (λr=>Pm n r.1/\r.2.2+1<=r.2.1/\r.2.1<=n/\J7 lt r.1 r.2.1/\EqW lt r.1 (r.2.1-(r.2.2+1)) r.2.1)
 | 0,k,q,p,h,h1,h2,hd,he=>⟨h,h1,by show k<=n;omega,hd,he⟩
 | f+1,k,q,p,h,h1,h2,hd,he=>by
  show g p k<n/\g p (k-1)<n/\Yk lt n (if lt (g p k) (g p (k-1))=true then (if q > 0 then kas_desc f (kas_rev p (k-(q+1)) k) (k+1) 0 else kas_desc f p (k+1) 0)else .ask (g p (k-1)) (g p k) λd=>if d=true then .ret (p,k,q)else kas_desc f p (k+1) (q+1)) _;refine⟨h.bd _,h.bd _,?_⟩;have one:∀p:Array Nat,EqW lt p (k+1-(0+1)) (k+1):=λp i j a b c d=>by
   have:i=j:=by omega
   subst this;exact o.irr _
  cases e:lt (g p k) (g p (k-1))with
  | true=>
   rw[if_pos rfl];have e2:=o.as _ _ e;by_cases hq:q > 0
   ·rw[if_pos hq]
    have h':Pm n (kas_rev p (k-(q+1)) k):=h.of (mirror_perm _ _ _ _);refine ZhY o f (k+1) 0 _ h' (by omega) (by omega) (λi j hij hj=>?_) (one _);have hr:=Zm3 h.size (by omega:k-(q+1)<=k) (by omega) hd he;by_cases hjk:j<k
    ·exact hr i j hij hjk
    ·have:j=k:=by omega
     subst this;rw[JL h.size (by omega) (by omega),JL h.size (by omega) (by omega),if_neg (by omega:¬(j-(q+1)<=j/\j<j))];have hlast:∀x,x<j->lt (g p x) (g p j)=false:=λx hx=>by
      by_cases hx1:x=j-1
      ·subst hx1;exact e2
      ·exact o.tr _ _ _ (hd x (j-1) (by omega) (by omega)) e2
     by_cases hi:j-(q+1)<=i/\i<j
     ·rw[if_pos hi];exact hlast _ (by omega)
     ·rw[if_neg hi];exact hlast _ hij
   ·rw[if_neg hq]
    refine ZhY o f (k+1) 0 p h (by omega) (by omega) (λi j hij hj=>?_) (one _);by_cases hjk:j<k
    ·exact hd i j hij hjk
    ·have:j=k:=by omega
     subst this;by_cases hi:i=j-1
     ·subst hi;exact e2
     ·exact o.tr _ _ _ (hd i (j-1) (by omega) (by omega)) e2
  | false=>
   rw[if_neg (by simp)];refine⟨h.bd _,h.bd _,?_⟩;show Yk lt n (if lt (g p (k-1)) (g p k)=true then .ret (p,k,q)else kas_desc f p (k+1) (q+1)) _
   cases e2:lt (g p (k-1)) (g p k)with
   | true=>rw[if_pos rfl];exact⟨h,h1,by show k<=n;omega,hd,he⟩
   | false=>
    rw[if_neg (by simp)];refine ZhY o f (k+1) (q+1) p h (by omega) (by omega) (λi j hij hj=>?_) λi j a b c d=>?_
    ·by_cases hjk:j<k
     ·exact hd i j hij hjk
     ·have:j=k:=by omega
      subst this;by_cases hi:i=j-1
      ·subst hi;exact e2
      ·exact o.tr _ _ _ (hd i (j-1) (by omega) (by omega)) e2
    ·have low:∀x,k-(q+1)<=x->x<k->lt (g p x) (g p k)=false/\lt (g p k) (g p x)=false:=λx hx hx2=>
      ⟨o.tr _ _ _ (he x (k-1) hx hx2 (by omega) (by omega)) e2,o.tr _ _ _ e (he (k-1) x (by omega) (by omega) hx hx2)⟩
     by_cases hi:i<k
     ·by_cases hj:j<k
      ·exact he i j (by omega) hi (by omega) hj
      ·have:j=k:=by omega
       subst this;exact(low i (by omega) hi).1
     ·have:i=k:=by omega
      subst this;by_cases hj:j<i
      ·exact(low j (by omega) hj).2
      ·have:j=i:=by omega
       subst this;exact o.irr _
theorem Zm4 (o:OrdW lt)(h:Pm n p)(h1:1<=k)(h2:k<=n)(hs:J7 lt p k):Yk lt n (kas_tail3 k n p) (λr=>1<=r.1/\r.1<=n/\Pm n r.2/\W1 lt r.2 r.1):=by
 have h':Pm n (kas_rev p 0 k):=h.of (mirror_perm _ _ _ _);have hs':W1 lt (kas_rev p 0 k) k:=λi j hij hj=>by
  rw[Zm2 h.size h2,Zm2 h.size h2,if_pos (by omega),if_pos (by omega)];exact hs _ _ (by omega) (by omega)
 refine Yk.bind (Yk.mono (λm ⟨a,b,c,_⟩=>?_) (ascW o h' (n-k) k h1 (by omega) hs'));exact⟨by omega,b,h',c⟩
theorem Zm5 (o:OrdW lt)(h:Pm n p)(h1:1<=m)(h2:m<n)(hd:J7 lt p (m+1)):Yk lt n (kas_descPart m n p) (λr=>1<=r.1/\r.1<=n/\Pm n r.2/\W1 lt r.2 r.1):=by
 refine Yk.bind (Yk.mono (λr ⟨r1,r2,r3,r4,r5⟩=>?_) (ZhY o (n-(m+1)) (m+1) 0 p h (by omega) (by omega) hd λi j a b c d=>by
  have:i=j:=by omega
  subst this;exact o.irr _))
 by_cases hq:r.2.2 > 0
 ·rw[if_pos hq]
  exact Zm4 o (r1.of (mirror_perm _ _ _ _)) (by omega) r3 (Zm3 r1.size (by omega) r3 r4 r5)
 ·rw[if_neg hq]
  exact Zm4 o r1 (by omega) r3 r4
theorem ZnT (o:OrdW lt)(h:Pm n p):Yk lt n (kas_count n p) (λr=>1<=r.1/\r.1<=n/\Pm n r.2/\W1 lt r.2 r.1):=by
 have hn:=h.pos;refine Yk.bind (Yk.mono (λm ⟨a,b,c,d⟩=>?_) (ascW o h (n-1) 1 (by omega) (by omega) λi j hij hj=>by omega));by_cases hm:m=n
 ·rw[if_pos (by simpa using hm)]
  exact⟨a,b,h,c⟩
 ·rw[if_neg (by simpa using hm)]
  have dm:=o.as _ _ (d (by omega));by_cases h1:m > 1
  ·rw[if_pos h1]
   refine⟨h.bd 0,h.bd (m-1),?_⟩;show Yk lt n (if lt (g p 0) (g p (m-1))=true then .ret (m,p)else kas_descPart m n (kas_rev p 0 m)) _
   cases e:lt (g p 0) (g p (m-1))with
   | true=>rw[if_pos rfl];exact⟨a,b,h,c⟩
   | false=>
    rw[if_neg (by simp)];have up:∀i j,i<m->j<m->lt (g p i) (g p j)=false:=λi j hi hj=>by
     -- g i<=g (m-1)<=g 0<=g j
     have x1:lt (g p 0) (g p j)=false:=by
      by_cases z:j=m-1
      ·subst z;exact e
      ·exact o.tr _ _ _ e (c j (m-1) (by omega) (by omega))
     by_cases z:i=0
     ·subst z;exact x1
     ·exact o.tr _ _ _ (c 0 i (by omega) hi) x1
    have h':Pm n (kas_rev p 0 m):=h.of (mirror_perm _ _ _ _);refine Zm5 o h' (by omega) (by omega) λi j hij hj=>?_;rw[JL h.size (by omega) (by omega),JL h.size (by omega) (by omega),if_pos (by omega:0<=i/\i<m)];by_cases hjm:j<m
    ·rw[if_pos (by omega:0<=j/\j<m)]
     exact up _ _ (by omega) (by omega)
    ·have:j=m:=by omega
     subst this;rw[if_neg (by omega:¬(0<=j/\j<j))];exact o.tr _ _ _ (up _ (j-1) (by omega) (by omega)) dm
  ·have:m=1:=by omega
   subst this;refine Zm5 o h (by omega) (by omega) λi j hij hj=>?_
   grind
theorem Zg4 (o:OrdW lt)(h:Pm n p)(hk:k<n)(hs:W1 lt p k):∀(f l r:Nat),l<=r->r<=k->r-l<=f->(∀i,i<l->lt (g p k) (g p i)=false)->(∀i,r<=i->i<k->lt (g p i) (g p k)=false)->
  Yk lt n (kas_place p k f l r) (λm=>m<=k/\(∀i,i<m->lt (g p k) (g p i)=false)/\∀i,m<=i->i<k->lt (g p i) (g p k)=false)
 | 0,l,r,h1,h2,h3,ha,hb=>⟨by omega,ha,λi hi=>hb i (by omega)⟩
 | f+1,l,r,h1,h2,h3,ha,hb=>by
  show Yk lt n (if l≥r then .ret l else .ask (g p k) (g p ((l+r) / 2)) λc=>if c=true then kas_place p k f l ((l+r) / 2)else kas_place p k f ((l+r) / 2+1) r) _;by_cases hlr:l≥r
  ·rw[if_pos hlr]
   exact⟨by omega,ha,λi hi=>hb i (by omega)⟩
  ·rw[if_neg hlr]
   refine⟨h.bd _,h.bd _,?_⟩;show Yk lt n (if lt (g p k) (g p ((l+r) / 2))=true then kas_place p k f l ((l+r) / 2)else kas_place p k f ((l+r) / 2+1) r) _
   cases e:lt (g p k) (g p ((l+r) / 2))with
   | true=>
    rw[if_pos rfl];refine Zg4 o h hk hs f l _ (by omega) (by omega) (by omega) ha λi hi hik=>?_;have e2:=o.as _ _ e;by_cases hq:i=(l+r) / 2
    ·subst hq;exact e2
    ·exact o.tr _ _ _ (hs _ i (by omega) hik) e2
   | false=>
    rw[if_neg (by simp)];refine Zg4 o h hk hs f _ r (by omega) h2 (by omega) (λi hi=>?_) hb;by_cases hq:i=(l+r) / 2
    ·simp_all
    ·exact o.tr _ _ _ e (hs i _ (by omega) (by omega))
theorem binW (o:OrdW lt):∀(f k:Nat) (p:Array Nat),Pm n p->1<=k->k+f=n->W1 lt p k->Yk lt n (kas_bin f p k) (λq=>Pm n q/\W1 lt q n)
 | 0,k,p,h,h1,h2,hs=>⟨h,by have:k=n:=(by omega);subst this;exact hs⟩
 | f+1,k,p,h,h1,h2,hs=>by
  refine Yk.bind (Yk.mono (λm ⟨a,b,c⟩=>?_) (Zg4 o h (k:=k) (by omega) hs k 0 k (by omega) (by omega) (by omega) (λi hi=>by omega) λi hi hik=>by omega));have hg:∀i,g (bubble p k (k-m)) i=if i=m then g p k else if m<i/\i<=k then g p (i-1)else g p i:=λi=>by
   have e:=getElem?_bubble (xs:=p) (src:=k) (by rw[h.size];omega) (k-m) (by omega) i;rw[show k-(k-m)=m by omega]at e;by_cases q1:i=m
   ·rw[if_pos q1]at e⊢;exact Jj e
   ·rw[if_neg q1]at e⊢
    by_cases q2:m<i/\i<=k
    ·rw[if_pos q2]at e⊢;exact Jj e
    ·rw[if_neg q2]at e⊢;exact Jj e
  refine binW o f (k+1) _ (h.of (bubble_perm _ _ _)) (by omega) (by omega) λi j hij hj=>?_;rw[hg,hg];by_cases i1:i=m
  ·rw[if_pos i1,if_neg (by omega:¬j=m),if_pos (by omega:m<j/\j<=k)]
   exact c _ (by omega) (by omega)
  ·rw[if_neg i1]
   by_cases i2:m<i/\i<=k
   ·rw[if_pos i2,if_neg (by omega:¬j=m),if_pos (by omega:m<j/\j<=k)]
    exact hs _ _ (by omega) (by omega)
   ·rw[if_neg i2]
    by_cases j1:j=m
    ·rw[if_pos j1];exact b i (by omega)
    ·rw[if_neg j1]
     by_cases j2:m<j/\j<=k
     ·rw[if_pos j2]
      exact hs _ _ (by omega) (by omega)
     ·rw[if_neg j2]
      exact hs _ _ hij (by omega)
theorem ZoK (o:OrdW lt)(hn:0<n):Yk lt n (kas_sort n) (λq=>Pm n q/\W1 lt q n):=by
 have h:Pm n (zw (qu n)):=⟨hn,by simp⟩;refine Yk.bind (Yk.mono (λr ⟨a,b,c,d⟩=>?_) (ZnT o h));by_cases hr:r.1<n
 ·rw[if_pos hr]
  have e:max r.1 1=r.1:=by omega
  rw[e];exact binW o _ _ _ c a (by omega) d
 ·rw[if_neg hr]
  exact⟨c,by grind⟩
end
noncomputable def Xk:List Int->List Int->Bool
 | [],[]=>false
 | [],_::_=>true
 | _::_,[]=>false
 | a::as,b::bs=>if a=b then Xk as bs else decide (a<b)
theorem ZfB:∀a,Xk a a=false
 | []=>rfl
 | a::as=>by unfold Xk;rw[if_pos rfl];exact ZfB as
theorem ZeE:∀a b c,Xk a b=true->Xk b c=true->Xk a c=true
 | [],[],_,h,_=>by cases h
 | [],_::_,[],_,h=>by cases h
 | [],_::_,_::_,_,_=>rfl
 | _::_,[],_,h,_=>by cases h
 | _::_,_::_,[],_,h=>by cases h
 | a::as,b::bs,c::cs,h1,h2=>by
  unfold Xk at h1 h2⊢;split at h1
  ·rename_i e;subst e
   split at h2
   ·rename_i e;subst e;rw[if_pos rfl];exact ZeE as bs cs h1 h2
   ·simp_all
  ·split at h2
   ·simp_all
   ·grind
theorem ZcE:∀a b,a≠b->Xk a b=false->Xk b a=true
 | [],[],n,_=>absurd rfl n
 | [],_::_,_,h=>by cases h
 | _::_,[],_,_=>rfl
 | a::as,b::bs,n,h=>by
  unfold Xk at h⊢;split at h
  ·rename_i e;subst e;rw[if_pos rfl]
   exact ZcE as bs (λz=>n (by rw[z])) h
  ·simp at h
   grind
theorem Zda (h:Xk a b=true):Xk b a=false:=by
 cases e:Xk b a with
 | false=>rfl
 | true=>have:=ZeE _ _ _ h e;rw[ZfB]at this;cases this
noncomputable def Xe (a b:List Int):Bool:=!Xk b a
theorem ZkW (h1:Xe a b=true)(h2:Xe b a=true):a=b:=by
 unfold Xe at h1 h2;simp at h1 h2;by_cases e:a=b
 ·exact e
 ·rw[ZcE a b e h2]at h1;cases h1
theorem ZkX (a b c:List Int)(h1:Xe a b=true)(h2:Xe b c=true):Xe a c=true:=by
 unfold Xe at h1 h2⊢;simp at h1 h2⊢;by_cases e1:a=b
 ·simp_all
 ·by_cases e2:b=c
  ·simp_all
  ·exact Zda (ZeE _ _ _ (ZcE b a (qN e1) h1) (ZcE c b (qN e2) h2))
theorem ZnU (a b:List Int):(Xe a b||Xe b a)=true:=by
 unfold Xe
 cases e:Xk b a with
 | false=>rfl
 | true=>rw[Zda e];rfl
theorem Zdb:∀{a b:List (List Int)},a.Perm b->a.Pairwise (λx y=>Xe x y=true)->b.Pairwise (λx y=>Xe x y=true)->a=b
 | [],b,p,_,_=>(List.nil_perm.mp p).symm
 | x::a,[],p,_,_=>absurd p.length_eq (by simp)
 | x::a,y::b,p,ha,hb=>by
  have ha':=yg.mp ha;have hb':=yg.mp hb;have e:x=y:=by
   have h1:x∈y::b:=p.mem_iff.mp (by simp);have h2:y∈x::a:=p.mem_iff.mpr (by simp);rcases qy.mp h1 with h1 | h1
   ·exact h1
   ·rcases qy.mp h2 with h2 | h2
    ·exact h2.symm
    ·exact ZkW (ha'.1 y h2) (hb'.1 x h1)
  subst e;rw[Zdb (List.Perm.cons_inv p) ha'.2 hb'.2]
noncomputable def VB (kg:List (List Int)):List (List Int):=kg.mergeSort Xe
theorem Zg5 (kg:List (List Int)):(VB kg).Perm kg:=qbB kg _
theorem ZeF (kg:List (List Int)):(VB kg).Pairwise (λx y=>Xe x y=true):=qa5 ZkX ZnU kg
theorem ZaN (p:a.Perm kg)(h:a.Pairwise (λx y=>Xe x y=true)):a=VB kg:=Zdb (p.trans (Zg5 kg).symm) h (ZeF kg)
noncomputable def WS (h:Heap)(v:Value)(ns:List Int):Prop:=∃a xs,v=.ref a/\h.IsTuple a (zw xs)/\IntsAre xs ns
section
variable {prog:xy}{w:World}{A:xz}{E:xA}{s:Shared}
theorem Zm6:∀{as bs:List Int} {xs ys:List Value} (i:Nat),IntsAre xs as->IntsAre ys bs->fin=decide (as.length<bs.length)->Q (Xk as bs) s->KatLex prog w A true fin Q (xs.zip ys) i s
 | [],[],_,_,i,.nil,.nil,e,h=>by subst e;exact kat_nil h
 | [],_::_,_,_,i,.nil,.cons _ _ _,e,h=>by subst e;exact kat_nil h
 | _::_,[],_,_,i,.cons _ _ _,.nil,e,h=>by subst e;exact kat_nil h
 | a::as,b::bs,_,_,i,.cons _ t hx,.cons _ u hy,e,h=>by
  unfold Xk at h;refine kat_cons (wpAny_eqBool_int ?_);by_cases q:a=b
  ·rw[if_pos q]at h
   rw[show(a==b)=true by simp[q]];exact kat_yes (Zm6 (i+1) hx hy (by rw[e];simp) h)
  ·rw[if_neg q]at h
   rw[show(a==b)=false by simp[q]];refine kat_no ?_;by_cases hi:i=0
   ·subst hi
    exact oneLt_int h
   ·rw[show(true&&i==0)=false by simp[hi]]
    exact kat_one _ _ (lt_int h)
theorem ZoL (hx:WS s.heap x as)(hy:WS s.heap y bs)(h:C (Xk as bs) s):xf (xw prog w) A (keyLt' (tuples' true) x y) C E s:=by
 obtain⟨a,xs,rfl,⟨o,ho,hc,n,hd⟩,ix⟩:=hx;obtain⟨b,ys,rfl,⟨o',ho',hc',n',hd'⟩,iy⟩:=hy;refine kat_lt ho hd ho' hd' ?_;have e:decide ((zw xs).size<(zw ys).size)=decide (as.length<bs.length):=by rw[za,za,ix.length,iy.length]
 exact Zm6 0 ix iy e h
theorem ZkY:∀{vs:List Value} {kg:List (List Int)},Paired (WS h) vs kg->(∀ns∈kg,ns≠[])->∃fs,KatTups h vs fs/\fs.length=vs.length/\∀v∈fs,∃n t,v=qav n t
 | _,_,.nil,_=>⟨[],.nil,rfl,λ_ z=>by simp at z⟩
 | _,_,.cons hv r,hne=>by
  obtain⟨fs,h1,h2,h3⟩:=ZkY r λns' m=>hne ns' (qL _ m);obtain⟨a,xs,rfl,⟨o,ho,hc,n,hd⟩,ix⟩:=hv
  cases ix with
  | nil=>simp_all
  | cons m t r'=>
   refine⟨.int m t::fs,.cons ho hc hd (by simp) h1,by simp[h2],λv hv=>?_⟩
   grind
theorem ZnV (h:Paired (WS s.heap) vs kg)(hne:∀ns∈kg,ns≠[])(h0:0<vs.length)(q:Q (tuples' true) s):xf (xw prog w) A (keyKind' vs.toArray) Q E s:=by
 obtain⟨fs,h1,h2,h3⟩:=ZkY h hne;refine kat_kind (T:=.type "int") h1 (by omega) (λv hv=>?_) rfl ?_
 ·obtain⟨n,t,rfl⟩:=h3 v hv
  exact Looks.of_pure rfl
 ·exact q
theorem WS.at (k:∀c o,c≠b->h.get? c=some o->h'.get? c=some o)(hb:∃o,h.get? b=some o/\o.cls=.type "list")(x:WS h v ns):WS h' v ns:=by
 obtain⟨a,xs,e,⟨o,ho,hc,r⟩,i⟩:=x;refine⟨a,xs,e,⟨o,k a o (λz=>?_) ho,hc,r⟩,i⟩
 grind
theorem jr {F:α->β->Prop}:∀{l:List α} {r:List β} {i:Nat} (d:α) (d':β),Paired F l r->i<l.length->F (l.getD i d) (r.getD i d')
 | _,_,i,_,_,.nil,e=>absurd e (by simp)
 | _,_,0,_,_,.cons h t,e=>h
 | _,_,i+1,d,d',.cons h t,e=>by
  have:=jr d d' t (i:=i) (by simp_all);simpa using this
theorem range_getD {α:Type}(vs:List α)(d:α):((qu vs.length).map λi=>vs.getD i d)=vs:=by
 refine List.ext_getElem (by simp) λi h1 h2=>?_;simp[h2]
theorem Zmu (vs:List Value)(κ:SortKind):(arrOf (SortSt.mk' κ (vs.toArray.zip vs.toArray) #[] 7 none)).map (·.2)=zw ((zw (qu vs.length)).toList.map λi=>vs.getD i qO):=by
 apply Array.toList_inj.mp;rw[range_getD,Array.toList_map];show(pairsOf vs).toList.map qbO=_;rw[pairsOf_toList];exact List.map_snd_zip (qq _)
end
section
variable {prog:xy}{w:World}{A:xz}{E:xA}{s:Shared}
end
theorem Paired.pick {F:α->β->Prop}{l:List α}{r:List β}(d:α)(d':β)(h:Paired F l r):∀(ix:List Nat),(∀i∈ix,i<l.length)->Paired F (ix.map λi=>l.getD i d) (ix.map λi=>r.getD i d')
 | [],_=>.nil
 | i::ix,hb=>.cons (jr d d' h (hb i (by simp))) (Paired.pick d d' h ix λj m=>hb j (qL _ m))
end TS
namespace TF
open L2 TS
section
variable {X:Cx}{G:Gh}
theorem ZdZ {σ:St}(I:Inv X jJ σ H s)(hT:∀v ns,T v ns->∃a,v=.ref a/\ZU X.K H a (ns.map V.int)):∀{vs:List V} {jK:List Value} {kg:List (List Int)},Zy vs jK->Paired T vs kg->Paired (WS s.heap) jK kg
 | _,_,_,.nil,.nil=>.nil
 | _,_,_,.cons r rr,.cons t tt=>by
  refine .cons ?_ (ZdZ I hT rr tt);obtain⟨a,rfl,hq⟩:=hT _ _ t
  cases r
  obtain⟨xs,rv,pl,hz⟩:=I.tuple hq;exact⟨a,xs,rfl,show s.heap.IsTuple a xs.toArray from pl,UU rv⟩
noncomputable def BZ (ns:List Int):D:=.tup (ns.map .int)
theorem Zd0:∀{kg:List (List Int)} {vs:List V},Paired (λv ns=>Zl G Hf (BZ ns) v) vs kg->Zi G Hf (kg.map BZ) vs
 | _,_,.nil=>Zi.nil_iff.mpr rfl
 | _,_,.cons h t=>.cons h (Zd0 t)
end
end TF
namespace L2
section
variable {prog:xy}{w:World}{A:xz}{E:xA}{s:Shared}{z TI TO i1 i2:Addr}{f1 f2:List Addr}{n1 n2 k:Nat}{P1 P2:Nat->Value->Prop}{S1 S2:Nat->Heap->Prop}{a b:Value}
end
section
variable {prog:xy}{w:World}{A:xz}{E:xA}{s:Shared}
end
end L2
namespace TF
open L2
section
variable {X:Cx}{G:Gh}
end
section
variable {X:Cx}{G:Gh}{own:List Nat}{fr:Bool}
end
section
variable {X:Cx}{G:Gh}
end
section
variable {X:Cx}{G:Gh}{ob:List Nat}{fr:Bool}
end
section
variable {X:Cx}{G:Gh}{ob own:List Nat}{fr:Bool}
end
section
variable {X:Cx}{G:Gh}{ob own:List Nat}{fr:Bool}
noncomputable def ZnW (K:qf):V->List V->Hp->VK->Prop:=λx vs H Q=>∃(p:Addr) (ns:List Int) (k:Int),x=.ref p/\vs=[.int k]/\ZJ K H p (ns.map V.int)/\k∈ns/\Q (.int (ns.idxOf k:Nat)) H
theorem ZkZ : B7 X "list.index" (ZnW X.K) := by
  intro jJ s σ H x xs v us Q I rx rv h;obtain⟨p, ns, k, rfl, rfl, hp, hk, q⟩ := h
  cases rx
  obtain⟨u, rfl, t, rfl⟩ := Wx rv;obtain⟨jK, r2, pl, hz⟩ := I.list hp;have hi : IntsAre jK ns := UU r2;obtain⟨⟨c0, d0, dat, sl0⟩, hob, hcl, n0, hdat⟩ := id pl.isList;simp only at hcl hdat;subst hcl hdat;have l1 := hi.length;have l2 : ns.idxOf k < ns.length := by rw[zX]; exact hk
  have l3 : ns.length <= xg := by simpa using hz
  have l4 := JD;have go := SeqAt.list_indexAt p jK.toArray n0 d0 sl0 (.int k t) (isInt k) (ns.idxOf k) (by simpa[l1] using l2) (by omega)
    (by show isInt k jK[ns.idxOf k] = true
        rw[isInt_at k hi (ns.idxOf k) (by omega) l2]; simp)
    (λj hjs hlt => by
        show isInt k jK[j] = false;rw[isInt_at k hi j (by omega) (by omega)]; exact ne_of_lt_idxOf hlt _)
  refine call_meets z0 ⟨_, hob, rfl⟩ qa2 (qaP _ _) go ⟨hob, λy hy => (eq_isInt k t hi y (by simp_all)).at _ _, ?_⟩;exact⟨.int (ns.idxOf k : Nat), H, I.tok _, ⟨_, rfl⟩, q⟩
noncomputable def ZeG:D->D->Option D
 | .lst ds,.int k=>(Z4 ds).bind λns=>if k∈ns then some (.int (ns.idxOf k:Nat))else none
 | _,_=>none
theorem Zk0 {ap cp:Pos}(ho:PD X G r1 o fo)(he:PD X G r2 e fe)
  (hbase:xq o "index" X.env (eval o X.env)=eval o X.env:=by rfl)
  (hfew:((backTo cp (xh [e] X.env)).all (λx=>!x.1)&&(xp cp (xi [] X.env)).all (λx=>x.1.isSome)
   && decide ([e].length+([]:List Keyword).length+(if ([]:List Keyword).isEmpty then 0 else 1)<30))=true:=by rfl)
  (hline:(ap.endLine==cp.line)=true:=by rfl) (hs:xh [e] X.env=(false,eval e X.env)::xh [] X.env:=by rfl) :
  PD X G true (.Call (.Attribute o "index" ap) [e] [] cp) (Zd ZeG fo fe):=by
 obtain⟨to,po,qo⟩:=ho.drop;obtain⟨te,pe,qe⟩:=he.drop;refine⟨_,BG zq z0 qa6 ZkZ po (Yt pe YS hs) hbase hfew hline hs rfl,fun σ Hf H ρ s d s' Q e1 e2 e3 e4 k=>?_⟩;obtain⟨da,s1,a1,a2⟩:=Zv e4;obtain⟨db,s2,a3,a4⟩:=Zv a2;obtain⟨a5,rfl⟩:=Y5 a4;refine qo σ Hf H ρ s da s1 _ e1 e2 e3 a1 λx jW H1 g1 j9 r1=>?_
 match da,db,a5,r1,a3 with
 | .lst ds,.int kk,a5,r1,a3=>
  have a5:((Z4 ds).bind λns=>if kk∈ns then some (D.int (ns.idxOf kk:Nat))else none)=some d:=a5
  cases he:Z4 ds with
  | none=>rw[he]at a5;cases a5
  | some ns=>
   rw[he]at a5;have a5:(if kk∈ns then some (D.int (ns.idxOf kk:Nat))else none)=some d:=a5;split at a5
   ·rename_i hmem
    cases a5
    obtain⟨p,vs,rfl,np,hp,rp⟩:=jc.mp r1;refine⟨.inl ⟨rfl,vs,ZJ.of (g1.fh _ _ np hp)⟩,?_⟩;refine qe σ jW H1 ρ s1 _ _ _ g1.fh (e2.ext g1.ff) j9 a3 λy jZ H2 g2 j6 r2=>?_;rw[UX he]at rp;rw[jp rp]at hp
    cases (ja.mp r2)
    exact⟨p,ns,kk,rfl,rfl,ZJ.of (g2.fh _ _ np (g2.ff _ _ np hp)),hmem,k _ jZ H2 (g1.trans g2) j6 (ja.mpr rfl) λ_=>.scal λz=>z⟩
   ·cases a5
end
section
variable {X:Cx}{G:Gh}{ob own:List Nat}{fr:Bool}
end
end TF
namespace HT
section
variable {prog:xy}{w:World}{A:xz}{E:xA}{s:Shared}
end
end HT
namespace TF
open L2
section
variable {X:Cx}{G:Gh}
end
end TF
namespace HT
section
variable {prog:xy}{w:World}{A:xz}{R:Result->Shared->Prop}{I:Addr}{fp wr:List Addr}{n:Nat}{P:Nat->Value->Prop}{St:Nat->Heap->Prop}
end
section
variable {prog:xy}{w:World}{A:xz}{E:xA}{s:Shared}
end
section
variable {prog:xy}{w:World}{A:xz}{R:Result->Shared->Prop}{I:Addr}{fp wr:List Addr}{n:Nat}{P:Nat->Value->Prop}{St:Nat->Heap->Prop}
end
section
variable {prog:xy}{w:World}{A:xz}{E:xA}{s:Shared}
end
end HT
namespace L2
section
variable {X:Cx}
end
end L2
namespace TF
open L2
section
variable {X:Cx}{G:Gh}
end
end TF
namespace TS
open L2
section
variable {prog:xy}{w:World}{A:xz}{E:xA}{s:Shared}
end
end TS
namespace TF
open L2 TS
section
variable {X:Cx}{G:Gh}
end
end TF
namespace TF
open L2
section
variable {X:Cx}{G:Gh}
end
end TF
namespace L2
section
variable {X:Cx}{tg:Expr}
end
end L2
namespace TF
open L2
section
variable {X:Cx}{G:Gh}{ob own:List Nat}{fr:Bool}
end
open Sem (wp)
section
variable {prog:xy}{w:World}{A:xz}{E:xA}{s:Shared}
end
variable {X:Cx}{G:Gh}{f:Zc->M D}
end TF
namespace TF
open L2 TS PySem.W
section
variable {X:Cx}{jJ:Qb}{σ:St}{H:Hp}{s:Shared}
end
section
variable {prog:xy}{w:World}{A:xz}{E:xA}{s:Shared}
end
section
variable {X:Cx}{jJ:Qb}{σ:St}{H:Hp}{s:Shared}
end
end TF
namespace TS
open PySem.W
theorem lexW (kg:List (List Int)):OrdW (λi j=>Xk (kg.getD i []) (kg.getD j [])):=by
 refine⟨λa b c h1 h2=>?_,λa b h=>Zda h⟩;have t:=ZkX (kg.getD c []) (kg.getD b []) (kg.getD a []) (by unfold Xe;rw[h2];rfl) (by unfold Xe;rw[h1];rfl);unfold Xe at t
 grind
section
variable {prog:xy}{w:World}{A:xz}{E:xA}{s:Shared}
theorem ZfC (ho:s.heap.get? a=some (seqObj "list" vs.toArray n))(ht:Paired (WS s.heap) vs kg)(h64:vs.length<64)(hne:2<=vs.length->∀ns∈kg,ns≠[])
  (h:∀p:Array Nat,p.toList.Perm (qu vs.length)->(p.toList.map λi=>kg.getD i [])=VB kg->P (.done (.ret .none)) { s with heap:=sortedHeap s.heap a vs (zw (p.toList.map λi=>vs.getD i qO)) }) :
  xf (xw prog w) A (Builtin.«list.sort» ⟨[.ref a],[]⟩) P E s:=by
 have jR:vs.length=kg.length:=z7 ht;rw[list_sort_plain];have ha:a<s.heap.objs.size:=qt ho;refine xa (listItems_at ho rfl ?_);refine xa (listUpdate_at ho rfl ?_);obtain⟨e1,ho1⟩:∃e1,(s.heap.update a (zm λ_=>#[])).get? a=some (seqObj "list" #[] e1):=⟨_,get?_update_seq ho (λ_=>#[])⟩;refine xa (seqEpoch_at ho1 rfl ?_);refine xa (wpAny_newTuple ?_);refine xa (wpAny_newList ?_);refine xt ?_;have ho6:(((s.heap.update a (zm λ_=>#[])).push (seqObj "tuple" vs.toArray 0)).push (seqObj "list" #[] 0)).get? a=some (seqObj "list" #[] e1):=qj _ (qj _ ho1);have kk:∀c o,c≠a->s.heap.get? c=some o->(((s.heap.update a (zm λ_=>#[])).push (seqObj "tuple" vs.toArray 0)).push (seqObj "list" #[] 0)).get? c=some o:=λc o hc e=>qj _ (qj _ (by rw[Heap.get?_update_ne _ _ _ _ hc];exact e));have ht2:Paired (WS (((s.heap.update a (zm λ_=>#[])).push (seqObj "tuple" vs.toArray 0)).push (seqObj "list" #[] 0))) vs kg:=L2.Paired.mapP ht λv ns x=>x.at kk ⟨_,ho,rfl⟩;show xf (xw prog w) A _ P E { s with heap:=((s.heap.update a (zm λ_=>#[])).push (seqObj "tuple" vs.toArray 0)).push (seqObj "list" #[] 0) };dsimp only;have hsz:vs.toArray.size=vs.length:=by simp
 by_cases h2:vs.toArray.size<2
 ·rw[if_pos h2,if_pos h2];refine xa (xb ?_);rw[StateT.run_pure]
  refine xa (xb ?_);dsimp only;refine xa (seqEpoch_at ho6 rfl ?_);refine xa (listUpdate_at ho6 rfl ?_ (hsz2:=by rw[Array.size_map];show(pairsOf vs).size<=_;rw[pairsOf_size,sizeLine_eq];omega));simp only[bne_self_eq_false,zB,if_false];have eo:(arrOf (SortSt.mk' general' (vs.toArray.zip vs.toArray) #[] 7 none)).map (·.2)=zw ((zw (qu vs.length)).toList.map λi=>vs.getD i qO):=by
   exact Zmu vs general'
  rw[eo];refine xb (h _ (by simp) ?_)
  match kg,(by omega:kg.length<2),jR with
  | [],_,hl=>
   simp only[yx]at hl;rw[hl];exact ZaN (by simp) (by simp)
  | [x],_,hl=>
   simp only[qV,yx]at hl;rw[hl];exact ZaN (by simp) (by simp)
 ·rw[if_neg h2,if_neg h2]
  have h2':2<=vs.length:=by omega
  refine xa (ZnV (s:={ s with heap:=((s.heap.update a (zm λ_=>#[])).push (seqObj "tuple" vs.toArray 0)).push (seqObj "list" #[] 0) }) ht2 (hne h2') (by omega) ?_)
  let lt:Nat->Nat->Bool:=λi j=>Xk (kg.getD i []) (kg.getD j [])
  have hord:OrdW lt:=lexW kg
  ·have wp:=jD (s:={ s with heap:=((s.heap.update a (zm λ_=>#[])).push (seqObj "tuple" vs.toArray 0)).push (seqObj "list" #[] 0) }) (cmp:=kas_ask prog w A (tuples' true) vs) (R:=λq s'=>(Pm vs.length q/\W1 lt q vs.length)/\s' = { s with heap:=((s.heap.update a (zm λ_=>#[])).push (seqObj "tuple" vs.toArray 0)).push (seqObj "list" #[] 0) }) (λi j hi hj C hC=>ZoL (jr _ [] ht2 hi) (jr _ [] ht2 hj) hC) (λq hq=>⟨hq,rfl⟩) (ZoK hord (by omega))
   refine xa (xc (kat_run (ks:=vs) (vs:=vs) (Q:=λst' s'=>∃p:Array Nat,(Pm vs.length p/\W1 lt p vs.length)/\arrOf st'=p.map (kas_item (vs.toArray.zip vs.toArray))/\failedOf st'=none/\s' = { s with heap:=((s.heap.update a (zm λ_=>#[])).push (seqObj "tuple" vs.toArray 0)).push (seqObj "list" #[] 0) }) rfl h2' h64 (λp' st' s' a1 a2 a3 a4=>⟨p',a4.1,a2,a3,a4.2⟩) wp) ?_ λ_ _ e=>e);rintro⟨⟨⟩,st'⟩ s' ⟨p,⟨hpm,hso⟩,har,hf,rfl⟩;dsimp only;have hout:=kat_snds (ks:=vs) (vs:=vs) rfl har;have hps:p.toList.length=vs.length:=by rw[zH];exact hpm.size
   rw[hout];refine xa (seqEpoch_at ho6 rfl ?_);refine xa (listUpdate_at ho6 rfl ?_ (hsz2:=by rw[za,qp,hps,sizeLine_eq];omega));rw[hf];simp only[bne_self_eq_false,zB,if_false];refine xb (h p hpm.pm (ZaN ?_ ?_))
   ·have e:=(hpm.pm).map (λi=>kg.getD i [])
    rw[jR]at e;rw[range_getD]at e;exact e
   ·rw[yA]
    intro i j hi hj hij;have hj':j<vs.length:=by rw[qp,hps]at hj;exact hj
    have:=hso i j hij hj';have e1:g p i=p.toList[i]'(by rw[hps];omega):=by unfold g;simp[Array.getD,show i<p.size by rw[hpm.size];omega]
    have e2:g p j=p.toList[j]'(by rw[hps];omega):=by unfold g;simp[Array.getD,show j<p.size by rw[hpm.size];omega]
    rw[e1,e2]at this;rw[yp,yp];unfold Xe
    grind
end
end TS
namespace TF
open L2 TS
section
variable {X:Cx}{G:Gh}
end
end TF
namespace L2
section
variable {prog:xy}{w:World}{A:xz}{E:xA}{s:Shared}{o:Obj}{es:Array DictEntry}{d:Addr}{ep:Nat}
theorem ZiZ (hh:A.handled=none)(I:Addr)(ne:d≠I)(hd:o.data=.dict es ep) :
  Walks prog w A I [I,d] [I] es.size (λi v=>∃e,es[i]?=some e/\e.key=v) (λi h=>h.IsKeyIter I d i es.size ep/\h.get? d=some o) where
 sub:=λb hb=>by simp at hb;simp[hb]
 frame:=λi h h' st hk=>by
  obtain⟨⟨oi,e,c,r⟩,e2⟩:=st;exact⟨⟨oi,hk I (by simp) _ e,c,r⟩,hk d (by simp) _ e2⟩
 item:=λi s Q E hi st hQ=>Zg3 st.1 st.2 hd hi λh' k sb=>hQ _ h' s.toks ⟨_,zS hi,rfl⟩ ⟨k,(sb.2 d ne).trans st.2⟩ λb u hb e=>(sb.2 b (by simpa using hb)).trans e
 done:=λs Q E st hQ=>ZiY hh st.1 st.2 hd (qq _) λh' eb=>hQ h' s.toks λb u hb e=>eb b u (by simpa using hb) e
 self:=λi s Q E st q=>wpAny_pyIter_keyiter st.1 q
theorem kdl_obj (lo:(d==sysModules)=false)(hc:o.ExactDict)(hd:o.data=.dict es ep):PySem.W.KdlSrc prog w "dict" d d es.size (λi v=>∃e,es[i]?=some e/\e.key=v) (λh=>h.get? d=some o) where
 type:=λs h=>⟨o,h,hc.1⟩
 there:=λh e=>⟨qt e,qt e⟩
 keep:=λh h' e k=>k d (.inl rfl) o e
 notList:=by decide
 notTuple:=by decide
 hint:=λA E s Q e q=>PySem.W.kdl_hint_dict ⟨o,e,hc.1⟩ q
 iter:=λA s hh e=>⟨_,_,λE Q q=>Zg2 lo e hc hd q,ZiZ hh s.heap.objs.size (qG (qt e)) hd,⟨_,qw _ rfl,rfl,rfl⟩,qj _ e⟩
end
end L2
namespace TS
open PySem.W
section
variable {prog:xy}{w:World}{A:xz}{E:xA}{s:Shared}{o:Obj}{es:Array DictEntry}{d:Addr}{ep:Nat}
theorem Zi0 {T:String}{r d:Addr}{n:Nat}{P:Nat->Value->Prop}{OK:Heap->Prop}{R:List Value->Shared->Prop}(K:KdlSrc prog w T r d n P OK)(hh:A.handled=none)(hok:OK s.heap)(hn:n<=xg)
  (k:∀(h':Heap) (tk:Nat) (jU:Array Value),(∀b u,s.heap.get? b=some u->h'.get? b=some u)->s.heap.objs.size<h'.objs.size->ItemsOf P jU n->R jU.toList { s with heap:=h',toks:=tk }):xf (xw prog w) A (collect (.ref r)) R E s:=by
 have lt:=K.there _ hok;unfold collect;apply xa;apply wpAny_runValue;apply xm F.entry_proto_collect;rw[yn
  F.plain_proto_collect _]
 show xf _ A.in1 (newList [] >>= λz=>
  again (.builtin "list.__iadd__" ⟨[z,.ref r],[]⟩)) _ _ s
 apply xa;refine xl ?_;refine xb ⟨plainId_quiet
  F.plain_list_iadd _,xm
  F.entry_list_iadd ?_⟩
 rw[yn
  F.plain_list_iadd _]
 show xf _ A.in1 (Builtin.List.listExtendWith
  (.ref s.heap.objs.size) (.ref r)
  (.ref s.heap.objs.size)) _ _ _
 have hS0:(s.heap.push
   { cls:=.type "list",data:=.seq ([]:List Value).toArray }).get?
   s.heap.objs.size=some { cls:=.type "list",data:=.seq #[] 0 }:=
  qw _ rfl
 let RR:Result->Shared->Prop:=λq s'=>∃(h':Heap) (tk:Nat) (jU:Array Value) (c:Nat),
  q=.ok (.ret (.ref s.heap.objs.size))/\s' = { s with heap:=h',toks:=tk }/\(∀b u,s.heap.get? b=some u->h'.get? b=some u)/\
  h'.get? s.heap.objs.size=some { cls:=.type "list",dict:=none,data:=.seq jU c,slots:=#[] }/\ItemsOf P jU n
 have go:=kdl_extend (A:=A) (R:=RR) (s:={ s with heap:=(s.heap.push
   { cls:=.type "list",data:=.seq ([]:List Value).toArray }) }) K hh (K.keep _ _ hok λb _ u q=>qj _ q)
  s.heap.objs.size (qbE lt.1) (qbE lt.2) (.ref s.heap.objs.size) 0 hS0
  (λh' tk jU c kk hS hacc=>⟨h',tk,jU,c,rfl,rfl,λb u q=>kk b u (qG (qt q)) (qj _ q),hS,hacc⟩) hn
 have fin:∀q s',RR q s'->∃f,q=.ok f/\f=.ret (.ref s.heap.objs.size)/\xf (xw prog w) A (load s.heap.objs.size >>= λx=>match x.data with | .seq xs _=>pure xs.toList | _=>unsupported "internal:collect") R E s':=by
  rintro q s' ⟨h',tk,jU,c,rfl,rfl,kk,hS,hacc⟩;exact⟨_,rfl,rfl,xa (wpAny_load hS (xb (k h' tk jU kk (qt hS) hacc)))⟩
 refine xc go (λf s' x=>?_) λe s' x=>?_
 ·cases f with
  | done f=>
   obtain⟨f',e,rfl,q⟩:=fin _ _ x
   cases e
   exact q
  | again c'=>
   refine⟨x.1,codeAny_mono x.2 λq s2 y=>?_⟩;obtain⟨f',rfl,rfl,q⟩:=fin _ _ y;exact q
 ·obtain⟨f',e,_⟩:=fin _ _ x
  cases e
theorem Zk1 (hh:A.handled=none)(lo:(d==sysModules)=false)(ho:s.heap.get? d=some o)(hc:o.ExactDict)(hd:o.data=.dict es ep)(ht:Paired (WS s.heap) (es.toList.map (·.key)) kg)(h64:es.size<64)(hne:2<=es.size->∀ns∈kg,ns≠[])
  (k:∀(p:Array Nat) (L:Addr) (h':Heap) (tk e:Nat),p.toList.Perm (qu es.size)->(p.toList.map λi=>kg.getD i [])=VB kg->(∀b u,s.heap.get? b=some u->h'.get? b=some u)->s.heap.objs.size<=L->h'.get? L=some (seqObj "list" (zw (p.toList.map λi=>(es.toList.map (·.key)).getD i qO)) e)->Q (.ref L) { s with heap:=h',toks:=tk }) :
  xf (xw prog w) A (call (.builtin "sorted") [.ref d]) Q E s:=by
 refine Calls.call_function_entry kind_sorted plain_sorted entry_sorted (args_sorted1 _) ?_;unfold Builtin.«sorted»;refine xa (m:=checkCount "sorted" 1 1 _) (xb ?_);refine xa (Zi0 (A:=A.in1) (L2.kdl_obj lo hc hd) hh ho (by rw[sizeLine_eq];omega) λh1 tk jU kp hlt hacc=>?_);have ea:jU.toList=es.toList.map (·.key):=by
  apply qaJ;intro i;rw[qbj,qE,qbj];by_cases hi:i<es.size
  ·have hs:i<jU.size:=by rw[hacc.1];exact hi
   obtain⟨e,q1,q2⟩:=hacc.2 i _ (zS hs);rw[zS hs,q1,<-q2];rfl
  ·rw[yV (by rw[hacc.1];omega),yV (by omega)];rfl
 rw[ea];have hl:(es.toList.map (·.key)).length=es.size:=by simp
 generalize es.toList.map (·.key)=vs at ht hl k⊢;rw[<-hl]at h64 hne k;refine xa (wpAny_newList ?_ (by rw[sizeLine_eq];omega));have g1:(h1.push (seqObj "list" vs.toArray 0)).get? h1.objs.size=some (seqObj "list" vs.toArray 0):=qw _ rfl;have kp2:∀b u,s.heap.get? b=some u->(h1.push (seqObj "list" vs.toArray 0)).get? b=some u:=λb u e=>qj _ (kp b u e);have ht2:Paired (WS (h1.push (seqObj "list" vs.toArray 0))) vs kg:=L2.Paired.mapP ht λv ns ⟨a,xs,e,⟨o,ho,r⟩,i⟩=>⟨a,xs,e,⟨o,kp2 a o ho,r⟩,i⟩;refine xa (xt (wpAny_call_entry slot_list_sort ⟨_,g1,rfl⟩ entry_list_sort (ZfC g1 ht2 h64 hne λp a1 a2=>⟨_,rfl,?_⟩) (args_list_sort _)));obtain⟨e,he⟩:=sortedHeap_at (out:=zw (p.toList.map λi=>vs.getD i qO)) g1;refine xb ⟨_,rfl,k p h1.objs.size _ tk e a1 a2 (λb u q=>?_) (qaa hlt) he⟩;have q1:=kp b u q;have l1:=qt q1;rw[sortedHeap_old (qG l1) (by rw[qbf];exact qaM l1)];exact qj _ q1
end
end TS
namespace TF
open L2 TS
section
variable {X:Cx}{G:Gh}
theorem ZhZ {H:Hp}:∀{kvs:List (List ZC×V)} {ys:List (List ZC×Addr×Value)} {kg:List (List Int)},Paired (λ(p:List ZC×V) (q:List ZC×Addr×Value)=>p.1=q.1/\H q.2.1=some (.tup (p.1.map kV))/\ZE p.2 q.2.2) kvs ys->kvs.map (·.1)=kg.map (·.map zu)->
  Paired (λv ns=>∃a,v=V.ref a/\H a=some (.tup (ns.map V.int))) (ys.map λy=>V.ref y.2.1) kg
 | _,_,[],.nil,_=>.nil
 | _,_,_::_,.nil,e=>by simp at e
 | _,_,[],.cons _ _,e=>by simp at e
 | _,_,ns::kg,.cons h t,e=>by
  simp only[qK,zP]at e;refine .cons ⟨_,rfl,?_⟩ (ZhZ t e.2);rw[h.2.1,e.1,qJ];rfl
theorem Zh0:∀ys:List (List ZC×Addr×Value),Zy (ys.map λy=>V.ref y.2.1) (ys.map λy=>qm y.2.1)
 | []=>.nil
 | y::ys=>.cons rfl (Zh0 ys)
theorem ZfD (hc:X.calm=true):XJ X (.builtin "sorted") (λxs H Q=>∃(p:Addr) (kvs:List (List ZC×V)) (kg:List (List Int)),xs=[.ref p]/\H p=some (.dT kvs)/\kvs.map (·.1)=kg.map (·.map zu)/\
  kg.length<64/\(2<=kg.length->∀ns∈kg,ns≠[])/\∀l vs',Paired (λv ns=>∃a,v=.ref a/\H a=some (.tup (ns.map V.int))) vs' (VB kg)->H l=none->Q (.ref l) (upd H l (.lst vs'))):=by
 intro jJ s σ H xs us Q I r h;obtain⟨p,kvs,kg,rfl,hp,hk,h64,hne,q⟩:=h;obtain⟨u,rfl,ru⟩:=Wx r
 cases ru
 obtain⟨hz,hs,ys,rr,o,es,ep,h1,h2,h3,h4,h5⟩:=(show Ym X.prog X.w H s.heap p (.dT kvs)from I.hok p _ hp);have ek:es.toList.map (·.key)=ys.map λy=>qm y.2.1:=by rw[h4,qJ];rfl
 have pT:=ZhZ rr hk;have rv:=Zh0 ys;have hl2:=z7 pT;have hl:ys.length=es.size:=by rw[<-zH,h4,qp]
 rw[qp]at hl2;have tA:=ZdZ I (T:=λv ns=>∃a,v=V.ref a/\H a=some (.tup (ns.map V.int))) (λv ns ⟨a,e1,e2⟩=>⟨a,e1,ZU.of e2⟩) rv pT;rw[<-ek]at tA;refine Zk1 (I.ok.hd hc) hs h1 h2 h3 tA (by omega) (λz=>hne (by omega)) λpm L h' tk e a1 a2 kp hL he=>?_;rw[ek]at he;have hb:∀i∈pm.toList,i<(ys.map λy=>V.ref y.2.1).length:=λi m=>by
  have:=a1.mem_iff.mp m;simp_all
 have pv:=TS.Paired.pick V.non qO rv pm.toList hb;have pt:=TS.Paired.pick V.non ([]:List Int) pT pm.toList hb;rw[a2]at pt;refine⟨.ref L,_,(I.tok tk).laid (o:=.lst (pm.toList.map λi=>(ys.map λy=>V.ref y.2.1).getD i V.non)) kp hL ⟨?_,_,e,pv,he⟩,rfl,q _ _ pt (I.hok.fresh hL)⟩;have:=a1.length_eq;rw[qp,this,zb,sizeLine_eq];omega
open Classical in
noncomputable def U2 (Hf H:Hp):Hp:=λb=>if (∃vs,H b=some (.tup vs))then H b else Hf b
theorem Zg6 {H:Hp}(h:H b=some (.tup vs)):U2 Hf H b=some (.tup vs):=by
 unfold U2;rw[if_pos ⟨vs,h⟩];exact h
theorem Gr.tups (e:Zz G Hf H):Gr G Hf H (U2 Hf H) H where
 hh:=.refl _ _
 ff:=λb u n q=>by
  unfold U2;split
  ·exact e b u n q
  ·exact q
 fh:=λb u n q=>by
  unfold U2 at q;split at q
  ·exact q
  ·exact e b u n q
 nw:=λb n h1 h2=>by
  unfold U2;split
  ·rename_i h
   obtain⟨vs,h⟩:=h;obtain⟨u,q,nt⟩:=h2;rw[h]at q;cases q;exact absurd rfl (nt vs)
  ·exact h1
noncomputable def B0 (p:Int×Int):List Int:=[p.1,p.2]
noncomputable def ZbV (i:Nat):Zc->M D:=XM i λq=>if q.ties.length<64 then some (.lst ((VB (q.ties.map B0)).map BZ))else none
theorem ZfE {i:Nat}{k:KAd}{G0:Gh}(hc:X.calm=true)(hg:Gl X "sorted")(hm:X.mg "sorted" = none)(hbo:xj "sorted" = some (.builtin "sorted"))(hv:PE X (.Name x p) (ZR i))(c:Cls X.K k.C)(na:YG X.K k.C "ties")
  (hb:xq (.Name x p) "ties" X.env (eval (.Name x p) X.env)=eval (.Name x p) X.env:=by rfl)
  (hs:xh [.Attribute (.Name x p) "ties" p1] X.env=(false,eval (.Attribute (.Name x p) "ties" p1) X.env)::xh [] X.env:=by rfl) :
  PD X (Zs G0 (Zn k)) true (.Call (.Name "sorted" p0) [.Attribute (.Name x p) "ties" p1] [] pos) (ZbV i):=by
 refine⟨_,Ju (ZfD hc) hg hm hbo (Yt (Vq hv hb) YS hs) (he:=hs) (hpl:=rfl),fun σ Hf H ρ s d s' Q e1 e2 e3 e4 kk=>?_⟩;obtain⟨b1,q,s1,b2,b3,rfl⟩:=ZaM e4;obtain⟨rfl,st⟩:=VP e3 b2;split at b3
 ·rename_i h64
  cases b3
  refine⟨_,WL e2 b1,k.a,k.C,k.dx,_,.ref k.t,rfl,st.1,c,na,rfl,k.t,kvT q.ties,q.ties.map B0,rfl,st.2.1,?_,by rw[qp];exact h64,?_,λl vs' pt hl=>?_⟩
  ·unfold kvT
   rw[qJ,qJ];rfl
  ·intro _ ns m
   obtain⟨p,_,rfl⟩:=qA.mp m;exact List.cons_ne_nil _ _
  ·have nf:=Gh.nofp e3 hl
   have g1:=Gr.tups e1;have rl:Zi (Zs G0 (Zn k)) (U2 Hf H) ((VB (q.ties.map B0)).map BZ) vs':=Zd0 (L2.Paired.mapP pt λv ns ⟨a,ea,ha⟩=>jb.mpr ⟨a,_,ea,λz=>(Zs G0 (Zn k)).ntp _ _ _ _ e3 z ha,Zg6 ha,Za5 ns⟩);have g2:=Gr.new (o:=.lst vs') g1.fh hl nf;exact kk (.ref l) _ _ (g1.trans g2) (Gh.grow e3 hl) (jc.mpr ⟨l,_,rfl,nf,ZG,rl.ext g2.ff⟩) λ_=>Z3.mk g1.fh hl nf rl
 ·cases b3
end
end TF
namespace TF
open L2
theorem Zbm {α β:Type}(f:α->β):∀(l:List α) (i:Nat),(l.map f).eraseIdx i=(l.eraseIdx i).map f
 | [],_=>rfl
 | a::l,0=>rfl
 | a::l,i+1=>congrArg (f a :: ·) (Zbm f l i)
section
variable {prog:xy}{w:World}{Kt:Type}[DecidableEq Kt]{knd:HeapKind prog w Kt}{A:xz}{E:xA}{s:Shared}
theorem Zdc {α:Type}:∀{l:List α} (i:Nat),l.Nodup->(l.eraseIdx i).Nodup:=λi h=>h.sublist (List.eraseIdx_sublist _ _)
theorem ZeH {d a:Addr}{xs:List (Kt×Addr×Value)}{k:Kt}{j:Nat}{p:Addr×Value}{Q:Option DictEntry->Shared->Prop}(hu:knd.room A)(hkey:knd.is s.heap k a)(hm:s.heap.DictOfH knd d xs)(hj:xs[j]?=some (k,p))
  (hQ:∀h',h'.DictOfH knd d (xs.eraseIdx j)->zv d s.heap h'->Q (some (entryOfKey knd (k,p))) { s with heap:=h',toks:=s.toks+knd.draws k })
  (hsz:xs.length<=xg):xf (xw prog w) A (qbu d (.ref a)) Q E s:=by
 obtain⟨o,es,ep,ho,hc,hd,he,his,hn⟩:=hm;unfold qbu
 try with_reducible refine xt ?_
 refine xa (knd.pyHash hu hkey ?_);refine xa (wpAny_dictFind_heap (s:={ s with toks:=s.toks+knd.draws k }) hu hkey ho hd he his hn (λhno=>absurd hj (hno j p)) ?_);intro j' p' hj';have e1:j'=j:=idxH_unique hn hj' hj;subst e1;rw[hj]at hj';cases hj';refine xa (wpAny_dictEntries (s:={ s with toks:=s.toks+knd.draws k }) ho hd ?_);rw[entry_at he j',hj];refine xa (wpAny_updateDictKeys (hz:=by have e:=size_of_entries he;omega) (s:={ s with toks:=s.toks+knd.draws k }) ho hd (xb (hQ _ ⟨_,_,ep+1,y8 _ ho (Obj.isFreed_of_dict (qbv hd _)),
   hc.mapDictKeys _,qbv hd _,?_,?_,?_⟩ (yt ..))))
 ·obtain⟨l⟩:=es
  have he:l=xs.map (entryOfKey knd):=he;subst he;simp[Zbm]
 ·intro x hx
  exact knd.keeps (his x (List.mem_of_mem_eraseIdx hx)) ho hd (yt ..)
 ·rw[<-Zbm]
  exact Zdc j' hn
theorem Zk2 {d a:Addr}{xs:List (Kt×Addr×Value)}{k:Kt}{j:Nat}{p:Addr×Value}{Q:xA}(hu:knd.room A.in1)(hkey:knd.is s.heap k a)(hm:s.heap.DictOfH knd d xs)(hj:xs[j]?=some (k,p))
  (hQ:∀h',h'.DictOfH knd d (xs.eraseIdx j)->zv d s.heap h'->Q p.2 { s with heap:=h',toks:=s.toks+knd.draws k })
  (hsz:xs.length<=xg):xf (xw prog w) A (call (.builtin "dict.pop") [.ref d,.ref a]) Q E s:=by
 refine wpAny_call_entry qbk hm.typeIs PySem.F.entry_dict_pop ?_ (PySem.F.args_dict_pop_2 _ _);unfold Builtin.«dict.pop»;refine xa ?_;unfold Builtin.Dict.keyAndDefault;refine xa (wpAny_notOrdered_dict hm.typeIs ?_);show xf _ _ (pure (d,qm a,none)) _ _ s;refine xb ?_;obtain⟨o,es,ep,ho,hc,hd,he,his,hn⟩:=id hm;have hne:es.isEmpty=false:=by
  have h1:=size_of_entries he;have h2:=(qx.mp hj).1;rw[Array.isEmpty_eq_false_iff];intro z;rw[z]at h1;simp at h1;omega
 refine xa (wpAny_dictEntries ho hd ?_);refine xa (xb ?_);dsimp only;rw[hne,if_neg (by decide)];refine xa (ZeH hu hkey hm hj (λh' hm' hs'=>?_) hsz);simp only[Option.isNone_some,zB,if_false];exact xa (wpAny_letGo (xb ⟨p.2,rfl,hQ h' hm' hs'⟩))
end
noncomputable def WM (neg:Bool)(i:Nat)(f:Zc->M D):Zc->M D:=fun ρ=>Zk (f ρ) λd=>match d with
 | .tup ks=>match Xz ks with
  | some k=>XM i (λq=>some (.bl (if neg then !(ZS (kvT q.ties) k).isSome else (ZS (kvT q.ties) k).isSome))) ρ
  | none=>ZK
 | _=>ZK
section
variable {X:Cx}
theorem Zdd {i:Nat}{k:KAd}(neg:Bool)(c:Cls X.K k.C)(na:YG X.K k.C "ties")(ya:WZ (Zs G0 (Zn k)) fr ta f) :
  WZ (Zs G0 (Zn k)) true (X8 (λx y H Q=>∃a o,y=.ref a/\WA H a x o/\Q (.bl (if neg then !o.isSome else o.isSome)) H) ta (tFld X.K (ZR i) "ties")) (WM neg i f):=fun σ Hf H ρ s d s' Q e1 e2 e3 e4 kk=>by
 obtain⟨d0,s1,a1,a2⟩:=Zv e4
 match d0,a1,a2 with
 | .tup ks,a1,a2=>
  cases hk:Xz ks with
  | none=>simp only[hk]at a2;cases a2
  | some key=>
   simp only[hk]at a2;obtain⟨b1,q,s2,b2,b3,rfl⟩:=ZaM a2
   cases b3
   refine ya σ Hf H ρ s _ s1 _ e1 e2 e3 a1 λv Hf' H' g st' r fz=>?_;obtain⟨rfl,st⟩:=VP st' b2;obtain⟨p,cs,rfl,nc,hcx,rc⟩:=jb.mp r;have ec:=UV hk rc;subst ec;exact⟨_,WL e2 b1,k.a,k.C,k.dx,_,.ref k.t,rfl,st.1,c,na,rfl,k.t,_,rfl,WA.t st.2.1 (g.fh _ _ nc hcx),kk _ Hf' H' g st' (jd.mpr rfl) λ_=>.scal λz=>z⟩
theorem Zbn {i:Nat}{k:KAd}(hu:X.A.units+1<cLine)(ha:PD X (Zs G0 (Zn k)) fr a f)(hv:PE X (.Name x p) (ZR i))(c:Cls X.K k.C)(na:YG X.K k.C "ties")
  (hb:xq (.Name x p) "ties" X.env (eval (.Name x p) X.env)=eval (.Name x p) X.env:=by rfl) (hm:behindInMarks .In (.Attribute (.Name x p) "ties" p2)=false:=by rfl) :
  Xd X (Zs G0 (Zn k)) (.Compare a [.In] [.Attribute (.Name x p) "ties" p2] pos) (Zu (WM false i f)):=by
 obtain⟨ta,pa,ya⟩:=ha;exact⟨_,U1 (Zkd hu) pa (Vq hv hb) hm,fun σ Hf H ρ s c' s' Q e1 e2 e3 e4 k=>Zdd false c na ya σ Hf H ρ s (.bl c') s' _ e1 e2 e3 (Bl e4) λv Hf' H' g1 g2 g3 fz=>⟨c',jd.mp g3,k Hf' H' g1 g2⟩⟩
theorem Zbd {i:Nat}{k:KAd}(hu:X.A.units+1<cLine)(ha:PD X (Zs G0 (Zn k)) fr a f)(hv:PE X (.Name x p) (ZR i))(c:Cls X.K k.C)(na:YG X.K k.C "ties")
  (hb:xq (.Name x p) "ties" X.env (eval (.Name x p) X.env)=eval (.Name x p) X.env:=by rfl) (hm:behindInMarks .NotIn (.Attribute (.Name x p) "ties" p2)=false:=by rfl) :
  Xd X (Zs G0 (Zn k)) (.Compare a [.NotIn] [.Attribute (.Name x p) "ties" p2] pos) (Zu (WM true i f)):=by
 obtain⟨ta,pa,ya⟩:=ha;exact⟨_,U1 (ZdR hu) pa (Vq hv hb) hm,fun σ Hf H ρ s c' s' Q e1 e2 e3 e4 k=>Zdd true c na ya σ Hf H ρ s (.bl c') s' _ e1 e2 e3 (Bl e4) λv Hf' H' g1 g2 g3 fz=>⟨c',jd.mp g3,k Hf' H' g1 g2⟩⟩
end
theorem Jf.fpw {G:Gh}{kn:Hp}(j:Jf G own kn jO H0 σ Hf H ρ)(ha:G.fp a):Jf G own kn jO H0 σ Hf (upd H a o) ρ where
 len:=j.len
 kn:=j.kn
 gr:=⟨λb u nb e=>by
  have:b≠a:=λz=>nb (by rw[z];exact ha);rw[Zj this];exact j.gr.hh b u nb e,j.gr.ff,λb u nb e=>by
  have:b≠a:=λz=>nb (by rw[z];exact ha);rw[Zj this];exact j.gr.fh b u nb e,j.gr.nw⟩
 fz:=j.fz
 ow:=λi d m e=>by
  obtain⟨b,h1,h2,h3,h4,h5⟩:=j.ow i d m e;refine⟨b,h1,h2,h3,h4,?_⟩;have nb:b≠a:=λz=>h2 (G.sub b (by rw[z];exact ha))
  cases d <;> first | exact h5.elim | (simp only[Vs]at h5⊢;rw[Zj nb];exact h5)
 ne:=j.ne
theorem ZaO {G0:Gh}{k:KAd}(hrd:∀b,(Zn k).rd b->¬G0.rd b)(st:G0.st s H)(ha:(Zn k).fp a)(h1:∀φ,H a≠some (.ext φ))(h2:∀vs,H a≠some (.tup vs)):G0.st s (upd H a o):=
 jA st (hrd a ((Zn k).sub a ha)) ⟨h1,h2⟩
theorem Xq.upd {H:Hp}(h:Xq H ds vs)(hn:∀us,H a≠some (.tup us)):Xq (upd H a o) ds vs:=
 h.mono λb us e=>by
  have:b≠a:=λz=>hn us (by rw[<-z];exact e);rw[Zj this];exact e
theorem XU.ne {k:KAd}(h:XU k q H):k.a≠k.t/\k.a≠k.l/\k.t≠k.l:=by
 obtain⟨h1,h2,vs,h3,_⟩:=h;refine⟨λz=>?_,λz=>?_,λz=>?_⟩
 ·rw[z,h2]at h1;cases h1
 ·rw[z,h3]at h1;cases h1
 ·rw[z,h3]at h2;cases h2
theorem XU.tie {k:KAd}(h:XU k q H)(hn:ZS (kvT q.ties) [.inl x,.inl y]=none):XU k { q with ties:=q.ties ++ [(x,y)] } (upd H k.t (.dT (YW (kvT q.ties) [.inl x,.inl y] (.bl true)))):=by
 obtain⟨n1,n2,n3⟩:=h.ne;obtain⟨h1,h2,vs,h3,h4⟩:=h;refine⟨by rw[Zj n1];exact h1,?_,vs,by rw[Zj (qN n3)];exact h3,h4.upd λus z=>by rw[h2]at z;cases z⟩;rw[ZG,Ze6 _ hn];show some (HO.dT (kvT q.ties ++ [([.inl x,.inl y],.bl true)]))=some (HO.dT (kvT (q.ties ++ [(x,y)])));rw[kvT,kvT,qQ];rfl
noncomputable def Zby (i:Nat)(f:Zc->M D):Zc->M Out:=fun ρ=>Zk (f ρ) λd=>match d with
 | .tup [.int x,.int y]=>Zk (Za i ρ) λc=>match c with
  | .clo 0 []=>Zk X7 λq=>if (ZS (kvT q.ties) [.inl x,.inl y]).isNone=true/\q.ties.length<xg then Zk (J0 { q with ties:=q.ties ++ [(x,y)] }) λ_=>ZL (.nx ρ)else ZK
  | _=>ZK
 | _=>ZK
section
variable {X:Cx}
theorem ZfF {i:Nat}{k:KAd}{G0:Gh}(hrd:∀b,(Zn k).rd b->¬G0.rd b)(hu:X.A.units+1<cLine)(he:PD X (Zs G0 (Zn k)) r1 e f)(hv:PE X (.Name x p) (ZR i))(c:Cls X.K k.C)(na:YG X.K k.C "ties")
  (hb:xq (.Name x p) "ties" X.env (eval (.Name x p) X.env)=eval (.Name x p) X.env:=by rfl)
  (hs:xr (.Constant (.bool true) j p3) (some (.Subscript (.Attribute (.Name x p) "ties" p2) e pos')) pos.line X.env=pure false:=by rfl) :
  Y3 X (Zs G0 (Zn k)) ob [] [] fr (.Assign [.Subscript (.Attribute (.Name x p) "ties" p2) e pos'] (.Constant (.bool true) j p3) pos) (Zby i f):=by
 obtain⟨te,pe,ye⟩:=he;refine⟨_,ZlY hu (Vq hv hb) pe ZmT hs,λkn jO H0 σ H ρ s out s' E ⟨Hf,jf⟩ st e4 po=>?_⟩;obtain⟨d0,s1,a1,a2⟩:=Zv e4
 match d0,a1,a2 with
 | .tup [.int x,.int y],a1,a2=>
  obtain⟨c0,s2,b1,b2⟩:=Zv a2;obtain⟨b3,rfl⟩:=Y5 b1
  match c0,b2,b3 with
  | .clo 0 [],b2,b3=>
   obtain⟨q,s3,c1,c2⟩:=Zv b2;by_cases hq:(ZS (kvT q.ties) [.inl x,.inl y]).isNone=true/\q.ties.length<xg
   ·rw[if_pos hq]at c2
    obtain⟨_,s4,c3,c4⟩:=Zv c2;obtain⟨rfl,rfl⟩:=ZP c4;have env:Yh (Zs G0 (Zn k)) Hf σ ρ:=by
     have:=jf.envA;rw[Jv]at this;exact this
    have hself:=WL env b3;obtain⟨s0,cc,es,l2,g0,q0,ec,kq⟩:=id st;refine⟨_,hself,k.a,k.C,k.dx,_,.ref k.t,rfl,kq.1,c,na,rfl,?_⟩;refine ye σ Hf H ρ s _ _ _ jf.gr.fh env st a1 λv Hf' H' g st' r fz=>?_;obtain⟨rfl,kq'⟩:=VP st' c1;obtain⟨pp,cs,rfl,nc,hcx,rc⟩:=jb.mp r;have ek:=UV (show Xz [.int x,.int y]=some [.inl x,.inl y]from rfl) rc;subst ek;have hn:ZS (kvT q.ties) [.inl x,.inl y]=none:=by simpa using hq.1
    refine⟨k.t,_,rfl,WV.t kq'.2.1 (g.fh _ _ nc hcx) (by unfold kvT;rw[qp];exact hq.2),?_⟩;have j2:=jf.grow g;refine po σ _ ⟨Hf',j2.fpw (show(Zs G0 (Zn k)).fp k.t from .inr (.inl rfl))⟩ ?_
    cases c3
    obtain⟨s0,cc,es,l2,g0,q0,ec,_⟩:=st';subst es;refine⟨s0,YV { q with ties:=q.ties ++ [(x,y)] },?_,l2,ZaO hrd g0 (.inl rfl) (fun φ z=>by rw[kq'.2.1]at z;cases z) (λus z=>by rw[kq'.2.1]at z;cases z),_,rfl,kq'.tie hn⟩;show(((s0.1++cc).take 2++YV _,s0.2):Pn)=_;rw[show(s0.1++cc).take 2=s0.1 from congrArg yZ (W9 l2 cc).1]
   ·rw[if_neg hq]at c2;cases c2
end
theorem Zh1 {H:Hp}{k:List ZC}:∀{kvs:List (List ZC×V)} {xs:List (List ZC×Addr×Value)},KT H kvs xs->(∀x∈xs,x.1≠k)->V1 kvs k=kvs
 | _,_,.nil,_=>rfl
 | _,_,.cons h t,hn=>by
  have h1:decide (_≠k)=true:=decide_eq_true (λz=>hn _ qay (h.1.symm.trans z));show qbN _ _=_;rw[z5 (p:=λkv:List ZC×V=>decide (kv.1≠k)) h1];congr 1;exact Zh1 t λx hx=>hn x (qL _ hx)
theorem Zh2 {H:Hp}{k:List ZC}{v:V}:∀{kvs:List (List ZC×V)} {xs:List (List ZC×Addr×Value)},KT H kvs xs->(xs.map (·.1)).Nodup->ZS kvs k=some v->
  ∃j p,xs[j]?=some (k,p)/\ZE v p.2/\KT H (V1 kvs k) (xs.eraseIdx j)
 | _,_,.nil,_,e=>by cases e
 | _,_,@Paired.cons _ _ _ p q ps qs h t,hn,e=>by
  rw[qK,zh]at hn;by_cases z:p.1=k
  ·rw[Wq z]at e
   cases e
   refine⟨0,q.2,?_,h.2.2,?_⟩
   ·show some q=some (k,q.2)
    rw[<-z,h.1]
   ·have h1:¬decide (p.1≠k)=true:=by simpa using z
    show KT H (qbN _ (p::ps)) qs;rw[z6 (p:=λkv:List ZC×V=>decide (kv.1≠k)) h1];have:=Zh1 (k:=k) t λx hx y=>hn.1 (by rw[<-h.1,z,<-y];exact yr hx);unfold V1 at this;rw[this];exact t
  ·rw[Wr z]at e
   obtain⟨j,w,a1,a2,a3⟩:=Zh2 t hn.2 e;refine⟨j+1,w,a1,a2,?_⟩;have h1:decide (p.1≠k)=true:=by simpa using z
   show KT H (qbN _ (p::ps)) (q::qs.eraseIdx j);rw[z5 (p:=λkv:List ZC×V=>decide (kv.1≠k)) h1];exact .cons h a3
section
variable {X:Cx}{jJ:Qb}{σ:St}{H:Hp}{s:Shared}{A:xz}{E:xA}{Q:xA}
theorem ZnX {a b:Addr}{kvs:List (List ZC×V)}{k:List ZC}{v:V}(hu:A.units+1<cLine)(I:Inv X jJ σ H s)(e:H a=some (.dT kvs))(eb:H b=some (.tup (k.map kV)))(l:ZS kvs k=some v)
  (h:∀w' s',Inv X jJ σ (upd H a (.dT (V1 kvs k))) s'->ZE v w'->Q w' s'):xf (xw X.prog X.w) A (call (.builtin "dict.pop") [.ref a,.ref b]) Q E s:=by
 obtain⟨z,hd,xs,rel,dd⟩:=ZjR I.hok e;have hz:xs.length<=xg:=by rw[<-z7 rel];exact z
 have hn:(xs.map (·.1)).Nodup:=by
  obtain⟨_,_,_,_,_,_,_,_,hn⟩:=id dd;exact hn
 obtain⟨j,p,a1,a2,a3⟩:=Zh2 rel hn l;refine Zk2 (tupleKind_room_in1 hu) (JE I.hok eb) dd a1 (λh' dd' hs=>h p.2 _ ?_ a2) hz;obtain⟨q,es,ep,hq,h2,h3,h4,_,h5⟩:=dd';have hl:(V1 kvs k).length<=xg:=qI (y9 _ _) z;refine Bo I (by rw[e];exact zl) hs ⟨q,hq⟩ ⟨hl,hd,_,a3.keeps λc ys ec=>?_,q,es,ep,hq,h2,h3,h4,h5⟩;rw[Zj (Zjw ec e (λz=>nomatch z))];exact ec
end
noncomputable def BP (w:Str):Option Bool:=if w=VA true then some true else if w=VA false then some false else none
theorem Zg7 (h:BP w=some b):w=VA b:=by
 unfold BP at h;split at h
 ·cases h;assumption
 ·split at h
  ·cases h;assumption
  ·cases h
theorem Xq.snoc {H:Hp}:∀{ds vs},Xq H ds vs->Ja H d v->Xq H (ds ++ [d]) (vs ++ [v])
 | [],_,e,h=>by subst e;exact⟨v,[],rfl,h,rfl⟩
 | x::r,_,⟨u,us,e,h1,h2⟩,h=>by subst e;exact⟨u,us ++ [v],rfl,h1,h2.snoc h⟩
theorem Xq.len {H:Hp}:∀{ds vs},Xq H ds vs->ds.length=vs.length
 | [],_,e=>by subst e;rfl
 | x::r,_,⟨u,us,e,h1,h2⟩=>by subst e;simp[h2.len]
theorem XU.deed {k:KAd}(h:XU k q H)(hl:H k.l=some (.lst vs))(hd:Ja H d v):XU k { q with deeds:=q.deeds ++ [d] } (upd H k.l (.lst (vs ++ [v]))):=by
 obtain⟨n1,n2,n3⟩:=h.ne;obtain⟨h1,h2,vs',h3,h4⟩:=h;rw[hl]at h3;cases h3;refine⟨by rw[Zj n2];exact h1,by rw[Zj n3];exact h2,_,ZG,?_⟩;exact(h4.snoc hd).upd λus z=>by rw[hl]at z;cases z
noncomputable def Za8 (i:Nat)(f:Zc->M D):Zc->M Out:=fun ρ=>Zk (f ρ) λd=>match d with
 | .tup [.str w,.tup [.int x,.int y]]=>match BP w with
  | some b=>Zk (Za i ρ) λc=>match c with
   | .clo 0 []=>Zk X7 λq=>if q.deeds.length<xg then Zk (J0 { q with deeds:=q.deeds ++ [(b,x,y)] }) λ_=>ZL (.nx ρ)else ZK
   | _=>ZK
  | none=>ZK
 | _=>ZK
section
variable {X:Cx}
theorem ZeI {i:Nat}{k:KAd}{G0:Gh}(hrd:∀b,(Zn k).rd b->¬G0.rd b)(he:PD X (Zs G0 (Zn k)) r1 e f)(hv:PE X (.Name x p) (ZR i))(c:Cls X.K k.C)(na:YG X.K k.C "deeds")
  (hb:xq (.Name x p) "deeds" X.env (eval (.Name x p) X.env)=eval (.Name x p) X.env:=by rfl)
  (hbase:xq (.Attribute (.Name x p) "deeds" p1) "append" X.env (eval (.Attribute (.Name x p) "deeds" p1) X.env)=eval (.Attribute (.Name x p) "deeds" p1) X.env:=by rfl)
  (hfew:((backTo p3 (xh [e] X.env)).all (λx=>!x.1)&&(xp p3 (xi [] X.env)).all (λx=>x.1.isSome)
   && decide ([e].length+([]:List Keyword).length+(if ([]:List Keyword).isEmpty then 0 else 1)<30))=true:=by rfl)
  (hline:(p2.endLine==p3.line)=true:=by rfl) (hs:xh [e] X.env=(false,eval e X.env)::xh [] X.env:=by rfl)
  (hsw:xr (.Call (.Attribute (.Attribute (.Name x p) "deeds" p1) "append" p2) [e] [] p3) none pos.line X.env=pure false:=by rfl) :
  Y3 X (Zs G0 (Zn k)) ob [] [] fr (.Expr (.Call (.Attribute (.Attribute (.Name x p) "deeds" p1) "append" p2) [e] [] p3) pos) (Za8 i f):=by
 obtain⟨te,pe,ye⟩:=he;refine⟨_,Zcs (BG zq qaV qaW ZbP (Vq hv hb) (Yt pe YS hs) hbase hfew hline hs rfl) hsw,λkn jO H0 σ H ρ s out s' E ⟨Hf,jf⟩ st e4 po=>?_⟩;obtain⟨d0,s1,a1,a2⟩:=Zv e4
 match d0,a1,a2 with
 | .tup [.str w,.tup [.int x,.int y]],a1,a2=>
  cases hw:BP w with
  | none=>simp only[hw]at a2;cases a2
  | some b=>
   simp only[hw]at a2;have ew:=Zg7 hw;subst ew;obtain⟨c0,s2,b1,b2⟩:=Zv a2;obtain⟨b3,rfl⟩:=Y5 b1
   match c0,b2,b3 with
   | .clo 0 [],b2,b3=>
    obtain⟨q,s3,c1,c2⟩:=Zv b2;by_cases hq:q.deeds.length<xg
    ·rw[if_pos hq]at c2
     obtain⟨_,s4,c3,c4⟩:=Zv c2;obtain⟨rfl,rfl⟩:=ZP c4;have env:Yh (Zs G0 (Zn k)) Hf σ ρ:=by
      have:=jf.envA;rw[Jv]at this;exact this
     have hself:=WL env b3;obtain⟨s0,cc,es,l2,g0,q0,ec,kq⟩:=id st;obtain⟨vs0,hl0,_⟩:=kq.2.2;refine⟨_,hself,k.a,k.C,k.dx,_,.ref k.l,rfl,kq.1,c,na,rfl,.inl ⟨rfl,vs0,ZJ.of hl0⟩,?_⟩;refine ye σ Hf H ρ s _ _ _ jf.gr.fh env st a1 λv Hf' H' g st' r fz=>?_;obtain⟨rfl,kq'⟩:=VP st' c1;obtain⟨vs1,hl1,hd1⟩:=kq'.2.2;obtain⟨pp,cs,rfl,nc,hcx,rc⟩:=jb.mp r;obtain⟨u1,u2,rfl,ru1,ru2⟩:=jl rc;have ez:=jg.mp ru1;subst ez;obtain⟨p2',cs2,rfl,nc2,hcx2,rc2⟩:=jb.mp ru2;obtain⟨w1,w2,rfl,rw1,rw2⟩:=jl rc2;have e1:=ja.mp rw1;have e2:=ja.mp rw2;subst e1 e2;refine⟨k.l,vs1,_,rfl,rfl,hl1,by rw[<-hd1.len];exact hq,?_⟩;have j2:=jf.grow g;refine po σ _ ⟨Hf',j2.fpw (show(Zs G0 (Zn k)).fp k.l from .inr (.inr rfl))⟩ ?_
     cases c3
     obtain⟨s0,cc,es,l2,g0,q0,ec,_⟩:=st';subst es;refine⟨s0,YV { q with deeds:=q.deeds ++ [(b,x,y)] },?_,l2,ZaO hrd g0 (.inr rfl) (fun φ z=>by rw[hl1]at z;cases z) (λus z=>by rw[hl1]at z;cases z),_,rfl,kq'.deed hl1 ⟨pp,p2',rfl,g.fh _ _ nc hcx,g.fh _ _ nc2 hcx2⟩⟩;show(((s0.1++cc).take 2++YV _,s0.2):Pn)=_;rw[show(s0.1++cc).take 2=s0.1 from congrArg yZ (W9 l2 cc).1]
    ·rw[if_neg hq]at c2;cases c2
end
noncomputable def ZnY (td ty:TE):TE:=fun σ H Q=>td σ H λx H1=>∃a,x=.ref a/\IsD H1 a/\ty σ H1 λy H2=>∃kvs k v b,H2 a=some (.dT kvs)/\y=.ref b/\H2 b=some (.tup (k.map kV))/\ZS kvs k=some v/\Q v (upd H2 a (.dT (V1 kvs k)))
noncomputable def untie (l:List (Int×Int))(x y:Int):List (Int×Int):=l.filter λp=>decide (p≠(x,y))
theorem Zd1 (x y:Int):∀l:List (Int×Int),V1 (kvT l) [.inl x,.inl y]=kvT (untie l x y)
 | []=>rfl
 | p::l=>by
  have ih:=Zd1 x y l;unfold V1 kvT untie at ih⊢;rw[qK];by_cases h:p=(x,y)
  ·subst h
   rw[z6 (by simp),z6 (by simp)];exact ih
  ·have h2:¬([zu p.1,zu p.2]:List ZC)=[.inl x,.inl y]:=λz=>h (by
    injection z with z1 z2;injection z2 with z2 _;injection z1 with z1;injection z2 with z2;exact qaT z1 z2)
   rw[z5 (p:=λkv:List ZC×V=>decide (kv.1≠[.inl x,.inl y])) (decide_eq_true h2),z5 (p:=λp:Int×Int=>decide (p≠(x,y))) (decide_eq_true h),qK,ih]
theorem XU.untie {k:KAd}(h:XU k q H)(x y:Int):XU k { q with ties:=TF.untie q.ties x y } (upd H k.t (.dT (V1 (kvT q.ties) [.inl x,.inl y]))):=by
 obtain⟨n1,n2,n3⟩:=h.ne;obtain⟨h1,h2,vs,h3,h4⟩:=h;refine⟨by rw[Zj n1];exact h1,?_,vs,by rw[Zj (qN n3)];exact h3,h4.upd λus z=>by rw[h2]at z;cases z⟩;rw[ZG,Zd1]
noncomputable def Zbz (i:Nat)(f:Zc->M D):Zc->M Out:=fun ρ=>Zk (f ρ) λd=>match d with
 | .tup [.int x,.int y]=>Zk (Za i ρ) λc=>match c with
  | .clo 0 []=>Zk X7 λq=>if (ZS (kvT q.ties) [.inl x,.inl y]).isSome=true then Zk (J0 { q with ties:=untie q.ties x y }) λ_=>ZL (.nx ρ)else ZK
  | _=>ZK
 | _=>ZK
section
variable {X:Cx}{o e:Expr}{apos cpos:Pos}{td ty:TE}
theorem Zk3 (hu:X.A.units+1<cLine)(ho:PE X o td)(he:PE X e ty)(m:M1 X o "pop" apos e cpos):PE X (.Call (.Attribute o "pop" apos) [e] [] cpos) (ZnY td ty):=by
 intro jJ s σ H Q I h;refine wpAny_Call_method m.base m.few m.line PySem.F.plainAttrs_dict qbk PySem.F.type_dict_pop (ZD (ho jJ s σ H _ I h) λu s1 q0=>?_);obtain⟨x,H1,I1,rx,a,ex,d,q1⟩:=q0;subst ex;obtain rfl:u=qm a:=rx;obtain⟨t1,t2,_⟩:=ZnF I1 d;refine⟨t1,t2,?_⟩;rw[m.trees];refine yT rfl (qad (Calls.spliced_cons (ZD (he jJ s1 σ H1 _ I1 q1) λiv s2 q2=>Calls.spliced_nil ?_)));obtain⟨y,H2,I2,ry,kvs,k,v,b,ea,ey,eb,l,q3⟩:=q2;subst ey;obtain rfl:iv=qm b:=ry;exact ZnX hu I2 ea eb l λw' s3 I3 rw'=>⟨v,_,I3,rw',q3⟩
theorem ZfG {i:Nat}{k:KAd}{G0:Gh}(hrd:∀b,(Zn k).rd b->¬G0.rd b)(hu:X.A.units+1<cLine)(he:PD X (Zs G0 (Zn k)) r1 e f)(hv:PE X (.Name x p) (ZR i))(c:Cls X.K k.C)(na:YG X.K k.C "ties")
  (m:M1 X (.Attribute (.Name x p) "ties" p1) "pop" p2 e p3) (hb:xq (.Name x p) "ties" X.env (eval (.Name x p) X.env)=eval (.Name x p) X.env:=by rfl)
  (hsw:xr (.Call (.Attribute (.Attribute (.Name x p) "ties" p1) "pop" p2) [e] [] p3) none pos.line X.env=pure false:=by rfl) :
  Y3 X (Zs G0 (Zn k)) ob [] [] fr (.Expr (.Call (.Attribute (.Attribute (.Name x p) "ties" p1) "pop" p2) [e] [] p3) pos) (Zbz i f):=by
 obtain⟨te,pe,ye⟩:=he;refine⟨_,Zcs (Zk3 hu (Vq hv hb) pe m) hsw,λkn jO H0 σ H ρ s out s' E ⟨Hf,jf⟩ st e4 po=>?_⟩;obtain⟨d0,s1,a1,a2⟩:=Zv e4
 match d0,a1,a2 with
 | .tup [.int x,.int y],a1,a2=>
  obtain⟨c0,s2,b1,b2⟩:=Zv a2;obtain⟨b3,rfl⟩:=Y5 b1
  match c0,b2,b3 with
  | .clo 0 [],b2,b3=>
   obtain⟨q,s3,c1,c2⟩:=Zv b2;by_cases hq:(ZS (kvT q.ties) [.inl x,.inl y]).isSome=true
   ·rw[if_pos hq]at c2
    obtain⟨_,s4,c3,c4⟩:=Zv c2;obtain⟨rfl,rfl⟩:=ZP c4;have env:Yh (Zs G0 (Zn k)) Hf σ ρ:=by
     have:=jf.envA;rw[Jv]at this;exact this
    have hself:=WL env b3;obtain⟨s0,cc,es,l2,g0,q0,ec,kq⟩:=id st;refine⟨_,hself,k.a,k.C,k.dx,_,.ref k.t,rfl,kq.1,c,na,rfl,k.t,rfl,.inr ⟨_,.inl kq.2.1⟩,?_⟩;refine ye σ Hf H ρ s _ _ _ jf.gr.fh env st a1 λv Hf' H' g st' r fz=>?_;obtain⟨rfl,kq'⟩:=VP st' c1;obtain⟨pp,cs,rfl,nc,hcx,rc⟩:=jb.mp r;have ek:=UV (show Xz [.int x,.int y]=some [.inl x,.inl y]from rfl) rc;subst ek;obtain⟨w,hw⟩:=qU.mp hq;refine⟨_,[.inl x,.inl y],w,pp,kq'.2.1,rfl,g.fh _ _ nc hcx,hw,?_⟩;have j2:=jf.grow g;refine po σ _ ⟨Hf',j2.fpw (show(Zs G0 (Zn k)).fp k.t from .inr (.inl rfl))⟩ ?_
    cases c3
    obtain⟨s0,cc,es,l2,g0,q0,ec,_⟩:=st';subst es;refine⟨s0,YV { q with ties:=untie q.ties x y },?_,l2,ZaO hrd g0 (.inl rfl) (fun φ z=>by rw[kq'.2.1]at z;cases z) (λus z=>by rw[kq'.2.1]at z;cases z),_,rfl,kq'.untie x y⟩;show(((s0.1++cc).take 2++YV _,s0.2):Pn)=_;rw[show(s0.1++cc).take 2=s0.1 from congrArg yZ (W9 l2 cc).1]
   ·rw[if_neg hq]at c2;cases c2
end
noncomputable def Xs (d:Bool×Int×Int):D:=.tup [.str (VA d.1),.tup [.int d.2.1,.int d.2.2]]
theorem Xq.unsnoc {H:Hp}:∀{ds vs},Xq H (ds ++ [d]) vs->∃us v,vs=us ++ [v]/\Xq H ds us/\Ja H d v
 | [],_,⟨v,us,e,h1,h2⟩=>by
  have h2:us=[]:=h2;subst h2 e;exact⟨[],v,rfl,rfl,h1⟩
 | x::r,_,⟨u,us,e,h1,h2⟩=>by
  obtain⟨ws,v,rfl,h3,h4⟩:=Xq.unsnoc h2;subst e;exact⟨u::ws,v,rfl,⟨u,ws,rfl,h1,h3⟩,h4⟩
theorem XU.undo {k:KAd}(h:XU k q H)(hl:H k.l=some (.lst (us ++ [v])))(hq:q.deeds=ds ++ [d]):Ja H d v/\XU k { q with deeds:=ds } (upd H k.l (.lst us)):=by
 obtain⟨n1,n2,n3⟩:=h.ne;obtain⟨h1,h2,vs',h3,h4⟩:=h;rw[hl]at h3;cases h3;rw[hq]at h4;obtain⟨us',v',e,h5,h6⟩:=h4.unsnoc;obtain⟨rfl,e2⟩:=List.append_inj' e rfl
 cases e2
 exact⟨h6,by rw[Zj n2];exact h1,by rw[Zj n3];exact h2,_,ZG,h5.upd λus z=>by rw[hl]at z;cases z⟩
theorem jB {G:Gh}(e1:Zz G Hf H)(hb:H b=some (.tup vs)):Gr G Hf H (upd Hf b (.tup vs)) H:=by
 refine⟨.refl _ _,λc o nc e=>?_,λc o nc e=>?_,λc nc h1 h2=>?_⟩
 ·by_cases z:c=b
  ·subst z;rw[ZG,<-hb];exact e1 c o nc e
  ·rw[Zj z];exact e
 ·by_cases z:c=b
  ·subst z;rw[ZG]at e;rw[hb];exact e
  ·rw[Zj z]at e;exact e1 c o nc e
 ·have:c≠b:=λz=>by
   obtain⟨u,e,nt⟩:=h2;rw[z,hb]at e;cases e;exact nt vs rfl
  rw[Zj this];exact h1
theorem Gr.fpw {G:Gh}(g:Gr G Hf H Hf' H')(ha:G.fp a):Gr G Hf H Hf' (upd H' a o):=by
 have ne:∀b,¬G.fp b->b≠a:=λb nb z=>nb (by rw[z];exact ha);exact⟨λb u nb e=>by rw[Zj (ne b nb)];exact g.hh b u nb e,g.ff,λb u nb e=>by rw[Zj (ne b nb)];exact g.fh b u nb e,g.nw⟩
theorem Ja.rep {G:Gh}(h:Ja H d v)(st:G.st s H)(e1:Zz G Hf H):∃Hf',Gr G Hf H Hf' H/\Zl G Hf' (Xs d) v:=by
 obtain⟨b,c,rfl,h1,h2⟩:=h;have nb:¬G.fp b:=λz=>G.ntp s H b _ st z h1;have nc:¬G.fp c:=λz=>G.ntp s H c _ st z h2;have g1:=jB e1 h2;have g2:=jB g1.fh h1;have hbc:b≠c:=λz=>by rw[z,h2]at h1;cases h1
 refine⟨_,g1.trans g2,jb.mpr ⟨b,_,rfl,nb,ZG,?_⟩⟩;refine Zi.cons (jg.mpr rfl) (Zi.cons (jb.mpr ⟨c,_,rfl,nc,by rw[Zj (qN hbc),ZG],?_⟩) (Zi.nil_iff.mpr rfl));exact Zi.cons (ja.mpr rfl) (Zi.cons (ja.mpr rfl) (Zi.nil_iff.mpr rfl))
noncomputable def Za9 (i:Nat):Zc->M D:=fun ρ=>Zk (Za i ρ) λc=>match c with
 | .clo 0 []=>Zk X7 λq=>match q.deeds.getLast? with
  | some d=>Zk (J0 { q with deeds:=q.deeds.dropLast }) λ_=>ZL (Xs d)
  | none=>ZK
 | _=>ZK
section
variable {X:Cx}
theorem ZfH {i:Nat}{k:KAd}{G0:Gh}(hrd:∀b,(Zn k).rd b->¬G0.rd b)(hv:PE X (.Name x p) (ZR i))(c:Cls X.K k.C)(na:YG X.K k.C "deeds")
  (hb:xq (.Name x p) "deeds" X.env (eval (.Name x p) X.env)=eval (.Name x p) X.env:=by rfl)
  (hbase:xq (.Attribute (.Name x p) "deeds" p1) "pop" X.env (eval (.Attribute (.Name x p) "deeds" p1) X.env)=eval (.Attribute (.Name x p) "deeds" p1) X.env:=by rfl) (hline:(p2.endLine==p3.line)=true:=by rfl) :
  PD X (Zs G0 (Zn k)) true (.Call (.Attribute (.Attribute (.Name x p) "deeds" p1) "pop" p2) [] [] p3) (Za9 i):=by
 refine⟨_,ZnB zq PySem.F.slot_list_pop PySem.F.type_list_pop ZnC (Vq hv hb) hbase hline,fun σ Hf H ρ s d s' Q e1 e2 e3 e4 kk=>?_⟩;obtain⟨c0,s2,b1,b2⟩:=Zv e4;obtain⟨b3,rfl⟩:=Y5 b1
 match c0,b2,b3 with
 | .clo 0 [],b2,b3=>
  obtain⟨q,s3,c1,c2⟩:=Zv b2
  cases hg:q.deeds.getLast? with
  | none=>simp only[hg]at c2;cases c2
  | some dd=>
   simp only[hg]at c2;obtain⟨_,s4,c3,c4⟩:=Zv c2;obtain⟨rfl,rfl⟩:=ZP c4;obtain⟨rfl,kq⟩:=VP e3 c1;obtain⟨vs,hl,hd⟩:=kq.2.2;obtain⟨ds,hq⟩:∃ds,q.deeds=ds ++ [dd]:=by
    refine⟨q.deeds.dropLast,?_⟩;have hne:q.deeds≠[]:=λz=>by rw[z]at hg;cases hg
    rw[List.getLast?_eq_some_getLast hne]at hg;rw[<-zf hg];exact(List.dropLast_concat_getLast hne).symm
   have hd':=hd;rw[hq]at hd';obtain⟨us,v,rfl,_,_⟩:=hd'.unsnoc;obtain⟨dr,ku⟩:=kq.undo hl hq;obtain⟨Hf',g,rv⟩:=dr.rep e3 e1;refine⟨_,WL e2 b3,k.a,k.C,k.dx,_,.ref k.l,rfl,kq.1,c,na,rfl,.inl ⟨rfl,_,ZJ.of hl⟩,k.l,us ++ [v],v,rfl,rfl,hl,by simp,?_⟩;rw[qal];refine kk v Hf' _ (g.fpw (show(Zs G0 (Zn k)).fp k.l from .inr (.inr rfl))) ?_ rv λ_=>.scal λz=>z
   cases c3
   obtain⟨s0,cc,es,l2,g0,q0,ec,_⟩:=e3;subst es;refine⟨s0,YV { q with deeds:=ds },?_,l2,ZaO hrd g0 (.inr rfl) (fun φ z=>by rw[hl]at z;cases z) (λus z=>by rw[hl]at z;cases z),_,rfl,ku⟩;show(((s0.1++cc).take 2++YV { q with deeds:=q.deeds.dropLast },s0.2):Pn)=_;rw[show(s0.1++cc).take 2=s0.1 from congrArg yZ (W9 l2 cc).1,hq,qal]
end
noncomputable def Zk4:Gh where
 fp:=λ_=>False
 rd:=λ_=>False
 pen:=.non
 st:=λ_ _=>True
 mono:=λ_ _ _ _ _ _ _=>trivial
 sub:=λ_ h=>h
 dom:=λ_ _ _ _ h=>h.elim
 ntp:=λ_ _ _ _ _ h=>h.elim
theorem Xq.free {H:Hp}:∀{ds vs},Xq H ds vs->Zi Zk4 H (ds.map Xs) vs
 | [],_,e=>Zi.nil_iff.mpr e
 | d::r,_,⟨v,us,e,⟨b,c,e1,e2,e3⟩,h⟩=>by
  subst e e1;refine Zi.cons (jb.mpr ⟨b,_,rfl,λz=>z,e2,?_⟩) h.free;exact Zi.cons (jg.mpr rfl) (Zi.cons (jb.mpr ⟨c,_,rfl,λz=>z,e3,Zi.cons (ja.mpr rfl) (Zi.cons (ja.mpr rfl) (Zi.nil_iff.mpr rfl))⟩) (Zi.nil_iff.mpr rfl))
theorem Zca:∀ds:List (Bool×Int×Int),YI (ds.map Xs)=true/\Xi (ds.map Xs)<=2
 | []=>⟨rfl,zc _⟩
 | d::r=>by
  obtain⟨h1,h2⟩:=Zca r;refine⟨?_,?_⟩
  ·show(Zp (Xs d)&&YI (r.map Xs))=true
   rw[h1];rfl
  ·show max (Z0 (Xs d)) (Xi (r.map Xs))<=2
   have:Z0 (Xs d)<=2:=by unfold Xs;simp[Z0,Xi]
   omega
section
variable {X:Cx}
theorem Zk5 {i:Nat}{k:KAd}{G0:Gh}(hu:X.A.units+64<cLine)(hv:PE X (.Name x p) (ZR i))(c:Cls X.K k.C)(na:YG X.K k.C "deeds")
  (hb:xq (.Name x p) "deeds" X.env (eval (.Name x p) X.env)=eval (.Name x p) X.env:=by rfl) (hm:behindInMarks .Eq (.List [] pl)=false:=by rfl) :
  ∃t,PE X (.Compare (.Attribute (.Name x p) "deeds" p1) [.Eq] [.List [] pl] pos) t/\PT X (.Compare (.Attribute (.Name x p) "deeds" p1) [.Eq] [.List [] pl] pos) (ZjE t)/\WZ (Zs G0 (Zn k)) true t (XM i λq=>some (.bl q.deeds.isEmpty)):=by
 obtain⟨tl,pl',yl⟩:=XS (X:=X) (G:=Zs G0 (Zn k)) (pos:=pl) Zo;refine⟨_,Zhu (ZgE (G:=Zk4) hu) (Vq hv hb) pl' hm,U1 (ZgE (G:=Zk4) hu) (Vq hv hb) pl' hm,fun σ Hf H ρ s d s' Q e1 e2 e3 e4 kk=>?_⟩;obtain⟨b1,q,s1,b2,b3,rfl⟩:=ZaM e4;obtain⟨rfl,kq⟩:=VP e3 b2
 cases b3
 refine⟨_,WL e2 b1,k.a,k.C,k.dx,_,.ref k.l,rfl,kq.1,c,na,rfl,?_⟩;refine yl σ Hf H ρ s' (.lst []) s' _ e1 e2 e3 (W8 rfl (zc _)) λv Hf' H' g st' r fz=>?_;have kq':=(VP st' b2).2;obtain⟨vs,hl,hd⟩:=kq'.2.2;obtain⟨b,us,rfl,nb,hb1,rb⟩:=jc.mp r;have eu:=Zi.nil_iff.mp rb;subst eu;obtain⟨h1,h2⟩:=Zca q.deeds;have ek:ZB (.lst (q.deeds.map Xs)) (.lst [])=q.deeds.isEmpty:=by
  cases q.deeds <;> simp[ZB,Xj]
 refine⟨H',.lst (q.deeds.map Xs),.lst [],.refl _ _,?_,jc.mpr ⟨k.l,vs,rfl,λz=>z,hl,hd.free⟩,jc.mpr ⟨b,[],rfl,λz=>z,g.fh _ _ nb hb1,Zi.nil_iff.mpr rfl⟩,?_⟩
 ·have o1:Zp (.lst (q.deeds.map Xs))=true:=by rw[Zp];exact h1
  have o3:Z0 (.lst (q.deeds.map Xs))<=60:=by simp only[Z0];omega
  show(Zp (.lst (q.deeds.map Xs))&&Zp (.lst [])&&decide (Z0 (.lst (q.deeds.map Xs))<=60)&&decide (Z0 (.lst [])<=60))=true;rw[o1,decide_eq_true o3];decide
 ·show Q (.bl (ZB _ _)) H'
  rw[ek];exact kk _ Hf' H' g st' (jd.mpr rfl) λ_=>.scal λz=>z
theorem Zmv {G:Gh}{e:Expr}{t:TE}{f:Zc->M D}(p:PT X e (ZjE t))(y:WZ G fr t f):Xd X G e (Zu f):=
 ⟨_,p,fun σ Hf H ρ s c s' Q e1 e2 e3 e4 k=>y σ Hf H ρ s (.bl c) s' _ e1 e2 e3 (Bl e4) λv Hf' H' g1 g2 g3 fz=>⟨c,jd.mp g3,k Hf' H' g1 g2⟩⟩
theorem ZeJ {i:Nat}{k:KAd}{G0:Gh}(hu:X.A.units+64<cLine)(hv:PE X (.Name x p) (ZR i))(c:Cls X.K k.C)(na:YG X.K k.C "deeds")
  (hb:xq (.Name x p) "deeds" X.env (eval (.Name x p) X.env)=eval (.Name x p) X.env:=by rfl) (hm:behindInMarks .Eq (.List [] pl)=false:=by rfl) :
  Xd X (Zs G0 (Zn k)) (.Compare (.Attribute (.Name x p) "deeds" p1) [.Eq] [.List [] pl] pos) (Zu (XM i λq=>some (.bl q.deeds.isEmpty))):=
 let ⟨_,_,p,y⟩:=Zk5 hu hv c na hb hm
 Zmv p y
end
structure KCl (K:qf)(C:Addr):Prop where
 cl:Cls K C
 n:YG K C "n"
 ties:YG K C "ties"
 deeds:YG K C "deeds"
noncomputable def GK (L:List (Addr×Str))(C:Addr)(G:Gh):Prop:=∃(G0:Gh) (k:KAd),k.C=C/\(∀b,(Zn k).rd b->¬G0.rd b)/\G=Zs G0 (Zn k)/\XT L G
noncomputable def YQ (P:xy)(w:World)(K:qf)(mg:Str->Option Value)(base:Heap)(C:Addr)(k:Nat)(m:Str)(n:Nat)(GG:Gh->Prop)(F:List D->M D):Prop:=
 ∃f fd ps,FnOk P w K mg base ZH k f fd ps (Z1 n false GG F)/\Meth K C m f/\YC K fd ps []
noncomputable def WT (P:xy)(w:World)(K:qf)(mg:Str->Option Value)(base:Heap)(C:Addr)(k:Nat)(m:Str)(n:Nat)(GG:Gh->Prop)(R:List D->M Unit)(C':Addr):Prop:=
 ∃f fd ps,FnOk P w K mg base (XE P w) k f fd ps (VJ n GG R C')/\Meth K C m f/\YC K fd ps []
section
variable {X:Cx}
theorem Ul {i:Nat}{k:KAd}{G0:Gh}{GG:Gh->Prop}{pl:Sem Bool}{j kl n:Nat}{m x:Str}{F:List D->M D}{fs:Zc->M (List D)}{e:Expr}{es:List Expr}{p apos pos:Pos}(c:YQ X.prog X.w X.K X.mg X.base k.C j m n GG F)(hG:GG (Zs G0 (Zn k)))(hr:Room kl X.A)(kc:KCl X.K k.C)(hv:PE X (.Name x p) (ZR i))
  (ha:Xw X (Zs G0 (Zn k)) (e::es) fs) (hal:∀ρ s ds s',fs ρ s=some (ds,s')->ds.length+1=n:=by intro ρ s ds s' h;first | exact congrArg (· + 1) (Yz Ws ρ s ds s' h) | exact congrArg (· + 1) (Yz (Yz Ws) ρ s ds s' h)) (hjk:j<=kl:=by decide) (hl:m≠"n"/\m≠"ties"/\m≠"deeds":=by decide)
  (hst:xh (e::es) X.env=(false,eval e X.env)::xh es X.env:=by rfl) (hpl:(backTo pos (xh es X.env)).any (·.1)=false:=by rfl)
  (ht:eval (.Call (.Attribute (.Name x p) m apos) (e::es) [] pos) X.env=(do
   let ov<-eval (.Name x p) X.env
   standAt apos.atName
   let (f,first)<-holding [ov] (getMethod ov m pl)
   callWith pos f first (backTo pos (xh (e::es) X.env)) (xp pos (xi [] X.env))):=by rfl) :
  PD X (Zs G0 (Zn k)) false (.Call (.Attribute (.Name x p) m apos) (e::es) [] pos) (YO F i fs):=by
 obtain⟨f,fd,ps,FN,hm,hb⟩:=c;exact Zmp (FN.mono hjk) hG hr hv kc.cl hm hb BI hl ha hal hst hpl ht
theorem J3 {i:Nat}{k:KAd}{G0:Gh}{GG:Gh->Prop}{pl:Sem Bool}{j kl:Nat}{m x:Str}{F:List D->M D}{p apos pos:Pos}(c:YQ X.prog X.w X.K X.mg X.base k.C j m 1 GG F)(hG:GG (Zs G0 (Zn k)))(hr:Room kl X.A)(kc:KCl X.K k.C)(hv:PE X (.Name x p) (ZR i))
  (hjk:j<=kl:=by decide) (hl:m≠"n"/\m≠"ties"/\m≠"deeds":=by decide)
  (ht:eval (.Call (.Attribute (.Name x p) m apos) [] [] pos) X.env=(do
   let ov<-eval (.Name x p) X.env
   standAt apos.atName
   let (f,first)<-holding [ov] (getMethod ov m pl)
   callWith pos f first (backTo pos (xh [] X.env)) (xp pos (xi [] X.env))):=by rfl) :
  PD X (Zs G0 (Zn k)) false (.Call (.Attribute (.Name x p) m apos) [] [] pos) (YO F i Ze):=by
 obtain⟨f,fd,ps,FN,hm,hb⟩:=c;exact ZkA (FN.mono hjk) hG hr hv kc.cl hm hb BI hl ht
theorem pxM {i:Nat}{k:KAd}{G0:Gh}{GG:Gh->Prop}{pl:Sem Bool}{j kl n:Nat}{C':Addr}{m x:Str}{R:List D->M Unit}{E:XK}{Ex:Hp->Prop}{fs:Zc->M (List D)}{e:Expr}{es:List Expr}{p apos pos:Pos}(c:WT X.prog X.w X.K X.mg X.base k.C j m n GG R C')(hx:Wv (XE X.prog X.w) X E)(hG:GG (Zs G0 (Zn k)))(hr:Room kl X.A)(kc:KCl X.K k.C)(hv:PE X (.Name x p) (ZR i))
  (ha:Xw X (Zs G0 (Zn k)) (e::es) fs) (hE2:∀H,Ex H->E (.ref C') none H) (hal:∀ρ s ds s',fs ρ s=some (ds,s')->ds.length+1=n:=by intro ρ s ds s' h;first | exact congrArg (· + 1) (Yz Ws ρ s ds s' h) | exact congrArg (· + 1) (Yz (Yz Ws) ρ s ds s' h)) (hjk:j<=kl:=by decide) (hl:m≠"n"/\m≠"ties"/\m≠"deeds":=by decide)
  (hst:xh (e::es) X.env=(false,eval e X.env)::xh es X.env:=by rfl) (hpl:(backTo pos (xh es X.env)).any (·.1)=false:=by rfl)
  (ht:eval (.Call (.Attribute (.Name x p) m apos) (e::es) [] pos) X.env=(do
   let ov<-eval (.Name x p) X.env
   standAt apos.atName
   let (f,first)<-holding [ov] (getMethod ov m pl)
   callWith pos f first (backTo pos (xh (e::es) X.env)) (xp pos (xi [] X.env))):=by rfl) :
  PEX X (Zs G0 (Zn k)) (.Call (.Attribute (.Name x p) m apos) (e::es) [] pos) (JK R i fs) Ex:=by
 obtain⟨f,fd,ps,FN,hm,hb⟩:=c;exact ZkT FN hx hG hr hv kc.cl hm hb hl ha hE2 hal hjk hst hpl ht
end
theorem ZfI {K:qf}{L:List (Addr×Str)}{G:Gh}(h:XX (Wl K) L G):∀s H,G.st s H->s.1.length=2:=by
 obtain⟨G0,⟨p,sa,tr,rfl⟩,_,rfl⟩:=h;rintro⟨a,ns⟩ H ⟨⟨x,y,e,_⟩,_⟩;show a.length=2;rw[show a=[x,y]from e];rfl
theorem Zi1 {L:List (Addr×Str)}{G0:Gh}{k:KAd}(h:XT L G0)(hrd:∀b,(Zn k).rd b->¬G0.rd b):XT L (Zs G0 (Zn k)):=λP q m=>ZiN (h P q m) hrd (ZiO k)
theorem Wp {K:qf}{x q:Str}{st:Stmt}{f:Addr}{fd:xx}(ps:List Str)(F:Fun K x q st f fd)
  (h:∀(kV doc pm:Value) (an:Option Addr) (cdv ct:Value) (us:List Value),us.length=ps.length->bindArgs (zi x q (Wc st) (Y6 st) (Zx st) .none kV doc pm an cdv ct) ⟨us,[]⟩=pure (ps.zip us):=by
   intro _ _ _ _ _ _ us hl
   first
    | (obtain⟨_,rfl⟩:=TF.ux1 us hl;rfl)
    | (obtain⟨_,_,rfl⟩:=TF.ux2 us hl;rfl)
    | (obtain⟨_,_,_,rfl⟩:=TF.ux3 us hl;rfl)):YC K fd ps []:=F.binds h
noncomputable def Zk6 (K:qf)(cls:Stmt)(C:Addr)(pm:Value)(r:MRow):Prop:=Meth K C r.x (r.c+1)/\K.lookup (r.c+1)=some (fnM r.x r.q (WY cls r.i) pm r.c)/\yk K (.ref r.c) r.q=true
noncomputable def ZcF (K:qf)(cls:Stmt)(C:Addr)(pm:Value):List MRow->Prop
 | []=>True
 | r::l=>Zk6 K cls C pm r/\ZcF K cls C pm l
theorem Zd2 {K:qf}{cls:Stmt}{C:Addr}{pm:Value}:∀{l:List MRow} {j:Nat} {r:MRow},ZcF K cls C pm l->l[j]?=some r->Zk6 K cls C pm r
 | _::_,0,_,h,e=>by cases e;exact h.1
 | _::l,j+1,_,h,e=>Zd2 h.2 e
theorem VX {K:qf}{cls:Stmt}{C:Addr}{pm:Value}{l:List MRow}(ok:ZcF K cls C pm l)(j:Nat){r:MRow}(e:l[j]?=some r:=by rfl):∃(f:Addr) (fd:xx),Fun K r.x r.q (WY cls r.i) f fd/\Meth K C r.x f:=by
 obtain⟨a,b,c⟩:=Zd2 ok e;exact⟨_,_,ZjV b c a.kp,a⟩
theorem UP {P:xy}{w:World}{K:qf}{mg:Str->Option Value}(base:Heap){C:Addr}{x q:Str}{st:Stmt}{f:Addr}{fd:xx}{k n:Nat}{ps:List Str}{GG:Gh->Prop}{F9:List D->M D}(F:Fun K x q st f fd)(m:Meth K C x f)(ok:FnOk P w K mg base ZH k f fd ps (Z1 n false GG F9))(b:YC K fd ps []):YQ P w K mg base C k x n GG F9:=⟨f,fd,ps,ok,m,b⟩
theorem head_ofL {l:PySem.W.OpenLaw}{q:xy}{K:Params->qf}{as:List Addr}{e:∀P,as=(K P).map (·.1)}{N:Nat}{st:Stmt}(loose:List Str)(said:l.wellSaid=true)
  (left:PySem.W.LeftO l.prog q loose (λs=>PySem.W.xlAt q [] s&&PySem.W.recOk l.row.records s) (z9 K as e).obs (z9 K as e).val N)
  (hdef:PySem.W.defOf q l.row.name=some (Zg1 st,[])) (hp:l.row.prog.theDef l.row.name=some (Wc st,Y6 st,Zx st))
  (hk:PySem.W.kwWritten? (Wc st).kwonlyargs (Wc st).kw_defaults=some [])
  (ok:(PySem.W.chainsOk q&&PySem.W.opensWell l.row.prog&&(PySem.W.frees l.row.toRowW&&l.row.within.isEmpty))=true) (hb:l.row.prog.bare) (hw:l.row.toRowW.promised) (hwr:(!l.row.writes||l.row.records.isEmpty)=true)
  (call:qbz q loose (PySem.W.XL q []) (z9 K as e).says l.row.toRowW (Zg1 st) [] λf vs=>qbr f vs):l.Holds:=
 PySem.W.holds_law said λsd=>PySem.W.holds_open left (z9 K as e).of (z9 K as e).keeps (λs z=>PySem.W.xl_of s (zo.mp z).1) PySem.W.XL.keeps hdef hp hk (λs z=>PySem.W.recFacts_of (zo.mp z).2) hwr sd ok hb hw call
open PySem.Calls
noncomputable abbrev WE (K:qf)(d:Value)(c:Addr):Option Bool:=yH K (.ref c) d
structure ErrX (K:qf)(mg:Str->Option Value)(cT cN cI cL cR:Addr):Prop where
 mTieError:mg "TieError" = some (.ref cT)
 mNoPlace:mg "NoPlace" = some (.ref cN)
 mTied:mg "Tied" = some (.ref cI)
 mLoose:mg "Loose" = some (.ref cL)
 mRound:mg "Round" = some (.ref cR)
 ve:mg "ValueError" = none
 kNoPlace:ExcK K cN (.ref cT::V6)
 kTied:ExcK K cI (.ref cT::V6)
 kLoose:ExcK K cL (.ref cT::V6)
 kRound:ExcK K cR (.ref cT::V6)
 uN:ClsK K cN
 uI:ClsK K cI
 uL:ClsK K cL
 uR:ClsK K cR
 eN:ym K (.ref cN) (.ref cT)=some true
 eI:ym K (.ref cI) (.ref cT)=some true
 eL:ym K (.ref cL) (.ref cT)=some true
 tN:[cN,cI,cL,cR].map (WE K (.ref cN))=[some true,some false,some false,some false]
 tI:[cN,cI,cL,cR].map (WE K (.ref cI))=[some false,some true,some false,some false]
 tL:[cN,cI,cL,cR].map (WE K (.ref cL))=[some false,some false,some true,some false]
 tR:[cN,cI,cL,cR].map (WE K (.ref cR))=[some false,some false,some false,some true]
 tT:[cN,cI,cL,cR].map (WE K (.ref cT))=[some true,some true,some true,some true]
 tV:[cN,cI,cL,cR].map (WE K (.type "ValueError"))=[some true,some true,some true,some true]
noncomputable abbrev UA (K:qf)(ys:List (Addr×Addr))(tb:List Bool)(d:V):Prop:=∀(t:Nat) (q:Addr×Addr) (b:Bool),ys[t]?=some q->tb[t]?=some b->ClsK K q.2/\∀H,IsiC K H q.2 b d
theorem U3 {K:qf}{cs:List Addr}{ys:List (Addr×Addr)}{tb:List Bool}{d:V}{f:Addr->Option Bool}(hys:ys.map (·.2)=cs)(ck:∀c∈cs,ClsK K c)(hf:∀c b,f c=some b->∀H,IsiC K H c b d)(ht:cs.map f=tb.map some):UA K ys tb d:=λt q b h1 h2=>by
 have e1:cs[t]?=some q.2:=by rw[<-hys,qE,h1];rfl
 have e2:(cs.map f)[t]?=(tb.map some)[t]?:=by rw[ht]
 rw[qE,qE,e1,h2]at e2;exact⟨ck _ (qP e1),hf _ _ (zf e2)⟩
section
variable {K:qf}{mg:Str->Option Value}{cT cN cI cL cR:Addr}{ys:List (Addr×Addr)}
theorem ErrX.ck (x:ErrX K mg cT cN cI cL cR):∀c∈[cN,cI,cL,cR],ClsK K c:=λc m=>by
 simp only[qy,zV,or_false]at m;rcases m with rfl | rfl | rfl | rfl
 ·exact x.uN
 ·exact x.uI
 ·exact x.uL
 ·exact x.uR
theorem ErrX.isNoPlace (x:ErrX K mg cT cN cI cL cR)(hys:ys.map (·.2)=[cN,cI,cL,cR]):UA K ys [true,false,false,false] (.ref cN):=U3 hys x.ck (λ_ _ h _=>.cl h) x.tN
theorem ErrX.isTied (x:ErrX K mg cT cN cI cL cR)(hys:ys.map (·.2)=[cN,cI,cL,cR]):UA K ys [false,true,false,false] (.ref cI):=U3 hys x.ck (λ_ _ h _=>.cl h) x.tI
theorem ErrX.isLoose (x:ErrX K mg cT cN cI cL cR)(hys:ys.map (·.2)=[cN,cI,cL,cR]):UA K ys [false,false,true,false] (.ref cL):=U3 hys x.ck (λ_ _ h _=>.cl h) x.tL
theorem ErrX.isRound (x:ErrX K mg cT cN cI cL cR)(hys:ys.map (·.2)=[cN,cI,cL,cR]):UA K ys [false,false,false,true] (.ref cR):=U3 hys x.ck (λ_ _ h _=>.cl h) x.tR
theorem ErrX.isTieError (x:ErrX K mg cT cN cI cL cR)(hys:ys.map (·.2)=[cN,cI,cL,cR]):UA K ys [true,true,true,true] (.ref cT):=U3 hys x.ck (λ_ _ h _=>.cl h) x.tT
theorem ErrX.isValueError (x:ErrX K mg cT cN cI cL cR)(hys:ys.map (·.2)=[cN,cI,cL,cR]):UA K ys [true,true,true,true] (.ty "ValueError"):=U3 hys x.ck (λ_ _ h _=>.ty h) x.tV
structure ErrC (K:qf)(cT cN cI cL cR c:Addr)(bN bI bL:Bool):Prop where
 ck:ClsK K c
 ex:ym K (.ref c) (.ref cT)=some true
 n:WE K (.ref cN) c=some bN
 i:WE K (.ref cI) c=some bI
 l:WE K (.ref cL) c=some bL
 r:WE K (.ref cR) c=some false
 v:WE K (.type "ValueError") c=some true
theorem ErrX.ofN (x:ErrX K mg cT cN cI cL cR):ErrC K cT cN cI cL cR cN true false false:=by
 obtain⟨_,_,_,_,_,_,_,_,_,_,a,_,_,_,e,_,_,h1,h2,h3,h4,_,h5⟩:=x;simp only[qK,yG,zP,and_true]at h1 h2 h3 h4 h5;exact⟨a,e,h1.1,h2.1,h3.1,h4.1,h5.1⟩
theorem ErrX.ofI (x:ErrX K mg cT cN cI cL cR):ErrC K cT cN cI cL cR cI false true false:=by
 obtain⟨_,_,_,_,_,_,_,_,_,_,_,a,_,_,_,e,_,h1,h2,h3,h4,_,h5⟩:=x;simp only[qK,yG,zP,and_true]at h1 h2 h3 h4 h5;exact⟨a,e,h1.2.1,h2.2.1,h3.2.1,h4.2.1,h5.2.1⟩
theorem ErrX.ofL (x:ErrX K mg cT cN cI cL cR):ErrC K cT cN cI cL cR cL false false true:=by
 obtain⟨_,_,_,_,_,_,_,_,_,_,_,_,a,_,_,_,e,h1,h2,h3,h4,_,h5⟩:=x;simp only[qK,yG,zP,and_true]at h1 h2 h3 h4 h5;exact⟨a,e,h1.2.2.1,h2.2.2.1,h3.2.2.1,h4.2.2.1,h5.2.2.1⟩
theorem ErrC.is {c:Addr}{d:Value}{dv:V}{b:Bool}(ck:ClsK K c)(h:WE K d c=some b)(hys:ys.map (·.2)=[c])(hf:∀c b,WE K d c=some b->∀H,IsiC K H c b dv):UA K ys [b] dv:=U3 hys (λe m=>by cases yh.mp m;exact ck) hf (by rw[qK,h];rfl)
end
theorem Zk7 {X:Cx}{sts:List Stmt}:J6 X sts λ_ _ _=>False:=λ_ _ _ _ _ _ _ _ h=>h.elim
end TF
namespace TF
open L2
noncomputable def J8 (k:Bool):Value->Bool
 | .bool b=>b==k
 | _=>false
theorem Zg8:∀{bs:List Bool} {us:List Value},Zy (bs.map V.bl) us->us=bs.map qZ
 | [],_,.nil=>rfl
 | _::_,_,.cons r t=>by
  cases r
  rw[Zg8 t];rfl
theorem Zk8 (k:Bool)(bs:List Bool):∀y,y∈bs.map qZ->∀(A:xz) (s:Shared),yb A s y (.bool k) (J8 k y):=λy hy A s=>by
 obtain⟨b,_,rfl⟩:=qA.mp hy;exact PySem.SeqAt.EqAt.bool_bool b k
noncomputable def VC:List D->Option (List Bool)
 | []=>some []
 | .bl b::r=>(VC r).map (b :: ·)
 | _::_=>none
theorem Zde:∀{ds:List D} {bs:List Bool},VC ds=some bs->ds=bs.map D.bl
 | [],_,h=>by cases h;rfl
 | d::r,bs,h=>by
  cases d with
  | bl b=>
   have h:(VC r).map (b :: ·)=some bs:=h
   cases e:VC r with
   | none=>rw[e]at h;cases h
   | some cs=>
    rw[e]at h
    cases h
    rw[Zde e];rfl
  | _=>cases h
theorem jw {G:Gh}:∀{bs:List Bool} {vs:List V},Zi G H (bs.map D.bl) vs->vs=bs.map V.bl
 | [],vs,h=>Zi.nil_iff.mp h
 | b::bs,vs,h=>by
  obtain⟨v,r,rfl,h1,h2⟩:=je.mp h;rw[jd.mp h1,jw h2];rfl
section
variable {X:Cx}{G:Gh}
noncomputable def Zmw (K:qf):V->List V->Hp->VK->Prop:=λx vs H Q=>∃(p:Addr) (bs:List Bool) (k:Bool),x=.ref p/\vs=[.bl k]/\ZJ K H p (bs.map V.bl)/\Q (.int ((bs.count k:Nat):Int)) H
theorem ZnZ (bs:List Bool)(k:Bool):(bs.map qZ).countP (J8 k)=bs.count k:=by
 rw[List.countP_map];rfl
theorem Zi2:B7 X "list.count" (Zmw X.K):=by
 intro jJ s σ H x xs v us Q I rx rv h;obtain⟨p,bs,k,rfl,rfl,hp,q⟩:=h
 cases rx
 obtain⟨u,rfl,ru⟩:=Wx rv
 cases ru
 obtain⟨jK,r2,pl,hz⟩:=I.list hp;have ei:=Zg8 r2;subst ei;obtain⟨⟨c0,d0,dat,sl0⟩,hob,hcl,n0,hdat⟩:=id pl.isList;simp only at hcl hdat;subst hcl hdat;refine call_meets qa7 ⟨_,hob,rfl⟩ PySem.F.entry_list_count (PySem.F.args_list_count_2 _ _) (SeqAt.list_countAt p _ n0 d0 sl0 (.bool k) (J8 k)) ⟨hob,λy hy=>Zk8 k bs y (by simpa using hy) _ _,?_⟩;rw[List.toList_toArray,ZnZ];exact⟨.int ((bs.count k:Nat):Int),H,I.tok _,⟨_,rfl⟩,q⟩
noncomputable def Zmx (K:qf):V->List V->Hp->VK->Prop:=λx vs H Q=>∃(p:Addr) (bs:List Bool) (k:Bool),x=.ref p/\vs=[.bl k]/\ZJ K H p (bs.map V.bl)/\k∈bs/\Q (.int ((bs.idxOf k:Nat):Int)) H
theorem Zi3:B7 X "list.index" (Zmx X.K):=by
 intro jJ s σ H x xs v us Q I rx rv h;obtain⟨p,bs,k,rfl,rfl,hp,hk,q⟩:=h
 cases rx
 obtain⟨u,rfl,ru⟩:=Wx rv
 cases ru
 obtain⟨jK,r2,pl,hz⟩:=I.list hp;have ei:=Zg8 r2;subst ei;obtain⟨⟨c0,d0,dat,sl0⟩,hob,hcl,n0,hdat⟩:=id pl.isList;simp only at hcl hdat;subst hcl hdat;have l2:bs.idxOf k<bs.length:=by rw[zX];exact hk
 have l3:bs.length<=xg:=by simpa using hz
 have l4:=JD;have go:=SeqAt.list_indexAt p (bs.map qZ).toArray n0 d0 sl0 (.bool k) (J8 k) (bs.idxOf k) (by simpa using l2) (by omega)
  (by simp only[qbw,yp,J8];simp)
  (λj hjs hlt=>by
    simp only[qbw,yp,J8];have hj:j<bs.length:=by omega
    have:=List.not_of_lt_findIdx (p:=(· == k)) (xs:=bs) (i:=j) hlt;simpa using this)
 refine call_meets z0 ⟨_,hob,rfl⟩ qa2 (qaP _ _) go ⟨hob,λy hy=>Zk8 k bs y (by simpa using hy) _ _,?_⟩;exact⟨.int ((bs.idxOf k:Nat):Int),H,I.tok _,⟨_,rfl⟩,q⟩
noncomputable def Zh3:D->D->Option D
 | .lst ds,.bl k=>(VC ds).map λbs=>.int ((bs.count k:Nat):Int)
 | _,_=>none
noncomputable def Zh4:D->D->Option D
 | .lst ds,.bl k=>(VC ds).bind λbs=>if k∈bs then some (.int ((bs.idxOf k:Nat):Int))else none
 | _,_=>none
theorem Zi4 {ap cp:Pos}(ho:PD X G r1 o fo)(he:PD X G r2 e fe)
  (hbase:xq o "count" X.env (eval o X.env)=eval o X.env:=by rfl)
  (hfew:((backTo cp (xh [e] X.env)).all (λx=>!x.1)&&(xp cp (xi [] X.env)).all (λx=>x.1.isSome)
   && decide ([e].length+([]:List Keyword).length+(if ([]:List Keyword).isEmpty then 0 else 1)<30))=true:=by rfl)
  (hline:(ap.endLine==cp.line)=true:=by rfl) (hs:xh [e] X.env=(false,eval e X.env)::xh [] X.env:=by rfl) :
  PD X G true (.Call (.Attribute o "count" ap) [e] [] cp) (Zd Zh3 fo fe):=by
 obtain⟨to,po,qo⟩:=ho.drop;obtain⟨te,pe,qe⟩:=he.drop;refine⟨_,BG zq qa7 PySem.F.type_list_count Zi2 po (Yt pe YS hs) hbase hfew hline hs rfl,fun σ Hf H ρ s d s' Q e1 e2 e3 e4 k=>?_⟩;obtain⟨da,s1,a1,a2⟩:=Zv e4;obtain⟨db,s2,a3,a4⟩:=Zv a2;obtain⟨a5,rfl⟩:=Y5 a4;refine qo σ Hf H ρ s da s1 _ e1 e2 e3 a1 λx jW H1 g1 j9 r1=>?_
 match da,db,a5,r1,a3 with
 | .lst ds,.bl kk,a5,r1,a3=>
  have a5:(VC ds).map (λbs=>D.int ((bs.count kk:Nat):Int))=some d:=a5
  cases he:VC ds with
  | none=>rw[he]at a5;cases a5
  | some bs=>
   rw[he]at a5
   cases a5
   obtain⟨p,vs,rfl,np,hp,rp⟩:=jc.mp r1;refine⟨.inl ⟨rfl,vs,ZJ.of (g1.fh _ _ np hp)⟩,?_⟩;refine qe σ jW H1 ρ s1 _ _ _ g1.fh (e2.ext g1.ff) j9 a3 λy jZ H2 g2 j6 r2=>?_;rw[Zde he]at rp;rw[jw rp]at hp
   cases (jd.mp r2)
   exact⟨p,bs,kk,rfl,rfl,ZJ.of (g2.fh _ _ np (g2.ff _ _ np hp)),k _ jZ H2 (g1.trans g2) j6 (ja.mpr rfl) λ_=>.scal λz=>z⟩
theorem Zi5 {ap cp:Pos}(ho:PD X G r1 o fo)(he:PD X G r2 e fe)
  (hbase:xq o "index" X.env (eval o X.env)=eval o X.env:=by rfl)
  (hfew:((backTo cp (xh [e] X.env)).all (λx=>!x.1)&&(xp cp (xi [] X.env)).all (λx=>x.1.isSome)
   && decide ([e].length+([]:List Keyword).length+(if ([]:List Keyword).isEmpty then 0 else 1)<30))=true:=by rfl)
  (hline:(ap.endLine==cp.line)=true:=by rfl) (hs:xh [e] X.env=(false,eval e X.env)::xh [] X.env:=by rfl) :
  PD X G true (.Call (.Attribute o "index" ap) [e] [] cp) (Zd Zh4 fo fe):=by
 obtain⟨to,po,qo⟩:=ho.drop;obtain⟨te,pe,qe⟩:=he.drop;refine⟨_,BG zq z0 qa6 Zi3 po (Yt pe YS hs) hbase hfew hline hs rfl,fun σ Hf H ρ s d s' Q e1 e2 e3 e4 k=>?_⟩;obtain⟨da,s1,a1,a2⟩:=Zv e4;obtain⟨db,s2,a3,a4⟩:=Zv a2;obtain⟨a5,rfl⟩:=Y5 a4;refine qo σ Hf H ρ s da s1 _ e1 e2 e3 a1 λx jW H1 g1 j9 r1=>?_
 match da,db,a5,r1,a3 with
 | .lst ds,.bl kk,a5,r1,a3=>
  have a5:((VC ds).bind λbs=>if kk∈bs then some (D.int ((bs.idxOf kk:Nat):Int))else none)=some d:=a5
  cases he:VC ds with
  | none=>rw[he]at a5;cases a5
  | some bs=>
   rw[he]at a5;have a5:(if kk∈bs then some (D.int ((bs.idxOf kk:Nat):Int))else none)=some d:=a5;split at a5
   ·rename_i hmem
    cases a5
    obtain⟨p,vs,rfl,np,hp,rp⟩:=jc.mp r1;refine⟨.inl ⟨rfl,vs,ZJ.of (g1.fh _ _ np hp)⟩,?_⟩;refine qe σ jW H1 ρ s1 _ _ _ g1.fh (e2.ext g1.ff) j9 a3 λy jZ H2 g2 j6 r2=>?_;rw[Zde he]at rp;rw[jw rp]at hp
    cases (jd.mp r2)
    exact⟨p,bs,kk,rfl,rfl,ZJ.of (g2.fh _ _ np (g2.ff _ _ np hp)),hmem,k _ jZ H2 (g1.trans g2) j6 (ja.mpr rfl) λ_=>.scal λz=>z⟩
   ·cases a5
end
end TF
namespace TP2
open L2 TF TP
end TP2
namespace TP3
open L2 TF TP
open TP2
end TP3
namespace TQ
open L2 TF TQ
open TP
open TP2
open TP3
noncomputable def Zi6:Zc->M Out:=(Zh (ZM (Wh (Zd UM (Zd Zq (Za 0) (dC (.int 0))) (Zd Zq (Za 1) (dC (.int 1)))) (Zd UM (Zd Zq (Za 1) (dC (.int 0))) (Zd Zq (Za 0) (dC (.int 1))))))
 Zm)
noncomputable def Zi7:List D->M D:=runB 2 2 Zi6
noncomputable def ZbA:Zc->M Out:=(Zh (ZM (Jl (Zd Ya (Za 1) (Za 2)) (Zt W4 (Zb (Za 0) (Zb (Za 1) (Zb (Za 2) Ze))))))
 Zm)
noncomputable def Zau:List D->M D:=runB 3 3 ZbA
noncomputable def ZeK:List D->M D:=runB 4 4 (Zh (Z6 (Zu (Zd Ya (Zd Zq (Za 0) (dC (.int 0))) (Zd Zq (Za 1) (dC (.int 0)))))
 (Zh (ZM (Zt W4 (Zb (Zd Zq (Za 2) (Zd Zq (Za 0) (dC (.int 0)))) (Zb (Zd Zq (Za 0) (dC (.int 1))) (Zb (Zd Zq (Za 1) (dC (.int 1))) Ze)))))
 Zm)
 Zm)
 (Zh (ZM (Zt W4 (Zb (Za 3) (Zb (Zd Zq (Za 0) (dC (.int 0))) (Zb (Zd Zq (Za 1) (dC (.int 0))) Ze)))))
 Zm))
noncomputable def ZbB:List D->M D:=Ue 3 (WB (Zt W4 (Zb (Za 2) (Zb (Za 0) (Zb (Za 1) Ze)))))
noncomputable def Zdf:List D->M D:=runB 4 4 (Zh (ZM (Wh (Zt Zau (Zb (Za 2) (Zb (Zd Zq (Za 0) (dC (.int 0))) (Zb (Zd Zq (Za 1) (dC (.int 0))) Ze)))) (Zt Zau (Zb (Za 3) (Zb (Zd Zq (Za 0) (dC (.int 1))) (Zb (Zd Zq (Za 1) (dC (.int 1))) Ze))))))
 Zm)
noncomputable def Zbb:List D->M D:=Ue 3 (Zt W4 (Zb (Za 2) (Zb (Za 0) (Zb (Za 1) Ze))))
noncomputable def Zbo:List D->M D:=Ue 3 (Jl (Zd X9 (Yi (Zb (Za 0) (Zb (Za 1) Ze))) (Za 2)) (Zd X9 (Yi (Zb (Za 1) (Zb (Za 0) Ze))) (Za 2)))
noncomputable def Zdg:List D->M D:=Ue 3 (Zd Yo (Zd UE (Za 0) (Za 2)) (Zd UE (Za 1) (Za 2)))
noncomputable def ZbC:List D->M D:=Ue 4 (Zd X9 (ZO U7 (Zb (Zd Wj (Za 1) (Za 0)) (Zb (Zd YK (Zd Wj (Za 2) (Za 1)) (Za 0)) Ze))) (Za 3))
noncomputable def Tl:Nat->List D->M D
 | 0=>ZbB
 | 1=>Zbb
 | 2=>Zi7
 | 3=>ZeK
 | 4=>Zdf
 | 5=>Zbo
 | 6=>Zdg
 | 7=>ZbC
 | _=>λ_=>ZK
noncomputable def ZfJ:Zc->M Out:=(Zh (ZF 2 (Zt Bf (Zb (WG (ZO Y2 (Zb (Za 0) Ze))) Ze)))
 (Zh (ZM (Yi (Zb (ZO Y2 (Zb (Za 0) Ze)) (Zb (ZO JH (Zb (Yw [none,some 1,some 0] (YF (Za 2)) (ZZ 0) (Zu (BV Tl 1 (Zb (Zd Zq (Za 2) (Zd Zq (Za 0) (dC (.int 0)))) (Zb (Zd Zq (Za 2) (Zd Zq (Za 0) (dC (.int 1)))) Ze)))) (Za 0)) Ze)) Ze))))
 Zm))
noncomputable def Bd:List D->M D:=runB 3 2 ZfJ
noncomputable def Zk9:Zc->M Out:=(Zh (ZF 1 (Zt UR (Zb (Za 0) Ze)))
 (Zh (ZM (dFnC Bd 0 [1] (WG (Zd Zq (Za 0) (dC (.int 0))))))
 Zm))
noncomputable def Jw:List D->M D:=runB 2 1 Zk9
end TQ
namespace TT
section
variable {M:Model}{A:xz}{E:xA}{s:Shared}
end
section
variable (rk:Keyed->Int)
variable {rk}{a b out:Array Keyed}{ia ib:Nat}
end
section
variable {M:Model}{A:xz}{E:xA}{s:Shared}
variable {rk:Keyed->Int}{κ:SortKind}{In:Keyed->Prop}
end
section
variable (rk:Keyed->Int)
variable {rk}{a b out:Array Keyed}{na nb:Nat}
end
section
variable {M:Model}{A:xz}{E:xA}{s:Shared}{rk:Keyed->Int}{κ:SortKind}{In:Keyed->Prop}
end
section
variable {M:Model}{A:xz}{E:xA}{s:Shared}{rk:Keyed->Int}{κ:SortKind}{In:Keyed->Prop}
end
section
variable (rk:Keyed->Int)
end
section
variable {rk:Keyed->Int}
end
section
variable {M:Model}{A:xz}{E:xA}{s:Shared}{rk:Keyed->Int}{κ:SortKind}{In:Keyed->Prop}
end
section
variable {M:Model}{A:xz}{E:xA}{s:Shared}{rk:Keyed->Int}{κ:SortKind}{In:Keyed->Prop}
end
section
variable {M:Model}{A:xz}{E:xA}{s:Shared}{rk:Keyed->Int}{κ:SortKind}{In:Keyed->Prop}{a₀:List Keyed}
end
section
variable {M:Model}{A:xz}{E:xA}{s:Shared}{rk:Keyed->Int}{κ:SortKind}{In:Keyed->Prop}{a₀:List Keyed}
end
open Classical L2 TS in
section
variable {prog:xy}{w:World}{A:xz}{E:xA}{s:Shared}
end
end TT
namespace HT
section
variable {prog:xy}{w:World}
variable {A:xz}{E:xA}{s:Shared}
end
namespace FS
end FS
section
variable {prog:xy}{w:World}{A:xz}{E:xA}{s:Shared}
end
end HT
namespace HT
section
variable {prog:xy}{w:World}{A:xz}{E:xA}{s:Shared}
variable {a:Addr}{o:Obj}{es:Array (Int×Value)}{ep:Nat}{t:SetTable}
namespace FS
end FS
end
end HT
namespace HT
section
variable {prog:xy}{w:World}{A:xz}{E:xA}{s:Shared}
variable {a:Addr}{o:Obj}{es:Array (Int×Value)}{ep:Nat}{t:SetTable}
end
section
variable {prog:xy}{w:World}{A:xz}{E:xA}{s:Shared}
variable {a:Addr}{o:Obj}{es:Array (Int×Value)}{ep:Nat}{t:SetTable}
end
end HT
namespace TF
open L2
section
variable {X:Cx}{G:Gh}
end
section
variable {X:Cx}{G:Gh}{ob own:List Nat}{fr:Bool}{f:Zc->M D}
end
end TF
namespace TT
open L2 TS
section
variable {prog:xy}{w:World}{A:xz}{E:xA}{s:Shared}
end
end TT
namespace TS
open L2
section
variable {prog:xy}{w:World}{A:xz}{E:xA}{s:Shared}
end
end TS
namespace TF
open L2 TS
section
variable {X:Cx}{G:Gh}
end
end TF
namespace TF
open L2 TT
section
variable {X:Cx}{G:Gh}
end
end TF
namespace TQ
open L2 TF TQ
open TP
open TP2
open TP3
end TQ
namespace TF
open L2
section
variable {X:Cx}{G:Gh}{f g:Zc->M D}
end
end TF
namespace TQ
open L2 TF
end TQ
namespace TF
open L2
section
variable {X:Cx}{G:Gh}
end
theorem boot_sum:xj "sum" = some (.builtin "sum"):=by rfl
section
variable {X:Cx}{G:Gh}
noncomputable def V8 (ns:List Int):Bool:=ns.all λn=>decide (-4294967296<=n)&&decide (n<=4294967296)
theorem ZfK (h:V8 ns=true):∀j:Nat,-(4294967296*(j:Int))<=(ns.take j).sum/\(ns.take j).sum<=4294967296*(j:Int):=by
 intro j
 induction ns generalizing j with
 | nil=>grind
 | cons n r ih=>
  cases j with
  | zero=>simp
  | succ j=>
   unfold V8 at h;simp only[List.all_cons,zd,decide_eq_true_eq]at h;have:=ih h.2 j;rw[List.take_succ_cons,List.sum_cons];omega
noncomputable def dSum:List D->Option D
 | [.lst ds]=>match Z4 ds with | some ns=>if V8 ns=true then some (.int ns.sum)else none | none=>none
 | _=>none
theorem Zi8 (hc:X.calm=true):XJ X (.builtin "sum") (λxs H Q=>∃p ns,xs=[.ref p]/\ZJ X.K H p (ns.map V.int)/\V8 ns=true/\Q (.int ns.sum) H):=by
 intro jJ s σ H xs us Q I r h;obtain⟨p,ns,rfl,hp,ok,q⟩:=h;obtain⟨u,rfl,ru⟩:=Wx r
 cases ru
 obtain⟨jK,rv,pl,hz⟩:=I.list hp;have hi:IntsAre jK ns:=UU rv;obtain⟨xs,e⟩:=hi.allInts.items;have hns:ns=xs.toList.map (·.1):=by rw[<-hi.numsOf,<-nums_intItems,<-e]
 have hl:=pl.isList;rw[e]at hl;have jR:ns.length=xs.size:=by rw[hns,qp,zH]
 have hz2:ns.length<=16777216:=by
  have:=hz;rw[qp]at this;rw[show xg=16777216 by decide]at this;exact this
 refine sum_intList (I.ok.hd hc) hl (λj hj=>?_) λh' tk t' hk=>?_
 ·rw[preSum_eq,<-hns]
  have h1:=ZfK ok (j+1);have h2:-4294967296<=numAt xs j/\numAt xs j<=4294967296:=by
   rw[numAt_eq,<-hns];have hm:ns.getD j 0∈ns:=getD_mem (by omega);have:=zy.mp ok _ hm;simp at this;exact this
  constructor
  ·constructor <;> omega
  ·constructor <;> omega
 ·rw[preSum_eq,<-hns,<-jR,List.take_length]
  exact⟨.int ns.sum,H,I.kept hk,⟨_,rfl⟩,q⟩
theorem Zi9 (hc:X.calm=true):Wy X G (.builtin "sum") dSum:=
 ⟨_,Zi8 hc,λHf H s xs ds c Q e1 st r q k=>by
  match ds,q,r with
  | [.lst es],q,r=>
   have q:(match Z4 es with | some ns=>if V8 ns=true then some (D.int ns.sum)else none | none=>none)=some c:=q
   cases he:Z4 es with
   | none=>simp_all
   | some ns=>
    rw[he]at q;by_cases ok:V8 ns=true
    ·have q:(if V8 ns=true then some (D.int ns.sum)else none)=some c:=q
     rw[if_pos ok]at q
     cases q
     obtain⟨v,rfl,rv⟩:=ji r;obtain⟨p,vs,rfl,np,hp,rp⟩:=jc.mp rv;rw[UX he]at rp;rw[jp rp]at hp;exact⟨p,ns,rfl,ZJ.of (e1 _ _ np hp),ok,k _ Hf H (.refl e1) st (ja.mpr rfl) (.scal λz=>z)⟩
    ·simp_all⟩
end
open PySem.SeqAt
open AutoSeq1 (wpAny_loadPart')
theorem ZfL (l:Addr)(items:Array Value)(n:Nat)(dd:Option Addr)(sl:Array (Option Value))(u:Tok) :
  Meets (Builtin.«tuple.__mul__» ⟨[.ref l,.int 1 u],[]⟩) (λ_ R s=>s.heap.get? l=some { cls:=.type "tuple",dict:=dd,data:=.seq items n,slots:=sl }/\R (.ok (.ret (qm l))) s):=
 .of_wp λprog w A R s h=>by
  obtain⟨hp,g,d,tk,os⟩:=s;obtain⟨hl,h⟩:=h;have f1:=qa1;have f2:=zU;have f3:=yU;have f4:=yK;have f5:=yL;wp_walk using wpAny_loadPart' hl;exact⟨_,rfl,h⟩
theorem ZfM (l:Addr)(items:Array Value)(n:Nat)(dd:Option Addr)(sl:Array (Option Value))(u:Tok)(hc1:items.isEmpty=false) :
  Meets (Builtin.«tuple.__mul__» ⟨[.ref l,.int 0 u],[]⟩) (λ_ R s=>s.heap.get? l=some { cls:=.type "tuple",dict:=dd,data:=.seq items n,slots:=sl }/\R (.ok (.ret (qm s.heap.objs.size))) { s with heap:=s.heap.push { cls:=qaN "tuple",data:=Data.seq #[] },toks:=s.toks }):=
 .of_wp λprog w A R s h=>by
  obtain⟨hp,g,d,tk,os⟩:=s;obtain⟨hl,h⟩:=h;have f1:=qa1;have f2:=zU;have f3:=yU;have f4:=yK;have f5:=yL;wp_walk using wpAny_loadPart' hl;exact⟨_,rfl,h⟩
section
variable {X:Cx}{G:Gh}
noncomputable def Zn0 (K:qf):R2:=λx y H Q=>∃l xs,x=.ref l/\y=.int 1/\ZU K H l xs/\Q (.ref l) H
noncomputable def Zn1 (K:qf):R2:=λx y H Q=>∃l xs,x=.ref l/\y=.int 0/\ZU K H l xs/\xs≠[]/\∀p,H p=none->Q (.ref p) (upd H p (.tup []))
theorem Zla:Yc X (binaryOp .Mult) (Zn0 X.K):=by
 intro jJ s σ H x y v u Q I rx ry h;obtain⟨l,xs,rfl,rfl,hH,q⟩:=h
 cases rx
 obtain⟨t,rfl⟩:=ry;obtain⟨jK,r,p1,_⟩:=I.tuple hH;obtain⟨⟨cls,dd,data,sl⟩,ho,hc,n,hd⟩:=id p1;subst hc hd;exact wpAny_binaryOp_repeat_ref (by decide) ⟨_,ho,rfl⟩ (λs'=>typeIs_int s' 1 t) Zag qaf zD ZaL yX.lookup
  (call_meets zD (typeIs_int s 1 t) yY (yO _ _) (Zaq 1 t l jK.toArray n dd sl)
   ⟨ho,rfl,⟨_,ho,rfl⟩,call_meets yi ⟨_,ho,rfl⟩ yM (yF _ _) (ZfL l jK.toArray n dd sl t) ⟨ho,.ref l,H,I,rfl,q⟩⟩)
theorem Zlb:Yc X (binaryOp .Mult) (Zn1 X.K):=by
 intro jJ s σ H x y v u Q I rx ry h;obtain⟨l,xs,rfl,rfl,hH,hne,q⟩:=h
 cases rx
 obtain⟨t,rfl⟩:=ry;obtain⟨jK,r,p1,_⟩:=I.tuple hH;obtain⟨⟨cls,dd,data,sl⟩,ho,hc,n,hd⟩:=id p1;subst hc hd;have hne':=λz=>hne (r.nil_iff.mp z);have hemp:jK.toArray.isEmpty=false:=by grind
 exact wpAny_binaryOp_repeat_ref (by decide) ⟨_,ho,rfl⟩ (λs'=>typeIs_int s' 0 t) Zag qaf zD ZaL yX.lookup
  (call_meets zD (typeIs_int s 0 t) yY (yO _ _) (Zaq 0 t l jK.toArray n dd sl)
   ⟨ho,rfl,⟨_,ho,rfl⟩,call_meets yi ⟨_,ho,rfl⟩ yM (yF _ _) (ZfM l jK.toArray n dd sl t hemp) ⟨ho,.ref s.heap.objs.size,_,I.laid (o:=.tup []) (λb ob q=>qj _ q) (qq _) ⟨zc _,[],.nil,qax _ _⟩,rfl,q _ (I.hok.fresh (qq _))⟩⟩)
noncomputable def Zh5 (d e:D):Option D:=match d,e with
 | .tup ds,.int k=>if k=1 then some (.tup ds)else if k=0/\ds≠[]then some (.tup [])else Vz (.tup ds) (.int k)
 | _,_=>Vz d e
theorem Zlc:Xm X G (binaryOp .Mult) Zh5:=by
 obtain⟨r0,po,qo⟩:=Zfo (X:=X) (G:=G);refine⟨_,po.or (Zla.or Zlb),λHf H s x y d e c Q e1 st rx ry q k=>?_⟩;by_cases hd:∃ds j,d=.tup ds/\e=.int j
 ·obtain⟨ds,j,rfl,rfl⟩:=hd
  have q:(if j=1 then some (D.tup ds)else if j=0/\ds≠[]then some (.tup [])else Vz (.tup ds) (.int j))=some c:=q;by_cases h1:j=1
  ·rw[if_pos h1]at q
   cases q
   obtain⟨p,vs,rfl,np,hp,rp⟩:=jb.mp rx;refine .inr (.inl ⟨p,vs,rfl,by rw[ja.mp ry,h1],ZU.of (e1 _ _ np hp),?_⟩);exact k (.ref p) _ _ (.refl e1) st (jb.mpr ⟨p,vs,rfl,np,hp,rp⟩) (.scal λz=>z)
  ·rw[if_neg h1]at q
   by_cases h2:j=0/\ds≠[]
   ·rw[if_pos h2]at q
    cases q
    obtain⟨p,vs,rfl,np,hp,rp⟩:=jb.mp rx;refine .inr (.inr ⟨p,vs,rfl,by rw[ja.mp ry,h2.1],ZU.of (e1 _ _ np hp),λz=>h2.2 (zZ.mp (by rw[rp.length,z];rfl)),λl hl=>?_⟩);have nf:=Gh.nofp st hl;have g2:=Gr.new (o:=.tup []) e1 hl nf;exact k (.ref l) _ _ g2 (Gh.grow st hl) (jb.mpr ⟨l,_,rfl,nf,ZG,Zi.nil_iff.mpr rfl⟩) (.scal λz=>z)
   ·rw[if_neg h2]at q
    exact .inl (qo Hf H s x y _ _ c Q e1 st rx ry q k)
 ·have q':Vz d e=some c:=by
   unfold Zh5 at q;simp_all
  exact .inl (qo Hf H s x y _ _ c Q e1 st rx ry q' k)
end
end TF
namespace TQ
open L2 TF TQ
open TP
open TP2
open TP3
noncomputable def Zg9:Zc->M Out:=(Zh (ZF 1 (Yi (Zb (Zd Zq (Za 0) (dC (.int 0))) (Zb (Zt UR (Zb (Za 0) Ze)) Ze))))
 (Zh (ZM (Yw [none,some 1] (Xt (Zd Zq (Za 0) (dC (.int 0)))) (ZZ 0) YN (Zt JJ (Zb (Za 1) (Zb (Za 0) Ze)))))
 Zm))
noncomputable def Zbp:List D->M D:=runB 2 1 Zg9
noncomputable def Zcp (Fs:List D->M D):Zc->M Out:=(Zh (ZF 4 (Yw [none,some 2,some 0] (YF (Za 3)) (ZZ 0) (Xb (Zu (Zd Yo (Za 0) (Za 1))) (Zu (Zd JI (Za 0) (Zd Zq (Za 2) (Za 1))))) (Za 0)))
 (Zh (ZM (Zd YK (Z9 (Zb (Za 2) Ze)) (Zt Fs (Zb (Za 0) (Zb (Za 1) (Zb (Za 4) Ze))))))
 Zm))
noncomputable def Zae (Fs:List D->M D):List D->M D:=runB 5 4 (Zcp Fs)
noncomputable def ZdB:Zc->M Out:=(Zh (ZM (Yw [none,some 0,some 1] (YF (Za 2)) (ZZ 0) (Zu (Zd X9 (Za 0) (Zd Zq (Za 1) (Za 2)))) (Za 0)))
 Zm)
noncomputable def Zax:List D->M D:=runB 3 3 ZdB
noncomputable def Zja:Zc->M Out:=(Zh (ZM (ZO dSum (Zb (Yw [none,some 0] (YF (Za 1)) (ZZ 0) YN (Zd Zq (Za 1) (Za 0))) Ze)))
 Zm)
noncomputable def Bi:List D->M D:=runB 2 2 Zja
noncomputable def ZaB (Fs:List D->M D):Zc->M Out:=(Zh (Z6 (Zu (Zd Ya (Za 2) (Z9 Ze)))
 (Zh (ZM (Z9 Ze))
 Zm)
 Zm)
 (Zh (ZF 3 (Yw [none,some 0,some 2] (YF (Za 2)) (ZZ 0) YN (Zt Zax (Zb (Za 1) (Zb (Za 0) (Zb (Za 2) Ze))))))
 (Zh (XW (Xt (ZO Y2 (Zb (Za 2) Ze))) (ZZ 4)
 (Zh (Z6 (Zu (Zd UL (Zt Bi (Zb (Za 1) (Zb (Zd Zq (Za 3) (Za 4)) Ze))) (Zd Zq (Za 1) (Zd Zq (Za 2) (Za 4)))))
 (Zh (ZM (Zt (Zae Fs) (Zb (Za 0) (Zb (Za 1) (Zb (Zd Zq (Za 2) (Za 4)) (Zb (Za 2) Ze))))))
 Zm)
 Zm)
 Zm))
 (Zh (ZF 5 (Yw [none] (YF (Za 3)) (ZZ 0) YN (ZO Y2 (Zb (Za 0) Ze))))
 (Zh (ZF 6 (Zd Zq (Za 2) (Zd ZeG (Za 5) (ZO ZhU (Zb (Za 5) Ze)))))
 (Zh (ZF 7 (Zt (Zae Fs) (Zb (Za 0) (Zb (Za 1) (Zb (Za 6) (Zb (Za 2) Ze))))))
 (Zh (ZF 8 (Zt Fs (Zb (Za 0) (Zb (Za 1) (Zb (Yw [none,some 6] (YF (Za 2)) (ZZ 0) (Zu (Zd Yo (Za 0) (Za 1))) (Za 0)) Ze)))))
 (Zh (ZM (B8 (Zu (Zd VH (Zt Bi (Zb (Za 1) (Zb (Za 7) Ze))) (Zt Bi (Zb (Za 1) (Zb (Za 8) Ze))))) (Za 7) (Za 8)))
 Zm))))))))
noncomputable def Bb:Nat->List D->M D
 | 0=>λ_=>ZK
 | n+1=>runB 9 3 (ZaB (Bb n))
noncomputable def Zcq:Zc->M Out:=(Zh (ZF 2 (Yw [none] (YF (Zt Zbp (Zb (Zt Jw (Zb (Za 0) Ze)) Ze))) (ZZ 0) YN (ZO Zer (Zb (Yw [none] (YF (Za 0)) (ZZ 0) YN (Yi (Zb (Za 0) (Zb (dC (.bl true)) Ze)))) Ze))))
 (Zh (ZM (ZO JH (Zb (ZO ZcC (Zb (Zt (Bb 26) (Zb (Za 2) (Zb (Za 1) (Zb (WG (Zd Zq (Za 0) (dC (.int 0)))) Ze)))) Ze)) Ze)))
 Zm))
noncomputable def Zah:List D->M D:=runB 3 2 Zcq
noncomputable def Zn2:Zc->M Out:=(Zh (ZF 1 (Zt Zah (Zb (Za 0) (Zb (Zd Zh5 (Yi (Zb (dC (.int 1)) Ze)) (Zd Zq (Za 0) (dC (.int 0)))) Ze))))
 (Zh (ZM (Yi (Zb (ZO Y2 (Zb (Za 1) Ze)) (Zb (Za 1) Ze))))
 Zm))
noncomputable def JM:List D->M D:=runB 2 1 Zn2
end TQ
namespace TF
open L2
section
variable {X:Cx}{G:Gh}
end
section
variable {X:Cx}{G:Gh}
end
section
variable {X:Cx}{G:Gh}
end
open TS
section
variable {X:Cx}
end
section
variable {X:Cx}{G:Gh}{σ:St}
end
section
variable {X:Cx}{G:Gh}{P c:Addr}{q:Str}{kl:Nat}{frb:Bool}{e1:Expr}{f1:Zc->M D}{r1:Bool}{params:Arguments}{scope:Scope}{lpos ppos pos kpos:Pos}{XN N ps:List Str}{NS:List (Str×NameKind)}{cix:List Nat}{body:Expr}{fe:Zc->M D}
end
end TF
namespace TQ
open L2 TF TQ
open TP
open TP2
open TP3
end TQ
namespace TF
open L2
section
variable {X:Cx}{G:Gh}
end
section
variable {X:Cx}{G:Gh}
end
section
variable {X:Cx}{G:Gh}
theorem Zjb {op op':CmpOp}{r r':R2}{a b c:Expr}{pos:Pos}{ta tb tc:TE}(ho:Yc X (xk op) r)(ho':Yc X (xk op') r')(ha:PE X a ta)(hb:PE X b tb)(hc:PE X c tc)
  (hm:lastMarks [op,op'] [b,c]=false:=by with_unfolding_all rfl):PE X (.Compare a [op,op'] [b,c] pos) (fun σ H Q=>ta σ H λx H1=>tb σ H1 λy H2=>r x y H2 λw H3=>∃k,w=.bl k/\(if k=true then tc σ H3 λz H4=>r' y z H4 Q else Q (.bl false) H3)):=by
 intro jJ s σ H Q I h;refine Compare_chain (ZD (ha jJ s σ H _ I h) λv s1 ⟨x,H1,I1,r1,q1⟩=>?_) hm;refine chain_link (ZD (hb jJ s1 σ H1 _ I1 q1) λu s2 ⟨y,H2,I2,r2,q2⟩=>ZD (ho jJ s2 σ H2 x y v u _ I2 r1 r2 q2) λd s3 ⟨z',H3,I3,r3,k,e,q3⟩=>?_);subst e
 cases r3
 refine wpAny_truthy_bool ?_
 cases k with
 | false=>exact ite_ff ⟨.bl false,H3,I3,rfl,q3⟩
 | true=>exact ite_tt (chain_last (ZD (hc jJ s3 σ H3 _ I3 q3) λu' s4 ⟨z,H4,I4,r4,q4⟩=>ho' jJ s4 σ H4 y z u u' _ I4 r2 r4 q4))
noncomputable def Bt (g g':D->D->Option D)(fa fb fc:Zc->M D):Zc->M D:=fun ρ=>Zk (fa ρ) λx=>Zk (fb ρ) λy=>Zk (J4 (g x y)) λk=>if k=true then Zk (fc ρ) λz=>Zk (J4 (g' y z)) λk'=>ZL (.bl k')else ZL (.bl false)
theorem Zjc {op op':CmpOp}{g g':D->D->Option D}{a b c:Expr}{pos:Pos}{fa fb fc:Zc->M D}{r1 r2 r3:Bool}(ho:Xm X G (xk op) g)(ho':Xm X G (xk op') g')(ha:PD X G r1 a fa)(hb:PD X G r2 b fb)(hc:PD X G r3 c fc)
  (hm:lastMarks [op,op'] [b,c]=false:=by with_unfolding_all rfl):PD X G true (.Compare a [op,op'] [b,c] pos) (Bt g g' fa fb fc):=by
 obtain⟨_,po,qo⟩:=ho;obtain⟨_,po',qo'⟩:=ho';obtain⟨_,pa,qa⟩:=ha.drop;obtain⟨_,pb,qb⟩:=hb.drop;obtain⟨_,pc,qc⟩:=hc.drop;refine⟨_,Zjb po po' pa pb pc hm,fun σ Hf H ρ s d s' Q e1 e2 e3 e4 k=>?_⟩;obtain⟨x,s1,a1,b1⟩:=Zv e4;obtain⟨y,s2,a2,b2⟩:=Zv b1;obtain⟨k1,s3,a3',b3⟩:=Zv b2;obtain⟨a3,rfl⟩:=Zfn a3';refine qa σ Hf H ρ s x _ _ e1 e2 e3 a1 λvx jW H1 g1 j9 rx=>?_;refine qb σ jW H1 ρ s1 y _ _ g1.fh (e2.ext g1.ff) j9 a2 λvy jZ H2 g2 j6 ry=>?_;refine qo jZ H2 _ vx vy x y _ _ (g1.trans g2).fh j6 (rx.ext g2.ff) ry a3 λv Hf3 H3 g3 st3 r3 _=>⟨k1,jd.mp r3,?_⟩
 cases k1 with
 | false=>
  rw[if_neg (by decide)]at b3⊢;obtain⟨rfl,rfl⟩:=ZP b3;exact k _ Hf3 H3 ((g1.trans g2).trans g3) st3 (jd.mpr rfl) λ_=>.scal λz=>z
 | true=>
  rw[if_pos rfl]at b3⊢;obtain⟨z,s4,a4,b4⟩:=Zv b3;obtain⟨k2,s5,a5',b5⟩:=Zv b4;obtain⟨a5,rfl⟩:=Zfn a5';obtain⟨rfl,rfl⟩:=ZP b5;have g123:=(g1.trans g2).trans g3;refine qc σ Hf3 H3 ρ _ z _ _ g123.fh (e2.ext g123.ff) st3 a4 λvz Hf4 H4 g4 st4 rz=>?_;exact qo' Hf4 H4 _ vy vz y z _ _ (g123.trans g4).fh st4 ((ry.ext g3.ff).ext g4.ff) rz a5 λv' Hf5 H5 g5 st5 r5 _=>k v' Hf5 H5 ((g123.trans g4).trans g5) st5 r5 λ_=>.scal λw=>by cases w
end
end TF
namespace TQ
open L2 TF TQ
open TP
open TP2
open TP3
noncomputable def Zcr:Zc->M Out:=(Zh (ZM (Wh (ZO Jd (Zb (Za 1) (Zb (dC (.ty "int")) Ze))) (Wh (WB (ZO Jd (Zb (Za 1) (Zb (dC (.ty "bool")) Ze)))) (Bt UL UM (dC (.int 0)) (Za 1) (Zd Zq (Za 0) (dC (.int 0)))))))
 Zm)
noncomputable def Wa:List D->M D:=runB 2 2 Zcr
noncomputable def ZfN:Zc->M Out:=(Zh (Z6 (X0 (Wg (Zu (Zt WH (Zb (XM 0 λq=>some (.int q.n)) (Zb (Za 1) Ze))))) (Wg (Zu (Zt WH (Zb (XM 0 λq=>some (.int q.n)) (Zb (Za 2) Ze))))))
 (λ_=>ZK)
 Zm)
 (Zh (Z6 (Zu (Zd Ya (Za 1) (Za 2)))
 (λ_=>ZK)
 Zm)
 (Zh (ZM (Yi (Zb (ZO U7 (Zb (Za 1) (Zb (Za 2) Ze))) (Zb (ZO JR (Zb (Za 1) (Zb (Za 2) Ze))) Ze))))
 Zm)))
noncomputable def W3:List D->M D:=runB 3 3 ZfN
noncomputable def Zmy:Zc->M Out:=(Zh (ZM (Yi (Zb (XM 0 λq=>some (.int q.n)) (Zb (ZO JH (Zb (ZbV 0) Ze)) Ze))))
 Zm)
noncomputable def WN:List D->M D:=runB 1 1 Zmy
noncomputable def Zld:Zc->M Out:=(Zh (ZM (Zd Zq (Zt JM (Zb (YO WN 0 Ze) Ze)) (dC (.int 0))))
 Zm)
noncomputable def Jx:List D->M D:=runB 1 1 Zld
noncomputable def ZaC:Zc->M Out:=(Zh (Z6 (Zu (WM false 0 (Za 1)))
 (Zh (Zbz 0 (Za 1))
 Zm)
 (Zh (Zby 0 (Za 1))
 Zm))
 Zm)
noncomputable def UQ:List D->M D:=runB 2 2 ZaC
noncomputable def Zha:Zc->M Out:=(Zh (ZF 3 (YO Jx 0 Ze))
 (Zh (U5 (YO UQ 0 (Zb (Za 2) Ze)))
 (Zh (Za8 0 (Yi (Zb (Za 1) (Zb (Za 2) Ze))))
 (Zh (ZM (Zd Wj (YO Jx 0 Ze) (Za 3)))
 Zm))))
noncomputable def UW:List D->M D:=runB 4 3 Zha
noncomputable def Zmz:Zc->M Out:=(Zh (ZF 3 (YO W3 0 (Zb (Za 1) (Zb (Za 2) Ze))))
 (Zh (Z6 (Zu (WM false 0 (Za 3)))
 (λ_=>ZK)
 Zm)
 (Zh (ZM (YO UW 0 (Zb (dC (.str (qd "tied"))) (Zb (Za 3) Ze))))
 Zm)))
noncomputable def Ut:List D->M D:=runB 4 3 Zmz
noncomputable def Zhb:Zc->M Out:=(Zh (ZF 3 (YO W3 0 (Zb (Za 1) (Zb (Za 2) Ze))))
 (Zh (Z6 (Zu (WM true 0 (Za 3)))
 (λ_=>ZK)
 Zm)
 (Zh (ZM (YO UW 0 (Zb (dC (.str (qd "loosened"))) (Zb (Za 3) Ze))))
 Zm)))
noncomputable def Zdh:List D->M D:=runB 4 3 Zhb
noncomputable def Zle:Zc->M Out:=(Zh (Z6 (Zu (XM 0 λq=>some (.bl q.deeds.isEmpty)))
 (Zh (ZM (dC .non))
 Zm)
 Zm)
 (Zh (ZF 1 (Za9 0))
 (Zh (U5 (YO UQ 0 (Zb (Zd Zq (Za 1) (dC (.int 1))) Ze)))
 (Zh (ZM (Zd Zq (Za 1) (dC (.int 0))))
 Zm))))
noncomputable def Uq:List D->M D:=runB 2 1 Zle
noncomputable def UT:List D->M Unit:=UH 3 3 (ZhX (X0 (Wg (Zu (Zt WH (Zb (XM 0 λq=>some (.int q.n)) (Zb (Za 1) Ze))))) (Wg (Zu (Zt WH (Zb (XM 0 λq=>some (.int q.n)) (Zb (Za 2) Ze)))))) (UO (Zu (Zd Ya (Za 1) (Za 2)))))
noncomputable def VS:List D->M Unit:=UH 4 3 (JK UT 0 (Zb (Za 1) (Zb (Za 2) Ze)))
noncomputable def VT:List D->M Unit:=UH 4 3 (BX (ZF 3 (YO W3 0 (Zb (Za 1) (Zb (Za 2) Ze)))) (UO (Zu (WM false 0 (Za 3)))))
noncomputable def VM:List D->M Unit:=UH 4 3 (JK UT 0 (Zb (Za 1) (Zb (Za 2) Ze)))
noncomputable def VN:List D->M Unit:=UH 4 3 (BX (ZF 3 (YO W3 0 (Zb (Za 1) (Zb (Za 2) Ze)))) (UO (Zu (WM true 0 (Za 3)))))
end TQ
namespace HT
open SetTable (leap runEnd Probe bits)
section
variable {m:Nat}{occ:Nat->Prop}
end
section
variable {prog:xy}{w:World}{A:xz}{E:xA}{s:Shared}
end
section
variable {prog:xy}{w:World}{A:xz}{E:xA}{s:Shared}
end
end HT
namespace HT
section
variable {prog:xy}{w:World}{A:xz}{E:xA}{s:Shared}
end
open L2 TS
section
variable {prog:xy}{w:World}{A:xz}{E:xA}{s:Shared}
variable {a:Addr}{o:Obj}{es:Array (Int×Value)}{ep:Nat}{t:SetTable}
end
end HT
namespace TF
open L2 TS
section
variable {X:Cx}{G:Gh}
end
section
variable {X:Cx}{G:Gh}
end
end TF
namespace K47
open L2 TF TQ
open TP
open TP2
open TP3
noncomputable abbrev Zdi:Stmt:=ZV 8
noncomputable abbrev Zdj:Stmt:=ZV 9
noncomputable abbrev Zdk:Stmt:=ZV 11
noncomputable abbrev Zhc:Stmt:=ZV 12
noncomputable abbrev Zbq:Stmt:=ZV 13
noncomputable abbrev Zdl:Stmt:=ZV 14
noncomputable abbrev Zay:Stmt:=ZV 15
noncomputable abbrev ZbD:Stmt:=ZV 16
noncomputable abbrev ZaW:Stmt:=ZV 17
noncomputable abbrev Zlf:Stmt:=ZV 19
noncomputable abbrev Zai:Stmt:=ZV 21
noncomputable abbrev Bc:Stmt:=ZV 22
noncomputable abbrev Zaz:Stmt:=ZV 23
noncomputable abbrev Zaj:Stmt:=ZV 24
noncomputable abbrev ZbW:Stmt:=ZV 25
noncomputable abbrev Zcb:Stmt:=ZV 29
noncomputable abbrev Zcc:Stmt:=ZV 30
noncomputable abbrev Zbr:Stmt:=ZV 31
noncomputable abbrev Zcd:Stmt:=ZV 32
noncomputable abbrev ZaS:Stmt:=ZV 40
noncomputable abbrev Xn:Stmt:=ZV 41
noncomputable abbrev Zac:Stmt:=ZV 42
noncomputable abbrev s_law:Stmt:=ZV 43
noncomputable abbrev ZeL:Stmt:=WY (ZV 27) 0
noncomputable abbrev ZcG:Stmt:=WY (ZV 27) 1
noncomputable abbrev ZaP:Stmt:=WY (ZV 27) 2
noncomputable abbrev ZaX:Stmt:=WY (ZV 27) 3
noncomputable abbrev Zdm:Stmt:=WY (ZV 27) 4
noncomputable abbrev ZaD:Stmt:=WY (ZV 27) 5
noncomputable abbrev ZfO:Stmt:=WY (ZV 27) 6
noncomputable abbrev Zh6:Stmt:=WY (ZV 27) 7
noncomputable abbrev ZfP:Stmt:=WY (ZV 27) 8
structure Txt (mg:Str->Option Value):Prop where
 b_bool:mg "bool" = none
 b_dict:mg "dict" = none
 b_int:mg "int" = none
 b_isinstance:mg "isinstance" = none
 b_len:mg "len" = none
 b_list:mg "list" = none
 b_max:mg "max" = none
 b_min:mg "min" = none
 b_range:mg "range" = none
 b_sorted:mg "sorted" = none
 b_sum:mg "sum" = none
 b_tuple:mg "tuple" = none
set_option maxHeartbeats 4000000
variable {P:xy}{w:World}{K:qf}{mg:Str->Option Value}{base:Heap}{jX:Addr}{jN:xx}
theorem ZbE:FnScope ["_law_cell","_law_at","_law_x"] ["_law_cell","_law_at"] (Zx Zcb):=YE
theorem ZeM (F:Fun K "_law_fill" "_law_fill" Zcb jX jN)(T:Txt mg) :
  FnOk P w K mg base ZH 1 jX jN ["_law_cell","_law_at"] (Z1 2 false Yb US):=
 have jL:=ZbE.nd
 YR (own:=[]) F ZbE λcdv A outer s H E hr G hG=>
 (Zw (X2 (Y7 (Zj5) (va 0) (Yu Zep ZN ZN))
 (Zw (Yd (va 0))
 Z2)
 YA)
 (Zw (Yr (Yl jL rfl (qz rfl) (Yu Zcx (Yu Wu (Yu Wu (Yu Us (Yu Zcx (va 0) ZN) ZN) (Yu Us (va 1) ZN)) ZN) ZN)))
 (Zw (Yr (Yl jL rfl (qz rfl) (Yu Zcx (Yu Wu (Yu Wu (Yu Us (va 2) (va 2)) (Yu Us ZN (va 2))) (va 1)) ZN)))
 (Zw (Yd (PD.weak (Yu Wu (Yu Us (va 2) ZN) (Yu Zcx (Yu Wu (Yu Us (va 2) (va 2)) (Yu Us ZN (va 1))) ZN))))
 Z2))))
theorem ZaY:FnScope ["web"] ["web"] (Zx Zay):=YE
theorem Zdn (F:Fun K "marked_ties" "marked_ties" Zay jX jN)(T:Txt mg) :
  FnOk P w K mg base ZH 1 jX jN ["web"] (Z1 1 true Yb UR):=
 have jL:=ZaY.nd
 YR (own:=[]) F ZaY λcdv A outer s H E hr G hG=>
 (Zw (Yd (VO (ZgI rfl hr.units) rfl T.b_dict TF.boot_dict (Zf (V7 (bk ["web"] (Zx Zay).names ["tie"] [none]) (ZhE (Z7 Z8 (va 0) ZN)) Wo V2 (XH (Zf (va 0) (Zf X5 Zo)))) Zo)))
 Z2)
theorem Zce:FnScope ["row","pairs","i","j"] ["row"] (Zx Zdj):=YE
theorem ZfQ (F:Fun K "pairs_of" "pairs_of" Zdj jX jN)(T:Txt mg) :
  FnOk P w K mg base ZH 1 jX jN ["row"] (Z1 1 true Yb Bf):=
 have jL:=Zce.nd
 YR (own:=[]) F Zce λcdv A outer s H E hr G hG=>
 (Y4 (own2:=[1]) (ZcT (Yl jL rfl (qz rfl) (XS Zo)))
 (Y4 (own2:=[1]) (VV (own:=[1]) zt rfl (Jn rfl T.b_range (Uj T.b_len (Zf (va 0) Zo))) (VQ jL rfl (qz rfl) (by decide))
 (Y4 (own2:=[1]) (VV (own:=[1]) zt rfl (Zb6 rfl T.b_range (Yu Wu (va 2) ZN) (Uj T.b_len (Zf (va 0) Zo))) (VQ jL rfl (qz rfl) (by decide))
 (Y4 (own2:=[1]) (ZcU (own:=[1]) (i:=1) (by decide) (XH (Zf (Z7 Z8 (va 0) (va 2)) (Zf (Z7 Z8 (va 0) (va 3)) Zo))) (λ_ h=>ZbQ (pv 1) h))
 (YA (own:=[1]))))
 (YA (own:=[1]))))
 (Y4 (own2:=[1]) (Zgz (i:=1) (by decide) (pv 1))
 (YA (own:=[1])))))
theorem ZbF:FnScope ["row","tied","pairs"] ["row","tied"] (Zx ZaW):=YE
theorem ZeN (F:Fun K "web_where" "web_where" ZaW jX jN)(T:Txt mg)(kK:ZX P w K mg base 1 "pairs_of" 1 true Yb Bf) :
  FnOk P w K mg base ZH 5 jX jN ["row","tied"] (Z1 2 false (JW P w K mg 4 2 Tl base) Bd):=
 have jL:=ZbF.nd
 YR (own:=[]) F ZbF λcdv A outer s H E hr G hG=>
 (Zw (Yr (Yl jL rfl (qz rfl) (Ye (kK.mono) trivial hr (Zf (Zan rfl rfl T.b_range rfl T.b_list TF.boot_list (Uj T.b_len (Zf (va 0) Zo))) Zo))))
 (Zw (Yd (PD.weak (XH (Zf (Uj T.b_len (Zf (va 0) Zo)) (Zf (VO (Zam) rfl T.b_tuple TF.boot_tuple (Zf (V7 (bk ["row","tied","pairs"] (Zx ZaW).names ["pair","tied","row"] [none,some 1,some 0]) (VR (va 2)) Wo (BJ (Wd (Zki hG (hr.mono (by decide)) (pv 1) (Zf (Z7 Z8 (va 2) (Z7 Z8 (va 0) ZN)) (Zf (Z7 Z8 (va 2) (Z7 Z8 (va 0) ZN)) Zo)) (Yz (Yz Ws))))) (va 0)) Zo)) Zo)))))
 Z2))
theorem Zcf:FnScope ["ties","a","b"] ["ties","a","b"] (Zx Zdl):=YE
theorem ZfR (F:Fun K "are_tied" "are_tied" Zdl jX jN)(T:Txt mg) :
  FnOk P w K mg base ZH 1 jX jN ["ties","a","b"] (Z1 3 false Yb W4):=
 have jL:=Zcf.nd
 YR (own:=[]) F Zcf λcdv A outer s H E hr G hG=>
 (Zw (Yd (PD.weak (Vr (ZgK hr.units) (XH (Zf (Wb (Zbh rfl) rfl T.b_min TF.boot_min (Zf (va 1) (Zf (va 2) Zo))) (Zf (Wb (Zbg rfl) rfl T.b_max TF.boot_max (Zf (va 1) (Zf (va 2) Zo))) Zo))) (va 0))))
 Z2)
theorem Zd3:FnScope ["web","ties"] ["web"] (Zx ZbD):=YE
theorem Zjd (F:Fun K "turned" "turned" ZbD jX jN)(T:Txt mg){L:List (Addr×Str)}(lo:VI L)(j8:ZX P w K mg base 1 "marked_ties" 1 true Yb UR)(kA:JX P w K mg 5 "web_where" 2 false (JW P w K mg 4 2 Tl) Bd)(kx:∀base,ZX P w K mg base 1 "are_tied" 3 false Yb W4){tc tP:Addr}(hcode:jN.code=.ref tc)(hCd:zL base tc tP)(hBm:J5 mg base)(hL:(tP,(qd "turned.<locals>.<lambda>"))∈L) :
  FnOk P w K mg base ZH 6 jX jN ["web"] (Z1 1 false (XT L) Jw):=
 have jL:=Zd3.nd
 fnDC (own:=[]) F Zd3 λA outer s H E hr G hG=>
 have hT:XT L G:=hG;have TG9:=hT _ _ hL;have M9:Mk0 (Xh ZH P w K mg base ["web","ties"] "turned" (Zx ZbD) jX jN.code A outer s H E).nox tc tP:=⟨hcode,hCd,hBm⟩
 (Zw (Yr (Yl jL rfl (qag rfl) (Ye (j8.mono) trivial hr (Zf (va 0) Zo))))
 (Zw (Yd (ZgM (kl:=3) (frb:=true) (N:=["a","b","ties"]) (ps:=["a","b"]) (cix:=[1]) (T:=Tl) (t:=0) (q:="turned.<locals>.<lambda>") M9 TG9 (kA.mono) (λ_=>rfl) hr rfl (Zan rfl rfl T.b_range rfl T.b_list TF.boot_list (Z7 Z8 (va 0) ZN)) rfl (⟨rfl,rfl,rfl,by decide +kernel,rfl,by decide +kernel,by decide +kernel⟩:CloScope ["a","b","ties"] ["a","b"] _) (⟨rfl,rfl,rfl,by decide +kernel,by decide +kernel⟩:CapS _ ["web","ties"] (Zx ZbD).names ["a","b","ties"] ["a","b"] [1] _) rfl (λ_ _ _ _ us hl=>match us,hl with | [_,_],_=>rfl) (λbase f c cl G A outer s H E hr=>(Zel (Ye ((kx base).mono) trivial hr (Zf (va 2) (Zf (va 0) (Zf (va 1) Zo))))))))
 Z2))
theorem Zh7:FnScope ["web","place"] ["web","place"] (Zx Zhc):=YE
theorem ZmA (F:Fun K "near" "near" Zhc jX jN)(T:Txt mg)(kE:ZX P w K mg base 1 "are_tied" 3 false Yb W4) :
  FnOk P w K mg base ZH 2 jX jN ["web","place"] (Z1 2 true Yb JJ):=
 have jL:=Zh7.nd
 YR (own:=[]) F Zh7 λcdv A outer s H E hr G hG=>
 (Zw (Yd (V7 (bk ["web","place"] (Zx Zhc).names ["other","web","place"] [none,some 0,some 1]) (ZaH rfl T.b_range (Z7 Z8 (va 0) ZN)) Wo (BJ (Wd (Ye (kE.mono) trivial hr (Zf (Z7 Z8 (va 1) ZN) (Zf (va 2) (Zf (va 0) Zo)))))) (va 0)))
 Z2)
theorem Zcg:FnScope ["web","marked"] ["web"] (Zx Zbq):=YE
theorem ZfS (F:Fun K "all_near" "all_near" Zbq jX jN)(T:Txt mg)(j8:ZX P w K mg base 1 "marked_ties" 1 true Yb UR)(kO:ZX P w K mg base 2 "near" 2 true Yb JJ) :
  FnOk P w K mg base ZH 3 jX jN ["web"] (Z1 1 true Yb Zbp):=
 have jL:=Zcg.nd
 YR (own:=[]) F Zcg λcdv A outer s H E hr G hG=>
 (Zw (Yr (Yl jL rfl (qag rfl) (XH (Zf (Z7 Z8 (va 0) ZN) (Zf (Ye (j8.mono) trivial hr (Zf (va 0) Zo)) Zo)))))
 (Zw (Yd (V7 (bk ["web","marked"] (Zx Zbq).names ["place","marked"] [none,some 1]) (ZaH rfl T.b_range (Z7 Z8 (va 0) ZN)) Wo V2 (Ye (kO.mono) trivial hr (Zf (va 1) (Zf (va 0) Zo)))))
 Z2))
theorem ZaE:FnScope ["aparts","weights","place","places","others"] ["aparts","weights","place","places"] (Zx Zaj):=YE
theorem ZbX (F:Fun K "heaviest_with" "heaviest_with" Zaj jX jN)(T:Txt mg){Fs:List D->M D}{lv:Nat}(hlv:0<=lv)(jQ:ZX P w K mg base lv "heaviest_among" 3 false Yb Fs) :
  FnOk P w K mg base ZH (lv+1) jX jN ["aparts","weights","place","places"] (Z1 4 false Yb (Zae Fs)):=
 have jL:=ZaE.nd
 YR (own:=[]) F ZaE λcdv A outer s H E hr G hG=>
 (Zw (Yr (Be jL rfl (qz rfl) rfl (bk ["aparts","weights","place","places","others"] (Zx Zaj).names ["other","place","aparts"] [none,some 2,some 0]) (VR (va 3)) (λ_ _ _ _ _ _=>Wo) (λ_ _ _ _ _ _=>(BJ (X1.pt (Bq (Y7 (Vt hr.units) (va 0) (va 1)) (ZcQ (Y7 (ZiD hr.units) (va 0) (Z7 Z8 (va 2) (va 1)))))))) (λ_ _ _ _ _ _=>(va 0))))
 (Zw (Yd (PD.weak (Yu Wu (XS (Zf (va 2) Zo)) (Ye (jQ) trivial hr (Zf (va 0) (Zf (va 1) (Zf (va 4) Zo)))))))
 Z2))
theorem ZaZ:FnScope ["aparts","place","places"] ["aparts","place","places"] (Zx Zaz):=YE
theorem Zdo (F:Fun K "apart_among" "apart_among" Zaz jX jN)(T:Txt mg) :
  FnOk P w K mg base ZH 1 jX jN ["aparts","place","places"] (Z1 3 true Yb Zax):=
 have jL:=ZaZ.nd
 YR (own:=[]) F ZaZ λcdv A outer s H E hr G hG=>
 (Zw (Yd (V7 (bk ["aparts","place","places"] (Zx Zaz).names ["other","aparts","place"] [none,some 0,some 1]) (VR (va 2)) Wo (BJ (Y7 (ZgK hr.units) (va 0) (Z7 Z8 (va 1) (va 2)))) (va 0)))
 Z2)
theorem Zdp:FnScope ["weights","places"] ["weights","places"] (Zx ZbW):=YE
theorem Zhd (F:Fun K "weighed" "weighed" ZbW jX jN)(T:Txt mg) :
  FnOk P w K mg base ZH 1 jX jN ["weights","places"] (Z1 2 false Yb Bi):=
 have jL:=Zdp.nd
 YR (own:=[]) F Zdp λcdv A outer s H E hr G hG=>
 (Zw (Yd (PD.weak (Wb (Zi9 rfl) rfl T.b_sum TF.boot_sum (Zf (V7 (bk ["weights","places"] (Zx ZbW).names ["place","weights"] [none,some 0]) (VR (va 1)) Wo V2 (Z7 Z8 (va 1) (va 0))) Zo))))
 Z2)
theorem Zav:FnScope ["aparts","weights","places","rows","i","counts","branching","with_it","without_it"] ["aparts","weights","places"] (Zx Bc):=YE
theorem ZbG (F:Fun K "heaviest_among" "heaviest_among" Bc jX jN)(T:Txt mg){Fs:List D->M D}{lv:Nat}(hlv:1<=lv)(ky:ZX P w K mg base 1 "apart_among" 3 true Yb Zax)(jQ:ZX P w K mg base lv "heaviest_among" 3 false Yb Fs)(kf:ZX P w K mg base (lv+1) "heaviest_with" 4 false Yb (Zae Fs))(kz:ZX P w K mg base 1 "weighed" 2 false Yb Bi) :
  FnOk P w K mg base ZH (lv+2) jX jN ["aparts","weights","places"] (Z1 3 false Yb (runB 9 3 (ZaB Fs))):=
 have jL:=Zav.nd
 YR (own:=[]) F Zav λcdv A outer s H E hr G hG=>
 (Zw (X2 (Y7 (Ww hr.units) (va 2) (XS Zo))
 (Zw (Yd (PD.weak (XS Zo)))
 Z2)
 YA)
 (Zw (Yr (Be jL rfl (qz rfl) rfl (bk ["aparts","weights","places","rows","i","counts","branching","with_it","without_it"] (Zx Bc).names ["place","aparts","places"] [none,some 0,some 2]) (VR (va 2)) (λ_ _ _ _ _ _=>Wo) (λ_ _ _ _ _ _=>V2) (λ_ _ _ _ _ _=>(Ye (ky.mono (h:=qI (by decide) (yQ hlv))) trivial hr (Zf (va 1) (Zf (va 0) (Zf (va 2) Zo)))))))
 (Zw (VV (own:=[]) zt rfl (Jn rfl T.b_range (Uj T.b_len (Zf (va 2) Zo))) (VQ jL rfl (qz rfl) (by decide))
 (Zw (X2 (Y7 (ZgB) (Ye (kz.mono (h:=qI (by decide) (yQ hlv))) trivial hr (Zf (va 1) (Zf (Z7 Z8 (va 3) (va 4)) Zo))) (Z7 Z8 (va 1) (Z7 Z8 (va 2) (va 4))))
 (Zw (Yd (Ye (kf) trivial hr (Zf (va 0) (Zf (va 1) (Zf (Z7 Z8 (va 2) (va 4)) (Zf (va 2) Zo))))))
 Z2)
 YA)
 Z2))
 (Zw (Yr (Be jL rfl (qz rfl) rfl (bk ["aparts","weights","places","rows","i","counts","branching","with_it","without_it"] (Zx Bc).names ["row"] [none]) (VR (va 3)) (λ_ _ _ _ _ _=>Wo) (λ_ _ _ _ _ _=>V2) (λ_ _ _ _ _ _=>(Uj T.b_len (Zf (va 0) Zo)))))
 (Zw (Yr (Yl jL rfl (qag rfl) (Z7 Z8 (va 2) (Zk0 (va 5) (Wb (ZgX rfl) rfl T.b_max TF.boot_max (Zf (va 5) Zo))))))
 (Zw (Yr (Yl jL rfl (qz rfl) (Ye (kf) trivial hr (Zf (va 0) (Zf (va 1) (Zf (va 6) (Zf (va 2) Zo)))))))
 (Zw (Yr (Yl jL rfl (qz rfl) (Ye (jQ.mono (h:=qbM _)) trivial hr (Zf (va 0) (Zf (va 1) (Zf (V7 (bk ["aparts","weights","places","rows","i","counts","branching","with_it","without_it"] (Zx Bc).names ["other","branching"] [none,some 6]) (VR (va 2)) Wo (BJ (Y7 (Vt hr.units) (va 0) (va 1))) (va 0)) Zo))))))
 (Zw (Yd (ZoB (Y7 (Zj5) (Ye (kz.mono (h:=qI (by decide) (yQ hlv))) trivial hr (Zf (va 1) (Zf (va 7) Zo))) (Ye (kz.mono (h:=qI (by decide) (yQ hlv))) trivial hr (Zf (va 1) (Zf (va 8) Zo)))) (va 7) (va 8)))
 Z2))))))))
theorem ZaF:FnScope ["web","weights","aparts"] ["web","weights"] (Zx Zai):=YE
theorem ZbY (F:Fun K "heaviest_knot" "heaviest_knot" Zai jX jN)(T:Txt mg){L:List (Addr×Str)}(lo:VI L)(kF:ZX P w K mg base 3 "all_near" 1 true Yb Zbp)(jQ:ZX P w K mg base 53 "heaviest_among" 3 false Yb (Bb 26))(kL:ZX P w K mg base 6 "turned" 1 false (XT L) Jw) :
  FnOk P w K mg base ZH 54 jX jN ["web","weights"] (Z1 2 true (XT L) Zah):=
 have jL:=ZaF.nd
 YR (own:=[]) F ZaF λcdv A outer s H E hr G hG=>
 have hT:XT L G:=hG
 (Zw (Yr (Be jL rfl (qz rfl) rfl (bk ["web","weights","aparts"] (Zx Zai).names ["row"] [none]) (VR (Ye (kF.mono) trivial hr (Zf (Ye (kL.mono) hT hr (Zf (va 0) Zo)) Zo))) (λ_ _ _ _ _ _=>Wo) (λ_ _ _ _ _ _=>V2) (λ_ _ _ _ _ _=>(VO (ZgJ rfl hr.units) rfl T.b_dict TF.boot_dict (Zf (V7 (bk ["row"] [((qaz ".0"),PySem.NameKind.local),((qaz "row"),PySem.NameKind.local),((qaz "dict"),PySem.NameKind.globalImplicit)] ["other"] [none]) (VR (va 0)) Wo V2 (XH (Zf (va 0) (Zf X5 Zo)))) Zo)))))
 (Zw (Yd (VO (Zam) rfl T.b_tuple TF.boot_tuple (Zf (Wb (ZeB) rfl T.b_sorted TF.boot_sorted (Zf (Ye (jQ.mono) trivial hr (Zf (va 2) (Zf (va 1) (Zf (Zan rfl rfl T.b_range rfl T.b_list TF.boot_list (Z7 Z8 (va 0) ZN)) Zo)))) Zo)) Zo)))
 Z2))
theorem Zh8:FnScope ["web","knot"] ["web"] (Zx Zlf):=YE
theorem ZmB (F:Fun K "most" "most" Zlf jX jN)(T:Txt mg){L:List (Addr×Str)}(lo:VI L)(kj:ZX P w K mg base 54 "heaviest_knot" 2 true (XT L) Zah) :
  FnOk P w K mg base ZH 55 jX jN ["web"] (Z1 1 true (XT L) JM):=
 have jL:=Zh8.nd
 YR (own:=[]) F Zh8 λcdv A outer s H E hr G hG=>
 have hT:XT L G:=hG
 (Zw (Yr (Yl jL rfl (qz rfl) (Ye (kj.mono) hT hr (Zf (va 0) (Zf (Yu Zlc (XH (Zf ZN Zo)) (Z7 Z8 (va 0) ZN)) Zo)))))
 (Zw (Yd (XH (Zf (Uj T.b_len (Zf (va 1) Zo)) (Zf (va 1) Zo))))
 Z2))
theorem Zch:FnScope ["_law_pen","_law_most","_law_n","_law_way","_law_rate","_law_some","_law_ties","_law_a","_law_b","_law_tied"] ["_law_pen","_law_most"] (Zx Zbr):=YE
theorem ZfT (F:Fun K "_law_web" "_law_web" Zbr jX jN)(T:Txt mg){L:List (Addr×Str)}(lo:VI L)(jM:ZX P w K mg base 2 "_law_next" 2 true (XX (Wl K) L) YH) :
  FnOk P w K mg base ZH 3 jX jN ["_law_pen","_law_most"] (Z1 2 true (XX (Wl K) L) Bg):=
 have jL:=Zch.nd
 YR (own:=[]) F Zch λcdv A outer s H E hr G hG=>
 have hT:XT L G:=jx lo hG
 (Zw (Yr (Yl jL rfl (qz rfl) (Ye (jM.mono) hG hr (Zf (va 0) (Zf (Yu Wu (va 1) ZN) Zo)))))
 (Zw (Zl4 (own:=[]) rfl jL rfl rfl (by decide) (by decide) (by decide) rfl rfl (Zf (Ye (jM.mono) hG hr (Zf (va 0) (Zf ZN Zo))) (Zf (Yu Wu ZN (Ye (jM.mono) hG hr (Zf (va 0) (Zf ZN Zo)))) Zo)) (by with_unfolding_all rfl))
 (Zw (Yr (Be jL rfl (qz rfl) rfl (bk ["_law_pen","_law_most","_law_n","_law_way","_law_rate","_law_some","_law_ties","_law_a","_law_b","_law_tied"] (Zx Zbr).names ["_law_place","_law_pen"] [none,some 0]) (ZaH rfl T.b_range (va 2)) (λ_ _ _ _ _ _=>Wo) (λ_ _ _ _ _ _=>V2) (λ_ _ _ _ _ _=>(Ye (jM.mono) hG hr (Zf (va 1) (Zf ZN Zo))))))
 (Y4 (own2:=[6]) (ZcT (Yl jL rfl (qz rfl) (XS Zo)))
 (Y4 (own2:=[6]) (VV (own:=[6]) zt rfl (Jn rfl T.b_range (va 2)) (VQ jL rfl (qz rfl) (by decide))
 (Y4 (own2:=[6]) (VV (own:=[6]) zt rfl (Zb6 rfl T.b_range (Yu Wu (va 7) ZN) (va 2)) (VQ jL rfl (qz rfl) (by decide))
 (Y4 (own2:=[6]) (ZcS (own:=[6]) (Yl jL rfl (qz rfl) (Vr (ZgC hr.units0) (Ye (jM.mono) hG hr (Zf (va 0) (Zf ZN Zo))) (va 4))))
 (Y4 (own2:=[6]) (BA (own':=[6]) (X1.pt (Bq (Y7 (Ww hr.units) (va 3) ZN) (Bq (Y7 (Ww hr.units) (Z7 Z8 (va 5) (va 7)) ZN) (ZcQ (Y7 (Ww hr.units) (Z7 Z8 (va 5) (va 8)) ZN)))))
 (Y4 (own2:=[6]) (ZcS (own:=[6]) (Yl jL rfl (qz rfl) X5))
 (YA (own:=[6])))
 YA)
 (Y4 (own2:=[6]) (BA (own':=[6]) (Y7 (Ww hr.units) (va 3) ZN)
 (Y4 (own2:=[6]) (ZcS (own:=[6]) (Yl jL rfl (qz rfl) (ZoA (Vr (Ww hr.units) (Yu Zcw (va 8) (va 7)) ZN) (Zek (Vr (Ww hr.units) (Yu Zcw (va 8) (va 7)) (Yu Zcw (va 2) ZN))))))
 (YA (own:=[6])))
 YA)
 (Y4 (own2:=[6]) (BA (own':=[6]) (Wd (va 9))
 (Y4 (own2:=[6]) (ZcU (own:=[6]) (i:=6) (by decide) (XH (Zf (va 7) (Zf (va 8) Zo))) (λ_ h=>ZbQ (pv 6) h))
 (YA (own:=[6])))
 YA)
 (YA (own:=[6])))))))
 (YA (own:=[6]))))
 (Y4 (own2:=[6]) (Yd (XH (Zf (va 2) (Zf (VO (Zam) rfl T.b_tuple TF.boot_tuple (Zf (va 6) Zo)) Zo))))
 (YA (own:=[6]))))))))
theorem ZbH:FnScope ["_law_web_here","_law_a","_law_b"] ["_law_web_here","_law_a","_law_b"] (Zx Zcd):=YE
theorem ZeO (F:Fun K "_law_tied" "_law_tied" Zcd jX jN)(T:Txt mg) :
  FnOk P w K mg base ZH 1 jX jN ["_law_web_here","_law_a","_law_b"] (Z1 3 false Yb W2):=
 have jL:=ZbH.nd
 YR (own:=[]) F ZbH λcdv A outer s H E hr G hG=>
 (Zw (Yd (PD.weak (Vr (ZgK hr.units) (XH (Zf (Wb (Zbh rfl) rfl T.b_min TF.boot_min (Zf (va 1) (Zf (va 2) Zo))) (Zf (Wb (Zbg rfl) rfl T.b_max TF.boot_max (Zf (va 1) (Zf (va 2) Zo))) Zo))) (Z7 Z8 (va 0) ZN))))
 Z2)
theorem ZaG:FnScope ["_law_told","_law_v"] ["_law_told","_law_v"] (Zx ZaS):=YE
theorem ZbZ (F:Fun K "_law_is_place" "_law_is_place" ZaS jX jN)(T:Txt mg) :
  FnOk P w K mg base ZH 1 jX jN ["_law_told","_law_v"] (Z1 2 false Yb Wa):=
 have jL:=ZaG.nd
 YR (own:=[]) F ZaG λcdv A outer s H E hr G hG=>
 (Zw (Yd (Bz (Wb (Za3) rfl T.b_isinstance TF.boot_isinstance (Zf (va 1) (Zf (ZhH rfl T.b_int TF.boot_int) Zo))) (Bz (Zel (Wb (Za3) rfl T.b_isinstance TF.boot_isinstance (Zf (va 1) (Zf (ZhH rfl T.b_bool TF.boot_bool) Zo)))) (Zek (Zjc (ZgB) (ZgC hr.units0) ZN (va 1) (Z7 Z8 (va 0) ZN))))))
 Z2)
theorem Zci:FnScope ["thing"] ["thing"] (Zx Zdi):=YE
theorem ZfU (F:Fun K "is_whole" "is_whole" Zdi jX jN)(T:Txt mg) :
  FnOk P w K mg base ZH 1 jX jN ["thing"] (Z1 1 false Yb ZaI):=
 have jL:=Zci.nd
 YR (own:=[]) F Zci λcdv A outer s H E hr G hG=>
 (Zw (Yd (Bz (Wb (Za3) rfl T.b_isinstance TF.boot_isinstance (Zf (va 0) (Zf (ZhH rfl T.b_int TF.boot_int) Zo))) (Zek (Zel (Wb (Za3) rfl T.b_isinstance TF.boot_isinstance (Zf (va 0) (Zf (ZhH rfl T.b_bool TF.boot_bool) Zo)))))))
 Z2)
theorem Zcj:FnScope ["n","thing"] ["n","thing"] (Zx Zdk):=YE
theorem ZfV (F:Fun K "is_place" "is_place" Zdk jX jN)(T:Txt mg)(kG:ZX P w K mg base 1 "is_whole" 1 false Yb ZaI) :
  FnOk P w K mg base ZH 2 jX jN ["n","thing"] (Z1 2 false Yb WH):=
 have jL:=Zcj.nd
 YR (own:=[]) F Zcj λcdv A outer s H E hr G hG=>
 (Zw (Yd (Bz (Ye (kG.mono) trivial hr (Zf (va 1) Zo)) (Bz (Vr (ZgB) ZN (va 1)) (Zek (Vr (ZgC hr.units0) (va 1) (va 0))))))
 Z2)
noncomputable def Za0:Zc->M Out:=(Zm1 0 1
 (Zh (XW (Xt (dC (.int 4))) (ZZ 2)
 (Zh (ZF 3 (Zd Zq (Za 1) (Za 2)))
 (Zh (JV 4 (Z9 (Zb (WR [true,false,false,false] 3) (Zb (WR [false,true,false,false] 3) (Zb (WR [false,false,true,false] 3) Ze)))))
 (Zh (UD 4 (fun ρ=>(WR [false,false,false,true] 3) (Y1 [4] ρ)))
 (Zh (Z6 (Zu (Zd Yo (Za 4) (Yw [none,some 2] (Xt (dC (.int 4))) (ZZ 0) YN (Zd Ya (Za 0) (Za 1)))))
 (Zh (ZM (dC (.bl false)))
 Zm)
 Zm)
 (Zh (Z6 (X0 (Wg (Zu (WR [true,true,true,true] 3))) (Wg (Zu (WR [true,true,true,true] 3))))
 (Zh (ZM (dC (.bl false)))
 Zm)
 Zm)
 Zm))))))
 (Zh (ZM (dC (.bl true)))
 Zm)))
noncomputable def Ba:List D->M D:=runB 5 1 Za0
theorem Zaf:FnScope ["_law_text","_law_made","_law_k","_law_one","_law_kinds"] ["_law_text"] (Zx Zac):=YE
theorem ZaT (F:Fun K "_law_classes_right" "_law_classes_right" Zac jX jN)(T:Txt mg){cT cN cI cL cR:Addr}(x:ErrX K mg cT cN cI cL cR) :
  FnOk P w K mg base ZH 1 jX jN ["_law_text"] (Z1 1 true Yb Ba):=
 have jL:=Zaf.nd
 YR (own:=[]) F Zaf λcdv A outer s H E hr G hG=>
 (ZiX (i:=1) (j:=0) x.kNoPlace x.kTied x.kLoose x.kRound rfl rfl rfl rfl x.mNoPlace x.mTied x.mLoose x.mRound (λ_=>pv 0) jL rfl (qz rfl) (λys hys=>
 (Zw (VV (own:=[]) zt rfl (Jn rfl T.b_range ZN) (VQ jL rfl (qag rfl) (by decide))
 (Zw (Yr (Yl jL rfl (qz rfl) (Z7 Z8 (va 1) (va 2))))
 (Y4 (own2:=[4]) (ZcT (Yl jL rfl (qz rfl) (XS (Zf (W7 (i:=3) rfl T.b_isinstance (pv 3) (VU (v:=.ref cN) rfl x.mNoPlace rfl) (λ_ _ _ q=>q) (x.isNoPlace hys)) (Zf (W7 (i:=3) rfl T.b_isinstance (pv 3) (VU (v:=.ref cI) rfl x.mTied rfl) (λ_ _ _ q=>q) (x.isTied hys)) (Zf (W7 (i:=3) rfl T.b_isinstance (pv 3) (VU (v:=.ref cL) rfl x.mLoose rfl) (λ_ _ _ q=>q) (x.isLoose hys)) Zo))))))
 (Y4 (own2:=[4]) (ZkP (own:=[4]) (i:=4) (by decide) (pv 4) (W7 (i:=3) rfl T.b_isinstance (pv 3) (VU (v:=.ref cR) rfl x.mRound rfl) (λ_ _ _ q=>q) (x.isRound hys)))
 (Zw (Y3.frz (own:=[4]) (own2:=[]) (X2 (Y7 (Vt hr.units) (va 4) (V7 (bk ["_law_text","_law_made","_law_k","_law_one","_law_kinds"] (Zx Zac).names ["_law_j","_law_k"] [none,some 2]) (ZaH rfl T.b_range ZN) Wo V2 (Vr (Ww hr.units) (va 0) (va 1))))
 (Zw (Yd X5)
 Z2)
 YA))
 (Zw (X2 (X1.pt (JF (Ur (Wd (W7 (i:=3) rfl T.b_isinstance (pv 3) (VU (v:=.ref cT) rfl x.mTieError rfl) (λ_ _ _ q=>q) (x.isTieError hys)))) (Bp (Ur (Wd (W7 (i:=3) rfl T.b_isinstance (pv 3) (Zee (v:=.ty "ValueError") rfl x.ve rfl rfl) (λ_ _ _ q=>q) (x.isValueError hys)))))))
 (Zw (Yd X5)
 Z2)
 YA)
 Z2))))))
 (Zw (Yd X5)
 Z2))))
theorem ZaQ:FnScope ["self","a","b"] ["self","a","b"] (Zx ZaX):=YE
theorem ZeP (F:Fun K "pair_of" "Kept.pair_of" ZaX jX jN)(T:Txt mg){L:List (Addr×Str)}{C:Addr}(kc:KCl K C)(kd:ZX P w K mg base 2 "is_place" 2 false Yb WH) :
  FnOk P w K mg base ZH 3 jX jN ["self","a","b"] (Z1 3 false (GK L C) W3):=by
 have jL:=ZaQ.nd;refine YR (own:=[]) F ZaQ λcdv A outer s H E hr G hG=>?_;obtain⟨G0,k,rfl,hrd,rfl,hT⟩:=hG;have hK:GK L k.C (Zs G0 (Zn k)):=⟨G0,k,rfl,hrd,rfl,hT⟩;exact(Zw (X2 (X1.pt (JF (Ur (Wd (Ye (kd.mono) trivial hr (Zf (Bm (i:=0) (pv 0) kc.cl kc.n) (Zf (va 1) Zo))))) (Bp (Ur (Wd (Ye (kd.mono) trivial hr (Zf (Bm (i:=0) (pv 0) kc.cl kc.n) (Zf (va 2) Zo))))))))
 Za6
 YA)
 (Zw (X2 (Y7 (Ww hr.units) (va 1) (va 2))
 Za6
 YA)
 (Zw (Yd (PD.weak (XH (Zf (Wb (Zbh rfl) rfl T.b_min TF.boot_min (Zf (va 1) (Zf (va 2) Zo))) (Zf (Wb (Zbg rfl) rfl T.b_max TF.boot_max (Zf (va 1) (Zf (va 2) Zo))) Zo)))))
 Z2)))
theorem ZfW:FnScope ["self"] ["self"] (Zx Zh6):=YE
theorem Zlg (F:Fun K "web" "Kept.web" Zh6 jX jN)(T:Txt mg){L:List (Addr×Str)}{C:Addr}(kc:KCl K C) :
  FnOk P w K mg base ZH 1 jX jN ["self"] (Z1 1 false (GK L C) WN):=by
 have jL:=ZfW.nd;refine YR (own:=[]) F ZfW λcdv A outer s H E hr G hG=>?_;obtain⟨G0,k,rfl,hrd,rfl,hT⟩:=hG;have hK:GK L k.C (Zs G0 (Zn k)):=⟨G0,k,rfl,hrd,rfl,hT⟩;exact(Zw (Yd (PD.weak (XH (Zf (Bm (i:=0) (pv 0) kc.cl kc.n) (Zf (VO (Zam) rfl T.b_tuple TF.boot_tuple (Zf (ZfE (i:=0) rfl rfl T.b_sorted TF.boot_sorted (pv 0) kc.cl kc.ties) Zo)) Zo)))))
 Z2)
theorem Zd4:FnScope ["self"] ["self"] (Zx ZfP):=YE
theorem Zje (F:Fun K "most" "Kept.most" ZfP jX jN)(T:Txt mg){L:List (Addr×Str)}{C:Addr}(kc:KCl K C)(km:YQ P w K mg base C 1 "web" 1 (GK L C) WN)(kB:ZX P w K mg base 55 "most_most" 1 true (XT L) JM) :
  FnOk P w K mg base ZH 56 jX jN ["self"] (Z1 1 false (GK L C) Jx):=by
 have jL:=Zd4.nd;refine YR (own:=[]) F Zd4 λcdv A outer s H E hr G hG=>?_;obtain⟨G0,k,rfl,hrd,rfl,hT⟩:=hG;have hK:GK L k.C (Zs G0 (Zn k)):=⟨G0,k,rfl,hrd,rfl,hT⟩;exact(Zw (Yd (Z7 Z8 (Ye (kB.mono) hT hr (Zf (J3 (i:=0) km hK hr kc (pv 0)) Zo)) ZN))
 Z2)
theorem Zaw:FnScope ["self","pair"] ["self","pair"] (Zx ZaD):=YE
theorem ZbI (F:Fun K "exchange_tie" "Kept.exchange_tie" ZaD jX jN)(T:Txt mg){L:List (Addr×Str)}{C:Addr}(kc:KCl K C) :
  FnOk P w K mg base ZH 1 jX jN ["self","pair"] (Z1 2 false (GK L C) UQ):=by
 have jL:=Zaw.nd;refine YR (own:=[]) F Zaw λcdv A outer s H E hr G hG=>?_;obtain⟨G0,k,rfl,hrd,rfl,hT⟩:=hG;have hK:GK L k.C (Zs G0 (Zn k)):=⟨G0,k,rfl,hrd,rfl,hT⟩;exact(Zw (X2 (Zbn (i:=0) (L2.hu_of hr) (va 1) (pv 0) kc.cl kc.ties)
 (Zw (ZfG (i:=0) hrd (L2.hu_of hr) (va 1) (pv 0) kc.cl kc.ties ⟨rfl,rfl,rfl,rfl⟩)
 Z2)
 (Zw (ZfF (i:=0) hrd (L2.hu_of hr) (va 1) (pv 0) kc.cl kc.ties)
 Z2))
 Z2)
theorem Zck:FnScope ["self","deed","pair","before"] ["self","deed","pair"] (Zx Zdm):=YE
theorem ZfX (F:Fun K "change" "Kept.change" Zdm jX jN)(T:Txt mg){L:List (Addr×Str)}{C:Addr}(kc:KCl K C)(jT:YQ P w K mg base C 1 "exchange_tie" 2 (GK L C) UQ)(kH:YQ P w K mg base C 56 "most" 1 (GK L C) Jx) :
  FnOk P w K mg base ZH 57 jX jN ["self","deed","pair"] (Z1 3 false (GK L C) UW):=by
 have jL:=Zck.nd;refine YR (own:=[]) F Zck λcdv A outer s H E hr G hG=>?_;obtain⟨G0,k,rfl,hrd,rfl,hT⟩:=hG;have hK:GK L k.C (Zs G0 (Zn k)):=⟨G0,k,rfl,hrd,rfl,hT⟩;exact(Zw (Yr (Yl jL rfl (qz rfl) (J3 (i:=0) kH hK hr kc (pv 0))))
 (Zw (ZcR (Ul (i:=0) jT hK hr kc (pv 0) (Zf (va 2) Zo)))
 (Zw (ZeI (i:=0) hrd (XH (Zf (va 1) (Zf (va 2) Zo))) (pv 0) kc.cl kc.deeds)
 (Zw (Yd (PD.weak (Yu Zcw (J3 (i:=0) kH hK hr kc (pv 0)) (va 3))))
 Z2))))
theorem Jy:FnScope ["self","a","b","pair"] ["self","a","b"] (Zx ZcG):=YE
theorem Zlh (F:Fun K "tie" "Kept.tie" ZcG jX jN)(T:Txt mg){L:List (Addr×Str)}{C:Addr}(kc:KCl K C)(kh:YQ P w K mg base C 57 "change" 3 (GK L C) UW)(jP:YQ P w K mg base C 3 "pair_of" 3 (GK L C) W3) :
  FnOk P w K mg base ZH 58 jX jN ["self","a","b"] (Z1 3 false (GK L C) Ut):=by
 have jL:=Jy.nd;refine YR (own:=[]) F Jy λcdv A outer s H E hr G hG=>?_;obtain⟨G0,k,rfl,hrd,rfl,hT⟩:=hG;have hK:GK L k.C (Zs G0 (Zn k)):=⟨G0,k,rfl,hrd,rfl,hT⟩;exact(Zw (Yr (Yl jL rfl (qz rfl) (Ul (i:=0) jP hK hr kc (pv 0) (Zf (va 1) (Zf (va 2) Zo)))))
 (Zw (X2 (Zbn (i:=0) (L2.hu_of hr) (va 3) (pv 0) kc.cl kc.ties)
 Za6
 YA)
 (Zw (Yd (Ul (i:=0) kh hK hr kc (pv 0) (Zf Xg (Zf (va 3) Zo))))
 Z2)))
theorem Jo:FnScope ["self","a","b","pair"] ["self","a","b"] (Zx ZaP):=YE
theorem ZfY (F:Fun K "loosen" "Kept.loosen" ZaP jX jN)(T:Txt mg){L:List (Addr×Str)}{C:Addr}(kc:KCl K C)(kh:YQ P w K mg base C 57 "change" 3 (GK L C) UW)(jP:YQ P w K mg base C 3 "pair_of" 3 (GK L C) W3) :
  FnOk P w K mg base ZH 58 jX jN ["self","a","b"] (Z1 3 false (GK L C) Zdh):=by
 have jL:=Jo.nd;refine YR (own:=[]) F Jo λcdv A outer s H E hr G hG=>?_;obtain⟨G0,k,rfl,hrd,rfl,hT⟩:=hG;have hK:GK L k.C (Zs G0 (Zn k)):=⟨G0,k,rfl,hrd,rfl,hT⟩;exact(Zw (Yr (Yl jL rfl (qz rfl) (Ul (i:=0) jP hK hr kc (pv 0) (Zf (va 1) (Zf (va 2) Zo)))))
 (Zw (X2 (Zbd (i:=0) (L2.hu_of hr) (va 3) (pv 0) kc.cl kc.ties)
 Za6
 YA)
 (Zw (Yd (Ul (i:=0) kh hK hr kc (pv 0) (Zf Xg (Zf (va 3) Zo))))
 Z2)))
theorem Zd5:FnScope ["self","deed"] ["self"] (Zx ZfO):=YE
theorem Zjf (F:Fun K "back" "Kept.back" ZfO jX jN)(T:Txt mg){L:List (Addr×Str)}{C:Addr}(kc:KCl K C)(jT:YQ P w K mg base C 1 "exchange_tie" 2 (GK L C) UQ) :
  FnOk P w K mg base ZH 2 jX jN ["self"] (Z1 1 false (GK L C) Uq):=by
 have jL:=Zd5.nd;refine YR (own:=[]) F Zd5 λcdv A outer s H E hr G hG=>?_;obtain⟨G0,k,rfl,hrd,rfl,hT⟩:=hG;have hK:GK L k.C (Zs G0 (Zn k)):=⟨G0,k,rfl,hrd,rfl,hT⟩;exact(Zw (X2 (ZeJ (i:=0) hr.units (pv 0) kc.cl kc.deeds)
 (Zw (Yd (PD.weak Zgx))
 Z2)
 YA)
 (Zw (Yr (Yl jL rfl (qz rfl) (ZfH (i:=0) hrd (pv 0) kc.cl kc.deeds)))
 (Zw (ZcR (Ul (i:=0) jT hK hr kc (pv 0) (Zf (Z7 Z8 (va 1) ZN) Zo)))
 (Zw (Yd (Z7 Z8 (va 1) ZN))
 Z2))))
theorem ZeQ (F:Fun K "pair_of" "Kept.pair_of" ZaX jX jN)(T:Txt mg){L:List (Addr×Str)}{C cT cN cI cL cR:Addr}(kc:KCl K C)(x:ErrX K mg cT cN cI cL cR)(kd:ZX P w K mg base 2 "is_place" 2 false Yb WH) :
  FnOk P w K mg base (XE P w) 3 jX jN ["self","a","b"] (VJ 3 (GK L C) UT cN):=
 fnX F ZaQ λcdv A outer s H E hr G hG=>by
 obtain⟨G0,k,rfl,hrd,rfl,hT⟩:=hG;have hK:GK L k.C (Zs G0 (Zn k)):=⟨G0,k,rfl,hrd,rfl,hT⟩;exact ZkS (X1.pt (JF (Ur (Wd (Ye (kd.mono) trivial hr (Zf (Bm (i:=0) (pv 0) kc.cl kc.n) (Zf (va 1) Zo))))) (Bp (Ur (Wd (Ye (kd.mono) trivial hr (Zf (Bm (i:=0) (pv 0) kc.cl kc.n) (Zf (va 2) Zo)))))))) (Za7 x.kNoPlace x.mNoPlace) (ZgW (Y7 (Ww hr.units) (va 1) (va 2)) (Za7 x.kNoPlace x.mNoPlace))
theorem Zli (F:Fun K "tie" "Kept.tie" ZcG jX jN){L:List (Addr×Str)}{C cT cN cI cL cR:Addr}(kc:KCl K C)(x:ErrX K mg cT cN cI cL cR)(cr:WT P w K mg base C 3 "pair_of" 3 (GK L C) UT cN) :
  FnOk P w K mg base (XE P w) 58 jX jN ["self","a","b"] (VJ 3 (GK L C) VS cN):=
 fnX F Jy λcdv A outer s H E hr G hG=>by
 obtain⟨G0,k,rfl,hrd,rfl,hT⟩:=hG;have hK:GK L k.C (Zs G0 (Zn k)):=⟨G0,k,rfl,hrd,rfl,hT⟩;exact ZhV (i:=3) Jy.nd rfl (qz rfl) (pxM (i:=0) cr ZmZ hK hr kc (pv 0) (Zf (va 1) (Zf (va 2) Zo)) (λ_ h=>h))
theorem Zlj (F:Fun K "tie" "Kept.tie" ZcG jX jN)(T:Txt mg){L:List (Addr×Str)}{C cT cN cI cL cR:Addr}(kc:KCl K C)(x:ErrX K mg cT cN cI cL cR)(jP:YQ P w K mg base C 3 "pair_of" 3 (GK L C) W3) :
  FnOk P w K mg base (XE P w) 58 jX jN ["self","a","b"] (VJ 3 (GK L C) VT cI):=
 fnX F Jy λcdv A outer s H E hr G hG=>by
 obtain⟨G0,k,rfl,hrd,rfl,hT⟩:=hG;have hK:GK L k.C (Zs G0 (Zn k)):=⟨G0,k,rfl,hrd,rfl,hT⟩;exact Zfw (fr:=false) (own2:=[]) (Yr (Yl Jy.nd rfl (qz rfl) (Ul (i:=0) jP hK hr kc (pv 0) (Zf (va 1) (Zf (va 2) Zo))))) (ZgW (Zbn (i:=0) (L2.hu_of hr) (va 3) (pv 0) kc.cl kc.ties) (Za7 x.kTied x.mTied))
theorem ZfZ (F:Fun K "loosen" "Kept.loosen" ZaP jX jN){L:List (Addr×Str)}{C cT cN cI cL cR:Addr}(kc:KCl K C)(x:ErrX K mg cT cN cI cL cR)(cr:WT P w K mg base C 3 "pair_of" 3 (GK L C) UT cN) :
  FnOk P w K mg base (XE P w) 58 jX jN ["self","a","b"] (VJ 3 (GK L C) VM cN):=
 fnX F Jo λcdv A outer s H E hr G hG=>by
 obtain⟨G0,k,rfl,hrd,rfl,hT⟩:=hG;have hK:GK L k.C (Zs G0 (Zn k)):=⟨G0,k,rfl,hrd,rfl,hT⟩;exact ZhV (i:=3) Jo.nd rfl (qz rfl) (pxM (i:=0) cr ZmZ hK hr kc (pv 0) (Zf (va 1) (Zf (va 2) Zo)) (λ_ h=>h))
theorem Zf0 (F:Fun K "loosen" "Kept.loosen" ZaP jX jN)(T:Txt mg){L:List (Addr×Str)}{C cT cN cI cL cR:Addr}(kc:KCl K C)(x:ErrX K mg cT cN cI cL cR)(jP:YQ P w K mg base C 3 "pair_of" 3 (GK L C) W3) :
  FnOk P w K mg base (XE P w) 58 jX jN ["self","a","b"] (VJ 3 (GK L C) VN cL):=
 fnX F Jo λcdv A outer s H E hr G hG=>by
 obtain⟨G0,k,rfl,hrd,rfl,hT⟩:=hG;have hK:GK L k.C (Zs G0 (Zn k)):=⟨G0,k,rfl,hrd,rfl,hT⟩;exact Zfw (fr:=false) (own2:=[]) (Yr (Yl Jo.nd rfl (qz rfl) (Ul (i:=0) jP hK hr kc (pv 0) (Zf (va 1) (Zf (va 2) Zo))))) (ZgW (Zbd (i:=0) (L2.hu_of hr) (va 3) (pv 0) kc.cl kc.ties) (Za7 x.kLoose x.mLoose))
theorem ZdC:FnScope ["self","n"] ["self","n"] (Zx ZeL):=YE
theorem Zaa:FnScope ["_law_kept","_law_word","_law_a","_law_b","_law_caught","e","_law_kinds"] ["_law_kept","_law_word","_law_a","_law_b"] (Zx Xn):=YE
theorem Zf1 {ρ:Zc}{s:Pn}{w0:Str}{d0:Option D}(h:w0=qd "tie"):Zu (Zd Ya (Za 1) (dC (.str (qd "tie")))) (d0::some (.str w0) :: ρ) s=some (true,s):=by
 subst h;rfl
theorem Zdq {ρ:Zc}{s:Pn}{w0:Str}{d0:Option D}(h:w0≠qd "tie"):Zu (Zd Ya (Za 1) (dC (.str (qd "tie")))) (d0::some (.str w0) :: ρ) s=some (false,s):=by
 have e:Ya (.str w0) (.str (qd "tie"))=some (.bl false):=by
  have b:(w0==qd "tie")=false:=by simpa using h
  unfold Ya;rw[if_pos (show Vf (.str w0) (.str (qd "tie"))=true from rfl)];unfold ZB;rw[b]
 show Zk (λs=>Zk (Yy (some (D.str w0))) (λd=>Zk (ZL (D.str (qd "tie"))) λe=>Yy (Ya d e)) s) _ s=_;show Zk (Yy (Ya (D.str w0) (D.str (qd "tie")))) _ s=_;rw[e];rfl
noncomputable def Uu (bN bI bL:Bool):Zc->M Out:=(Zh (ZF 6 (Z9 (Zb (WR [bN] 4) (Zb (WR [bI] 4) (Zb (WR [bL] 4) Ze)))))
 (Zh (Z6 (X0 (Zu (WR [false] 4)) (X0 (Wg (Zu (WR [true] 4))) (Zu (Zd Yo (Zd Zh3 (Za 6) (dC (.bl true))) (dC (.int 1))))))
 (Zh (ZM (dC (.str (qd "odd"))))
 Zm)
 Zm)
 (Zh (ZM (Zd Zq (Z9 (Zb (dC (.str (qd "NoPlace"))) (Zb (dC (.str (qd "Tied"))) (Zb (dC (.str (qd "Loose"))) Ze)))) (Zd Zh4 (Za 6) (dC (.bl true)))))
 Zm)))
theorem Zh9 {cdv:Value}{A:xz}{outer:List Env}{s0:Shared}{H:Hp}{E:XK}{G:Gh}{cT cN cI cL cR c:Addr}{bN bI bL:Bool}(T:Txt mg)(x:ErrX K mg cT cN cI cL cR)(e:ErrC K cT cN cI cL cR c bN bI bL)(hr:Room 58 (A.deeper (envOfC "_law_caught_kind" (Zx Xn) s0.heap.objs.size jX cdv))){ys:List (Addr×Addr)}(hys:ys.map (·.2)=[c]) :
  Xp (Xh ZH P w K mg base ["_law_kept","_law_word","_law_a","_law_b","_law_caught","e","_law_kinds"] "_law_caught_kind" (Zx Xn) jX cdv A outer s0 H E).nox (Wm G ys) [] [] [] false ((Y6 Xn).drop 2) (Uu bN bI bL):=
 have jL:=Zaa.nd
 (Y4 (own2:=[]) (Yr (Yl jL rfl (qz rfl) (XS (Zf (W7 (i:=4) rfl T.b_isinstance (pv 4) (VU (v:=.ref cN) rfl x.mNoPlace rfl) (λ_ _ _ q=>q) (ErrC.is e.ck e.n hys (λ_ _ h _=>.cl h))) (Zf (W7 (i:=4) rfl T.b_isinstance (pv 4) (VU (v:=.ref cI) rfl x.mTied rfl) (λ_ _ _ q=>q) (ErrC.is e.ck e.i hys (λ_ _ h _=>.cl h))) (Zf (W7 (i:=4) rfl T.b_isinstance (pv 4) (VU (v:=.ref cL) rfl x.mLoose rfl) (λ_ _ _ q=>q) (ErrC.is e.ck e.l hys (λ_ _ h _=>.cl h))) Zo))))))
 (Y4 (own2:=[]) (BA (own':=[]) (X1.pt (JF (Wd (W7 (i:=4) rfl T.b_isinstance (pv 4) (VU (v:=.ref cR) rfl x.mRound rfl) (λ_ _ _ q=>q) (ErrC.is e.ck e.r hys (λ_ _ h _=>.cl h)))) (JF (Ur (Wd (W7 (i:=4) rfl T.b_isinstance (pv 4) (Zee (v:=.ty "ValueError") rfl x.ve rfl rfl) (λ_ _ _ q=>q) (ErrC.is e.ck e.v hys (λ_ _ h _=>.ty h))))) (Bp (Y7 (Vt hr.units) (Zi4 (By 6 (pv 6)) X5) ZN)))))
 (Y4 (own2:=[]) (Yd (PD.weak Xg))
 (YA (own:=[])))
 YA)
 (Y4 (own2:=[]) (Yd (Z7 Z8 (XS (Zf Xg (Zf Xg (Zf Xg Zo)))) (Zi5 (By 6 (pv 6)) X5)))
 (YA (own:=[])))))
theorem Zlk (F:Fun K "_law_caught_kind" "_law_caught_kind" Xn jX jN)(T:Txt mg){L:List (Addr×Str)}{C cT cN cI cL cR c f1:Addr}{fd1:xx}{ps1:List Str}{bN bI bL:Bool}{R:List D->M Unit}{txt:Str}(kc:KCl K C)(x:ErrX K mg cT cN cI cL cR)(e:ErrC K cT cN cI cL cR c bN bI bL)(FN:FnOk P w K mg base (XE P w) 58 f1 fd1 ps1 (VJ 3 (GK L C) R c))(hm:Meth K C "tie" f1)(hb:YC K fd1 ps1 [])
  (hden:∀s,Uu bN bI bL [none,none,none,none,some (.clo 0 []),none,none] s=some (.rt (.str txt),s)) {cdv:Value} {A:xz} {outer:List Env} {s0:Shared} {H:Hp} {E:XK} {G:Gh} {Hf:Hp} {w0:Str} {da db:D} {s s':Pn} {vs:List V} {Q:VK} (hr:Room 58 (A.deeper (envOfC "_law_caught_kind" (Zx Xn) s0.heap.objs.size jX cdv)))
  (hG:GK L C G) (e1:Zz G Hf H) (r:Zi G Hf [.clo 0 [],.str w0,da,db] vs) (st:G.st s H) (hw:w0=qd "tie") (hR:R [.clo 0 [],da,db] s=some ((),s')) (k':∀v Hf' H',Gr G Hf H Hf' H'->G.st s' H'->Zl G Hf' (.str txt) v->Q v H') :
  ∃t,YU (Xh ZH P w K mg base ["_law_kept","_law_word","_law_a","_law_b","_law_caught","e","_law_kinds"] "_law_caught_kind" (Zx Xn) jX cdv A outer s0 H E).nox (Y6 Xn) t/\t { nx:=λ_ H'=>Q .non H',rt:=Q } (start ["_law_kept","_law_word","_law_a","_law_b","_law_caught","e","_law_kinds"] vs) H:=by
 have nd:=Zaa.nd;have hGK:=hG;obtain⟨G0,k,rfl,hrd,rfl,hT⟩:=hG;obtain⟨v0,_,rfl,r0,rr⟩:=je.mp r;obtain⟨v1,_,rfl,r1,rr⟩:=je.mp rr;obtain⟨v2,v3,rfl,r2,r3⟩:=jl rr;obtain⟨tc,pc,qc⟩:=(Y7 (Ww hr.units) (va 1) Xg:Xd (Xh ZH P w K mg base ["_law_kept","_law_word","_law_a","_law_b","_law_caught","e","_law_kinds"] "_law_caught_kind" (Zx Xn) jX cdv A outer s0 H E).nox (Zs G0 (Zn k)) _ (Zu (Zd Ya (Za 1) (dC (.str (qd "tie"))))));obtain⟨ta,pa,qa⟩:=(Zf (va 2) (Zf (va 3) Zo):Xw (Xh ZH P w K mg base ["_law_kept","_law_word","_law_a","_law_b","_law_caught","e","_law_kinds"] "_law_caught_kind" (Zx Xn) jX cdv A outer s0 H E).nox (Zs G0 (Zn k)) _ (Zb (Za 2) (Zb (Za 3) Ze)));have rest:YU (Xh ZH P w K mg base ["_law_kept","_law_word","_law_a","_law_b","_law_caught","e","_law_kinds"] "_law_caught_kind" (Zx Xn) jX cdv A outer s0 H E).nox ((Y6 Xn).drop 2) (λE' σ H9=>∃ys:List (Addr×Addr),ys.map (·.2)=[c]/\V5 (Wm (Zs G0 (Zn k)) ys) [] [] [] false (Uu bN bI bL) E' σ H9):=by
  intro jJ s σ H D I ⟨ys,h1,kn,jO,H0,ρ,pn,out,pn',j,st,e',po⟩;obtain⟨t,p,q⟩:=Zh9 (G:=Zs G0 (Zn k)) T x e hr h1;exact p jJ s σ H D I (q kn jO H0 σ H ρ pn out pn' D j st e' po)
 refine⟨_,Xo (We (i:=4) nd rfl (qz rfl) Zgf) (Xo (ZhW (ie:=5) nd rfl rfl rfl rfl rfl x.mTieError (ZkR pc (ZfA (Zfz (pv 0) kc.cl hm FN hr hb pa)) Zk7) λv=>Vp (We (i:=4) nd rfl (qz rfl) (pv 5))) rest),?_⟩;have env:Yh (Zs G0 (Zn k)) Hf [some v0,some v1,some v2,some v3,some .non,none,none] [some (.clo 0 []),some (.str w0),some da,some db,some .non,none,none]:=λi d q=>by
  match i,q with
  | 0,q=>cases q;exact⟨_,rfl,r0⟩
  | 1,q=>cases q;exact⟨_,rfl,r1⟩
  | 2,q=>cases q;exact⟨_,rfl,r2⟩
  | 3,q=>cases q;exact⟨_,rfl,r3⟩
  | 4,q=>cases q;exact⟨_,rfl,jh.mpr rfl⟩
  | 5,q=>cases q
  | 6,q=>cases q
  | i+7,q=>simp at q
 refine qc _ Hf H _ s true s _ e1 env st (Zf1 hw) λjW H1 g1 j9=>?_;refine WW ?_;have env1:=env.ext g1.ff;obtain⟨s9,cc,es,l2,g0,q0,ec,kq⟩:=id j9;refine⟨_,WL (i:=0) env1 rfl,k.a,k.dx,_,rfl,kq.1,rfl,qa _ jW H1 _ s [da,db] s _ g1.fh env1 j9 rfl λvs2 jZ H2 g2 j6 r2'=>?_⟩;refine⟨Zs G0 (Zn k),jZ,[.clo 0 [],da,db],s,s',hGK,by rw[qV,<-r2'.length];rfl,g2.fh,Zi.cons ?_ r2',j6,hR,λHf3 H3 g3 st3=>⟨c,rfl,e.ex,λy hy=>?_⟩⟩
 ·unfold Zl
  exact⟨[],⟨rfl,rfl,rfl⟩,Zi.nil_iff.mpr rfl⟩
 have n1:¬(Zs G0 (Zn k)).fp y:=Gh.nofp st3 hy;have g4:=Gr.new (o:=.ext (ZT y c)) g3.fh hy n1;have s4:=Gh.grow (o:=.ext (ZT y c)) st3 hy;refine⟨.ref y,rfl,[(y,c)],rfl,upd Hf3 y (.ext (ZT y c)),upd Hf3 y (.ext (ZT y c)),upd H3 y (.ext (ZT y c)),[none,none,none,none,some (.clo 0 []),none,none],s',.rt (.str txt),s',⟨_,rfl,.refl _ _,.refl g4.fh,λi d _ q=>?_,λi d z=>by simp at z,λi d a di dj z=>by simp at z⟩,⟨s4,λp m=>?_⟩,hden s',λv Hf' H' g5 st5 r5 _=>?_⟩
 ·match i,q with
  | 0,q=>cases q
  | 1,q=>cases q
  | 2,q=>cases q
  | 3,q=>cases q
  | 4,q=>
   cases q
   refine⟨_,rfl,?_⟩;unfold Zl;exact⟨[],⟨rfl,(y,c),rfl,rfl⟩,Zi.nil_iff.mpr rfl⟩
  | 5,q=>cases q
  | 6,q=>cases q
  | i+7,q=>simp at q
 ·cases yh.mp m
  exact ZG
 ·exact k' v Hf' H' ((((g1.trans g2).trans g3).trans g4).trans ⟨g5.hh,g5.ff,g5.fh,g5.nw⟩) st5.1 (jg.mpr (jg.mp r5))
theorem Zd6 (F:Fun K "_law_caught_kind" "_law_caught_kind" Xn jX jN)(T:Txt mg){L:List (Addr×Str)}{C cT cN cI cL cR c f1:Addr}{fd1:xx}{ps1:List Str}{bN bI bL:Bool}{R:List D->M Unit}{txt:Str}(kc:KCl K C)(x:ErrX K mg cT cN cI cL cR)(e:ErrC K cT cN cI cL cR c bN bI bL)(FN:FnOk P w K mg base (XE P w) 58 f1 fd1 ps1 (VJ 3 (GK L C) R c))(hm:Meth K C "loosen" f1)(hb:YC K fd1 ps1 [])
  (hden:∀s,Uu bN bI bL [none,none,none,none,some (.clo 0 []),none,none] s=some (.rt (.str txt),s)) {cdv:Value} {A:xz} {outer:List Env} {s0:Shared} {H:Hp} {E:XK} {G:Gh} {Hf:Hp} {w0:Str} {da db:D} {s s':Pn} {vs:List V} {Q:VK} (hr:Room 58 (A.deeper (envOfC "_law_caught_kind" (Zx Xn) s0.heap.objs.size jX cdv)))
  (hG:GK L C G) (e1:Zz G Hf H) (r:Zi G Hf [.clo 0 [],.str w0,da,db] vs) (st:G.st s H) (hw:w0≠qd "tie") (hR:R [.clo 0 [],da,db] s=some ((),s')) (k':∀v Hf' H',Gr G Hf H Hf' H'->G.st s' H'->Zl G Hf' (.str txt) v->Q v H') :
  ∃t,YU (Xh ZH P w K mg base ["_law_kept","_law_word","_law_a","_law_b","_law_caught","e","_law_kinds"] "_law_caught_kind" (Zx Xn) jX cdv A outer s0 H E).nox (Y6 Xn) t/\t { nx:=λ_ H'=>Q .non H',rt:=Q } (start ["_law_kept","_law_word","_law_a","_law_b","_law_caught","e","_law_kinds"] vs) H:=by
 have nd:=Zaa.nd;have hGK:=hG;obtain⟨G0,k,rfl,hrd,rfl,hT⟩:=hG;obtain⟨v0,_,rfl,r0,rr⟩:=je.mp r;obtain⟨v1,_,rfl,r1,rr⟩:=je.mp rr;obtain⟨v2,v3,rfl,r2,r3⟩:=jl rr;obtain⟨tc,pc,qc⟩:=(Y7 (Ww hr.units) (va 1) Xg:Xd (Xh ZH P w K mg base ["_law_kept","_law_word","_law_a","_law_b","_law_caught","e","_law_kinds"] "_law_caught_kind" (Zx Xn) jX cdv A outer s0 H E).nox (Zs G0 (Zn k)) _ (Zu (Zd Ya (Za 1) (dC (.str (qd "tie"))))));obtain⟨ta,pa,qa⟩:=(Zf (va 2) (Zf (va 3) Zo):Xw (Xh ZH P w K mg base ["_law_kept","_law_word","_law_a","_law_b","_law_caught","e","_law_kinds"] "_law_caught_kind" (Zx Xn) jX cdv A outer s0 H E).nox (Zs G0 (Zn k)) _ (Zb (Za 2) (Zb (Za 3) Ze)));have rest:YU (Xh ZH P w K mg base ["_law_kept","_law_word","_law_a","_law_b","_law_caught","e","_law_kinds"] "_law_caught_kind" (Zx Xn) jX cdv A outer s0 H E).nox ((Y6 Xn).drop 2) (λE' σ H9=>∃ys:List (Addr×Addr),ys.map (·.2)=[c]/\V5 (Wm (Zs G0 (Zn k)) ys) [] [] [] false (Uu bN bI bL) E' σ H9):=by
  intro jJ s σ H D I ⟨ys,h1,kn,jO,H0,ρ,pn,out,pn',j,st,e',po⟩;obtain⟨t,p,q⟩:=Zh9 (G:=Zs G0 (Zn k)) T x e hr h1;exact p jJ s σ H D I (q kn jO H0 σ H ρ pn out pn' D j st e' po)
 refine⟨_,Xo (We (i:=4) nd rfl (qz rfl) Zgf) (Xo (ZhW (ie:=5) nd rfl rfl rfl rfl rfl x.mTieError (ZkR pc Zk7 (ZfA (Zfz (pv 0) kc.cl hm FN hr hb pa))) λv=>Vp (We (i:=4) nd rfl (qz rfl) (pv 5))) rest),?_⟩;have env:Yh (Zs G0 (Zn k)) Hf [some v0,some v1,some v2,some v3,some .non,none,none] [some (.clo 0 []),some (.str w0),some da,some db,some .non,none,none]:=λi d q=>by
  match i,q with
  | 0,q=>cases q;exact⟨_,rfl,r0⟩
  | 1,q=>cases q;exact⟨_,rfl,r1⟩
  | 2,q=>cases q;exact⟨_,rfl,r2⟩
  | 3,q=>cases q;exact⟨_,rfl,r3⟩
  | 4,q=>cases q;exact⟨_,rfl,jh.mpr rfl⟩
  | 5,q=>cases q
  | 6,q=>cases q
  | i+7,q=>simp at q
 refine qc _ Hf H _ s false s _ e1 env st (Zdq hw) λjW H1 g1 j9=>?_;refine XV ?_;have env1:=env.ext g1.ff;obtain⟨s9,cc,es,l2,g0,q0,ec,kq⟩:=id j9;refine⟨_,WL (i:=0) env1 rfl,k.a,k.dx,_,rfl,kq.1,rfl,qa _ jW H1 _ s [da,db] s _ g1.fh env1 j9 rfl λvs2 jZ H2 g2 j6 r2'=>?_⟩;refine⟨Zs G0 (Zn k),jZ,[.clo 0 [],da,db],s,s',hGK,by rw[qV,<-r2'.length];rfl,g2.fh,Zi.cons ?_ r2',j6,hR,λHf3 H3 g3 st3=>⟨c,rfl,e.ex,λy hy=>?_⟩⟩
 ·unfold Zl
  exact⟨[],⟨rfl,rfl,rfl⟩,Zi.nil_iff.mpr rfl⟩
 have n1:¬(Zs G0 (Zn k)).fp y:=Gh.nofp st3 hy;have g4:=Gr.new (o:=.ext (ZT y c)) g3.fh hy n1;have s4:=Gh.grow (o:=.ext (ZT y c)) st3 hy;refine⟨.ref y,rfl,[(y,c)],rfl,upd Hf3 y (.ext (ZT y c)),upd Hf3 y (.ext (ZT y c)),upd H3 y (.ext (ZT y c)),[none,none,none,none,some (.clo 0 []),none,none],s',.rt (.str txt),s',⟨_,rfl,.refl _ _,.refl g4.fh,λi d _ q=>?_,λi d z=>by simp at z,λi d a di dj z=>by simp at z⟩,⟨s4,λp m=>?_⟩,hden s',λv Hf' H' g5 st5 r5 _=>?_⟩
 ·match i,q with
  | 0,q=>cases q
  | 1,q=>cases q
  | 2,q=>cases q
  | 3,q=>cases q
  | 4,q=>
   cases q
   refine⟨_,rfl,?_⟩;unfold Zl;exact⟨[],⟨rfl,(y,c),rfl,rfl⟩,Zi.nil_iff.mpr rfl⟩
  | 5,q=>cases q
  | 6,q=>cases q
  | i+7,q=>simp at q
 ·cases yh.mp m
  exact ZG
 ·exact k' v Hf' H' ((((g1.trans g2).trans g3).trans g4).trans ⟨g5.hh,g5.ff,g5.fh,g5.nw⟩) st5.1 (jg.mpr (jg.mp r5))
noncomputable def X3 (RN RT:List D->M Unit)(x:Str):List D->M D:=λds s=>match RN ds s with
 | some p=>some (.str (qd "NoPlace"),p.2)
 | none=>match RT ds s with
  | some p=>some (.str x,p.2)
  | none=>none
noncomputable def WF:List D->M D:=λds=>match ds with
 | [.clo 0 [],.str w0,a,b]=>if w0=qd "tie" then X3 VS VT (qd "Tied") [.clo 0 [],a,b]else X3 VM VN (qd "Loose") [.clo 0 [],a,b]
 | _=>ZK
theorem Zjg {ds:List D}{s s':Pn}{d:D}(h:WF ds s=some (d,s')):∃w0 a b,ds=[.clo 0 [],.str w0,a,b]/\(if w0=qd "tie" then X3 VS VT (qd "Tied") [.clo 0 [],a,b]else X3 VM VN (qd "Loose") [.clo 0 [],a,b]) s=some (d,s'):=by
 unfold WF at h;split at h
 ·exact⟨_,_,_,rfl,h⟩
 ·cases h
theorem Zf2 {RN RT:List D->M Unit}{x:Str}{ds:List D}{s s':Pn}{d:D}(h:X3 RN RT x ds s=some (d,s')):(RN ds s=some ((),s')/\d=.str (qd "NoPlace"))∨(RT ds s=some ((),s')/\d=.str x):=by
 unfold X3 at h;split at h
 ·rename_i p e
  cases h
  exact .inl ⟨e,rfl⟩
 ·split at h
  ·rename_i p e
   cases h
   exact .inr ⟨e,rfl⟩
  ·cases h
theorem ZoN:∀s,Uu true false false [none,none,none,none,some (.clo 0 []),none,none] s=some (.rt (.str (qd "NoPlace")),s):=by
 exact λ_=>rfl
theorem ZoO:∀s,Uu false true false [none,none,none,none,some (.clo 0 []),none,none] s=some (.rt (.str (qd "Tied")),s):=by
 exact λ_=>rfl
theorem ZoP:∀s,Uu false false true [none,none,none,none,some (.clo 0 []),none,none] s=some (.rt (.str (qd "Loose")),s):=by
 exact λ_=>rfl
theorem Zbc (F:Fun K "_law_caught_kind" "_law_caught_kind" Xn jX jN)(T:Txt mg){L:List (Addr×Str)}{C cT cN cI cL cR:Addr}(kc:KCl K C)(x:ErrX K mg cT cN cI cL cR)
  (t1:WT P w K mg base C 58 "tie" 3 (GK L C) VS cN) (t2:WT P w K mg base C 58 "tie" 3 (GK L C) VT cI) (l1:WT P w K mg base C 58 "loosen" 3 (GK L C) VM cN) (l2:WT P w K mg base C 58 "loosen" 3 (GK L C) VN cL) :
  FnOk P w K mg base ZH 59 jX jN ["_law_kept","_law_word","_law_a","_law_b"] (Z1 4 false (GK L C) WF):=by
 refine F.ok Zaa (λvs H Q E h=>?_) λcdv A outer s0 H vs Q E hr h=>?_
 ·obtain⟨G,Hf,ds,pn,d,pn',_,e,_⟩:=h
  exact e
 ·obtain⟨G,Hf,ds,s,d,s',hG,el,e1,r,st,eF,k⟩:=h
  obtain⟨w0,a,b,rfl,eF2⟩:=Zjg eF;have hn:=ZoN;have hi:=ZoO;have hl:=ZoP;split at eF2
  ·rename_i hw
   rcases Zf2 eF2 with⟨hR,rfl⟩ | ⟨hR,rfl⟩
   ·obtain⟨f1,fd1,ps1,FN,hm,hb⟩:=t1
    exact Zlk F T kc x x.ofN FN hm hb hn hr hG e1 r st hw hR λv Hf' H' g st' r'=>k v Hf' H' g st' r' λz=>yo z
   ·obtain⟨f1,fd1,ps1,FN,hm,hb⟩:=t2
    exact Zlk F T kc x x.ofI FN hm hb hi hr hG e1 r st hw hR λv Hf' H' g st' r'=>k v Hf' H' g st' r' λz=>yo z
  ·rename_i hw
   rcases Zf2 eF2 with⟨hR,rfl⟩ | ⟨hR,rfl⟩
   ·obtain⟨f1,fd1,ps1,FN,hm,hb⟩:=l1
    exact Zd6 F T kc x x.ofN FN hm hb hn hr hG e1 r st hw hR λv Hf' H' g st' r'=>k v Hf' H' g st' r' λz=>yo z
   ·obtain⟨f1,fd1,ps1,FN,hm,hb⟩:=l2
    exact Zd6 F T kc x x.ofL FN hm hb hl hr hG e1 r st hw hR λv Hf' H' g st' r'=>k v Hf' H' g st' r' λz=>yo z
noncomputable def Zll:Zc->M Out:=(Zh (Z6 (Wg (Zu (Zt Ba (Zb (Zd Zq (Z9 (Zb (dC (.str (qd ""))) (Zb (dC (.str (qd "a"))) (Zb (dC (.str (qd "no such place"))) Ze)))) (Zt YH (Zb (Za 1) (Zb (dC (.int 3)) Ze)))) Ze))))
 (Zh (ZM (dC (.bl false)))
 Zm)
 Zm)
 (Zh (XW (Xt (dC (.int 3))) (ZZ 2)
 (Zh (ZF 3 (Zt Bg (Zb (Za 1) (Zb (dC (.int 6)) Ze))))
 (Zh (ZF 4 (Zd Zq (Za 3) (dC (.int 0))))
 (BO 5 (Za 4)
 (Zh (XW (Uw (Zd Zq (Za 3) (dC (.int 1)))) (Zj1 6 7)
 (Zh (U5 (YO Ut 5 (Zb (Za 7) (Zb (Za 6) Ze))))
 Zm))
 (Zh (XW (Xt (dC (.int 8))) (ZZ 8)
 (Zh (ZF 9 (Z9 (Zb (Za 4) (Zb (dC (.int (-1))) (Zb (dC .non) (Zb (dC (.bl true)) (Zb (dC (.bl false)) (Zb (dC (.str (qd "0"))) (Zb (dC (.str (qd ""))) (Zb (Yi (Zb (dC (.int 0)) Ze)) (Zb (Z9 (Zb (dC (.int 0)) Ze)) (Zb (Zd Wk (dC (.int 10)) (dC (.int 59))) (Zb (Jh (Zd Wk (dC (.int 10)) (dC (.int 59)))) (Zb (Zd YK (Za 4) (dC (.int 1))) Ze))))))))))))))
 (Zh (ZF 10 (Zd YK (Zd Vz (WG (Za 4)) (dC (.int 3))) (Za 9)))
 (Zh (ZF 6 (Zd Zq (Za 10) (Zt (XC YH) (Zb (Za 1) (Zb (ZO Y2 (Zb (Za 10) Ze)) Ze)))))
 (Zh (ZF 7 (Zd Zq (Za 10) (Zt (XC YH) (Zb (Za 1) (Zb (ZO Y2 (Zb (Za 10) Ze)) Ze)))))
 (Zh (ZF 11 (Zd Zq (Z9 (Zb (dC (.str (qd "tie"))) (Zb (dC (.str (qd "loosen"))) Ze))) (Zt (XC YH) (Zb (Za 1) (Zb (dC (.int 2)) Ze)))))
 (Zh (ZF 12 (dC (.str (qd "NoPlace"))))
 (Zh (Z6 (Xb (Zu (Zt Wa (Zb (Za 3) (Zb (Za 6) Ze)))) (Xb (Zu (Zt Wa (Zb (Za 3) (Zb (Za 7) Ze)))) (Zu (Zd Yo (Za 6) (Za 7)))))
 (Zh (ZF 11 (Zd Zq (Z9 (Zb (dC (.str (qd "tie"))) (Zb (dC (.str (qd "loosen"))) Ze))) (ZO Va (Zb (WB (Zt W2 (Zb (Za 3) (Zb (Za 6) (Zb (Za 7) Ze))))) Ze))))
 (Zh (ZF 12 (Zd Zq (Z9 (Zb (dC (.str (qd "Tied"))) (Zb (dC (.str (qd "Loose"))) Ze))) (ZO Va (Zb (Zd Ya (Za 11) (dC (.str (qd "loosen")))) Ze))))
 Zm))
 Zm)
 (Zh (Z6 (X0 (Zu (Zd Yo (Zt WF (Zb (Za 5) (Zb (Za 11) (Zb (Za 6) (Zb (Za 7) Ze))))) (Za 12))) (Zu (Zd Yo (YO WN 5 Ze) (Za 3))))
 (Zh (ZM (dC (.bl false)))
 Zm)
 Zm)
 Zm)))))))))
 (Zh (ZF 13 (YO Uq 5 Ze))
 (Zh (Z6 (Zu (Zd Yo (Za 13) (Zd Zq (Z9 (Zb (dC .non) (Zb (dC (.str (qd "tied"))) Ze))) (ZO Va (Zb (Zd Yo (Zd Zq (Za 3) (dC (.int 1))) (Yi Ze)) Ze)))))
 (Zh (ZM (dC (.bl false)))
 Zm)
 Zm)
 (Zh (Z6 (Zu (Zd Yo (YO WN 5 Ze) (Yi (Zb (Za 4) (Zb (BB (Zd Zq (Za 3) (dC (.int 1))) Zko (Zkp (dC (.int (-1))))) Ze)))))
 (Zh (ZM (dC (.bl false)))
 Zm)
 Zm)
 Zm)))))))))
 (Zh (ZM (dC (.bl true)))
 Zm)))
theorem Zhe:FnScope ["script","_law_pen","_law_turn","_law_told","_law_n","_law_kept","_law_a","_law_b","_law_k","_law_strange","_law_some","_law_word","_law_due","_law_back"] ["script"] (Zx s_law):=YE
theorem ZmC {cdv:Value}{A:xz}{outer:List Env}{s:Shared}{H:Hp}{E:XK}{L:List (Addr×Str)}(lo:VI L)(T:Txt mg)(hr:Room 59 (A.deeper (envOfC "law" (Zx s_law) s.heap.objs.size jX cdv))){C fi:Addr}{fdi:xx}(kc:KCl K C)(M_Kept:Mk K C fi)(F_init:FnOk P w K mg base ZH 1 fi fdi ["self","n"] (Zez C))(m_Kept:mg "Kept" = some (.ref C))(b_init:YC K fdi ["self","n"] [])(jV:ZX P w K mg base 59 "_law_caught_kind" 4 false (GK L C) WF)(jS:ZX P w K mg base 1 "_law_classes_right" 1 true Yb Ba)(jY:ZX P w K mg base 1 "_law_is_place" 2 false Yb Wa)(jM:ZX P w K mg base 2 "_law_next" 2 true (XX (Wl K) L) YH)(ki:ZX P w K mg base 1 "_law_tied" 3 false Yb W2)(kr:ZX P w K mg base 3 "_law_web" 2 true (XX (Wl K) L) Bg)(kC:YQ P w K mg base C 2 "back" 1 (GK L C) Uq)(kI:YQ P w K mg base C 58 "tie" 3 (GK L C) Ut)(km:YQ P w K mg base C 1 "web" 1 (GK L C) WN)(G:Gh)(hG:(XX (Wl K) L) G) :
  Xp (Xh ZH P w K mg base ["script","_law_pen","_law_turn","_law_told","_law_n","_law_kept","_law_a","_law_b","_law_k","_law_strange","_law_some","_law_word","_law_due","_law_back"] "law" (Zx s_law) jX cdv A outer s H E).nox G [] [] [] false ((Y6 s_law).drop 1) Zll:=
 have jL:=Zhe.nd;have hT:XT L G:=jx lo hG
 (Zw (X2 (Ur (Wd (Ye (jS.mono) trivial hr (Zf (Z7 Z8 (XS (Zf Xg (Zf Xg (Zf Xg Zo)))) (Ye (jM.mono) hG hr (Zf (va 1) (Zf ZN Zo)))) Zo))))
 (Zw (Yd (PD.weak X5))
 Z2)
 YA)
 (Zw (VV (own:=[]) zt rfl (Jn rfl T.b_range ZN) (VQ jL rfl (qz rfl) (by decide))
 (Zw (Yr (Yl jL rfl (qz rfl) (Ye (kr.mono) hG hr (Zf (va 1) (Zf ZN Zo)))))
 (Zw (Yr (Yl jL rfl (qz rfl) (Z7 Z8 (va 3) ZN)))
 (ZiP (i:=5) (ZfI hG) M_Kept F_init (hr.mono (by decide)) rfl m_Kept b_init (va 4) jL rfl (qz rfl) (λk hk hrd=>by
 subst hk;have hKT:Zky (XX (Wl K) L) (Zs G (Zn k)):=⟨G,Zn k,hG,ZfI hG,hrd,rfl⟩;have hT:=Zi1 hT hrd;have hK:GK L k.C (Zs G (Zn k)):=⟨G,k,rfl,hrd,rfl,hT⟩;have jM:=Zkz jM Zfx;have hG:=hKT;exact(Zw (VV (own:=[]) zt rfl (Vj.n (ZhE (Z7 Z8 (va 3) ZN))) (Zj2 rfl jL rfl rfl (qz rfl) (qz rfl) (by decide) (by decide) (hp:=Ze1 (Zct jL rfl (qz rfl)) (Ze1 (Zct jL rfl (qz rfl)) ZlK)))
 (Zw (ZcR (Ul (i:=5) kI hK hr kc (pv 5) (Zf (va 7) (Zf (va 6) Zo))))
 Z2))
 (Zw (VV (own:=[]) zt rfl (Jn rfl T.b_range ZN) (VQ jL rfl (qz rfl) (by decide))
 (Zw (Yr (Yl jL rfl (qz rfl) (XS (Zf (va 4) (Zf Zkt (Zf Zgx (Zf X5 (Zf X5 (Zf Xg (Zf Xg (Zf (XH (Zf ZN Zo)) (Zf (XS (Zf ZN Zo)) (Zf (Yu Zep ZN ZN) (Zf (Zmt (Yu Zep ZN ZN)) (Zf (Yu Wu (va 4) ZN) Zo)))))))))))))))
 (Zw (Yr (Yl jL rfl (qz rfl) (Yu Wu (Yu Zfo (Zan rfl rfl T.b_range rfl T.b_list TF.boot_list (va 4)) ZN) (va 9))))
 (Zw (Yr (Yl jL rfl (qz rfl) (Z7 Z8 (va 10) (Ye (jM.mono) hG hr (Zf (va 1) (Zf (Uj T.b_len (Zf (va 10) Zo)) Zo))))))
 (Zw (Yr (Yl jL rfl (qz rfl) (Z7 Z8 (va 10) (Ye (jM.mono) hG hr (Zf (va 1) (Zf (Uj T.b_len (Zf (va 10) Zo)) Zo))))))
 (Zw (Yr (Yl jL rfl (qz rfl) (Z7 Z8 (XS (Zf Xg (Zf Xg Zo))) (Ye (jM.mono) hG hr (Zf (va 1) (Zf ZN Zo))))))
 (Zw (Yr (Yl jL rfl (qz rfl) Xg))
 (Zw (X2 (X1.pt (Bq (Wd (Ye (jY.mono) trivial hr (Zf (va 3) (Zf (va 6) Zo)))) (Bq (Wd (Ye (jY.mono) trivial hr (Zf (va 3) (Zf (va 7) Zo)))) (ZcQ (Y7 (Vt hr.units) (va 6) (va 7))))))
 (Zw (Yr (Yl jL rfl (qz rfl) (Z7 Z8 (XS (Zf Xg (Zf Xg Zo))) (VO (Zbi) rfl T.b_int TF.boot_int (Zf (Zel (Ye (ki.mono) trivial hr (Zf (va 3) (Zf (va 6) (Zf (va 7) Zo))))) Zo)))))
 (Zw (Yr (Yl jL rfl (qz rfl) (Z7 Z8 (XS (Zf Xg (Zf Xg Zo))) (VO (Zbi) rfl T.b_int TF.boot_int (Zf (Vr (Ww hr.units) (va 11) Xg) Zo)))))
 Z2))
 YA)
 (Zw (X2 (X1.pt (JF (Y7 (Vt hr.units) (Ye (jV.mono) hK hr (Zf (va 5) (Zf (va 11) (Zf (va 6) (Zf (va 7) Zo))))) (va 12)) (Bp (Y7 (Vt hr.units) (J3 (i:=5) km hK hr kc (pv 5)) (va 3)))))
 (Zw (Yd (PD.weak X5))
 Z2)
 YA)
 Z2)))))))))
 (Zw (Yr (Yl jL rfl (qz rfl) (J3 (i:=5) kC hK hr kc (pv 5))))
 (Zw (X2 (Y7 (Vt hr.units) (va 13) (Z7 Z8 (XS (Zf Zgx (Zf Xg Zo))) (VO (Zbi) rfl T.b_int TF.boot_int (Zf (Vr (Vt hr.units) (Z7 Z8 (va 3) ZN) (XH Zo)) Zo))))
 (Zw (Yd (PD.weak X5))
 Z2)
 YA)
 (Zw (X2 (Y7 (Vt hr.units) (J3 (i:=5) km hK hr kc (pv 5)) (XH (Zf (va 4) (Zf (Zks (Z7 Z8 (va 3) ZN) Zkq (Zkr Zkt)) Zo))))
 (Zw (Yd (PD.weak X5))
 Z2)
 YA)
 Z2))))))))))
 (Zw (Yd (PD.weak X5))
 Z2)))
theorem ZbJ:FnScope ["_law_pen","_law_many","_law_at","_law_cell","_law_found"] ["_law_pen","_law_many"] (Zx Zcc):=⟨rfl,rfl,rfl,by decide +kernel,rfl,by decide +kernel,by decide +kernel⟩
theorem Zhf {ds:List D}{s s':Pn}{d:D}(h:YH ds s=some (d,s')):∃m a hd ns,ds=[.pen,.int m]/\s=([a,hd],ns)/\0<m/\m<1073741824/\0<=a/\d=.int ((XA m a hd ns).2 % m)/\s'=([(XA m a hd ns).1,(XA m a hd ns).2 / m],ns):=by
 unfold YH at h;split at h
 ·split at h
  ·rename_i m a hd ns c
   cases h
   exact⟨m,a,hd,ns,rfl,rfl,c.1,c.2.1,c.2.2,rfl,rfl⟩
  ·cases h
 ·cases h
theorem ZeR {P:xy}{w:World}{K:qf}{mg:Str->Option Value}{base:Heap}{jX:Addr}{jN:xx}(F:Fun K "_law_next" "_law_next" Zcc jX jN)(T:Txt mg)
  (kD:ZX P w K mg base 1 "_law_fill" 2 false Yb US) (ZlD:∀c a s,0<=a->US [.int c,.int a] s=some (.int (Vc c a),s)) :
  FnOk P w K mg base ZH 2 jX jN ["_law_pen","_law_many"] (Z1 2 true (Wl K) YH):=by
 have nd:=ZbJ.nd;refine F.ok ZbJ (λvs H Q E h=>?_) λcdv A outer s0 H vs Q E hr h=>?_
 ·obtain⟨G,Hf,ds,pn,d,pn',_,e,_⟩:=h
  exact e
 ·obtain⟨G,Hf,ds,pn,d,pn',hG,el,e1,r,st',eF,k'⟩:=h
  obtain⟨p,sa,tr,rfl⟩:=hG;obtain⟨m,a,hd,ns,rfl,rfl,m0,m1,a0,rfl,rfl⟩:=Zhf eF;obtain⟨v1,v2,rfl,r1,r2⟩:=jl r
  cases (jo.mp r1)
  cases (ja.mp r2)
  obtain⟨a',h',ea,hp,ne,sq,t1,t2⟩:=st';simp only[zP,and_true]at ea;obtain⟨rfl,rfl⟩:=ea
  -- behind: the pen's two numbers
  have fin:∀(H1:Hp) (x0 y0 x y:Int),stL K p sa tr ([x0,y0],ns) H1->stL K p sa tr ([x,y],ns) (upd H1 p (.lst [.ref sa,.int x,.int y])):=λH1 x0 y0 x y ⟨_,_,_,_,_,sq,t1,t2⟩=>by
   refine⟨x,y,rfl,ZG,ne,?_,λht=>?_,t2⟩
   ·rcases sq with(q | ⟨o,q⟩) | q
    ·exact .inl (.inl (by rw[Zj ne];exact q))
    ·exact .inl (.inr ⟨o,by rw[Zj ne];exact q⟩)
    ·exact .inr q
   ·obtain⟨o,q⟩:=t1 ht
    exact⟨o,by rw[Zj ne];exact q⟩
  have st0:stL K p sa tr ([a,hd],ns) H:=⟨a,hd,rfl,hp,ne,sq,t1,t2⟩;have grH:∀(jW H1:Hp) o,Zz (UF K p sa tr) jW H1->Gr (UF K p sa tr) jW H1 jW (upd H1 p o):=λjW H1 o e1=>
   ⟨λb u n q=>by rw[Zj (show b≠p from n)];exact q,.refl _ _,λb u n q=>by rw[Zj (show b≠p from n)];exact e1 b u n q,λb n h1 h2=>h1⟩
  refine⟨_,Xo (JP (U1 ZjD (WP WJ (pv 0) Xf (λ_ _=>rfl)) (pv 1) (Bx _))
   (Xo (We (i:=2) nd rfl (qz rfl) (WP WJ (pv 0) Xf (λ_ _=>rfl)))
   (Xo (We (i:=3) nd rfl (qz rfl) Xf)
   (Xo (JP (U1 ZjD (pv 2) (Ju Zal rfl T.b_len TF.boot_len (Yt (WP WJ (pv 0) Xf (λ_ _=>rfl)) YS)) (Bx _))
    (Vp (We (i:=3) nd rfl (qz rfl) (WP WJ (WP WJ (pv 0) Xf (λ_ _=>rfl)) (pv 2) (λ_ _=>rfl))))
    (Vp (JP (U1 Zos (Ju Zal rfl T.b_len TF.boot_len (Yt (WP WJ (pv 0) Xf (λ_ _=>rfl)) YS)) Xf (Bx _))
     (Vp (We (i:=3) nd rfl (qz rfl) (V0 Zgl (V0 Zef (WP WJ (WP WJ (pv 0) Xf (λ_ _=>rfl)) (V0 Zef (V0 Zgm (pv 2) Xf) (Ju Zal rfl T.b_len TF.boot_len (Yt (WP WJ (pv 0) Xf (λ_ _=>rfl)) YS))) (λ_ _=>rfl)) Xf) (V0 Zgm (pv 2) Xf))))
     Bn)))
   (Xo (Zgi (V0 Zgl (pv 2) Xf) (Zgh (pv 0) Xf ZcP))
   (Vp (Zgi (PD.canon (Zkf (G:=UF K p sa tr) kD trivial hr rfl (Zf (By 3 (pv 3)) (Zf (By 2 (pv 2)) Zo)) (Yz (Yz Ws)))) (Zgh (pv 0) Xf ZcP)))))))
   Bn)
   (Xo (We (i:=4) nd rfl (qz rfl) (V0 Zef (WP WJ (pv 0) Xf (λ_ _=>rfl)) (pv 1)))
   (Xo (Zgi (V0 ZlM (WP WJ (pv 0) Xf (λ_ _=>rfl)) (pv 1)) (Zgh (pv 0) Xf ZcP))
   (Vp (Zgg (pv 4))))),?_⟩
  -- pen[2]<many
  refine⟨_,rfl,p,[.ref sa,.int a,.int hd],2,.int hd,rfl,rfl,ZJ.of hp,rfl,_,rfl,hd,m,rfl,rfl,_,rfl,?_⟩
  -- the last three rows,from any state of the pen
  have last:∀(x y:Int) (o2 o3 o4:Option V) (jW H1:Hp),Gr (UF K p sa tr) Hf H jW H1->stL K p sa tr ([x,y],ns) H1->x=(XA m a hd ns).1->y=(XA m a hd ns).2->
    WU (UB (X8 (rI (λ_ j=>0<j) λi j=>.int (i % j)) (X8 (BR K) (ZR 0) (tC (.int 2))) (ZR 1)) (JQ 4))
     (WU (UB (X8 (rI CDiv λi j=>.int (i / j)) (X8 (BR K) (ZR 0) (tC (.int 2))) (ZR 1)) (BQ (ZR 0) (tC (.int 2)) BF)) (tRet (ZR 4))) { nx:=λ_ H'=>Q .non H',rt:=Q } [some (.ref p),some (.int m),o2,o3,o4] H1:=by
   intro x y o2 o3 o4 jW H1 g1 j9 ex ey;obtain⟨x1,y1,exy,hp1,_⟩:=id j9;simp only[zP,and_true]at exy;obtain⟨rfl,rfl⟩:=exy;refine⟨_,rfl,p,[.ref sa,.int x,.int y],2,.int y,rfl,rfl,ZJ.of hp1,rfl,_,rfl,y,m,rfl,rfl,m0,?_⟩;refine⟨_,rfl,p,[.ref sa,.int x,.int y],2,.int y,rfl,rfl,ZJ.of hp1,rfl,_,rfl,y,m,rfl,rfl,⟨m0,m1⟩,_,rfl,p,[.ref sa,.int x,.int y],2,2,rfl,rfl,hp1,rfl,?_⟩;refine⟨_,rfl,?_⟩;have j6:=fin H1 x y x (y / m) j9;subst ex ey;exact k' _ jW _ (g1.trans (grH _ _ _ g1.fh)) j6 (ja.mpr rfl) λ_=>.scal λz=>z
  by_cases hlt:hd<m
  ·rw[decide_eq_true hlt]
   refine WW ?_;refine⟨_,rfl,p,[.ref sa,.int a,.int hd],1,.int a,rfl,rfl,ZJ.of hp,rfl,?_⟩
   -- the rest behind the cell
   have rest:∀c:Int,c=BM ns a->
     WU (UB (X8 (Vi λi j=>.int (i+j)) (ZR 2) (tC (.int 1))) (BQ (ZR 0) (tC (.int 1)) BF)) (UB (tOf (UF K p sa tr) false (Zt US (Zb (Za 3) (Zb (Za 2) Ze)))) (BQ (ZR 0) (tC (.int 2)) BF)) ({ nx:=(WU (UB (X8 (rI (λ_ j=>0<j) λi j=>.int (i % j)) (X8 (BR K) (ZR 0) (tC (.int 2))) (ZR 1)) (JQ 4)) (WU (UB (X8 (rI CDiv λi j=>.int (i / j)) (X8 (BR K) (ZR 0) (tC (.int 2))) (ZR 1)) (BQ (ZR 0) (tC (.int 2)) BF)) (tRet (ZR 4))) { nx:=λ_ H'=>Q .non H',rt:=Q }),rt:=Q }:Ends) [some (.ref p),some (.int m),some (.int a),some (.int c),none] H:=by
    intro c ec;refine⟨_,rfl,a,1,rfl,rfl,_,rfl,p,[.ref sa,.int a,.int hd],1,1,rfl,rfl,hp,rfl,?_⟩;have g1:=grH Hf H (.lst [.ref sa,.int (a+1),.int hd]) e1;refine⟨Hf,[none,none,some (.int a),some (.int c)],([a+1,hd],ns),.int (Vc c a),([a+1,hd],ns),g1.fh,λi d e=>?_,fin H a hd (a+1) hd st0,?_,λv Hf' H' g st r _=>?_⟩
    ·match i,e with
     | 0,e=>cases e
     | 1,e=>cases e
     | 2,e=>cases e;exact⟨_,rfl,ja.mpr rfl⟩
     | 3,e=>cases e;exact⟨_,rfl,ja.mpr rfl⟩
     | i+4,e=>simp at e
    ·exact ZlD c a _ a0
    ·rw[ja.mp r]
     obtain⟨x1,y1,exy,hp1,_⟩:=id st;simp only[zP,and_true]at exy;obtain⟨rfl,rfl⟩:=exy;refine⟨_,rfl,p,[.ref sa,.int (a+1),.int hd],2,2,rfl,rfl,hp1,rfl,?_⟩;refine last (a+1) (Vc c a) _ _ _ Hf' _ ((g1.trans g).trans (grH _ _ _ g.fh)) (fin H' _ _ _ _ st) ?_ ?_
     ·unfold XA;rw[if_pos hlt]
     ·unfold XA;rw[if_pos hlt,ec]
   refine⟨_,rfl,_,rfl,p,[.ref sa,.int a,.int hd],0,.ref sa,rfl,rfl,ZJ.of hp,rfl,sa,ns.map V.int,rfl,.inl sq,a,_,rfl,rfl,_,rfl,?_⟩;have lm:((ns.map V.int).length:Int)=(ns.length:Int):=by simp
   by_cases h2:a<ns.length
   ·rw[lm,decide_eq_true h2]
    refine WW ?_;have hi:a.toNat<ns.length:=by omega
    have gi:(ns.map V.int)[a.toNat]?=some (.int (ns.getD a.toNat 0)):=by simp[List.getD,hi]
    have ai:XZ (ns.map V.int) a=some (.int (ns.getD a.toNat 0)):=by
     have q:=W6 gi
     rwa[yu a0]at q
    refine⟨_,rfl,p,[.ref sa,.int a,.int hd],0,.ref sa,rfl,rfl,ZJ.of hp,rfl,_,rfl,sa,ns.map V.int,a,_,rfl,rfl,sq,ai,?_⟩;exact rest _ (by unfold BM;rw[if_pos h2])
   ·rw[lm,decide_eq_false h2]
    refine XV ?_;refine⟨_,rfl,p,[.ref sa,.int a,.int hd],0,.ref sa,rfl,rfl,ZJ.of hp,rfl,sa,ns.map V.int,rfl,.inl sq,_,0,rfl,rfl,_,rfl,?_⟩;by_cases h3:(0:Int)<ns.length
    ·rw[lm,decide_eq_true h3]
     refine WW ?_;have j0:=qah (a*7) (show(ns.length:Int)≠0 by omega);have j1:=yE (a*7) h3;have hi:(a*7 % (ns.length:Int)).toNat<ns.length:=by omega
     have gi:(ns.map V.int)[(a*7 % (ns.length:Int)).toNat]?=some (.int (ns.getD (a*7 % (ns.length:Int)).toNat 0)):=by simp[List.getD,hi]
     have ai:XZ (ns.map V.int) (a*7 % (ns.length:Int))=some (.int (ns.getD (a*7 % (ns.length:Int)).toNat 0)):=by
      have q:=W6 gi
      rwa[yu j0]at q
     refine⟨_,rfl,p,[.ref sa,.int a,.int hd],0,.ref sa,rfl,rfl,ZJ.of hp,rfl,_,rfl,a,7,rfl,rfl,.inr ⟨by decide,by decide⟩,_,rfl,p,[.ref sa,.int a,.int hd],0,.ref sa,rfl,rfl,ZJ.of hp,rfl,sa,ns.map V.int,rfl,.inl sq,a*7,_,rfl,rfl,(by rw[lm];exact h3),sa,ns.map V.int,_,_,rfl,rfl,sq,(by rw[lm];exact ai),_,1000003,rfl,rfl,(by show(0:Int)<1000003;decide),_,rfl,a,1000003,rfl,rfl,.inr ⟨by decide,by decide⟩,_,_,rfl,rfl,?_⟩;exact rest _ (by unfold BM;rw[if_neg h2,if_pos (by omega)])
    ·rw[lm,decide_eq_false h3]
     refine XV ?_;exact rest 0 (by unfold BM;rw[if_neg h2,if_neg (by omega)])
  ·rw[decide_eq_false hlt]
   refine XV ?_;exact last a hd none none none Hf H (.refl e1) st0 (by unfold XA;rw[if_neg hlt]) (by unfold XA;rw[if_neg hlt])
end K47
namespace TP2
open L2 TF TP
noncomputable abbrev nD (i:Nat):D:=.int (i:Int)
noncomputable def tupN (k:List Nat):D:=.tup (k.map nD)
noncomputable def okK (ties:Qa)(i:Nat)(k:List Nat):Bool:=k.all λo=>decide ((o,i)∈ties)
noncomputable def kn (ties:Qa):Nat->List (List Nat)
 | 0=>[[]]
 | i+1=>kn ties i++((kn ties i).filter (okK ties i)).map (· ++ [i])
theorem Zn3 (p:Nat×Nat)(ties:Qa):X9 (ZI p) (.dt (kvT [] ties))=some (.bl (decide (p∈ties))):=by
 have e:Jg (ZI p) (.dt (kvT [] ties))=some (decide (p∈ties)):=by
  show some ((ZS (kvT [] ties) (Uf p)).isSome)=_;rw[Zfj];simp[ZS]
 unfold X9;rw[e];rfl
noncomputable def YZ (n:Nat)(ties:Qa)(p:Nat):List Nat:=(qu n).filter λo=>tied ties p o
noncomputable def Zn4 (n:Nat)(ties:Qa):D:=.lst ((qu n).map λp=>.lst ((YZ n ties p).map nD))
theorem Zhg (l:List Nat):YI (l.map nD)=true:=by
 induction l with
 | nil=>rfl
 | cons a l ih=>simp[YI,Zp,ih]
theorem ZmD (l:List Nat):Xi (l.map nD)=0:=by
 induction l with
 | nil=>simp[Xi]
 | cons a l ih=>simp[Xi,Z0,ih]
noncomputable def Um (l:List Nat):Nat:=l.foldl max 0
theorem ZeS (l:List Nat):∀a,a<=l.foldl max a/\∀x∈l,x<=l.foldl max a:=by
 induction l with
 | nil=>simp
 | cons b l ih=>
  intro a
  grind
theorem Zlm (l:List Nat):∀a:Nat,XQ (a:Int) (l.map λ(i:Nat)=>(i:Int))=((l.foldl max a:Nat):Int):=by
 induction l with
 | nil=>intro a;rfl
 | cons b l ih=>
  intro a;show XQ (max (a:Int) (b:Int)) (l.map λ(i:Nat)=>(i:Int))=_;rw[show max (a:Int) (b:Int)=((max a b:Nat):Int) by omega,ih];rfl
theorem Zcl (l:List Nat):Z4 (l.map nD)=some (l.map λ(i:Nat)=>(i:Int)):=by
 have:=Zbf (l.map λ(i:Nat)=>(i:Int));rw[qJ]at this;exact this
theorem Zd7 {α:Type}(q:α->Bool):∀l:List α,l.length=(l.filter q).length+(l.filter λx=>!q x).length
 | []=>rfl
 | a::l=>by
  have:=Zd7 q l
  grind
noncomputable def RT (ties:Qa)(a b:Nat):Prop:=a<b/\(a,b)∈ties
theorem BE:∀{n:Nat} {k:List Nat},k∈kn ties n↔k.Pairwise (RT ties)/\∀o∈k,o<n
 | 0,k=>by
  constructor
  ·intro h
   have:k=[]:=by simpa[kn]using h
   subst this;exact⟨.nil,by simp⟩
  ·rintro⟨_,h⟩
   cases k with
   | nil=>simp[kn]
   | cons a k=>exact absurd (h a (by simp)) (by omega)
 | n+1,k=>by
  rw[kn,yw];constructor
  ·rintro(h | h)
   ·have:=BE.mp h
    exact⟨this.1,λo ho=>qaM (this.2 o ho)⟩
   ·obtain⟨q,hq,rfl⟩:=qA.mp h
    obtain⟨hq1,hq2⟩:=qC.mp hq;have:=BE.mp hq1;unfold okK at hq2;rw[zy]at hq2;refine⟨qam.mpr ⟨this.1,by simp,λa ha b hb=>?_⟩,λo ho=>?_⟩
    ·rw[yh.mp hb]
     exact⟨this.2 a ha,by simpa using hq2 a ha⟩
    ·rcases yw.mp ho with ho | ho
     ·exact qaM (this.2 o ho)
     ·rw[yh.mp ho];omega
  ·rintro⟨h1,h2⟩
   by_cases hn:n∈k
   ·right
    obtain⟨a,b,rfl⟩:=List.append_of_mem hn;have hp:=qam.mp h1;have hb:b=[]:=by
     cases b with
     | nil=>rfl
     | cons y b=>
      have r1:=(yg.mp hp.2.1).1 y (by simp);have:=h2 y (by simp);have:=r1.1;omega
    subst hb;have ha:=λo ho=>hp.2.2 o ho n (by simp);refine qA.mpr ⟨a,qC.mpr ⟨BE.mpr ⟨hp.1,λo ho=>(ha o ho).1⟩,?_⟩,rfl⟩;unfold okK;rw[zy];exact λo ho=>by simpa using(ha o ho).2
   ·left
    refine BE.mpr ⟨h1,λo ho=>?_⟩
    grind
theorem Zln {k:List Nat}(hr:k.Pairwise (· < ·))(h:k.Pairwise R)(ha:a∈k)(hb:b∈k)(hab:a<b):R a b:=by
 obtain⟨i,hi,rfl⟩:=qbC ha;obtain⟨j,hj,rfl⟩:=qbC hb;have p1:=yA.mp hr;have p2:=yA.mp h;rcases Nat.lt_trichotomy i j with z | z | z
 ·simp_all
 ·simp_all
 ·have:=p1 j i hj hi z;omega
end TP2
namespace TP3
open L2 TF TP TS
open TP2
noncomputable def V9 (k:List Nat):List Int:=k.map λ(x:Nat)=>(x:Int)
theorem ZeT:k∈kn ties n↔k.Pairwise (· < ·)/\(∀o∈k,o<n)/\∀a∈k,∀b∈k,a≠b->tied ties a b=true:=by
 rw[BE];constructor
 ·rintro⟨h1,h2⟩
  have hr:=h1.imp λh=>h.1;refine⟨hr,h2,λa ha b hb hab=>?_⟩;by_cases hlt:a<b
  ·rw[ZcA hlt];simpa using(Zln hr h1 ha hb hlt).2
  ·have hlt:b<a:=by omega
   rw[ZbT,ZcA hlt];simpa using(Zln hr h1 hb ha hlt).2
 ·rintro⟨hr,h2,h3⟩
  refine⟨?_,h2⟩;refine qaD.imp_of_mem (λ{a b} ha hb hab=>?_) hr;refine⟨hab,?_⟩;have:=h3 a ha b hb (by omega);rw[ZcA hab]at this;simp_all
theorem Zdr (n:Nat):(qu n).Pairwise (· < ·):=List.pairwise_lt_range
theorem Zhh {k:List Nat}(h:k.Pairwise (· < ·)):k.Nodup:=h.imp λh=>by omega
section
variable {m n:Nat}{f:Nat->Nat}{tm tn:Qa}
theorem Zb0 {α:Type}[BEq α][LawfulBEq α]:∀{a b:List α},a.Nodup->(∀x∈a,x∈b)->a.length<=b.length
 | [],_,_,_=>by simp
 | x::a,b,nd,h=>by
  have nd':=zh.mp nd;have ih:=Zb0 nd'.2 λy hy=>(List.mem_erase_of_ne (λ(z:y=x)=>nd'.1 (by simp_all))).mpr (h y (by simp[hy]))
  grind
theorem ZmE (h:∃r,l=0::r):Um l∈l:=by
 have key:∀(l:List Nat) (a:Nat),l.foldl max a=a∨l.foldl max a∈l:=by
  intro l
  induction l with
  | nil=>intro a;simp
  | cons b l ih=>
   grind
 obtain⟨r,rfl⟩:=h;rcases key (0::r) 0 with e | e
 ·unfold Um;rw[e];simp
 ·exact e
theorem Zn5 (h:x∈l):x<=Um l:=(ZeS l 0).2 x h
end
theorem ZbK (ties:Qa)(a b:Nat)(s:Pn):W4 [.dt (kvT [] ties),.int a,.int b] s=some (.bl (tied ties a b),s):=by
 simp[W4,Zc2,runB,Zh,ZM,Zd,ZO,Zb,Ze,Yi,Za,Zk,ZL,Yy,U7,JR,Vu,Zc3,Zn3,tied]
theorem Zia {as:List Nat}(hj:j<as.length):XZ (as.map nD) (j:Int)=some (nD (as.getD j 0)):=by
 refine W6 ?_;simp_all
theorem Zjh (ps:List Nat):Y2 [.lst (ps.map nD)]=some (nD ps.length):=by
 show some (D.int ((ps.map nD).length:Nat))=_;simp
theorem Zib (h:Zp d=true)(hd:Z0 d<=60):Yo d d=some (.bl false):=by
 unfold Yo Vf;rw[if_pos (by simp[h,hd]),ZcV d h];rfl
section
variable (ap:Nat->Nat->Bool)
noncomputable def Xc (ps:List Nat)(p:Nat):Nat:=(ps.filter λo=>ap p o).length
noncomputable def Xa (ps:List Nat)(p:Nat):List Nat:=ps.filter λo=>!decide (o=p) && !ap p o
noncomputable def Ys (ps:List Nat):Nat:=ps.getD ((ps.map (Xc ap ps)).idxOf (Um (ps.map (Xc ap ps)))) 0
structure KnA (ps K:List Nat):Prop where
 nd:K.Nodup
 sub:∀x∈K,x∈ps
 two:∀x∈K,∀y∈K,x≠y->ap x y=false
end
section
variable {ap:Nat->Nat->Bool}
theorem Zhi (h:l≠[]):Um l∈l:=by
 have:=ZmE ⟨l,rfl⟩;have e:Um (0::l)=Um l:=rfl;rw[e]at this;rcases qy.mp this with z | z
 ·cases l with
  | nil=>simp_all
  | cons a r=>
   have h1:=Zn5 (l:=a::r) (x:=a) (by simp);simp_all
 ·exact z
theorem ZmF {ps:List Nat}(f:Nat->Nat)(h:v∈ps.map f):ps.getD ((ps.map f).idxOf v) 0∈ps/\f (ps.getD ((ps.map f).idxOf v) 0)=v:=by
 have hl:=zX.mpr h;have e:=List.getElem_idxOf hl;rw[yp]at e;have hl':=by simpa using hl
 simp_all
theorem Zap (h:ps≠[]):Ys ap ps∈ps:=(ZmF (Xc ap ps) (Zhi (by simp_all))).1
theorem UZ:∀x∈Xa ap ps p,x∈ps/\x≠p/\ap p x=false:=λx hx=>by
 obtain⟨h1,h2⟩:=qC.mp hx
 grind
theorem Zd8 {ps:List Nat}(h:p∈ps)(f:Nat->Bool)(hf:f p=false):(ps.filter f).length<ps.length:=by
 induction ps with
 | nil=>simp at h
 | cons a r ih=>
  grind
theorem Zf3 (h:p∈ps):(Xa ap ps p).length<ps.length:=Zd8 h _ (by simp)
theorem Zds {ps:List Nat}(h:p∈ps):(ps.filter λo=>!decide (o=p)).length<ps.length:=Zd8 h _ (by simp)
theorem jG {K:List Nat}(sy:∀a b,ap a b=ap b a)(hp:p∈ps)(h:KnA ap (Xa ap ps p) K):KnA ap ps (p::K) where
 nd:=zh.mpr ⟨λz=>(UZ p (h.sub p z)).2.1 rfl,h.nd⟩
 sub:=λx hx=>by
  rcases qy.mp hx with e | hx
  ·simp_all
  ·exact(UZ x (h.sub x hx)).1
 two:=λx hx y hy ne=>by
  rcases qy.mp hx with e | hx
  ·rcases qy.mp hy with e' | hy
   ·grind
   ·rw[e];exact(UZ y (h.sub y hy)).2.2
  ·rcases qy.mp hy with e' | hy
   ·rw[e',sy];exact(UZ x (h.sub x hx)).2.2
   ·exact h.two x hx y hy ne
theorem KnA.mono {K:List Nat}(h:KnA ap ps K)(s:∀x∈ps,x∈qs):KnA ap qs K:=⟨h.nd,λx hx=>s x (h.sub x hx),h.two⟩
theorem KnA.rest {K:List Nat}(h:KnA ap ps K):KnA ap (Xa ap ps p) (K.filter λo=>!decide (o=p) && !ap p o) where
 nd:=h.nd.sublist zI
 sub:=λx hx=>by
  obtain⟨h1,h2⟩:=qC.mp hx;exact qC.mpr ⟨h.sub x h1,h2⟩
 two:=λx hx y hy=>h.two x (qC.mp hx).1 y (qC.mp hy).1
theorem Zji {K:List Nat}(ir:∀a,ap a a=false)(h:KnA ap ps K)(hm:p∈K∨Xc ap ps p<=1):K.length<=(K.filter λo=>!decide (o=p) && !ap p o).length+1:=by
 have e:=Zd7 (λo=>!decide (o=p) && !ap p o) K;have hd:(K.filter λo=>!(!decide (o=p) && !ap p o)).length<=1:=by
  have nd:(K.filter λo=>!(!decide (o=p) && !ap p o)).Nodup:=h.nd.sublist zI;by_cases hp:p∈K
  ·have:=Zb0 (b:=[p]) nd λx hx=>by
    obtain⟨h1,h2⟩:=qC.mp hx;by_cases z:x=p
    ·simp[z]
    ·have:=h.two p hp x h1 (qN z)
     simp[z,this]at h2
   omega
  ·have hc:=hm.resolve_left hp
   have:=Zb0 (b:=ps.filter λo=>ap p o) nd λx hx=>by
    obtain⟨h1,h2⟩:=qC.mp hx;have z:x≠p:=λz=>hp (z▸h1);simp[z]at h2;exact qC.mpr ⟨h.sub x h1,h2⟩
   unfold Xc at hc;omega
 omega
end
noncomputable def Xx (l:List Nat):List (ZC×V):=l.map λ(o:Nat)=>(zu (o:Int),V.bl true)
theorem ZeU {x:Nat}:∀l:List Nat,ZS (Xx l) (zu (x:Int))=if x∈l then some (.bl true)else none
 | []=>rfl
 | q::qs=>by
  by_cases e:q=x
  ·subst e
   show ZS ((zu (q:Int),V.bl true)::Xx qs) _=_;rw[Wq rfl];simp
  ·have hn:¬((zu (q:Int):ZC)=zu (x:Int)):=λz=>by
    grind
   show ZS ((zu (q:Int),V.bl true)::Xx qs) _=_;rw[Wr hn,ZeU qs];have:x≠q:=λz=>e z.symm;simp[this]
theorem Zlo:∀(l:List Nat) (jU:List (ZC×V)),l.Nodup->(∀x∈l,ZS jU (zu (x:Int))=none)->Vb jU (l.map λo=>D.tup [nD o,.bl true])=some (jU++Xx l)
 | [],jU,_,_=>by simp[Vb,Xx]
 | p::ps,jU,nd,h=>by
  have nd':=zh.mp nd;show Vb (YW jU (zu (p:Int)) (.bl true)) (ps.map λo=>D.tup [nD o,.bl true])=_;rw[Zlo ps _ nd'.2 λx hx=>?_,Ze6 _ (h p (by simp))]
  ·show some ((jU ++ [_])++Xx ps)=some (jU++(_::Xx ps))
   simp
  ·rw[Ze5,if_neg (λz=>nd'.1 (by
    grind))]
   exact h x (by simp[hx])
theorem Zn6 (l:List Nat)(x:Nat):X9 (nD x) (.dk (Xx l))=some (.bl (decide (x∈l))):=by
 show((some (zu (x:Int):ZC)).map λk=>(ZS (Xx l) k).isSome).map D.bl=_;simp;rw[ZeU];by_cases h:x∈l <;> simp[h]
theorem Zjj (l:List Nat)(x:Nat):JI (nD x) (.dk (Xx l))=some (.bl (!decide (x∈l))):=by
 show((some (zu (x:Int):ZC)).map λk=>(ZS (Xx l) k).isSome).map (λb=>D.bl (!b))=_;simp;rw[ZeU];by_cases h:x∈l <;> simp[h]
noncomputable def Xl (n:Nat)(A:Nat->List Nat):D:=.lst ((qu n).map λp=>.dk (Xx (A p)))
theorem Zlp (h:p<n):Zq (Xl n A) (nD p)=some (.dk (Xx (A p))):=by
 refine W6 ?_;simp_all
section
variable {n:Nat}{A:Nat->List Nat}{ap:Nat->Nat->Bool}
theorem Zlq (a b:Nat):Yo (nD a) (nD b)=some (.bl (!decide (a=b))):=by
 rw[nei];congr 3
 grind
theorem ZmG (h:ds.length+es.length<=100000):YK (.lst ds) (.lst es)=some (.lst (ds++es)):=by
 show(if ds.length+es.length<=xg then some (D.lst (ds++es))else none)=_;rw[if_pos (by rw[XF];omega)]
theorem Zn7 (ds:List D)(hp:YI ds=true)(hd:Xi ds<=10):Ya (.lst ds) (.lst [])=some (.bl (decide (ds=[]))):=by
 have hok:Vf (.lst ds) (.lst [])=true:=by
  unfold Vf;simp[Zp,Z0,YI,Xi,hp];omega
 unfold Ya;rw[if_pos hok]
 cases ds with
 | nil=>rfl
 | cons a r=>rfl
theorem Zlr (h:l≠[]):ZhU [.lst (l.map nD)]=some (nD (Um l)):=by
 cases l with
 | nil=>simp_all
 | cons m r=>
  have e:=Zcl (m::r);show(match Z4 ((m::r).map nD)with | some (n::r)=>some (D.int (XQ n r)) | _=>none)=_;rw[e];show some (D.int (XQ (m:Int) (r.map λ(i:Nat)=>(i:Int))))=_;rw[Zlm r m];rfl
theorem Zhj {l:List Nat}(h:v∈l):ZeG (.lst (l.map nD)) (nD v)=some (nD (l.idxOf v)):=by
 show((Z4 (l.map nD)).bind λns=>if (v:Int)∈ns then some (D.int (ns.idxOf (v:Int):Nat))else none)=_;rw[Zcl];show(if (v:Int)∈l.map (λ(i:Nat)=>(i:Int))then some (D.int ((l.map λ(i:Nat)=>(i:Int)).idxOf (v:Int):Nat))else none)=_;rw[if_pos (qA.mpr ⟨v,h,rfl⟩)];have:(l.map λ(i:Nat)=>(i:Int)).idxOf (v:Int)=l.idxOf v:=by
  clear h
  induction l with
  | nil=>rfl
  | cons a r ih=>
   rw[qK,List.idxOf_cons,List.idxOf_cons,ih]
   grind
 rw[this]
end
noncomputable def Yj (n:Nat)(ties:Qa):Qa:=(XO n).filter λp=>!decide (p∈ties)
theorem Zjk (n:Nat)(ties:Qa):YD n (Yj n ties):=YD.filter _
theorem Zls:tied ties a b=true↔(min a b,max a b)∈ties:=by unfold tied;simp
theorem Zba:tied (Yj n ties) a b=true↔a<n/\b<n/\a≠b/\tied ties a b=false:=by
 rw[Zls];unfold Yj;rw[qC,Zbv];have e:tied ties a b=decide ((min a b,max a b)∈ties):=rfl;rw[e]
 grind
theorem ZdD (p o:Nat):tied (Yj n ties) p o=decide (o∈YZ n (Yj n ties) p):=by
 unfold YZ;rw[Bool.eq_iff_iff,decide_eq_true_iff,qC,zJ];exact⟨λh=>⟨(Zba.mp h).2.1,h⟩,λh=>h.2⟩
theorem Zlt (a:Nat):tied (Yj n ties) a a=false:=by
 cases h:tied (Yj n ties) a a with
 | false=>rfl
 | true=>exact absurd rfl (Zba.mp h).2.2.1
noncomputable def JN (n:Nat)(b:List Nat):List Nat:=(qu n).filter λx=>decide (x∈b)
theorem Za1 (nd:b.Nodup)(h:∀x∈b,x<n):(JN n b).Perm b:=by
 refine(List.perm_ext_iff_of_nodup (qaY.sublist zI) nd).mpr λa=>?_;simp_all
theorem Zcm (n:Nat)(b:List Nat):(JN n b).Pairwise (· < ·):=(Zdr n).sublist zI
noncomputable def WO (a k:List Nat):List Nat:=if a.length<k.length then k else a
noncomputable def Zic (n:Nat)(ties:Qa):List Nat:=(kn ties n).foldl WO []
theorem Zcn:∀(l:List (List Nat)) (a:List Nat),(l.foldl WO a=a∨l.foldl WO a∈l)/\a.length<=(l.foldl WO a).length/\∀k∈l,k.length<=(l.foldl WO a).length
 | [],a=>⟨.inl rfl,qq _,λk h=>by cases h⟩
 | x::r,a=>by
  obtain⟨h1,h2,h3⟩:=Zcn r (WO a x);have h4:a.length<=(WO a x).length/\x.length<=(WO a x).length/\(WO a x=a∨WO a x=x):=by
   unfold WO
   grind
  rw[List.foldl_cons]
  grind
theorem Zjl (nd:b.Nodup)(h:∀x∈b,x<n)(hl:b.length<64):ZcC [.lst (b.map nD)]=some (.lst ((JN n b).map nD)):=by
 have e:Z4 (b.map nD)=some (V9 b):=by
  have:b.map nD=(V9 b).map D.int:=by unfold V9;rw[qJ];rfl
  rw[this,Zbf]
 show(match Z4 (b.map nD)with | some ns=>if ns.length<64 then some (D.lst ((WQ ns).map .int))else none | none=>none)=_;rw[e];show(if (V9 b).length<64 then some (D.lst ((WQ (V9 b)).map .int))else none)=_;rw[if_pos (by unfold V9;simp;omega)];have q:V9 (JN n b)=WQ (V9 b):=Zc9 ((Za1 nd h).map _) (yP.mpr ((Zcm n b).imp λh=>by omega));rw[<-q];unfold V9;rw[qJ];rfl
theorem Zhk (hw:YD n ties)(hn:n<=24):Zic n ties∈kn ties n/\∀K∈kn ties n,K.length<=(Zic n ties).length:=by
 obtain⟨h1,_,h3⟩:=Zcn (kn ties n) [];refine⟨?_,h3⟩;rcases h1 with h | h
 ·show(kn ties n).foldl WO []∈_
  rw[h];exact ZeT.mpr ⟨qaD.nil,(λo h=>by cases h),λa h=>by cases h⟩
 ·exact h
section
variable (ties:Qa)
end
section
variable {ties:Qa}{many:Nat}
end
theorem Zd9 (I:Zc->Prop)(g:Nat->Option D):∀(l:List Nat) (ρ:Zc),I ρ->
  (∀x∈l,∀ρ,I ρ->∃ρ1,τ (nD x) ρ=some ρ1/\match g x with | some d=>body ρ1 s=some (.rt d,s) | none=>∃ρ2,body ρ1 s=some (.nx ρ2,s)/\I ρ2)->
  match l.findSome? g with | some d=>Wi τ body (l.map nD) ρ s=some (.rt d,s) | none=>∃ρ2,Wi τ body (l.map nD) ρ s=some (.nx ρ2,s)/\I ρ2
 | [],ρ,h0,_=>⟨ρ,rfl,h0⟩
 | x::l,ρ,h0,h=>by
  obtain⟨ρ1,e1,e2⟩:=h x (by simp) ρ h0;rw[qbD]
  cases hg:g x with
  | some d=>
   rw[hg]at e2;exact Zey e1 e2
  | none=>
   rw[hg]at e2;obtain⟨ρ2,e3,h2⟩:=e2;have ih:=Zd9 I g l ρ2 h2 λy hy=>h y (by simp[hy])
   cases hl:l.findSome? g with
   | some d=>rw[hl]at ih;exact Zbw e1 e3 ih
   | none=>
    rw[hl]at ih;obtain⟨ρ3,e4,h3⟩:=ih;exact⟨ρ3,Zbw e1 e3 e4,h3⟩
noncomputable def Ua (p:Nat×Nat):List Int:=[(p.1:Int),(p.2:Int)]
theorem Zf4 (h:p.1<q.1∨p.1=q.1/\p.2<q.2):Xe (Ua p) (Ua q)=true:=by
 unfold Xe Ua;rcases h with h | ⟨h1,h2⟩
 ·simp only[Xk]
  grind
 ·simp only[Xk]
  grind
theorem Zea (n:Nat):∀i,(Xv n i).Pairwise λp q=>Xe (Ua p) (Ua q)=true
 | 0=>by unfold Xv;simp
 | i+1=>by
  rw[Bh];refine qam.mpr ⟨Zea n i,yP.mpr ((Zdr _).imp λ{a b} h=>Zf4 (p:=(i,i+1+a)) (q:=(i,i+1+b)) (.inr ⟨rfl,by omega⟩)),λp hp q hq=>?_⟩;obtain⟨k,_,rfl⟩:=qA.mp hq;have:=(Zbu hp).1;exact Zf4 (.inl this)
theorem Zlu (hw:YD n ties):(ties.map Ua).Pairwise λx y=>Xe x y=true:=yP.mpr ((Zea n n).sublist hw)
theorem Zjm {L:Qa}(hw:YD n ties)(hp:L.Perm ties):VB (L.map Ua)=ties.map Ua:=(ZaN (hp.symm.map _) (Zlu hw)).symm
end TP3
namespace TQ
open L2 TF TS
open TP
open TP2
open TP3
theorem Zn8 (h1:(ρ[i]?).bind id=some (.clo t cds))(h2:fs ρ s=some (ds,s1))(h3:T t (ds++cds) s1=r):BV T i fs ρ s=r:=by
 unfold BV Zk Za Yy;simp_all
theorem Zn9 (h1:f ρ s=some (d,s1))(h2:JS ρ cix=some cds)(n1:ZW d=true)(n2:YT cds=true)(h3:F [d,.clo t cds] s1=some (c,s2))(n3:ZW c=true):dFnC F t cix f ρ s=some (c,s2):=by
 unfold dFnC Zk Yy;rw[h1,h2];simp only;rw[if_pos (by simp_all),h3];simp;rw[if_pos n3];rfl
theorem noClos_of:∀{ds:List D},(∀d∈ds,ZW d=true)->YT ds=true
 | [],_=>rfl
 | d::ds,h=>by
  show(ZW d&&YT ds)=true;rw[h d qay,noClos_of λx (hx:x∈ds)=>h x (qL _ hx)];rfl
theorem ZmH (hl:ds.length=n)(h:f (ds.map some) s=r):Ue n f ds s=r:=by
 unfold Ue;simp_all
theorem Zjn (n:Nat)(ties:Qa):ZW (Z5 n ties)=true:=by
 have:YT (ties.map ZI)=true:=noClos_of λd hd=>by obtain⟨p,_,rfl⟩:=qA.mp hd;rfl
 simp only[Z5,ZW,YT,this];rfl
theorem ZeV (lo:Int)(n:Nat):YT (Yv lo n)=true:=noClos_of λd hd=>by
 obtain⟨i,_,rfl⟩:=qA.mp hd;rfl
theorem ZeW (h:JY row ds)(hn:ds.length<=1000)(b:Nat×Nat->Bool)(s:Pn)(hb:∀p∈XO ds.length,Tl t ([ds.getD p.1 .non,ds.getD p.2 .non]++cds) s=some (.bl (b p),s)):Bd [row,.clo t cds] s=some (Z5 ds.length ((XO ds.length).filter b),s):=by
 have hln:∀r,ZO Y2 (Zb (Za 0) Ze) (some row::r) s=some (nD ds.length,s):=λr=>YB (Zg rfl rfl) h.len;refine Y8 rfl (YJ (XR (Yn (Zg (ZaK (hln _) hn) rfl) (Zfk s hn))) (YM (Y9 ?_)));have hap:=Zkn ds.length hn;have hc:=WK (src:=[none,some 1,some 0]) (fi:=YF (Za 2)) (τ:=ZZ 0) (ft:=Zu (BV Tl 1 (Zb (Zd Zq (Za 2) (Zd Zq (Za 0) (dC (.int 0)))) (Zb (Zd Zq (Za 2) (Zd Zq (Za 0) (dC (.int 1)))) Ze)))) (fe:=Za 0) (ρ:=[some row,some (.clo t cds),some (.lst ((XO ds.length).map ZI))]) (λd=>[some d,some (.clo t cds),some row]) (λd=>b (nat2 d)) (λd=>d) (VW rfl) (by rw[qp,XF];omega) λd hd=>by
  obtain⟨p,hpm,rfl⟩:=qA.mp hd;have hpp:=Zbv.mp hpm;refine⟨rfl,Yg (Zn8 rfl (Zg (ZA rfl (ZA rfl rfl (Uy _ _)) (h.ix (by omega))) (Zg (ZA rfl (ZA rfl rfl (Uz _ _ _)) (h.ix (by omega))) rfl)) (hb p hpm)),λ_=>rfl⟩
 rw[Zev (XO ds.length) _ b λp=>by rfl]at hc;exact XI (Zg (hln _) (Zg (YB (Zg hc rfl) rfl) rfl)) Vu
theorem range_getD (h:i<n):(Yv 0 n).getD i .non=nD i:=by
 rw[JA];simp[h]
theorem Zhl (n:Nat)(ties:Qa)(s:Pn)(hn:n<=1000)(hl:ties.length<=100000):Jw [Z5 n ties] s=some (Z5 n ((XO n).filter λp=>!decide (p∈ties)),s):=by
 refine Y8 rfl (YJ (XR (Yn (Zg rfl rfl) (ZdW n ties s hl))) (YM (Y9 ?_)));refine Zn9 (ZaK (ZA rfl rfl JZ) hn) rfl ((ZeV _ _)) rfl ?_ (Zjn _ _);have:=ZeW (row:=.lst (Yv 0 n)) (t:=0) (.inl rfl) (by rw[W5];exact hn) (λp=>!decide (p∈ties)) s (λp hp=>by
  rw[W5]at hp;have hpp:=Zbv.mp hp;rw[range_getD (by omega),range_getD (by omega)];show ZbB [nD p.1,nD p.2,.dt (kvT [] ties)] s=_;refine ZmH rfl ?_;refine JB (Yn (Zg rfl (Zg rfl (Zg rfl rfl))) ?_);rw[ZbK,ZcA hpp.1])
 rw[W5]at this;exact this
noncomputable abbrev J9 (n:Nat)(ties:Qa):D:=.tup [nD n,.dt (kvT [] ties)]
theorem mk0:Zq (J9 n ties) (.int 0)=some (nD n):=Uy _ _
theorem mk1:Zq (J9 n ties) (.int 1)=some (.dt (kvT [] ties)):=Uz _ _ _
theorem Zlv (n:Nat)(ties:Qa)(p:Nat)(s:Pn)(hn:n<=100000):JJ [J9 n ties,.int p] s=some (.lst ((YZ n ties p).map nD),s):=by
 refine Y8 rfl (YM (Y9 ?_));unfold YZ;rw[<-Zfh];refine WK (λd=>[some d,some (J9 n ties),some (.int p)]) (λd=>tied ties p (Xu d)) (λd=>d) (Up (ZA rfl rfl mk0) hn) (Zeu hn) ?_;intro d hd;obtain⟨i,hi,rfl⟩:=Zc4 hd;exact⟨rfl,Yg (Yn (Zg (ZA rfl rfl mk1) (Zg rfl (Zg rfl rfl))) (ZbK ties p i s)),λ_=>rfl⟩
noncomputable def gN:Zc->M Out:=(Zh (ZF 1 (Yi (Zb (Zd Zq (Za 0) (dC (.int 0))) (Zb (Zt UR (Zb (Za 0) Ze)) Ze))))
 (Zh (ZM (Yw [none,some 1] (Xt (Zd Zq (Za 0) (dC (.int 0)))) (ZZ 0) YN (Zt JJ (Zb (Za 1) (Zb (Za 0) Ze)))))
 Zm))
theorem ZeX (n:Nat)(ties:Qa)(hn:n<=1000)(hl:ties.length<=100000)(s:Pn):runB 2 1 gN [Z5 n ties] s=some (Zn4 n ties,s):=by
 refine Y8 rfl (YJ (XR (XI (Zg (ZA rfl rfl JZ) (Zg (Yn (Zg rfl rfl) (ZdW n ties s hl)) rfl)) Vu)) (YM (Y9 ?_)));have hc:=WK (src:=[none,some 1]) (fi:=Xt (Zd Zq (Za 0) (dC (.int 0)))) (τ:=ZZ 0) (ft:=YN) (fe:=Zt JJ (Zb (Za 1) (Zb (Za 0) Ze))) (ρ:=[some (Z5 n ties),some (J9 n ties)]) (λd=>[some d,some (J9 n ties)]) (λ_=>true) (λd=>.lst ((YZ n ties (Xu d)).map nD)) (Up (ZA rfl rfl JZ) (by omega)) (Zeu (by omega)) λd hd=>by
  obtain⟨i,hi,rfl⟩:=Zc4 hd;exact⟨rfl,rfl,λ_=>Yn (Zg rfl (Zg rfl rfl)) (Zlv n ties i s (by omega))⟩
 rw[Jr,JA,qJ]at hc;exact hc
section
variable (ap:Nat->Nat->Bool)
noncomputable def one? (ps:List Nat):Option Nat:=ps.find? λp=>decide (Xc ap ps p<=1)
noncomputable def Yq:Nat->List Nat->List Nat
 | 0,_=>[]
 | m+1,ps=>if ps=[]then []else match one? ap ps with
  | some p=>p::Yq m (Xa ap ps p)
  | none=>if (Yq m (ps.filter λo=>!decide (o=Ys ap ps))).length<=(Ys ap ps::Yq m (Xa ap ps (Ys ap ps))).length then Ys ap ps::Yq m (Xa ap ps (Ys ap ps))
   else Yq m (ps.filter λo=>!decide (o=Ys ap ps))
end
section
variable {ap:Nat->Nat->Bool}
theorem ZbL (h:one? ap ps=some p):p∈ps/\Xc ap ps p<=1:=⟨List.mem_of_find?_eq_some h,by have:=List.find?_some h;simp_all⟩
theorem ZbM (sy:∀a b,ap a b=ap b a):∀(m:Nat) (ps:List Nat),KnA ap ps (Yq ap m ps)
 | 0,ps=>⟨qbg,λx hx=>by simp[Yq]at hx,λx hx=>by simp[Yq]at hx⟩
 | m+1,ps=>by
  unfold Yq;by_cases h0:ps=[]
  ·rw[if_pos h0];exact⟨qbg,λx hx=>by simp at hx,λx hx=>by simp at hx⟩
  ·rw[if_neg h0]
   have w:=λp (hp:p∈ps)=>jG sy hp (ZbM sy m (Xa ap ps p));split
   ·rename_i p hp
    exact w _ (ZbL hp).1
   ·split
    ·exact w _ (Zap h0)
    ·exact(ZbM sy m _).mono λx hx=>(qC.mp hx).1
theorem Zdt (sy:∀a b,ap a b=ap b a)(ir:∀a,ap a a=false):∀(m:Nat) (ps K:List Nat),ps.length<m->KnA ap ps K->K.length<=(Yq ap m ps).length
 | 0,ps,K,h,_=>by omega
 | m+1,ps,K,hl,h=>by
  unfold Yq;by_cases h0:ps=[]
  ·rw[if_pos h0]
   cases K with
   | nil=>simp
   | cons a r=>have:=h.sub a (by simp);rw[h0]at this;simp at this
  ·rw[if_neg h0]
   have w:∀p,p∈ps->(p∈K∨Xc ap ps p<=1)->K.length<=(p::Yq ap m (Xa ap ps p)).length:=λp hp hm=>by
    have h1:=Zji ir h hm;have h2:=Zdt sy ir m (Xa ap ps p) _ (by have:=Zf3 (ap:=ap) hp;omega) (h.rest (p:=p));simp only[qV];omega
   split
   ·rename_i p hp
    exact w _ (ZbL hp).1 (.inr (ZbL hp).2)
   ·have hb:=Zap (ap:=ap) h0
    by_cases hk:Ys ap ps∈K
    ·have:=w _ hb (.inl hk)
     grind
    ·have h3:=Zdt sy ir m (ps.filter λo=>!decide (o=Ys ap ps)) K (by have:=Zds hb;omega) ⟨h.nd,λx hx=>qC.mpr ⟨h.sub x hx,by
      grind⟩,h.two⟩
     grind
theorem ZcH (m:Nat):∀(ps:List Nat),(Yq ap m ps).length<=m:=by
 induction m with
 | zero=>simp[Yq]
 | succ m ih=>
  intro ps;unfold Yq;split
  ·simp
  ·grind
end
noncomputable abbrev Y0 (n:Nat):D:=.tup (qk n (nD 1))
theorem Zid (h:p<n):Zq (Y0 n) (nD p)=some (nD 1):=by
 refine W6 ?_;simp_all
theorem Zlw (k:Nat):dSum [.lst (qk k (nD 1))]=some (nD k):=by
 have h1:Z4 (qk k (nD 1))=some (qk k 1):=by
  rw[show qk k (nD 1)=(qk k (1:Int)).map D.int by simp];exact Zbf _
 show(match Z4 (qk k (nD 1))with | some ns=>if V8 ns=true then some (D.int ns.sum)else none | none=>none)=_;have h2:V8 (qk k 1)=true:=zy.mpr λx hx=>by simp_all
 simp_all
noncomputable def Zf5:Zc->M Out:=(Zh (ZM (ZO dSum (Zb (Yw [none,some 0] (YF (Za 1)) (ZZ 0) YN (Zd Zq (Za 1) (Za 0))) Ze)))
 Zm)
theorem ZaR {ps:List Nat}(hp:∀p∈ps,p<n)(hl:ps.length<=1000)(s:Pn):runB 2 2 Zf5 [Y0 n,.lst (ps.map nD)] s=some (nD ps.length,s):=by
 have hc:=WK (src:=[none,some 0]) (fi:=YF (Za 1)) (τ:=ZZ 0) (ft:=YN) (fe:=Zd Zq (Za 1) (Za 0)) (ρ:=[some (Y0 n),some (.lst (ps.map nD))]) (s:=s) (λd=>[some d,some (Y0 n)]) (λ_=>true) (λ_=>nD 1) (VW rfl) (by rw[qp,XF];omega) (λd hd=>by
  obtain⟨x,hx,rfl⟩:=qA.mp hd;exact⟨rfl,rfl,λ_=>ZA rfl rfl (Zid (hp x hx))⟩)
 rw[Jr,List.map_const',qp]at hc;exact Y8 rfl (YM (Y9 (YB (Zg hc rfl) (Zlw _))))
noncomputable def Zoa:Zc->M Out:=(Zh (ZM (Yw [none,some 0,some 1] (YF (Za 2)) (ZZ 0) (Zu (Zd X9 (Za 0) (Zd Zq (Za 1) (Za 2)))) (Za 0)))
 Zm)
noncomputable def Zhm:List D->M D:=runB 3 3 Zoa
noncomputable def Vo:List D->M D:=runB 2 2 Zf5
noncomputable def gHW (Fs:List D->M D):Zc->M Out:=(Zh (ZF 4 (Yw [none,some 2,some 0] (YF (Za 3)) (ZZ 0) (Xb (Zu (Zd Yo (Za 0) (Za 1))) (Zu (Zd JI (Za 0) (Zd Zq (Za 2) (Za 1))))) (Za 0)))
 (Zh (ZM (Zd YK (Z9 (Zb (Za 2) Ze)) (Zt Fs (Zb (Za 0) (Zb (Za 1) (Zb (Za 4) Ze))))))
 Zm))
noncomputable def FHW (Fs:List D->M D):List D->M D:=runB 5 4 (gHW Fs)
noncomputable def Zm7 (Fs:List D->M D):Zc->M Out:=(Zh (Z6 (Zu (Zd UL (Zt Vo (Zb (Za 1) (Zb (Zd Zq (Za 3) (Za 4)) Ze))) (Zd Zq (Za 1) (Zd Zq (Za 2) (Za 4)))))
 (Zh (ZM (Zt (FHW Fs) (Zb (Za 0) (Zb (Za 1) (Zb (Zd Zq (Za 2) (Za 4)) (Zb (Za 2) Ze))))))
 Zm)
 Zm)
 Zm)
noncomputable def gHA (Fs:List D->M D):Zc->M Out:=(Zh (Z6 (Zu (Zd Ya (Za 2) (Z9 Ze)))
 (Zh (ZM (Z9 Ze))
 Zm)
 Zm)
 (Zh (ZF 3 (Yw [none,some 0,some 2] (YF (Za 2)) (ZZ 0) YN (Zt Zhm (Zb (Za 1) (Zb (Za 0) (Zb (Za 2) Ze))))))
 (Zh (XW (Xt (ZO Y2 (Zb (Za 2) Ze))) (ZZ 4) (Zm7 Fs))
 (Zh (ZF 5 (Yw [none] (YF (Za 3)) (ZZ 0) YN (ZO Y2 (Zb (Za 0) Ze))))
 (Zh (ZF 6 (Zd Zq (Za 2) (Zd ZeG (Za 5) (ZO ZhU (Zb (Za 5) Ze)))))
 (Zh (ZF 7 (Zt (FHW Fs) (Zb (Za 0) (Zb (Za 1) (Zb (Za 6) (Zb (Za 2) Ze))))))
 (Zh (ZF 8 (Zt Fs (Zb (Za 0) (Zb (Za 1) (Zb (Yw [none,some 6] (YF (Za 2)) (ZZ 0) (Zu (Zd Yo (Za 0) (Za 1))) (Za 0)) Ze)))))
 (Zh (ZM (B8 (Zu (Zd VH (Zt Vo (Zb (Za 1) (Zb (Za 7) Ze))) (Zt Vo (Zb (Za 1) (Zb (Za 8) Ze))))) (Za 7) (Za 8)))
 Zm))))))))
noncomputable def FHA:Nat->List D->M D
 | 0=>λ_=>ZK
 | n+1=>runB 9 3 (gHA (FHA n))
theorem geN (a b:Nat):VH (nD a) (nD b)=some (.bl (decide (b<=a))):=by
 show some (D.bl (decide ((b:Int)<=(a:Int))))=_;simp
theorem Zhn (P:Nat->Bool)(h:Nat->D)(ps:List Nat):(qu ps.length).findSome? (λi=>if P (ps.getD i 0)=true then some (h (ps.getD i 0))else none)=(ps.find? P).map h:=by
 have e:(qu ps.length).map (λi=>ps.getD i 0)=ps:=by
  apply qaJ;intro i;by_cases hi:i<ps.length
  ·simp_all
  ·simp_all
 have k:∀l:List Nat,l.findSome? (λx=>if P x=true then some (h x)else none)=(l.find? P).map h:=λl=>by
  induction l with
  | nil=>rfl
  | cons x l ih=>
   rw[qbD,List.find?_cons]
   cases hx:P x with
   | true=>rfl
   | false=>exact ih
 rw[<-k ps]
 conv=>rhs;rw[<-e]
 rw[List.findSome?_map];rfl
section
variable {n:Nat}{A:Nat->List Nat}{ap:Nat->Nat->Bool}
theorem Zlx (hA:∀p o,ap p o=decide (o∈A p))(hp:p<n)(ps:List Nat)(hl:ps.length<=1000)(s:Pn):Zhm [Xl n A,nD p,.lst (ps.map nD)] s=some (.lst ((ps.filter λo=>ap p o).map nD),s):=by
 have hc:=WK (src:=[none,some 0,some 1]) (fi:=YF (Za 2)) (τ:=ZZ 0) (ft:=Zu (Zd X9 (Za 0) (Zd Zq (Za 1) (Za 2)))) (fe:=Za 0) (ρ:=[some (Xl n A),some (nD p),some (.lst (ps.map nD))]) (s:=s) (λd=>[some d,some (Xl n A),some (nD p)]) (λd=>ap p (Xu d)) (λd=>d) (VW rfl) (by rw[qp,XF];omega) (λd hd=>by
  obtain⟨x,hx,rfl⟩:=qA.mp hd;exact⟨rfl,Yg (ZA rfl (ZA rfl rfl (Zlp hp)) (by rw[Zn6,<-hA];rfl)),λ_=>rfl⟩)
 rw[yf,qJ]at hc;exact Y8 rfl (YM (Y9 hc))
theorem ZoQ (hA:∀p o,ap p o=decide (o∈A p))(hp:p<n)(hl:ps.length<=1000)(hr:r.length<=1000)(hF:Fs [Xl n A,Y0 n,.lst ((Xa ap ps p).map nD)] s=some (.lst (r.map nD),s)):FHW Fs [Xl n A,Y0 n,nD p,.lst (ps.map nD)] s=some (.lst ((p::r).map nD),s):=by
 have hc:=WK (src:=[none,some 2,some 0]) (fi:=YF (Za 3)) (τ:=ZZ 0) (ft:=Xb (Zu (Zd Yo (Za 0) (Za 1))) (Zu (Zd JI (Za 0) (Zd Zq (Za 2) (Za 1))))) (fe:=Za 0) (ρ:=[some (Xl n A),some (Y0 n),some (nD p),some (.lst (ps.map nD)),none]) (s:=s) (λd=>[some d,some (nD p),some (Xl n A)]) (λd=>!decide (Xu d=p) && !ap p (Xu d)) (λd=>d) (VW rfl) (by rw[qp,XF];omega) (λd hd=>by
  obtain⟨x,hx,rfl⟩:=qA.mp hd;refine⟨rfl,Zex (Yg (ZA rfl rfl (Zlq x p))) λ_=>Yg (ZA rfl (ZA rfl rfl (Zlp hp)) (by rw[Zjj,<-hA];rfl)),λ_=>rfl⟩)
 rw[yf,qJ]at hc;refine Y8 rfl (YJ (XR hc) (YM (Y9 (ZA (W8 (Zg rfl rfl) (by show 1<=xg;decide)) (Yn (Zg rfl (Zg rfl (Zg rfl rfl))) hF) ?_))));rw[ZmG (by grind)];rfl
theorem ZcI:∀(m:Nat) (ps:List Nat),∀x∈Yq ap m ps,x∈ps
 | 0,ps,x,hx=>by simp[Yq]at hx
 | m+1,ps,x,hx=>by
  unfold Yq at hx;by_cases h0:ps=[]
  ·grind
  ·rw[if_neg h0]at hx
   have w:=λp (hp:p∈ps) (h:x∈p::Yq ap m (Xa ap ps p))=>show x∈ps from by
    rcases qy.mp h with e | h
    ·simp_all
    ·exact(UZ x (ZcI m _ x h)).1
   split at hx
   ·rename_i p hp
    exact w _ (ZbL hp).1 hx
   ·split at hx
    ·exact w _ (Zap h0) hx
    ·exact(qC.mp (ZcI m _ x hx)).1
theorem Za2 (hA:∀p o,ap p o=decide (o∈A p))(s:Pn):∀(m:Nat) (ps:List Nat),ps.length<m->m<=100->(∀p∈ps,p<n)->FHA m [Xl n A,Y0 n,.lst (ps.map nD)] s=some (.lst ((Yq ap m ps).map nD),s)
 | 0,_,h,_,_=>by omega
 | m+1,ps,hl,hm,hn=>by
  have hpl:YI (ps.map nD)=true:=Zhg ps;have hdp:Xi (ps.map nD)<=10:=by rw[ZmD];omega
  have heq:=Zn7 (ps.map nD) hpl hdp;by_cases h0:ps=[]
  ·subst h0
   refine Y8 rfl (YM (ZhO (Yg (ZA (d:=.lst []) (e:=.lst []) rfl (W8 rfl (zc _)) heq)) (YM (Y9 (d:=.lst []) (W8 rfl (zc _))))))
  ·have hf:decide (ps.map nD=[])=false:=by simpa using h0
   rw[hf]at heq;have hcs:ps.map (Xc ap ps)≠[]:=by simpa using h0
   have hc:=WK (src:=[none,some 0,some 2]) (fi:=YF (Za 2)) (τ:=ZZ 0) (ft:=YN) (fe:=Zt Zhm (Zb (Za 1) (Zb (Za 0) (Zb (Za 2) Ze)))) (ρ:=[some (Xl n A),some (Y0 n),some (.lst (ps.map nD)),none,none,none,none,none,none]) (s:=s) (ds:=ps.map nD) (λd=>[some d,some (Xl n A),some (.lst (ps.map nD))]) (λ_=>true) (λd=>.lst ((ps.filter λo=>ap (Xu d) o).map nD)) (VW rfl) (by rw[qp,XF];omega) (λd hd=>by
    obtain⟨x,hx,rfl⟩:=qA.mp hd;exact⟨rfl,rfl,λ_=>Yn (Zg rfl (Zg rfl (Zg rfl rfl))) (Zlx hA (hn x hx) ps (by omega) s)⟩)
   rw[Jr,qJ]at hc;generalize hR:ps.map ((λd=>D.lst ((ps.filter λo=>ap (Xu d) o).map nD))∘nD)=R at hc;have kw:∀p,p∈ps->FHW (FHA m) [Xl n A,Y0 n,nD p,.lst (ps.map nD)] s=some (.lst ((p::Yq ap m (Xa ap ps p)).map nD),s):=λp hp=>by
    have hlt:=Zf3 (ap:=ap) hp;have hb:=ZcH (ap:=ap) m (Xa ap ps p);exact ZoQ hA (hn p hp) (by omega) (by omega) (Za2 hA s m (Xa ap ps p) (by omega) (by omega) λx hx=>hn x (UZ x hx).1)
   have hrow:∀i,i<ps.length->Zq (.lst R) (nD i)=some (.lst ((ps.filter λo=>ap (ps.getD i 0) o).map nD)):=λi hi=>by
    refine W6 ?_;rw[<-hR,qE,qaG,zE hi];rfl
   have hpl2:∀i,i<ps.length->Zq (.lst (ps.map nD)) (nD i)=some (nD (ps.getD i 0)):=λi hi=>Zia hi;have hgm:∀i,i<ps.length->ps.getD i 0∈ps:=λi hi=>by
    rw[qaG,zE hi];exact qaZ hi
   have hfind:=Zd9 (τ:=ZZ 4) (body:=Zm7 (FHA m)) (s:=s) (fun ρ=>∃o4,ρ=[some (Xl n A),some (Y0 n),some (.lst (ps.map nD)),some (.lst R),o4,none,none,none,none]) (λi=>if decide (Xc ap ps (ps.getD i 0)<=1)=true then some (.lst ((ps.getD i 0::Yq ap m (Xa ap ps (ps.getD i 0))).map nD))else none) (qu ps.length) [some (Xl n A),some (Y0 n),some (.lst (ps.map nD)),some (.lst R),none,none,none,none,none] ⟨none,rfl⟩ (λi hi ρ hρ=>by
    obtain⟨o4,rfl⟩:=hρ;have hi:=zJ.mp hi;refine⟨_,rfl,?_⟩;have hcond:Zu (Zd UL (Zt Vo (Zb (Za 1) (Zb (Zd Zq (Za 3) (Za 4)) Ze))) (Zd Zq (Za 1) (Zd Zq (Za 2) (Za 4)))) [some (Xl n A),some (Y0 n),some (.lst (ps.map nD)),some (.lst R),some (nD i),none,none,none,none] s=some (decide (Xc ap ps (ps.getD i 0)<=1),s):=by
     refine Yg (ZA (Yn (Zg rfl (Zg (ZA (d:=.lst R) (e:=nD i) rfl rfl (hrow i hi)) rfl)) (ZaR (λp hp=>hn p (qC.mp hp).1) (by have:=y9 (λo=>ap (ps.getD i 0) o) ps;omega) s)) (ZA (d:=Y0 n) rfl (ZA (d:=.lst (ps.map nD)) (e:=nD i) rfl rfl (hpl2 i hi)) (Zid (hn _ (hgm i hi)))) ?_);show some (D.bl (decide (((ps.filter λo=>ap (ps.getD i 0) o).length:Int)<=(1:Int))))=_;congr 2;exact decide_eq_decide.mpr (by unfold Xc;omega)
    by_cases hq:Xc ap ps (ps.getD i 0)<=1
    ·rw[decide_eq_true hq]at hcond⊢
     rw[if_pos rfl];exact YM (ZhO hcond (YM (Y9 (Yn (Zg rfl (Zg rfl (Zg (ZA (d:=.lst (ps.map nD)) (e:=nD i) rfl rfl (hpl2 i hi)) (Zg rfl rfl)))) (kw _ (hgm i hi))))))
    ·rw[decide_eq_false hq]at hcond⊢
     rw[if_neg zj];exact⟨_,YJ (U8 hcond rfl) rfl,some (nD i),rfl⟩)
   rw[Zhn (λp=>decide (Xc ap ps p<=1)) (λp=>.lst ((p::Yq ap m (Xa ap ps p)).map nD)) ps]at hfind;have hit:Xt (ZO Y2 (Zb (Za 2) Ze)) [some (Xl n A),some (Y0 n),some (.lst (ps.map nD)),some (.lst R),none,none,none,none,none] s=some ((qu ps.length).map nD,s):=by
    have:=Up (f:=ZO Y2 (Zb (Za 2) Ze)) (ρ:=[some (Xl n A),some (Y0 n),some (.lst (ps.map nD)),some (.lst R),none,none,none,none,none]) (s:=s) (n:=ps.length) (YB (Zg rfl rfl) (Zjh ps)) (by omega);rw[JA]at this;exact this
   unfold Yq;rw[if_neg h0];refine Y8 rfl (YJ (U8 (Yg (ZA (d:=.lst (ps.map nD)) (e:=.lst []) rfl (W8 rfl (zc _)) heq)) rfl) (YJ (XR hc) ?_));show Zh _ _ [some (Xl n A),some (Y0 n),some (.lst (ps.map nD)),some (.lst R),none,none,none,none,none] s=_
   cases ho:one? ap ps with
   | some p=>
    have ho':ps.find? (λp=>decide (Xc ap ps p<=1))=some p:=ho;rw[ho']at hfind;exact YM (ZhQ hit hfind)
   | none=>
    have ho':ps.find? (λp=>decide (Xc ap ps p<=1))=none:=ho;rw[ho']at hfind;obtain⟨ρ2,hf2,o4,rfl⟩:=hfind;refine YJ (ZhQ hit hf2) ?_;have hmax:=Zlr hcs;have hp1:=Zap (ap:=ap) h0;have hix:Zq (.lst (ps.map nD)) (nD ((ps.map (Xc ap ps)).idxOf (Um (ps.map (Xc ap ps)))))=some (nD (Ys ap ps)):=Zia (by
     have:=zX.mpr (Zhi hcs);simpa using this)
    have hcc:=WK (src:=[none]) (fi:=YF (Za 3)) (τ:=ZZ 0) (ft:=YN) (fe:=ZO Y2 (Zb (Za 0) Ze)) (ρ:=[some (Xl n A),some (Y0 n),some (.lst (ps.map nD)),some (.lst R),o4,none,none,none,none]) (s:=s) (ds:=R) (λd=>[some d]) (λ_=>true) (λd=>match d with | .lst l=>nD l.length | _=>.non) (VW rfl) (by rw[<-hR,qp,XF];omega) (λd hd=>by
     rw[<-hR]at hd;obtain⟨x,hx,rfl⟩:=qA.mp hd;exact⟨rfl,rfl,λ_=>YB (Zg rfl rfl) rfl⟩)
    rw[Jr,<-hR,qJ]at hcc;have e5:ps.map ((λd=>match d with | .lst l=>nD l.length | _=>D.non)∘((λd=>D.lst ((ps.filter λo=>ap (Xu d) o).map nD))∘nD))=(ps.map (Xc ap ps)).map nD:=by
     rw[qJ];refine qar λx _=>?_;show nD ((ps.filter λo=>ap x o).map nD).length=nD (Xc ap ps x);rw[qp];rfl
    rw[e5,hR]at hcc;have hwo:=Zds hp1;have ih2:=Za2 hA s m (ps.filter λo=>!decide (o=Ys ap ps)) (by omega) (by omega) λx hx=>hn x (qC.mp hx).1;have hc2:=WK (src:=[none,some 6]) (fi:=YF (Za 2)) (τ:=ZZ 0) (ft:=Zu (Zd Yo (Za 0) (Za 1))) (fe:=Za 0) (ρ:=[some (Xl n A),some (Y0 n),some (.lst (ps.map nD)),some (.lst R),o4,some (.lst ((ps.map (Xc ap ps)).map nD)),some (nD (Ys ap ps)),some (.lst ((Ys ap ps::Yq ap m (Xa ap ps (Ys ap ps))).map nD)),none]) (s:=s) (ds:=ps.map nD) (λd=>[some d,some (nD (Ys ap ps))]) (λd=>!decide (Xu d=Ys ap ps)) (λd=>d) (VW rfl) (by rw[qp,XF];omega) (λd hd=>by
     obtain⟨x,hx,rfl⟩:=qA.mp hd;exact⟨rfl,Yg (ZA (d:=nD x) (e:=nD (Ys ap ps)) rfl rfl (Zlq _ _)),λ_=>rfl⟩)
    have e2:((ps.map nD).filter λd=>!decide (Xu d=Ys ap ps)).map (λd=>d)=(ps.filter λo=>!decide (o=Ys ap ps)).map nD:=by rw[yf,qJ];rfl
    rw[e2]at hc2;have bl1:=ZcH (ap:=ap) m (Xa ap ps (Ys ap ps));have bl2:=ZcH (ap:=ap) m (ps.filter λo=>!decide (o=Ys ap ps));have w1:=ZaR (n:=n) (ps:=Ys ap ps::Yq ap m (Xa ap ps (Ys ap ps))) (λp hp=>by
     rcases qy.mp hp with e | hp
     ·rw[e];exact hn _ hp1
     ·exact hn p (UZ p (ZcI m _ p hp)).1) (by simp only[qV];omega) s
    have w2:=ZaR (n:=n) (ps:=Yq ap m (ps.filter λo=>!decide (o=Ys ap ps))) (λp hp=>hn p (qC.mp (ZcI m _ p hp)).1) (by omega) s;refine YJ (XR hcc) (YJ (XR (ZA (d:=.lst (ps.map nD)) rfl (ZA (d:=.lst ((ps.map (Xc ap ps)).map nD)) rfl (YB (Zg rfl rfl) hmax) (Zhj (Zhi hcs))) hix)) (YJ (XR (Yn (Zg rfl (Zg rfl (Zg rfl (Zg rfl rfl)))) (kw _ hp1))) (YJ (XR (Yn (Zg rfl (Zg rfl (Zg hc2 rfl))) ih2)) (YM (Y9 ?_)))));have hge:=geN (Ys ap ps::Yq ap m (Xa ap ps (Ys ap ps))).length (Yq ap m (ps.filter λo=>!decide (o=Ys ap ps))).length;have ht:=Yg (ZA (g:=VH) (ρ:=[some (Xl n A),some (Y0 n),some (.lst (ps.map nD)),some (.lst R),o4,some (.lst ((ps.map (Xc ap ps)).map nD)),some (nD (Ys ap ps)),some (.lst ((Ys ap ps::Yq ap m (Xa ap ps (Ys ap ps))).map nD)),some (.lst ((Yq ap m (ps.filter λo=>!decide (o=Ys ap ps))).map nD))]) (s:=s) (Yn (F:=Vo) (fs:=Zb (Za 1) (Zb (Za 7) Ze)) (Zg rfl (Zg rfl rfl)) w1) (Yn (F:=Vo) (fs:=Zb (Za 1) (Zb (Za 8) Ze)) (Zg rfl (Zg rfl rfl)) w2) hge);generalize hX:Ys ap ps::Yq ap m (Xa ap ps (Ys ap ps))=X at ht⊢;generalize hY:Yq ap m (ps.filter λo=>!decide (o=Ys ap ps))=Y at ht⊢;have hfin:∀ρ:Zc,(ρ[7]?).bind id=some (.lst (X.map nD))->(ρ[8]?).bind id=some (.lst (Y.map nD))->Zu (Zd VH (Zt Vo (Zb (Za 1) (Zb (Za 7) Ze))) (Zt Vo (Zb (Za 1) (Zb (Za 8) Ze)))) ρ s=some (decide (Y.length<=X.length),s)->B8 (Zu (Zd VH (Zt Vo (Zb (Za 1) (Zb (Za 7) Ze))) (Zt Vo (Zb (Za 1) (Zb (Za 8) Ze))))) (Za 7) (Za 8) ρ s=some (.lst ((if Y.length<=X.length then X else Y).map nD),s):=fun ρ h7 h8 ht=>by
     unfold B8 Zk;rw[ht];by_cases hq:Y.length<=X.length
     ·simp only[hq,decide_true,if_true]
      unfold Za Yy;rw[h7]
     ·simp only[hq,decide_false,if_false,zB]
      unfold Za Yy;rw[h8]
    exact hfin _ rfl rfl ht
end
noncomputable def Uv (n:Nat)(ties:Qa):List Nat:=JN n (Yq (tied (Yj n ties)) 26 (qu n))
noncomputable def gHK:Zc->M Out:=(Zh (ZF 2 (Yw [none] (YF (Zt (runB 2 1 gN) (Zb (Zt Jw (Zb (Za 0) Ze)) Ze))) (ZZ 0) YN (ZO Zer (Zb (Yw [none] (YF (Za 0)) (ZZ 0) YN (Yi (Zb (Za 0) (Zb (dC (.bl true)) Ze)))) Ze))))
 (Zh (ZM (ZO JH (Zb (ZO ZcC (Zb (Zt (FHA 26) (Zb (Za 2) (Zb (Za 1) (Zb (WG (Zd Zq (Za 0) (dC (.int 0)))) Ze)))) Ze)) Ze)))
 Zm))
theorem Zf6 (hw:YD n ties)(hn:n<=24):Uv n ties∈kn ties n/\∀K∈kn ties n,K.length<=(Uv n ties).length:=by
 have sy:∀a b,tied (Yj n ties) a b=tied (Yj n ties) b a:=ZbT _;have hk:=ZbM sy 26 (qu n);have hlt:=λx hx=>zJ.mp (hk.sub x hx);have hp:=Za1 hk.nd hlt;constructor
 ·refine ZeT.mpr ⟨Zcm _ _,λo ho=>hlt o (hp.mem_iff.mp ho),λa ha b hb ne=>?_⟩
  have ha':=hp.mem_iff.mp ha;have hb':=hp.mem_iff.mp hb;have:=hk.two a ha' b hb' ne
  cases h:tied ties a b with
  | true=>rfl
  | false=>
   have:=Zba.mpr ⟨hlt a ha',hlt b hb',ne,h⟩;simp_all
 ·intro K hK
  obtain⟨h1,h2,h3⟩:=ZeT.mp hK;have:=Zdt sy Zlt 26 (qu n) K (by rw[zb];omega) ⟨Zhh h1,λx hx=>zJ.mpr (h2 x hx),λx hx y hy ne=>by
   cases h:tied (Yj n ties) x y with
   | false=>rfl
   | true=>
    have h4:=(Zba.mp h).2.2.2;simp_all⟩
  have e:=hp.length_eq;show K.length<=(JN n _).length;omega
theorem Zly (n:Nat)(ties:Qa)(hn:n<=24)(hl:ties.length<=100000)(s:Pn):runB 3 2 gHK [Z5 n ties,Y0 n] s=some (tupN (Uv n ties),s):=by
 have sy:∀a b,tied (Yj n ties) a b=tied (Yj n ties) b a:=ZbT _;have hk:=ZbM sy 26 (qu n);have hlt:∀x∈Yq (tied (Yj n ties)) 26 (qu n),x<n:=λx hx=>zJ.mp (hk.sub x hx);have hp:=Za1 hk.nd hlt;have htl:=(Zjk n ties).len hn;have hc:=WK (src:=[none]) (fi:=YF (Zt (runB 2 1 gN) (Zb (Zt Jw (Zb (Za 0) Ze)) Ze))) (τ:=ZZ 0) (ft:=YN) (fe:=ZO Zer (Zb (Yw [none] (YF (Za 0)) (ZZ 0) YN (Yi (Zb (Za 0) (Zb (dC (.bl true)) Ze)))) Ze)) (ρ:=[some (Z5 n ties),some (Y0 n),none]) (s:=s) (ds:=(qu n).map λp=>D.lst ((YZ n (Yj n ties) p).map nD)) (λd=>[some d]) (λ_=>true) (λd=>match d with | .lst ds=>.dk (Xx (ds.map Xu)) | _=>.non)
  (VW (Yn (Zg (Yn (Zg rfl rfl) (Zhl n ties s (by omega) hl)) rfl) (ZeX n (Yj n ties) (by omega) (by omega) s))) (by rw[qp,zb,XF];omega) (λd hd=>by
  obtain⟨p,hp,rfl⟩:=qA.mp hd;refine⟨rfl,rfl,λ_=>?_⟩;have hnl:(YZ n (Yj n ties) p).length<=n:=by
   have:=y9 (λo=>tied (Yj n ties) p o) (qu n);rw[zb]at this;exact this
  have hc2:=WK (src:=[none]) (fi:=YF (Za 0)) (τ:=ZZ 0) (ft:=YN) (fe:=Yi (Zb (Za 0) (Zb (dC (.bl true)) Ze))) (ρ:=[some (D.lst ((YZ n (Yj n ties) p).map nD))]) (s:=s) (ds:=(YZ n (Yj n ties) p).map nD) (λd=>[some d]) (λ_=>true) (λd=>D.tup [d,.bl true]) (VW rfl) (by rw[qp,XF];omega) (λd hd=>⟨rfl,rfl,λ_=>XI (Zg rfl (Zg rfl rfl)) Vu⟩);rw[Jr,qJ]at hc2;refine YB (Zg hc2 rfl) ?_;show(if ((YZ n (Yj n ties) p).map ((λd=>D.tup [d,.bl true])∘nD)).length<=xg then (Vb [] _).map D.dk else none)=_;rw[if_pos (by rw[qp,XF];omega)];have e:=Zlo (YZ n (Yj n ties) p) [] (qaY.sublist zI) λ_ _=>rfl;show(Vb [] ((YZ n (Yj n ties) p).map λo=>D.tup [nD o,.bl true])).map D.dk=_;rw[e];show some (D.dk (Xx (YZ n (Yj n ties) p)))=some (D.dk (Xx (((YZ n (Yj n ties) p).map nD).map Xu)));rw[qJ];have:(YZ n (Yj n ties) p).map (Xu∘nD)=YZ n (Yj n ties) p:=List.map_id _;rw[this])
 rw[Jr,qJ]at hc;have e1:(qu n).map ((λd=>match d with | .lst ds=>D.dk (Xx (ds.map Xu)) | _=>.non)∘λp=>D.lst ((YZ n (Yj n ties) p).map nD))=(qu n).map λp=>.dk (Xx (YZ n (Yj n ties) p)):=by
  refine qar λp _=>?_;show D.dk (Xx (((YZ n (Yj n ties) p).map nD).map Xu))=_;rw[qJ];have:(YZ n (Yj n ties) p).map (Xu∘nD)=YZ n (Yj n ties) p:=List.map_id _;rw[this]
 rw[e1]at hc;have hb:=Za2 (n:=n) (A:=YZ n (Yj n ties)) (ap:=tied (Yj n ties)) ZdD s 26 (qu n) (by rw[zb];omega) (by omega) λp hp=>zJ.mp hp;have hlr:WG (Zd Zq (Za 0) (dC (.int 0))) [some (Z5 n ties),some (Y0 n),some (Xl n (YZ n (Yj n ties)))] s=some (.lst ((qu n).map nD),s):=by
  show(if -(2 ^ 62)<=(n:Int)/\(n:Int)<=2 ^ 24 then ZL (D.lst (Yv 0 (n:Int).toNat))else ZK) s=_;rw[if_pos ⟨by omega,by omega⟩,JA];rfl
 have hbl:=ZcH (ap:=tied (Yj n ties)) 26 (qu n);have hs:=Zjl hk.nd hlt (by omega);exact Y8 rfl (YJ (XR hc) (YM (Y9 (YB (Zg (YB (Zg (Yn (Zg rfl (Zg rfl (Zg hlr rfl))) hb) rfl) hs) rfl) rfl))))
theorem Zjo (n:Nat)(hn:n<=1000):Zh5 (.tup [nD 1]) (nD n)=some (Y0 n):=by
 show(if (n:Int)=1 then some (D.tup [nD 1])else if (n:Int)=0/\[nD 1]≠[]then some (.tup [])else Vz (.tup [nD 1]) (.int (n:Int)))=_;by_cases h1:n=1
 ·subst h1;rfl
 ·rw[if_neg (by omega)]
  by_cases h0:n=0
  ·subst h0;rfl
  ·rw[if_neg (by omega)]
   show(if [nD 1]≠[]/\2<=(n:Int)/\(n:Int)<2 ^ 62/\[nD 1].length*(n:Int).toNat<=xg then some (D.tup (qk (n:Int).toNat [nD 1]).flatten)else none)=_;rw[if_pos ⟨by simp,by omega,by omega,by simp only[List.length_singleton,yj,XF];omega⟩,yj,List.flatten_replicate_singleton]
theorem Zjp (hw:YD n ties)(hn:n<=24):(Zic n ties).length=(Uv n ties).length:=by
 obtain⟨a1,a2⟩:=Zhk hw hn;obtain⟨b1,b2⟩:=Zf6 hw hn;have:=a2 _ b1
 grind
end TQ
namespace TP3
open L2 TF TP TS
open TP2
noncomputable abbrev om (n:Nat)(ties:Qa):Nat:=(Zic n ties).length
section
variable {n:Nat}{ties:Qa}
end
end TP3
namespace TQ
open L2 TF TS
open TP
open TP2
open TP3
theorem Zlz (n:Nat)(ties:Qa)(hn:n<=24)(hl:ties.length<=100000)(s:Pn):JM [Z5 n ties] s=some (.tup [nD (Uv n ties).length,tupN (Uv n ties)],s):=by
 have h:=Zly n ties hn hl s;exact Y8 rfl (YJ (XR (Yn (Zg rfl (Zg (ZA (XI (Zg rfl rfl) (by decide)) (ZA rfl rfl JZ) (Zjo n (by omega))) rfl)) h)) (YM (Y9 (XI (Zg (YB (Zg rfl rfl) (by show some (D.int _)=_;simp)) (Zg rfl rfl)) Vu))))
theorem ZlA (hw:YD n ties)(hn:n<=24)(s:Pn):JM [Z5 n ties] s=some (.tup [nD (om n ties),tupN (Uv n ties)],s):=by
 have hl:=hw.len hn;have h:=Zlz n ties hn (by omega) s;rw[<-Zjp hw hn]at h;exact h
open TQ
noncomputable def Zr (s0:Pn)(q:KS):Pn:=(s0.1++YV q,s0.2)
noncomputable def tI (p:Nat×Nat):Int×Int:=((p.1:Int),(p.2:Int))
noncomputable def Vl (p:Bool×Nat×Nat):Bool×Int×Int:=(p.1,(p.2.1:Int),(p.2.2:Int))
noncomputable def kQ (n:Nat)(L:Qa)(dd:List (Bool×Nat×Nat)):KS:=⟨(n:Int),L.map tI,dd.map Vl⟩
noncomputable abbrev hD:D:=.clo 0 []
variable {s0:Pn}{q:KS}
theorem Bu (h:s0.1.length=2):X7 (Zr s0 q)=some (q,Zr s0 q):=by
 unfold X7;rw[show(Zr s0 q).1.drop 2=YV q from(W9 h _).2,ZdX];rfl
theorem ZcJ (h:s0.1.length=2)(q':KS):J0 q' (Zr s0 q)=some ((),Zr s0 q'):=by
 unfold J0;rw[show(Zr s0 q).1.take 2=s0.1 from congrArg yZ (W9 h _).1];rfl
theorem VY {ρ:Zc}{g:KS->Option D}(h:s0.1.length=2)(hi:(ρ[i]?).bind id=some hD)(hg:g q=some d):XM i g ρ (Zr s0 q)=some (d,Zr s0 q):=by
 unfold XM Za Zk;rw[hi];show Zk X7 (λq=>Yy (g q)) (Zr s0 q)=_;unfold Zk;rw[Bu h];show Yy (g q) (Zr s0 q)=_;rw[hg];rfl
theorem ZmI {F:List D->M D}(h:s0.1.length=2)(e:F ds s0=some (d,s1)):XC F ds (Zr s0 q)=some (d,Zr s1 q):=by
 unfold XC;obtain⟨a,b⟩:=W9 h (YV q);rw[show((Zr s0 q).1.take 2,(Zr s0 q).2)=s0 from a,e];show some (d,(s1.1++(Zr s0 q).1.drop 2,s1.2))=_;rw[show(Zr s0 q).1.drop 2=YV q from b];rfl
theorem X4 {ρ:Zc}{F:List D->M D}{fs:Zc->M (List D)}(hi:(ρ[i]?).bind id=some hD)(h1:fs ρ s=some (ds,s1))(h2:F (hD::ds) s1=r):YO F i fs ρ s=r:=by
 unfold YO Za Zk;rw[hi];show Zk (fs ρ) (λds=>F (hD::ds)) s=r;unfold Zk;rw[h1];exact h2
theorem ZeY {ρ:Zc}(h:f ρ s=some (d,s1)):U5 f ρ s=some (.nx ρ,s1):=by unfold U5 Zk;rw[h];rfl
theorem YY {α β:Type}{m:M α}{k:α->M β}{a:α}(h:m s=some (a,s1)):Zk m k s=k a s1:=by unfold Zk;rw[h]
theorem Vw {ρ:Zc}{d:D}(hi:(ρ[i]?).bind id=some d):Za i ρ s=some (d,s):=by unfold Za Yy;rw[hi]
theorem Zho {ρ:Zc}{f:Zc->M D}{x y:Int}(h:s0.1.length=2)(hf:f ρ (Zr s0 q)=some (.tup [.int x,.int y],Zr s0 q))(hi:(ρ[i]?).bind id=some hD)(hv:(ZS (TF.kvT q.ties) [.inl x,.inl y]).isSome=true) :
  Zbz i f ρ (Zr s0 q)=some (.nx ρ,Zr s0 { q with ties:=untie q.ties x y }):=by
 unfold Zbz;rw[YY hf];show Zk (Za i ρ) _ _=_;rw[YY (Vw hi)];show Zk X7 _ _=_;rw[YY (Bu h),if_pos hv,YY (ZcJ h _)];rfl
theorem Zhp {ρ:Zc}{f:Zc->M D}{x y:Int}(h:s0.1.length=2)(hf:f ρ (Zr s0 q)=some (.tup [.int x,.int y],Zr s0 q))(hi:(ρ[i]?).bind id=some hD)(hv:(ZS (TF.kvT q.ties) [.inl x,.inl y]).isNone=true/\q.ties.length<xg) :
  Zby i f ρ (Zr s0 q)=some (.nx ρ,Zr s0 { q with ties:=q.ties ++ [(x,y)] }):=by
 unfold Zby;rw[YY hf];show Zk (Za i ρ) _ _=_;rw[YY (Vw hi)];show Zk X7 _ _=_;rw[YY (Bu h),if_pos hv,YY (ZcJ h _)];rfl
theorem Zf7 {ρ:Zc}{f:Zc->M D}{x y:Int}{b:Bool}(h:s0.1.length=2)(hf:f ρ (Zr s0 q)=some (.tup [.str (VA b),.tup [.int x,.int y]],Zr s0 q))(hi:(ρ[i]?).bind id=some hD)(hv:q.deeds.length<xg) :
  Za8 i f ρ (Zr s0 q)=some (.nx ρ,Zr s0 { q with deeds:=q.deeds ++ [(b,x,y)] }):=by
 unfold Za8;rw[YY hf];have ew:BP (VA b)=some b:=by cases b <;> decide +kernel
 simp only[ew];rw[YY (Vw hi)];show Zk X7 _ _=_;rw[YY (Bu h),if_pos hv,YY (ZcJ h _)];rfl
theorem Zf8 {ρ:Zc}{e:Bool×Int×Int}(h:s0.1.length=2)(hi:(ρ[i]?).bind id=some hD)(hv:q.deeds.getLast?=some e):Za9 i ρ (Zr s0 q)=some (Xs e,Zr s0 { q with deeds:=q.deeds.dropLast }):=by
 unfold Za9;rw[YY (Vw hi)];show Zk X7 _ _=_;rw[YY (Bu h)];simp only[hv];rw[YY (ZcJ h _)];rfl
theorem ZmJ {g:Zc->M Out}{ρ:Zc}(hl:ds.length=k)(h:g (ds.map some++qk (n-k) none) s=some (.nx ρ,s1)):runB n k g ds s=some (.non,s1):=by
 unfold runB;rw[if_pos hl,YY h];rfl
theorem Zf9 {ρ:Zc}{L ties:Qa}{n:Nat}{dd:List (Bool×Nat×Nat)}(h:s0.1.length=2)(hw:YD n ties)(hp:L.Perm ties)(hl:L.length<64)(hi:(ρ[i]?).bind id=some hD) :
  ZbV i ρ (Zr s0 (kQ n L dd))=some (.lst (ties.map ZI),Zr s0 (kQ n L dd)):=by
 refine VY h hi ?_;rw[if_pos (by show(L.map tI).length<64;rw[qp];exact hl)];have e:(L.map tI).map B0=L.map Ua:=by rw[qJ];rfl
 show some (D.lst ((VB ((L.map tI).map B0)).map BZ))=_;rw[e,Zjm hw hp,qJ];rfl
theorem ZcK {L ties:Qa}{n:Nat}{dd:List (Bool×Nat×Nat)}(h:s0.1.length=2)(hw:YD n ties)(hp:L.Perm ties)(hl:L.length<64):WN [hD] (Zr s0 (kQ n L dd))=some (Z5 n ties,Zr s0 (kQ n L dd)):=by
 refine Y8 rfl (YM (Y9 ?_));exact XI (ds:=[.int (n:Int),.tup (ties.map ZI)]) (Zg (VY h rfl rfl) (Zg (YB (Zg (Zf9 h hw hp hl rfl) rfl) rfl) rfl)) (by show 2<=xg;decide)
theorem Zga {L ties:Qa}{n:Nat}{dd:List (Bool×Nat×Nat)}(h:s0.1.length=2)(hw:YD n ties)(hn:n<=24)(hp:L.Perm ties)(hl:L.length<64):Jx [hD] (Zr s0 (kQ n L dd))=some (nD (om n ties),Zr s0 (kQ n L dd)):=by
 refine Y8 rfl (YM (Y9 ?_));exact ZA (d:=.tup [nD (om n ties),tupN (Uv n ties)]) (e:=.int 0) (Yn (Zg (X4 rfl rfl (ZcK h hw hp hl)) rfl) (ZlA hw hn _)) rfl (Uy _ _)
theorem Zdu (x y:Int)(l:List (Int×Int)):(ZS (TF.kvT l) [.inl x,.inl y]).isSome=decide ((x,y)∈l):=by
 unfold ZS TF.kvT;rw[Bool.eq_iff_iff];simp
theorem Bj {ρ:Zc}{f:Zc->M D}{x y:Nat}{L:Qa}{n:Nat}{dd:List (Bool×Nat×Nat)}(neg:Bool)(h:s0.1.length=2)(hi:(ρ[i]?).bind id=some hD)(hf:f ρ (Zr s0 (kQ n L dd))=some (ZI (x,y),Zr s0 (kQ n L dd))) :
  WM neg i f ρ (Zr s0 (kQ n L dd))=some (.bl (if neg then !decide ((x,y)∈L)else decide ((x,y)∈L)),Zr s0 (kQ n L dd)):=by
 unfold WM Zk;rw[hf];have e:(ZS (TF.kvT (L.map tI)) [.inl (x:Int),.inl (y:Int)]).isSome=decide ((x,y)∈L):=by
  rw[Zdu];refine decide_eq_decide.mpr ⟨λm=>?_,λm=>qA.mpr ⟨(x,y),m,rfl⟩⟩;obtain⟨p,hp,e⟩:=qA.mp m;have e1:(p.1:Int)=x:=congrArg yZ e;have e2:(p.2:Int)=y:=congrArg qbO e;have:p=(x,y):=qaT (by omega) (by omega);rw[<-this];exact hp
 show XM i (λq=>some (.bl (if neg then !(ZS (TF.kvT q.ties) [.inl (x:Int),.inl (y:Int)]).isSome else (ZS (TF.kvT q.ties) [.inl (x:Int),.inl (y:Int)]).isSome))) ρ _=_;refine VY h hi ?_;show some (D.bl (if neg then !(ZS (TF.kvT (L.map tI)) [.inl (x:Int),.inl (y:Int)]).isSome else (ZS (TF.kvT (L.map tI)) [.inl (x:Int),.inl (y:Int)]).isSome))=_;rw[e]
theorem Zb1 {a b n:Nat}{L:Qa}{dd:List (Bool×Nat×Nat)}(h:s0.1.length=2)(ha:a<n)(hb:b<n)(hab:a≠b):W3 [hD,nD a,nD b] (Zr s0 (kQ n L dd))=some (ZI (min a b,max a b),Zr s0 (kQ n L dd)):=by
 have pa:WH [.int (n:Int),nD a] (Zr s0 (kQ n L dd))=some (.bl true,Zr s0 (kQ n L dd)):=by
  rw[Zat rfl];show some (D.bl (decide ((0:Int)<=a)&&decide ((a:Int)<n)),_)=_;rw[decide_eq_true (by omega),decide_eq_true (by omega)];rfl
 have pb:WH [.int (n:Int),nD b] (Zr s0 (kQ n L dd))=some (.bl true,Zr s0 (kQ n L dd)):=by
  rw[Zat rfl];show some (D.bl (decide ((0:Int)<=b)&&decide ((b:Int)<n)),_)=_;rw[decide_eq_true (by omega),decide_eq_true (by omega)];rfl
 refine Y8 rfl (YJ (U8 (Zku (Bs (b:=true) (Yg (Yn (Zg (VY h rfl rfl) (Zg rfl rfl)) pa))) (Bs (b:=true) (Yg (Yn (Zg (VY h rfl rfl) (Zg rfl rfl)) pb)))) rfl) (YJ (U8 (s1:=Zr s0 (kQ n L dd)) (Yg (ZA (d:=nD a) (e:=nD b) rfl rfl ?_)) rfl) (YM (Y9 ?_))))
 ·rw[Ui]
  have:((a:Int)==(b:Int))=false:=by rw[beq_eq_false_iff_ne];omega
  rw[this]
 ·refine XI (ds:=[.int ((min a b:Nat):Int),.int ((max a b:Nat):Int)]) (Zg (YB (Zg rfl (Zg rfl rfl)) ?_) (Zg (YB (Zg rfl (Zg rfl rfl)) ?_) rfl)) (by show 2<=xg;decide)
  ·show some (D.int (if (b:Int)<a then (b:Int)else a))=_
   congr 2;split <;> omega
  ·show some (D.int (if (b:Int) > a then (b:Int)else a))=_
   congr 2;split <;> omega
noncomputable def flip (L:Qa)(p:Nat×Nat):Qa:=if p∈L then L.filter (λq=>decide (q≠p))else L ++ [p]
theorem ZlB (L:Qa)(x y:Nat):untie (L.map tI) (x:Int) (y:Int)=(L.filter λq=>decide (q≠(x,y))).map tI:=by
 unfold untie;rw[yf];congr 1;refine List.filter_congr λq _=>?_;refine decide_eq_decide.mpr (not_congr ⟨λe=>?_,λe=>by rw[e];rfl⟩);have e1:(q.1:Int)=x:=congrArg yZ e;have e2:(q.2:Int)=y:=congrArg qbO e;exact qaT (by omega) (by omega)
theorem Zie {x y n:Nat}{L:Qa}{dd:List (Bool×Nat×Nat)}(h:s0.1.length=2)(hl:L.length<64):UQ [hD,ZI (x,y)] (Zr s0 (kQ n L dd))=some (.non,Zr s0 (kQ n (flip L (x,y)) dd)):=by
 have e0:=Zdu (x:Int) (y:Int) (L.map tI);have em:decide (((x:Int),(y:Int))∈L.map tI)=decide ((x,y)∈L):=by
  refine decide_eq_decide.mpr ⟨λm=>?_,λm=>qA.mpr ⟨(x,y),m,rfl⟩⟩;obtain⟨p,hp,e⟩:=qA.mp m;have e1:(p.1:Int)=x:=congrArg yZ e;have e2:(p.2:Int)=y:=congrArg qbO e;have:p=(x,y):=qaT (by omega) (by omega);rw[<-this];exact hp
 rw[em]at e0;have body:ZaC [some hD,some (ZI (x,y))] (Zr s0 (kQ n L dd))=some (.nx [some hD,some (ZI (x,y))],Zr s0 (kQ n (flip L (x,y)) dd)):=by
  by_cases m:(x,y)∈L
  ·have t:Zu (WM false 0 (Za 1)) [some hD,some (ZI (x,y))] (Zr s0 (kQ n L dd))=some (true,Zr s0 (kQ n L dd)):=Yg (by rw[Bj false h rfl rfl];simp[m])
   refine YJ (ZhO t (YJ (ρ':=[some hD,some (ZI (x,y))]) (s1:=Zr s0 (kQ n (flip L (x,y)) dd)) ?_ rfl)) rfl;refine(Zho (x:=(x:Int)) (y:=(y:Int)) h rfl rfl (by show(ZS (TF.kvT (L.map tI)) _).isSome=true;rw[e0,decide_eq_true m])).trans ?_;show some (Out.nx _,Zr s0 ⟨(n:Int),untie (L.map tI) (x:Int) (y:Int),dd.map Vl⟩)=_;rw[ZlB];unfold flip;rw[if_pos m];rfl
  ·have t:Zu (WM false 0 (Za 1)) [some hD,some (ZI (x,y))] (Zr s0 (kQ n L dd))=some (false,Zr s0 (kQ n L dd)):=Yg (by rw[Bj false h rfl rfl];simp[m])
   refine YJ (U8 t (YJ (ρ':=[some hD,some (ZI (x,y))]) (s1:=Zr s0 (kQ n (flip L (x,y)) dd)) ?_ rfl)) rfl;refine(Zhp (x:=(x:Int)) (y:=(y:Int)) h rfl rfl ⟨by show(ZS (TF.kvT (L.map tI)) _).isNone=true;rw[<-Option.not_isSome,e0,decide_eq_false m];rfl,by show(L.map tI).length<xg;rw[qp];exact qaU hl (by decide)⟩).trans ?_;show some (Out.nx _,Zr s0 ⟨(n:Int),L.map tI ++ [((x:Int),(y:Int))],dd.map Vl⟩)=_;unfold flip;rw[if_neg m];unfold kQ;rw[qQ];rfl
 exact ZmJ rfl body
theorem Zjq {x y n:Nat}{L ties ties':Qa}{dd:List (Bool×Nat×Nat)}{b:Bool}(h:s0.1.length=2)(hn:n<=24)(hw:YD n ties)(hp:L.Perm ties)(hl:L.length<63)(hw':YD n ties')(hp':(flip L (x,y)).Perm ties')(hl':(flip L (x,y)).length<64)(hd:dd.length<xg) :
  UW [hD,.str (VA b),ZI (x,y)] (Zr s0 (kQ n L dd))=some (.int ((om n ties':Int)-(om n ties:Int)),Zr s0 (kQ n (flip L (x,y)) (dd ++ [(b,x,y)]))):=by
 have e1:=Zga (dd:=dd) h hw hn hp (by omega);have e2:=Zie (x:=x) (y:=y) (n:=n) (L:=L) (dd:=dd) h (by omega);have e3:=Zga (dd:=dd ++ [(b,x,y)]) h hw' hn hp' hl';refine Y8 rfl (YJ (XR (X4 rfl rfl e1)) (YJ (ZeY (X4 rfl (Zg rfl rfl) e2)) (YJ (s1:=Zr s0 (kQ n (flip L (x,y)) (dd ++ [(b,x,y)]))) (ρ':=[some hD,some (.str (VA b)),some (ZI (x,y)),some (nD (om n ties))]) ?_ (YM (Y9 (ZA (X4 rfl rfl e3) rfl rfl))))));refine(Zf7 (b:=b) (x:=(x:Int)) (y:=(y:Int)) h (XI (Zg rfl (Zg rfl rfl)) (by show 2<=xg;decide)) rfl (by show(dd.map Vl).length<xg;rw[qp];exact hd)).trans ?_;show some (Out.nx _,Zr s0 ⟨(n:Int),(flip L (x,y)).map tI,dd.map Vl ++ [(b,(x:Int),(y:Int))]⟩)=_;unfold kQ;rw[qQ];rfl
theorem Zob {a b n:Nat}{L ties ties':Qa}{dd:List (Bool×Nat×Nat)}(h:s0.1.length=2)(hn:n<=24)(ha:a<n)(hb:b<n)(hab:a≠b)(hw:YD n ties)(hp:L.Perm ties)(hl:L.length<63)(hm:(min a b,max a b)∉L)(hw':YD n ties')(hp':(L ++ [(min a b,max a b)]).Perm ties')(hd:dd.length<xg) :
  Ut [hD,nD a,nD b] (Zr s0 (kQ n L dd))=some (.int ((om n ties':Int)-(om n ties:Int)),Zr s0 (kQ n (L ++ [(min a b,max a b)]) (dd ++ [(true,min a b,max a b)]))):=by
 have ef:flip L (min a b,max a b)=L ++ [(min a b,max a b)]:=by unfold flip;rw[if_neg hm]
 have e1:=Zb1 (L:=L) (dd:=dd) h ha hb hab;have e2:=Zjq (x:=min a b) (y:=max a b) (b:=true) h hn hw hp hl hw' (by rw[ef];exact hp') (by rw[ef,zO];simp;omega) hd;rw[ef]at e2;refine Y8 rfl (YJ (XR (X4 rfl (Zg rfl (Zg rfl rfl)) e1)) (YJ (U8 (s1:=Zr s0 (kQ n L dd)) (Yg ?_) rfl) (YM (Y9 (X4 rfl (Zg rfl (Zg rfl rfl)) e2)))));rw[Bj false h rfl rfl,decide_eq_false hm];rfl
theorem Zgb {ρ:Zc}{R:List D->M Unit}{fs:Zc->M (List D)}(hi:(ρ[i]?).bind id=some hD)(h1:fs ρ s=some (ds,s1))(h2:R (hD::ds) s1=r):JK R i fs ρ s=r:=by
 unfold JK;rw[YY (Vw hi)];show Zk (fs ρ) _ s=r;rw[YY h1];exact h2
noncomputable def XY (n:Nat)(a b:D):Bool:=!(VZ (n:Int) a&&VZ (n:Int) b && !ZB a b)
theorem Bv {R:Zc->M Unit}(hl:ds.length=k):UH n k R ds s=R (ds.map some++qk (n-k) none) s:=by unfold UH;rw[if_pos hl]
theorem Zgc {n:Nat}{L:Qa}{dd:List (Bool×Nat×Nat)}{a b:D}(h:s0.1.length=2)(ka:XB a=true)(kb:XB b=true) :
  UT [hD,a,b] (Zr s0 (kQ n L dd))=if XY n a b=true then some ((),Zr s0 (kQ n L dd))else none:=by
 have pa:=Zat ka (n:Int) (Zr s0 (kQ n L dd));have pb:=Zat kb (n:Int) (Zr s0 (kQ n L dd));have c1:X0 (Wg (Zu (Zt WH (Zb (XM 0 λq=>some (.int q.n)) (Zb (Za 1) Ze))))) (Wg (Zu (Zt WH (Zb (XM 0 λq=>some (.int q.n)) (Zb (Za 2) Ze))))) [some hD,some a,some b] (Zr s0 (kQ n L dd))=some (!VZ (n:Int) a || !VZ (n:Int) b,Zr s0 (kQ n L dd)):=
  ZnP (Bs (Yg (Yn (Zg (VY h rfl rfl) (Zg rfl rfl)) pa))) λ_=>Bs (Yg (Yn (Zg (VY h rfl rfl) (Zg rfl rfl)) pb))
 refine(Bv rfl).trans ?_;show ZhX _ _ [some hD,some a,some b] _=_;unfold ZhX;rw[YY c1]
 cases qa:VZ (n:Int) a with
 | false=>unfold XY;rw[qa];rfl
 | true=>
  cases qb:VZ (n:Int) b with
  | false=>unfold XY;rw[qa,qb];rfl
  | true=>
   obtain⟨i,rfl⟩:=Jq qa;obtain⟨j,rfl⟩:=Jq qb;have e:XY n (.int i) (.int j)=(i==j):=by
    unfold XY;rw[qa,qb];show(!(true&&true && !(ZB (.int i) (.int j))))=_;unfold ZB;simp
   rw[e];show UO _ [some hD,some (.int i),some (.int j)] _=_;unfold UO;rw[YY (Yg (ZA (d:=.int i) (e:=.int j) rfl rfl (Ui i j)))];by_cases hij:(i==j)=true
   ·rw[if_pos hij,if_pos hij];rfl
   ·rw[if_neg hij,if_neg hij];rfl
theorem Zm8 {n:Nat}{L:Qa}{dd:List (Bool×Nat×Nat)}{a b:D}(h:s0.1.length=2)(ka:XB a=true)(kb:XB b=true) :
  VS [hD,a,b] (Zr s0 (kQ n L dd))=if XY n a b=true then some ((),Zr s0 (kQ n L dd))else none:=
 (Bv rfl).trans (Zgb rfl (Zg rfl (Zg rfl rfl)) (Zgc h ka kb))
theorem ZlC {n:Nat}{L:Qa}{dd:List (Bool×Nat×Nat)}{a b:D}(h:s0.1.length=2)(ka:XB a=true)(kb:XB b=true) :
  VM [hD,a,b] (Zr s0 (kQ n L dd))=if XY n a b=true then some ((),Zr s0 (kQ n L dd))else none:=
 (Bv rfl).trans (Zgb rfl (Zg rfl (Zg rfl rfl)) (Zgc h ka kb))
theorem Zif {g:Zc->M Out}{R:Zc->M Unit}{ρ ρ':Zc}(h:g ρ s=some (.nx ρ',s1)):BX g R ρ s=R ρ' s1:=by
 unfold BX;rw[YY h]
theorem Zm9 {c:Zc->M Bool}{ρ:Zc}(h:c ρ s=some (b,s1)):UO c ρ s=if b=true then some ((),s1)else none:=by
 unfold UO;rw[YY h]
 cases b <;> rfl
theorem ZoR {a b n:Nat}{L:Qa}{dd:List (Bool×Nat×Nat)}(h:s0.1.length=2)(ha:a<n)(hb:b<n)(hab:a≠b) :
  VT [hD,nD a,nD b] (Zr s0 (kQ n L dd))=if (min a b,max a b)∈L then some ((),Zr s0 (kQ n L dd))else none:=by
 refine(Bv rfl).trans ((Zif (XR (X4 rfl (Zg rfl (Zg rfl rfl)) (Zb1 h ha hb hab)))).trans ?_);rw[Zm9 (Yg (Bj (x:=min a b) (y:=max a b) false h rfl rfl))];by_cases m:(min a b,max a b)∈L <;> simp[m]
theorem Zoc {a b n:Nat}{L:Qa}{dd:List (Bool×Nat×Nat)}(h:s0.1.length=2)(ha:a<n)(hb:b<n)(hab:a≠b) :
  VN [hD,nD a,nD b] (Zr s0 (kQ n L dd))=if (min a b,max a b)∈L then none else some ((),Zr s0 (kQ n L dd)):=by
 refine(Bv rfl).trans ((Zif (XR (X4 rfl (Zg rfl (Zg rfl rfl)) (Zb1 h ha hb hab)))).trans ?_);rw[Zm9 (Yg (Bj (x:=min a b) (y:=max a b) true h rfl rfl))];by_cases m:(min a b,max a b)∈L <;> simp[m]
theorem Zjr {n:Nat}{L:Qa}(h:s0.1.length=2):Uq [hD] (Zr s0 (kQ n L []))=some (.non,Zr s0 (kQ n L [])):=
 Y8 rfl (YM (ZhO (Yg (VY h rfl rfl)) (YM (Y9 rfl))))
theorem ZmK {x y n:Nat}{L:Qa}{dd:List (Bool×Nat×Nat)}{b:Bool}(h:s0.1.length=2)(hl:L.length<64):Uq [hD] (Zr s0 (kQ n L (dd ++ [(b,x,y)])))=some (.str (VA b),Zr s0 (kQ n (flip L (x,y)) dd)):=by
 have e0:((dd ++ [(b,x,y)]).map Vl).isEmpty=false:=by simp
 have e1:(kQ n L (dd ++ [(b,x,y)])).deeds.getLast?=some (Vl (b,x,y)):=by
  show((dd ++ [(b,x,y)]).map Vl).getLast?=_;rw[qQ,qK,yG,List.getLast?_concat]
 have e2:({ kQ n L (dd ++ [(b,x,y)])with deeds:=(kQ n L (dd ++ [(b,x,y)])).deeds.dropLast }:KS)=kQ n L dd:=by
  show(⟨(n:Int),L.map tI,((dd ++ [(b,x,y)]).map Vl).dropLast⟩:KS)=_;rw[qQ,qK,yG,qal];rfl
 have e3:=Zf8 (i:=0) (ρ:=[some hD,none]) h rfl e1;rw[e2]at e3;refine Y8 rfl (YJ (U8 (s1:=Zr s0 (kQ n L (dd ++ [(b,x,y)]))) (Yg (VY h rfl (congrArg (λz=>some (D.bl z)) e0))) rfl) (YJ (XR e3) (YJ (ZeY (X4 rfl (Zg (ZA (d:=Xs (Vl (b,x,y))) (e:=.int 1) rfl rfl (Uz _ _ _)) rfl) (Zie h hl))) (YM (Y9 (ZA (d:=Xs (Vl (b,x,y))) (e:=.int 0) rfl rfl (Uy _ _)))))))
end TQ
namespace TP
open TF L2
theorem ZlD:∀c a s,0<=a->US [.int c,.int a] s=some (.int (Vc c a),s):=by
 intro c a s ha;have hx0:=qah (c % 2147483647*48271+a*69621+11) (show(2147483629:Int)≠0 by decide);have hx1:=yE (c % 2147483647*48271+a*69621+11) (show(0:Int)<2147483629 by decide);by_cases hc:10 ^ 18<=c
 ·have e:Vc c a=c:=by unfold Vc;rw[if_pos hc]
  rw[e];have:(1000000000000000000:Int)<=c:=by simpa using hc
  simp[US,runB,ZaU,Zh,Z6,Zu,Zd,VH,dI,Za,dC,Zk,ZL,Yy,Wk,ZM,Zm,this]
 ·have e:¬(1000000000000000000:Int)<=c:=λz=>hc (by simpa using z)
  generalize hx:(c % 2147483647*48271+a*69621+11) % 2147483629=x at hx0 hx1;have hy0:=qah (x*x+48271*x+a) (show(2147483587:Int)≠0 by decide);have hy1:=yE (x*x+48271*x+a) (show(0:Int)<2147483587 by decide);generalize hy:(x*x+48271*x+a) % 2147483587=y at hy0 hy1;have ef:Vc c a=y*2147483579+(y*y+69621*a) % 2147483579:=by
   unfold Vc;rw[if_neg hc];dsimp only;rw[hx,hy]
  rw[ef];have m1:∀z:Int,0<=z->z<2147483648->∀w,U6 z w=true:=λz h1 h2 w=>by
   unfold U6;simp;left;omega
  have m2:∀z w:Int,0<=z->z<2147483648->U6 w z=true:=λz w h1 h2=>by
   unfold U6;simp;right;omega
  simp[US,runB,ZaU,Zh,Z6,Zu,Zd,VH,dI,Za,dC,Zk,ZL,Yy,Wk,ZM,Zm,ZF,UE,Ud,YK,e,hx,hy,m1 x hx0 (by omega),m1 y hy0 (by omega),m2 48271 _ (by decide) (by decide),m2 69621 _ (by decide) (by decide),m1 48271 (by decide) (by decide),m1 69621 (by decide) (by decide),m2 2147483579 _ (by decide) (by decide)]
end TP
namespace K47
open L2 TF TQ TS
open TP
open TP2
open TP3
theorem Zhq (x:Str)(s:Pn):Ba [.str x] s=some (.bl true,s):=by
 kernel_rfl
theorem Vm (ok:YL s0):s0.1.length=2:=by
 obtain⟨a,h,e,_⟩:=ok;rw[e];rfl
theorem jH {ρ:Zc}{f:Zc->M D}{g:Zc->M Out}{Q:Out->Pn->Prop}{n:Int}(hf:f ρ s=some (.int n,s))(hi:i < ρ.length)(hc:Vv (ρ.set i none)=true)
  (h:Ok (g (ρ.set i (some hD))) (s.1++YV ⟨n,[],[]⟩,s.2) λo s'=>match o with | .nx ρ'=>Vv (ρ'.set i none)=true/\Q (.nx (ρ'.set i none)) (s'.1.take 2,s'.2) | .rt d=>ZW d=true/\Xr d=true/\Q (.rt d) (s'.1.take 2,s'.2) | _=>False):Ok (BO i f g ρ) s Q:=by
 obtain⟨o,s',e,q⟩:=h;have go:BO i f g ρ s=JU i (λs=>g (ρ.set i (some hD)) (s.1++YV ⟨n,[],[]⟩,s.2)) s:=by
  unfold BO;rw[YY hf];simp only;rw[if_pos ⟨hi,hc⟩]
 cases o with
 | nx ρ'=>
  refine⟨.nx (ρ'.set i none),(s'.1.take 2,s'.2),?_,q.2⟩;rw[go];unfold JU;simp only[e];rw[if_pos q.1]
 | rt d=>
  refine⟨.rt d,(s'.1.take 2,s'.2),?_,q.2.2⟩;rw[go];unfold JU;simp only[e];rw[if_pos ⟨q.1,q.2.1⟩]
 | bk ρ'=>exact q.elim
 | ct ρ'=>exact q.elim
theorem ZmL (ok:YL s0)(q:KS):(((Zr s0 q).1.take 2,(Zr s0 q).2):Pn)=s0:=(W9 (Vm ok) (YV q)).1
theorem Zeb (ok:YL s0)(q:KS){m:Int}(h1:0<m)(h2:m<1073741824):∃r s1,XC YH [.pen,.int m] (Zr s0 q)=some (.int r,Zr s1 q)/\0<=r/\r<m/\YL s1:=by
 obtain⟨r,s1,e,r0,r1,ok1⟩:=Zet ok h1 h2;exact⟨r,s1,ZmI (Vm ok) e,r0,r1,ok1⟩
noncomputable def Jk (n:Nat):List D:=[nD n,.int (-1),.non,.bl true,.bl false,.str (qd "0"),.str (qd ""),.tup [.int 0],.lst [.int 0],.int (10 ^ 59),.int (-(10 ^ 59)),.int ((n:Int)+1)]
noncomputable def Vd (n:Nat):List D:=(qk 3 (Yv 0 n)).flatten++Jk n
theorem Zb2 {n:Nat}{d:D}(h:d∈Vd n):XB d=true/\ZW d=true:=by
 rcases yw.mp h with m | m
 ·obtain⟨l,hl,m⟩:=List.mem_flatten.mp m
  rw[(List.mem_replicate.mp hl).2]at m;obtain⟨i,_,rfl⟩:=qA.mp m;exact⟨rfl,rfl⟩
 ·unfold Jk at m
  simp only[qy,zV,or_false]at m;rcases m with rfl | rfl | rfl | rfl | rfl | rfl | rfl | rfl | rfl | rfl | rfl | rfl <;> exact⟨rfl,rfl⟩
theorem Zgd {n:Nat}(hn:n<=6):0<(Vd n).length/\(Vd n).length<=30:=by
 unfold Vd Jk Yv;simp;omega
theorem ZoS {n:Nat}{L:Qa}{dd:List (Bool×Nat×Nat)}{a b:D}(w0:Str)(h:s0.1.length=2)(ka:XB a=true)(kb:XB b=true)(hp:XY n a b=true) :
  WF [hD,.str w0,a,b] (Zr s0 (kQ n L dd))=some (.str (qd "NoPlace"),Zr s0 (kQ n L dd)):=by
 have e1:=Zm8 (n:=n) (L:=L) (dd:=dd) h ka kb;have e2:=ZlC (n:=n) (L:=L) (dd:=dd) h ka kb;rw[if_pos hp]at e1 e2;show(if w0=qd "tie" then X3 VS VT (qd "Tied") [hD,a,b]else X3 VM VN (qd "Loose") [hD,a,b]) _=_;split
 ·unfold X3;simp only[e1]
 ·unfold X3;simp only[e2]
theorem Zna {a b n:Nat}(ha:a<n)(hb:b<n)(hab:a≠b):XY n (nD a) (nD b)=false:=by
 unfold XY;have e:ZB (nD a) (nD b)=false:=by
  unfold ZB;rw[beq_eq_false_iff_ne];omega
 rw[e];show(!((decide ((0:Int)<=a)&&decide ((a:Int)<n))&&(decide ((0:Int)<=b)&&decide ((b:Int)<n)) && !false))=false;simp;omega
theorem ZmM {a b n:Nat}{L:Qa}{dd:List (Bool×Nat×Nat)}(h:s0.1.length=2)(ha:a<n)(hb:b<n)(hab:a≠b)(m:(min a b,max a b)∈L) :
  WF [hD,.str (qd "tie"),nD a,nD b] (Zr s0 (kQ n L dd))=some (.str (qd "Tied"),Zr s0 (kQ n L dd)):=by
 have e1:=Zm8 (n:=n) (L:=L) (dd:=dd) (a:=nD a) (b:=nD b) h rfl rfl;have e2:=ZoR (L:=L) (dd:=dd) h ha hb hab;rw[Zna ha hb hab,if_neg (by decide)]at e1;rw[if_pos m]at e2;show(if qd "tie" = qd "tie" then X3 VS VT (qd "Tied") [hD,nD a,nD b]else X3 VM VN (qd "Loose") [hD,nD a,nD b]) _=_;rw[if_pos rfl];unfold X3;simp only[e1,e2]
theorem Zjs {a b n:Nat}{L:Qa}{dd:List (Bool×Nat×Nat)}(h:s0.1.length=2)(ha:a<n)(hb:b<n)(hab:a≠b)(m:(min a b,max a b)∉L) :
  WF [hD,.str (qd "loosen"),nD a,nD b] (Zr s0 (kQ n L dd))=some (.str (qd "Loose"),Zr s0 (kQ n L dd)):=by
 have e1:=ZlC (n:=n) (L:=L) (dd:=dd) (a:=nD a) (b:=nD b) h rfl rfl;have e2:=Zoc (L:=L) (dd:=dd) h ha hb hab;rw[Zna ha hb hab,if_neg (by decide)]at e1;rw[if_neg m]at e2;show(if qd "loosen" = qd "tie" then X3 VS VT (qd "Tied") [hD,nD a,nD b]else X3 VM VN (qd "Loose") [hD,nD a,nD b]) _=_;rw[if_neg (by decide +kernel)];unfold X3;simp only[e1,e2]
noncomputable def YX (L:Qa):List (Bool×Nat×Nat):=L.map λp=>(true,p.1,p.2)
theorem ZlE {n:Nat}{ties:Qa}(hw:YD n ties)(hn:n<=6):ties.length<=15:=by
 have h:∀n:Nat,n<=6->(XO n).length<=15:=by decide +kernel
 exact qI hw.length_le (h n hn)
theorem Zge {n:Nat}{ties:Qa}(hw:YD n ties)(i:Nat):YD n (ties.take i):=(yN _ _).trans hw
theorem ZlF {n:Nat}{ties:Qa}{p:Nat×Nat}(i:Nat)(ok:YL s0)(hw:YD n ties)(hn:n<=6)(hp:ties[i]?=some p) :
  ∃d,Ut [hD,nD p.2,nD p.1] (Zr s0 (kQ n (ties.take i) (YX (ties.take i))))=some (d,Zr s0 (kQ n (ties.take (i+1)) (YX (ties.take (i+1))))):=by
 have hlt:=(qx.mp hp).1;have hm:=hw.mem (qP hp);have e1:ties.take (i+1)=ties.take i ++ [p]:=by
  rw[List.take_succ,hp];rfl
 have nd:(ties.take (i+1)).Nodup:=((Zc6 n).sublist hw).sublist (yN _ _);have em:(min p.2 p.1,max p.2 p.1)=p:=qaT (by show min p.2 p.1=p.1;omega) (by show max p.2 p.1=p.2;omega);have hl:=ZlE hw hn;have hnm:p∉ties.take i:=by
  rw[e1]at nd;intro z;exact(qaL.mp nd).2.2 p z p (by simp) rfl
 have jR:(ties.take i).length<=15:=by rw[zT];omega
 have:=Zob (s0:=s0) (a:=p.2) (b:=p.1) (n:=n) (L:=ties.take i) (ties:=ties.take i) (ties':=ties.take (i+1)) (dd:=YX (ties.take i)) (Vm ok) (by omega) hm.2 (by omega) (by omega) (Zge hw i) (.refl _) (by omega) (by rw[em];exact hnm) (Zge hw _) (by rw[em,e1]) (by unfold YX;rw[qp];exact Nat.lt_of_le_of_lt jR (by decide));rw[em]at this;have e2:YX (ties.take i) ++ [(true,p)]=YX (ties.take (i+1)):=by
  rw[e1];unfold YX;rw[qQ];rfl
 rw[e2,<-e1]at this;exact⟨_,this⟩
noncomputable def ZQ (o:Option D):Bool:=match o with | some d=>ZW d | none=>true
theorem ZmN (n:Nat)(ties:Qa):ZW (Z5 n ties)=true:=by
 have:∀l:Qa,YT (l.map ZI)=true:=λl=>by
  induction l with
  | nil=>rfl
  | cons p l ih=>simp only[qK,YT,ih];rfl
 show(ZW (.int n)&&(ZW (.tup (ties.map ZI))&&true))=true;simp only[ZW,this];rfl
noncomputable abbrev rK (o2:Option D)(n:Nat)(ties:Qa)(o6 o7 o8 o9 o10 o11 o12 o13:Option D):Zc:=[none,some .pen,o2,some (Z5 n ties),some (nD n),some hD,o6,o7,o8,o9,o10,o11,o12,o13]
noncomputable abbrev ZoT:Zc->M Out:=XW (Uw (Zd Zq (Za 3) (dC (.int 1)))) (Zj1 6 7) (Zh (U5 (YO Ut 5 (Zb (Za 7) (Zb (Za 6) Ze)))) Zm)
theorem ZmO {n:Nat}{ties:Qa}{o2 o6 o7 o8 o9 o10 o11 o12 o13:Option D}{Q:Out->Pn->Prop}(ok:YL s0)(hw:YD n ties)(hn:n<=6)(h6:ZQ o6=true)(h7:ZQ o7=true)
  (h:∀o6 o7,ZQ o6=true->ZQ o7=true->Q (.nx (rK o2 n ties o6 o7 o8 o9 o10 o11 o12 o13)) (Zr s0 (kQ n ties (YX ties)))) :
  Ok (ZoT (rK o2 n ties o6 o7 o8 o9 o10 o11 o12 o13)) (Zr s0 (kQ n [] [])) Q:=by
 refine Ok.sfor (λi ρ s=>∃o6 o7,ZQ o6=true/\ZQ o7=true/\ρ=rK o2 n ties o6 o7 o8 o9 o10 o11 o12 o13/\s=Zr s0 (kQ n (ties.take i) (YX (ties.take i)))) (.eq (a:=ties.map ZI) (Zmk (ZA (d:=Z5 n ties) (e:=.int 1) rfl rfl BW)) ⟨⟨o6,o7,h6,h7,rfl,rfl⟩,λi d ρ s e ⟨q6,q7,k6,k7,er,es⟩=>?_,fun ρ s ⟨q6,q7,k6,k7,er,es⟩=>?_⟩)
 ·subst er es
  rw[qE]at e
  cases hp:ties[i]? with
  | none=>rw[hp]at e;cases e
  | some p=>
   rw[hp]at e
   cases e
   obtain⟨d,hd⟩:=ZlF i ok hw hn hp;refine⟨rK o2 n ties (some (nD p.1)) (some (nD p.2)) o8 o9 o10 o11 o12 o13,rfl,.seq (.eq (ZeY (X4 rfl (Zg rfl (Zg rfl rfl)) hd)) (.next ⟨_,rfl,_,_,rfl,rfl,rfl,rfl⟩))⟩
 ·subst er es
  rw[qp,List.take_length];exact h q6 q7 k6 k7
theorem Zhr {n:Nat}{ties:Qa}{o2 o6 o7 o8 o9 o10 o11 o12 o13:Option D}(s:Pn):Z9 (Zb (Za 4) (Zb (dC (.int (-1))) (Zb (dC .non) (Zb (dC (.bl true)) (Zb (dC (.bl false)) (Zb (dC (.str (qd "0"))) (Zb (dC (.str (qd ""))) (Zb (Yi (Zb (dC (.int 0)) Ze)) (Zb (Z9 (Zb (dC (.int 0)) Ze)) (Zb (Zd Wk (dC (.int 10)) (dC (.int 59))) (Zb (Jh (Zd Wk (dC (.int 10)) (dC (.int 59)))) (Zb (Zd YK (Za 4) (dC (.int 1))) Ze)))))))))))) (rK o2 n ties o6 o7 o8 o9 o10 o11 o12 o13) s=some (.lst (Jk n),s):=by
 have p:Zd Wk (dC (.int 10)) (dC (.int 59)) (rK o2 n ties o6 o7 o8 o9 o10 o11 o12 o13) s=some (.int (10 ^ 59),s):=ZA rfl rfl (by kernel_rfl);have q:Jh (Zd Wk (dC (.int 10)) (dC (.int 59))) (rK o2 n ties o6 o7 o8 o9 o10 o11 o12 o13) s=some (.int (-(10 ^ 59)),s):=by
  unfold Jh;rw[YY p];rfl
 refine W8 ?_ (by show 12<=xg;decide);refine Zg rfl (Zg rfl (Zg rfl (Zg rfl (Zg rfl (Zg rfl (Zg rfl (Zg (XI (Zg rfl rfl) (by show 1<=xg;decide)) (Zg (W8 (Zg rfl rfl) (by show 1<=xg;decide)) (Zg p (Zg q (Zg (ZA rfl rfl rfl) rfl)))))))))))
theorem ZmP {n:Nat}{ties:Qa}{o2 o6 o7 o8 o10 o11 o12 o13:Option D}(hn:n<=6)(s:Pn):Zd YK (Zd Vz (WG (Za 4)) (dC (.int 3))) (Za 9) (rK o2 n ties o6 o7 o8 (some (.lst (Jk n))) o10 o11 o12 o13) s=some (.lst (Vd n),s):=by
 refine ZA (d:=.lst (qk 3 (Yv 0 n)).flatten) (e:=.lst (Jk n)) (ZA (d:=.lst (Yv 0 n)) (e:=.int 3) (ZaK rfl (by omega)) rfl ?_) rfl ?_
 ·show(if _ then _ else _)=_
  rw[if_pos ⟨by decide,by decide,by unfold Yv;rw[qp,zb,XF];show n*3<=_;omega⟩];rfl
 ·have:=(Zgd hn).2
  unfold Vd at this;rw[zO]at this;show(if _ then _ else none)=_;rw[if_pos (qI this (by decide))];rfl
theorem Znb {n:Nat}{ties:Qa}{ρ:Zc}{Q:D->Pn->Prop}(ok:YL s0)(q:KS)(hn:n<=6)(h10:(ρ[10]?).bind id=some (.lst (Vd n)))(h1:(ρ[1]?).bind id=some .pen)
  (h:∀d s1,d∈Vd n->YL s1->Q d (Zr s1 q)):Ok (Zd Zq (Za 10) (Zt (XC YH) (Zb (Za 1) (Zb (ZO Y2 (Zb (Za 10) Ze)) Ze))) ρ) (Zr s0 q) Q:=by
 obtain⟨l0,l1⟩:=Zgd hn;obtain⟨r,s1,e,r0,r1,ok1⟩:=Zeb ok q (m:=((Vd n).length:Int)) (by omega) (by omega);obtain⟨k,rfl⟩:=yJ r0;obtain⟨d,hd,e2⟩:=ZhP (ds:=Vd n) (r:=k) (by omega);exact .eq (ZA (Vw h10) (Yn (Zg (Vw h1) (Zg (YB (Zg (Vw h10) rfl) rfl) rfl)) e) e2) (h d s1 hd ok1)
theorem ZoU {ρ:Zc}{Q:D->Pn->Prop}(ok:YL s0)(q:KS)(h1:(ρ[1]?).bind id=some .pen)
  (h:∀w s1,(w=qd "tie"∨w=qd "loosen")->YL s1->Q (.str w) (Zr s1 q)):Ok (Zd Zq (Z9 (Zb (dC (.str (qd "tie"))) (Zb (dC (.str (qd "loosen"))) Ze))) (Zt (XC YH) (Zb (Za 1) (Zb (dC (.int 2)) Ze))) ρ) (Zr s0 q) Q:=by
 obtain⟨r,s1,e,r0,r1,ok1⟩:=Zeb ok q (m:=2) (by omega) (by omega);have hl:Z9 (Zb (dC (.str (qd "tie"))) (Zb (dC (.str (qd "loosen"))) Ze)) ρ (Zr s0 q)=some (.lst [.str (qd "tie"),.str (qd "loosen")],Zr s0 q):=W8 (Zg rfl (Zg rfl rfl)) (by show 2<=xg;decide);have hr:r=0∨r=1:=by omega
 rcases hr with rfl | rfl
 ·exact .eq (ZA hl (Yn (Zg (Vw h1) (Zg rfl rfl)) e) (Uy _ _)) (h _ s1 (.inl rfl) ok1)
 ·exact .eq (ZA hl (Yn (Zg (Vw h1) (Zg rfl rfl)) e) (Uz _ _ _)) (h _ s1 (.inr rfl) ok1)
theorem Zjt {g g':D->D->Option D}{fa fb fc:Zc->M D}{ρ:Zc}{s:Pn}{x y:D}{k k':Bool}(h1:fa ρ s=some (x,s))(h2:fb ρ s=some (y,s))(e1:g x y=some (.bl k))(h3:k=true->∃z,fc ρ s=some (z,s)/\g' y z=some (.bl k')):Bt g g' fa fb fc ρ s=some (.bl (k&&k'),s):=by
 cases k with
 | false=>simp[Bt,Zk,J4,ZL,h1,h2,e1]
 | true=>
  obtain⟨z,h3,h4⟩:=h3 rfl;simp[Bt,Zk,J4,ZL,h1,h2,e1,h3,h4]
theorem Zec {v:D}(h:XB v=true)(s:Pn):Wa [Z5 n ties,v] s=some (.bl (VZ (n:Int) v),s):=by
 have hi:=ZhR h;have hb:=Zfp h;refine Y8 rfl (YM (Y9 ?_))
 cases v with
 | int i=>
  have e1:UL (.int 0) (.int i)=some (.bl (decide (0<=i))):=rfl;have e2:UM (.int i) (nD n)=some (.bl (decide (i<(n:Int)))):=rfl;exact BC (YB (Zg rfl (Zg rfl rfl)) rfl) (BC (JB (a:=false) (YB (Zg rfl (Zg rfl rfl)) rfl)) (Zjt (g:=UL) (g':=UM) (fa:=dC (.int 0)) (fb:=Za 1) (fc:=Zd Zq (Za 0) (dC (.int 0))) rfl rfl e1 λ_=>⟨_,ZA (d:=Z5 n ties) (e:=.int 0) rfl rfl JZ,e2⟩))
 | bl b=>exact BC (YB (Zg rfl (Zg rfl rfl)) rfl) (Zew (JB (a:=true) (YB (Zg rfl (Zg rfl rfl)) rfl)))
 | _=>
  first
   | exact Zew (YB (Zg rfl (Zg rfl rfl)) hi)
   | cases h
noncomputable abbrev Znc:Zc->M Bool:=Xb (Zu (Zt Wa (Zb (Za 3) (Zb (Za 6) Ze)))) (Xb (Zu (Zt Wa (Zb (Za 3) (Zb (Za 7) Ze)))) (Zu (Zd Yo (Za 6) (Za 7))))
theorem ZmQ {n:Nat}{ties:Qa}{o2 o8 o9 o10 o11 o12 o13:Option D}{a b:D}(ka:XB a=true)(kb:XB b=true)(s:Pn) :
  Znc (rK o2 n ties (some a) (some b) o8 o9 o10 o11 o12 o13) s=some (!XY n a b,s):=by
 have pa:=Yn (F:=Wa) (ρ:=rK o2 n ties (some a) (some b) o8 o9 o10 o11 o12 o13) (fs:=Zb (Za 3) (Zb (Za 6) Ze)) (s:=s) (Zg rfl (Zg rfl rfl)) (Zec (n:=n) (ties:=ties) ka s);have pb:=Yn (F:=Wa) (ρ:=rK o2 n ties (some a) (some b) o8 o9 o10 o11 o12 o13) (fs:=Zb (Za 3) (Zb (Za 7) Ze)) (s:=s) (Zg rfl (Zg rfl rfl)) (Zec (n:=n) (ties:=ties) kb s);unfold XY;rw[Bool.not_not,Bool.and_assoc];refine Zex (Yg pa) λqa=>Zex (Yg pb) λqb=>Yg (ZA (d:=a) (e:=b) rfl rfl ?_);obtain⟨i,rfl⟩:=Jq qa;obtain⟨j,rfl⟩:=Jq qb;rw[nei];unfold ZB;rfl
theorem Zju {n:Nat}{a b:D}(h:XY n a b=false):∃i j:Nat,a=nD i/\b=nD j/\i<n/\j<n/\i≠j:=by
 unfold XY at h;rw[Bool.not_eq_false',zo,zo]at h;obtain⟨⟨qa,qb⟩,qe⟩:=h;obtain⟨i,rfl⟩:=Jq qa;obtain⟨j,rfl⟩:=Jq qb;have qa:(decide (0<=i)&&decide (i<(n:Int)))=true:=qa;have qb:(decide (0<=j)&&decide (j<(n:Int)))=true:=qb;rw[zo,decide_eq_true_iff,decide_eq_true_iff]at qa qb;refine⟨i.toNat,j.toNat,?_,?_,by omega,by omega,λe=>?_⟩
 ·show D.int i=D.int _;rw[yu qa.1]
 ·show D.int j=D.int _;rw[yu qb.1]
 ·have:i=j:=by omega
  subst this;unfold ZB at qe;simp at qe
theorem Zod {n:Nat}{ties:Qa}{o2 o8 o9 o10 o13:Option D}{a b:D}{w:Str}{q:KS}(ka:XB a=true)(kb:XB b=true){Q:Out->Pn->Prop}(s:Pn)
  (h:∀w' x,(XY n a b=true/\x=qd "NoPlace")∨(∃i j:Nat,a=nD i/\b=nD j/\i<n/\j<n/\i≠j/\((tied ties i j=true/\w'=qd "tie"/\x=qd "Tied")∨(tied ties i j=false/\w'=qd "loosen"/\x=qd "Loose")))->Q (.nx (rK o2 n ties (some a) (some b) o8 o9 o10 (some (.str w')) (some (.str x)) o13)) s) :
  Ok (Z6 Znc (Zh (ZF 11 (Zd Zq (Z9 (Zb (dC (.str (qd "tie"))) (Zb (dC (.str (qd "loosen"))) Ze))) (ZO Va (Zb (WB (Zt W2 (Zb (Za 3) (Zb (Za 6) (Zb (Za 7) Ze))))) Ze))))
   (Zh (ZF 12 (Zd Zq (Z9 (Zb (dC (.str (qd "Tied"))) (Zb (dC (.str (qd "Loose"))) Ze))) (ZO Va (Zb (Zd Ya (Za 11) (dC (.str (qd "loosen")))) Ze))))
   Zm)) Zm (rK o2 n ties (some a) (some b) o8 o9 o10 (some (.str w)) (some (.str (qd "NoPlace"))) o13)) s Q:=by
 refine .sif (.eq (ZmQ ka kb s) ?_)
 cases hp:XY n a b with
 | true=>exact .next (h w _ (.inl ⟨hp,rfl⟩))
 | false=>
  obtain⟨i,j,rfl,rfl,hi,hj,hij⟩:=Zju hp;refine WW ?_;have two:∀(x y:Str) (ρ:Zc),Z9 (Zb (dC (.str x)) (Zb (dC (.str y)) Ze)) ρ s=some (.lst [.str x,.str y],s):=λx y ρ=>W8 (Zg rfl (Zg rfl rfl)) (by show 2<=xg;decide)
  cases ht:tied ties i j with
  | true=>
   have e1:WB (Zt W2 (Zb (Za 3) (Zb (Za 6) (Zb (Za 7) Ze)))) (rK o2 n ties (some (nD i)) (some (nD j)) o8 o9 o10 (some (.str w)) (some (.str (qd "NoPlace"))) o13) s=some (.bl false,s):=JB (a:=true) (Yn (Zg rfl (Zg rfl (Zg rfl rfl))) (by rw[Zb9,ht]));refine .seq (.sset (.eq (ZA (e:=.int 0) (two _ _ _) (YB (Zg e1 rfl) rfl) (Uy _ _)) ?_));refine .seq (.sset (.eq (ZA (e:=.int 0) (two _ _ _) (YB (Zg (ZA (d:=.str (qd "tie")) (e:=.str (qd "loosen")) (c:=.bl false) rfl rfl (by kernel_rfl)) rfl) rfl) (Uy _ _)) ?_));exact .next (h _ _ (.inr ⟨i,j,rfl,rfl,hi,hj,hij,.inl ⟨ht,rfl,rfl⟩⟩))
  | false=>
   have e1:WB (Zt W2 (Zb (Za 3) (Zb (Za 6) (Zb (Za 7) Ze)))) (rK o2 n ties (some (nD i)) (some (nD j)) o8 o9 o10 (some (.str w)) (some (.str (qd "NoPlace"))) o13) s=some (.bl true,s):=JB (a:=false) (Yn (Zg rfl (Zg rfl (Zg rfl rfl))) (by rw[Zb9,ht]));refine .seq (.sset (.eq (ZA (e:=.int 1) (two _ _ _) (YB (Zg e1 rfl) rfl) (Uz _ _ _)) ?_));refine .seq (.sset (.eq (ZA (e:=.int 1) (two _ _ _) (YB (Zg (ZA (d:=.str (qd "loosen")) (e:=.str (qd "loosen")) (c:=.bl true) rfl rfl (by kernel_rfl)) rfl) rfl) (Uz _ _ _)) ?_));exact .next (h _ _ (.inr ⟨i,j,rfl,rfl,hi,hj,hij,.inr ⟨ht,rfl,rfl⟩⟩))
noncomputable abbrev ZoV:Zc->M Out:=(Zh (ZF 9 (Z9 (Zb (Za 4) (Zb (dC (.int (-1))) (Zb (dC .non) (Zb (dC (.bl true)) (Zb (dC (.bl false)) (Zb (dC (.str (qd "0"))) (Zb (dC (.str (qd ""))) (Zb (Yi (Zb (dC (.int 0)) Ze)) (Zb (Z9 (Zb (dC (.int 0)) Ze)) (Zb (Zd Wk (dC (.int 10)) (dC (.int 59))) (Zb (Jh (Zd Wk (dC (.int 10)) (dC (.int 59)))) (Zb (Zd YK (Za 4) (dC (.int 1))) Ze))))))))))))))
 (Zh (ZF 10 (Zd YK (Zd Vz (WG (Za 4)) (dC (.int 3))) (Za 9)))
 (Zh (ZF 6 (Zd Zq (Za 10) (Zt (XC YH) (Zb (Za 1) (Zb (ZO Y2 (Zb (Za 10) Ze)) Ze)))))
 (Zh (ZF 7 (Zd Zq (Za 10) (Zt (XC YH) (Zb (Za 1) (Zb (ZO Y2 (Zb (Za 10) Ze)) Ze)))))
 (Zh (ZF 11 (Zd Zq (Z9 (Zb (dC (.str (qd "tie"))) (Zb (dC (.str (qd "loosen"))) Ze))) (Zt (XC YH) (Zb (Za 1) (Zb (dC (.int 2)) Ze)))))
 (Zh (ZF 12 (dC (.str (qd "NoPlace"))))
 (Zh (Z6 (Xb (Zu (Zt Wa (Zb (Za 3) (Zb (Za 6) Ze)))) (Xb (Zu (Zt Wa (Zb (Za 3) (Zb (Za 7) Ze)))) (Zu (Zd Yo (Za 6) (Za 7)))))
 (Zh (ZF 11 (Zd Zq (Z9 (Zb (dC (.str (qd "tie"))) (Zb (dC (.str (qd "loosen"))) Ze))) (ZO Va (Zb (WB (Zt W2 (Zb (Za 3) (Zb (Za 6) (Zb (Za 7) Ze))))) Ze))))
 (Zh (ZF 12 (Zd Zq (Z9 (Zb (dC (.str (qd "Tied"))) (Zb (dC (.str (qd "Loose"))) Ze))) (ZO Va (Zb (Zd Ya (Za 11) (dC (.str (qd "loosen")))) Ze))))
 Zm))
 Zm)
 (Zh (Z6 (X0 (Zu (Zd Yo (Zt WF (Zb (Za 5) (Zb (Za 11) (Zb (Za 6) (Zb (Za 7) Ze))))) (Za 12))) (Zu (Zd Yo (YO WN 5 Ze) (Za 3))))
 (Zh (ZM (dC (.bl false)))
 Zm)
 Zm)
 Zm))))))))
theorem Zhs {n:Nat}{ties:Qa}:Yo (Z5 n ties) (Z5 n ties)=some (.bl false):=by
 refine Zib ?_ (qI (ZhL n ties) (by decide));simp only[Z5,Zp,YI,Zas];rfl
theorem noClos_of:∀{l:List D},(∀d∈l,ZW d=true)->YT l=true
 | [],_=>rfl
 | d::l,h=>by
  simp only[YT];rw[h d (by simp),noClos_of λe he=>h e (by simp[he])];rfl
theorem ZmR {n:Nat}{ties:Qa}{o2 o6 o7 o8 o9 o10 o11 o12 o13:Option D}(ok:YL s0)(hw:YD n ties)(hn:n<=6) :
  Ok (ZoV (rK o2 n ties o6 o7 o8 o9 o10 o11 o12 o13)) (Zr s0 (kQ n ties (YX ties))) λo s'=>∃s1 o6 o7 o9 o10 o11 o12,YL s1/\(ZQ o6&&ZQ o7&&ZQ o9&&ZQ o10&&ZQ o11&&ZQ o12)=true/\o=.nx (rK o2 n ties o6 o7 o8 o9 o10 o11 o12 o13)/\s'=Zr s1 (kQ n ties (YX ties)):=by
 refine .seq (.sset (.eq (Zhr _) ?_));refine .seq (.sset (.eq (ZmP hn _) ?_));refine .seq (.sset (Znb (n:=n) (ties:=ties) ok _ hn rfl rfl λa s1 ma ok1=>?_));refine .seq (.sset (Znb (n:=n) (ties:=ties) ok1 _ hn rfl rfl λb s2 mb ok2=>?_));refine .seq (.sset (ZoU ok2 _ rfl λw s3 hw3 ok3=>?_));refine .seq (.sset (.eq (a:=.str (qd "NoPlace")) rfl ?_));obtain⟨ka,na⟩:=Zb2 ma;obtain⟨kb,nb⟩:=Zb2 mb;refine .seq (Zod (q:=kQ n ties (YX ties)) ka kb _ λw' x hx=>?_);have hl:=ZlE hw hn;have ew:=ZcK (dd:=YX ties) (Vm ok3) hw (.refl ties) (by omega);have ec:WF [hD,.str w',a,b] (Zr s3 (kQ n ties (YX ties)))=some (.str x,Zr s3 (kQ n ties (YX ties))):=by
  rcases hx with⟨hp,rfl⟩ | ⟨i,j,rfl,rfl,hi,hj,hij,hx⟩
  ·exact ZoS w' (Vm ok3) ka kb hp
  ·rcases hx with⟨ht,rfl,rfl⟩ | ⟨ht,rfl,rfl⟩
   ·exact ZmM (Vm ok3) hi hj hij (of_decide_eq_true ht)
   ·exact Zjs (Vm ok3) hi hj hij (of_decide_eq_false ht)
 have sn:Yo (.str x) (.str x)=some (.bl false):=Zib rfl (by simp[Z0]);refine .seq (.sif (.eq (a:=false) (Zku (Yg (ZA (Yn (Zg rfl (Zg rfl (Zg rfl (Zg rfl rfl)))) ec) rfl sn)) (Yg (ZA (e:=Z5 n ties) (X4 rfl rfl ew) rfl Zhs))) ?_));refine XV (.next (.next ⟨s3,_,_,_,_,_,_,ok3,?_,rfl,rfl⟩));have e1:ZW (.lst (Vd n))=true:=by
  simp only[ZW];exact noClos_of λd hd=>(Zb2 hd).2
 have e2:ZW (.lst (Jk n))=true:=rfl;simp only[ZQ,na,nb,e1,e2];rfl
noncomputable abbrev ZoW:Zc->M Out:=(XW (Xt (dC (.int 8))) (ZZ 8)
 (Zh (ZF 9 (Z9 (Zb (Za 4) (Zb (dC (.int (-1))) (Zb (dC .non) (Zb (dC (.bl true)) (Zb (dC (.bl false)) (Zb (dC (.str (qd "0"))) (Zb (dC (.str (qd ""))) (Zb (Yi (Zb (dC (.int 0)) Ze)) (Zb (Z9 (Zb (dC (.int 0)) Ze)) (Zb (Zd Wk (dC (.int 10)) (dC (.int 59))) (Zb (Jh (Zd Wk (dC (.int 10)) (dC (.int 59)))) (Zb (Zd YK (Za 4) (dC (.int 1))) Ze))))))))))))))
 (Zh (ZF 10 (Zd YK (Zd Vz (WG (Za 4)) (dC (.int 3))) (Za 9)))
 (Zh (ZF 6 (Zd Zq (Za 10) (Zt (XC YH) (Zb (Za 1) (Zb (ZO Y2 (Zb (Za 10) Ze)) Ze)))))
 (Zh (ZF 7 (Zd Zq (Za 10) (Zt (XC YH) (Zb (Za 1) (Zb (ZO Y2 (Zb (Za 10) Ze)) Ze)))))
 (Zh (ZF 11 (Zd Zq (Z9 (Zb (dC (.str (qd "tie"))) (Zb (dC (.str (qd "loosen"))) Ze))) (Zt (XC YH) (Zb (Za 1) (Zb (dC (.int 2)) Ze)))))
 (Zh (ZF 12 (dC (.str (qd "NoPlace"))))
 (Zh (Z6 (Xb (Zu (Zt Wa (Zb (Za 3) (Zb (Za 6) Ze)))) (Xb (Zu (Zt Wa (Zb (Za 3) (Zb (Za 7) Ze)))) (Zu (Zd Yo (Za 6) (Za 7)))))
 (Zh (ZF 11 (Zd Zq (Z9 (Zb (dC (.str (qd "tie"))) (Zb (dC (.str (qd "loosen"))) Ze))) (ZO Va (Zb (WB (Zt W2 (Zb (Za 3) (Zb (Za 6) (Zb (Za 7) Ze))))) Ze))))
 (Zh (ZF 12 (Zd Zq (Z9 (Zb (dC (.str (qd "Tied"))) (Zb (dC (.str (qd "Loose"))) Ze))) (ZO Va (Zb (Zd Ya (Za 11) (dC (.str (qd "loosen")))) Ze))))
 Zm))
 Zm)
 (Zh (Z6 (X0 (Zu (Zd Yo (Zt WF (Zb (Za 5) (Zb (Za 11) (Zb (Za 6) (Zb (Za 7) Ze))))) (Za 12))) (Zu (Zd Yo (YO WN 5 Ze) (Za 3))))
 (Zh (ZM (dC (.bl false)))
 Zm)
 Zm)
 Zm)))))))))
theorem ZmS {n:Nat}{ties:Qa}{o2 o6 o7 o8 o9 o10 o11 o12 o13:Option D}{Q:Out->Pn->Prop}(ok:YL s0)(hw:YD n ties)(hn:n<=6)(hc:(ZQ o6&&ZQ o7&&ZQ o8&&ZQ o9&&ZQ o10&&ZQ o11&&ZQ o12)=true)
  (h:∀s1 o6 o7 o8 o9 o10 o11 o12,YL s1->(ZQ o6&&ZQ o7&&ZQ o8&&ZQ o9&&ZQ o10&&ZQ o11&&ZQ o12)=true->Q (.nx (rK o2 n ties o6 o7 o8 o9 o10 o11 o12 o13)) (Zr s1 (kQ n ties (YX ties)))) :
  Ok (ZoW (rK o2 n ties o6 o7 o8 o9 o10 o11 o12 o13)) (Zr s0 (kQ n ties (YX ties))) Q:=by
 refine Ok.sfor (λi ρ s=>∃s1 o6 o7 o8 o9 o10 o11 o12,YL s1/\(ZQ o6&&ZQ o7&&ZQ o8&&ZQ o9&&ZQ o10&&ZQ o11&&ZQ o12)=true/\ρ=rK o2 n ties o6 o7 o8 o9 o10 o11 o12 o13/\s=Zr s1 (kQ n ties (YX ties))) (.eq (Up (n:=8) rfl (by omega)) ⟨⟨s0,_,_,_,_,_,_,_,ok,hc,rfl,rfl⟩,λi d ρ s e hI=>?_,fun ρ s hI=>?_⟩)
 ·obtain⟨s1,o6,o7,o8,o9,o10,o11,o12,ok1,hc,rfl,rfl⟩:=hI
  have hd:ZW d=true:=by
   obtain⟨k,_,rfl⟩:=qA.mp (qP e);rfl
  refine⟨rK o2 n ties o6 o7 (some d) o9 o10 o11 o12 o13,rfl,(ZmR ok1 hw hn).mono λo s' q=>?_⟩;obtain⟨s2,q6,q7,q9,q10,q11,q12,ok2,hq,rfl,rfl⟩:=q;refine⟨_,rfl,s2,_,_,_,_,_,_,_,ok2,?_,rfl,rfl⟩;simp only[zd]at hq⊢;exact⟨⟨⟨⟨⟨⟨hq.1.1.1.1.1,hq.1.1.1.1.2⟩,hd⟩,hq.1.1.1.2⟩,hq.1.1.2⟩,hq.1.2⟩,hq.2⟩
 ·obtain⟨s1,o6,o7,o8,o9,o10,o11,o12,ok1,hc,rfl,rfl⟩:=hI
  exact h s1 _ _ _ _ _ _ _ ok1 hc
noncomputable abbrev gEnd:Zc->M Out:=(Zh (ZF 13 (YO Uq 5 Ze))
 (Zh (Z6 (Zu (Zd Yo (Za 13) (Zd Zq (Z9 (Zb (dC .non) (Zb (dC (.str (qd "tied"))) Ze))) (ZO Va (Zb (Zd Yo (Zd Zq (Za 3) (dC (.int 1))) (Yi Ze)) Ze)))))
 (Zh (ZM (dC (.bl false)))
 Zm)
 Zm)
 (Zh (Z6 (Zu (Zd Yo (YO WN 5 Ze) (Yi (Zb (Za 4) (Zb (BB (Zd Zq (Za 3) (dC (.int 1))) Zko (Zkp (dC (.int (-1))))) Ze)))))
 (Zh (ZM (dC (.bl false)))
 Zm)
 Zm)
 Zm)))
theorem Zjv {L:Qa}{p:Nat×Nat}(nd:(L ++ [p]).Nodup):TQ.flip (L ++ [p]) p=L:=by
 unfold TQ.flip;rw[if_pos (by simp)];rw[List.filter_append,z6 (by simp),List.filter_nil,zg];refine qaq.mpr λq hq=>?_;have:=(qaL.mp nd).2.2 q hq p (by simp);simpa using this
theorem Zoe (l:List D)(d:D):Vh (l ++ [d]) none (some (-1))=l:=by
 unfold Vh HT.sIx;simp;rw[show(-1+((l.length:Int)+1)).toNat=l.length by omega,List.take_left]
theorem Zof {n:Nat}{ties:Qa}{o2 o6 o7 o8 o9 o10 o11 o12 o13:Option D}{Q:Out->Pn->Prop}(ok:YL s0)(hw:YD n ties)(hn:n<=6)
  (h:∀o13 q,ZQ o13=true->Q (.nx (rK o2 n ties o6 o7 o8 o9 o10 o11 o12 o13)) (Zr s0 q)) :
  Ok (gEnd (rK o2 n ties o6 o7 o8 o9 o10 o11 o12 o13)) (Zr s0 (kQ n ties (YX ties))) Q:=by
 have hl:=ZlE hw hn;have two:∀(ρ:Zc) (s:Pn),Z9 (Zb (dC .non) (Zb (dC (.str (qd "tied"))) Ze)) ρ s=some (.lst [.non,.str (qd "tied")],s):=fun ρ s=>W8 (Zg rfl (Zg rfl rfl)) (by show 2<=xg;decide);rcases List.eq_nil_or_concat ties with rfl | ⟨L,p,rfl⟩
 ·have eb:=Zjr (s0:=s0) (n:=n) (L:=[]) (Vm ok)
  have ew:=ZcK (s0:=s0) (n:=n) (dd:=[]) (Vm ok) hw (.refl []) (by simp);refine .seq (.sset (.eq (X4 rfl rfl eb) ?_));refine .seq (.sif (.eq (a:=false) (Yg (ZA (d:=.non) (e:=.non) rfl (ZA (e:=.int 0) (two _ _) (YB (Zg (ZA (d:=.tup []) (e:=.tup []) (c:=.bl false) (ZA (d:=Z5 n []) (e:=.int 1) rfl rfl BW) (XI rfl (by show 0<=xg;decide)) (by kernel_rfl)) rfl) rfl) (Uy _ _)) (by kernel_rfl))) ?_));refine XV (.next ?_);refine .seq (.sif (.eq (a:=false) (s':=Zr s0 (kQ n [] [])) (Yg (ZA (d:=Z5 n []) (e:=Z5 n []) (X4 rfl rfl ew) (XI (ds:=[nD n,.tup []]) (Zg rfl (Zg ?_ rfl)) (by show 2<=xg;decide)) Zhs)) ?_))
  ·refine(Zfr (ds:=[]) (ZA (d:=Z5 n []) (e:=.int 1) rfl rfl BW) rfl rfl).trans ?_
   have e:Vh [] none (some (-1))=[]:=by unfold Vh;simp
   rw[e]
  ·exact XV (.next (.next (h _ _ rfl)))
 ·rw[List.concat_eq_append]at hw hl h⊢
  have nd:(L ++ [p]).Nodup:=(Zc6 n).sublist hw;have hwL:YD n L:=(qa0 L [p]).trans hw;have hlL:L.length<64:=by rw[zO]at hl;simp at hl;omega
  have ed:YX (L ++ [p])=YX L ++ [(true,p.1,p.2)]:=by unfold YX;rw[qQ];rfl
  have eb:=ZmK (s0:=s0) (x:=p.1) (y:=p.2) (n:=n) (L:=L ++ [p]) (dd:=YX L) (b:=true) (Vm ok) (by omega);rw[show TQ.flip (L ++ [p]) (p.1,p.2)=L from Zjv nd,<-ed]at eb;have ew:=ZcK (s0:=s0) (n:=n) (dd:=YX L) (Vm ok) hwL (.refl L) hlL;have en:Yo (.tup ((L ++ [p]).map ZI)) (.tup [])=some (.bl true):=by
   have hk:=Zas (L ++ [p]);unfold Yo;rw[if_pos ?_]
   ·have:ZB (.tup ((L ++ [p]).map ZI)) (.tup [])=false:=by
     unfold ZB
     cases L <;> simp[Xj]
    rw[this];rfl
   ·have h3:=ZhL n (L ++ [p])
    unfold Vf;have h4:Z0 (.tup ((L ++ [p]).map ZI))<=60:=by
     simp only[Z5,Z0,Xi]at h3⊢;omega
    have h5:Zp (.tup ((L ++ [p]).map ZI))=true:=by simp only[Zp];exact hk
    rw[h5,decide_eq_true h4];rfl
  refine .seq (.sset (.eq (X4 rfl rfl eb) ?_));refine .seq (.sif (.eq (a:=false) (Yg (ZA (d:=.str (qd "tied")) (e:=.str (qd "tied")) rfl (ZA (e:=.int 1) (two _ _) (YB (Zg (ZA (ZA (d:=Z5 n (L ++ [p])) (e:=.int 1) rfl rfl BW) (XI rfl (by show 0<=xg;decide)) en) rfl) rfl) (Uz _ _ _)) (by kernel_rfl))) ?_));refine XV (.next ?_);refine .seq (.sif (.eq (a:=false) (s':=Zr s0 (kQ n L (YX L))) (Yg (ZA (d:=Z5 n L) (e:=Z5 n L) (X4 rfl rfl ew) (XI (ds:=[nD n,.tup (L.map ZI)]) (Zg rfl (Zg ?_ rfl)) (by show 2<=xg;decide)) Zhs)) ?_))
  ·refine(Zfr (ds:=(L ++ [p]).map ZI) (ZA (d:=Z5 n (L ++ [p])) (e:=.int 1) rfl rfl BW) rfl rfl).trans ?_
   rw[qQ,qK,yG,Zoe]
  ·exact XV (.next (.next (h _ _ rfl)))
theorem noR {o2 o6 o7 o8 o9 o10 o11 o12 o13:Option D}{n:Nat}{ties:Qa}(h:(ZQ o2&&ZQ o6&&ZQ o7&&ZQ o8&&ZQ o9&&ZQ o10&&ZQ o11&&ZQ o12&&ZQ o13)=true):Vv [none,some .pen,o2,some (Z5 n ties),some (nD n),none,o6,o7,o8,o9,o10,o11,o12,o13]=true:=by
 have e:=ZmN n ties;show(true&&(true&&(ZQ o2&&(ZW (Z5 n ties)&&(true&&(true&&(ZQ o6&&(ZQ o7&&(ZQ o8&&(ZQ o9&&(ZQ o10&&(ZQ o11&&(ZQ o12&&(ZQ o13&&true))))))))))))))=true;rw[e];simp only[zd]at h⊢;simp[h]
theorem ZlG (ns:List Int)(hl:ns.length<=63):∃s',Zll (none::some .pen::qk 12 none) ([0,0],ns)=some (.rt (.bl true),s'):=by
 have ok0:YL ([0,0],ns):=⟨0,0,rfl,by omega,by omega⟩;suffices hh:Ok (Zll (none::some .pen::qk 12 none)) ([0,0],ns) λo s'=>o=.rt (.bl true) by
  obtain⟨o,s',e,rfl⟩:=hh;exact⟨s',e⟩
 obtain⟨r,s1,e,r0,r1,ok1⟩:=Zet ok0 (m:=3) (by omega) (by omega);obtain⟨k,rfl⟩:=yJ r0;obtain⟨d,hd,e2⟩:=ZhP (ds:=[.str (qd ""),.str (qd "a"),.str (qd "no such place")]) (r:=k) (by simp;omega);obtain⟨x,rfl⟩:∃x,d=.str x:=by
  simp only[qy,zV,or_false]at hd;rcases hd with rfl | rfl | rfl <;> exact⟨_,rfl⟩
 refine Ok.seq (.sif (.eq (a:=false) (Bs (b:=true) (Yg (Yn (Zg (ZA (W8 (Zg rfl (Zg rfl (Zg rfl rfl))) (by show 3<=xg;decide)) (Yn (Zg rfl (Zg rfl rfl)) e) e2) rfl) (Zhq x s1)))) (XV (.next ?_))));refine Ok.seq (.sfor (λi ρ s'=>YL s'/\∃o2 o3 o4 o6 o7 o8 o9 o10 o11 o12 o13,ρ=[none,some .pen,o2,o3,o4,none,o6,o7,o8,o9,o10,o11,o12,o13]/\(ZQ o6&&ZQ o7&&ZQ o8&&ZQ o9&&ZQ o10&&ZQ o11&&ZQ o12&&ZQ o13)=true) (.eq (Up (n:=3) rfl (by omega)) ⟨⟨ok1,none,none,none,none,none,none,none,none,none,none,none,rfl,rfl⟩,λi d ρ s' hd hI=>?_,fun ρ' s' hI=>?_⟩))
 ·obtain⟨ok2,o2,o3,o4,o6,o7,o8,o9,o10,o11,o12,o13,rfl,hc⟩:=hI
  have hd:ZW d=true:=by
   obtain⟨k,_,rfl⟩:=qA.mp (qP hd);rfl
  refine⟨[none,some .pen,some d,o3,o4,none,o6,o7,o8,o9,o10,o11,o12,o13],rfl,?_⟩;refine Ok.seq (.sset (.fn (Zg rfl (Zg rfl rfl)) ((ZnM ok2 6 (by omega)).mono λdd s2 q=>?_)));obtain⟨ok3,n,ties,rfl,hn,hw⟩:=q;refine Ok.seq (.sset (.eq (ZA (d:=Z5 n ties) (e:=.int 0) rfl rfl JZ) ?_));refine jH (n:=(n:Int)) rfl (by show 5<14;decide) (noR (n:=n) (ties:=ties) (by simp only[ZQ,hd,Bool.true_and];exact hc)) ?_;have hb:=hc;simp only[zd]at hb;refine Ok.seq (ZmO (s0:=s2) (o2:=some d) (o6:=o6) (o7:=o7) ok3 hw hn hb.1.1.1.1.1.1.1 hb.1.1.1.1.1.1.2 λq6 q7 k6 k7=>?_);refine Ok.seq (ZmS ok3 hw hn (by simp only[zd];exact⟨⟨⟨⟨⟨⟨k6,k7⟩,hb.1.1.1.1.1.2⟩,hb.1.1.1.1.2⟩,hb.1.1.1.2⟩,hb.1.1.2⟩,hb.1.2⟩) λs3 p6 p7 p8 p9 p10 p11 p12 ok4 hp=>?_);refine(Zof ok4 hw hn λp13 q k13=>?_);refine⟨noR (n:=n) (ties:=ties) ?_,?_⟩
  ·simp only[ZQ,hd,Bool.true_and]
   simp only[zd]at hp⊢;exact⟨hp,k13⟩
  ·refine⟨_,rfl,?_,_,_,_,_,_,_,_,_,_,_,_,rfl,?_⟩
   ·rw[ZmL ok4];exact ok4
   ·simp only[zd]at hp⊢
    exact⟨hp,k13⟩
 ·obtain⟨ok2,o2,o3,o4,o6,o7,o8,o9,o10,o11,o12,o13,rfl,hc⟩:=hI
  exact Ok.seq (.sret (.eq (a:=.bl true) rfl rfl))
end K47
namespace K47
open L2 TF TQ
open TP
open TP2
open TP3
theorem Zog {P:xy}{w:World}{K:qf}{mg:Str->Option Value}{base:Heap}{jX:Addr}{jN:xx}{L:List (Addr×Str)}(lo:VI L)(F:Fun K "law" "law" s_law jX jN)(T:Txt mg){C fi:Addr}{fdi:xx}(kc:KCl K C)(M_Kept:Mk K C fi)(F_init:FnOk P w K mg base ZH 1 fi fdi ["self","n"] (Zez C))(m_Kept:mg "Kept" = some (.ref C))(b_init:YC K fdi ["self","n"] [])(jV:ZX P w K mg base 59 "_law_caught_kind" 4 false (GK L C) WF)(jS:ZX P w K mg base 1 "_law_classes_right" 1 true Yb Ba)(jY:ZX P w K mg base 1 "_law_is_place" 2 false Yb Wa)(jM:ZX P w K mg base 2 "_law_next" 2 true (XX (Wl K) L) YH)(ki:ZX P w K mg base 1 "_law_tied" 3 false Yb W2)(kr:ZX P w K mg base 3 "_law_web" 2 true (XX (Wl K) L) Bg)(kC:YQ P w K mg base C 2 "back" 1 (GK L C) Uq)(kI:YQ P w K mg base C 58 "tie" 3 (GK L C) Ut)(km:YQ P w K mg base C 1 "web" 1 (GK L C) WN) :
  FnOk P w K mg base ZH 60 jX jN ["script"] (ZgZ K L):=by
 have nd:=Zhe.nd;refine F.ok Zhe (λvs H Q E h=>?_) λcdv A outer s0 H vs Q E hr h=>?_
 ·obtain⟨a,ns,rfl,_⟩:=h
  rfl
 ·obtain⟨a,ns,rfl,sq,hl,hTb,hQ⟩:=h
  obtain⟨s',hs'⟩:=ZlG ns hl;refine⟨_,Xo (We (i:=1) nd rfl (qz rfl) (Zmg (Yt (pv 0) (Yt Xf (Yt Xf YS))))) (Zkw (GG:=XX (Wl K) L) λG hG=>ZmC lo T hr kc M_Kept F_init m_Kept b_init jV jS jY jM ki kr kC kI km G hG),?_⟩;refine⟨_,rfl,(by show 3<=xg;decide),λp hp hk=>?_⟩;exact ZkQ (n:=12) (N:=["script","_law_pen","_law_turn","_law_told","_law_n","_law_kept","_law_a","_law_b","_law_k","_law_strange","_law_some","_law_word","_law_due","_law_back"]) sq hTb hp hk hQ hs'
theorem Uo (P:Params):ZcF (KF P) (ZV 27) 256 (.str "tiefold.kept" 389) ZlH:=by
 repeat refine⟨⟨⟨by kernel_rfl,by kernel_rfl,by kernel_rfl⟩,by kernel_rfl,by kernel_rfl⟩,?_⟩
 exact trivial
theorem okF (P:Params):ZeC (KF P) ZV Znd:=by
 repeat refine⟨⟨by kernel_rfl,by kernel_rfl,by kernel_rfl⟩,?_⟩
 exact trivial
noncomputable abbrev LF:List (Addr×Str):=[(127,(qd "turned.<locals>.<lambda>"))]
theorem Zoh {P:xy}{w:World}{h:Heap}{mg:Str->Option Value}{fa:Addr}(X:(KF w.params).In h)(G:h.Ns mainGlobals mg)(hfa:mg "law" = some (.ref fa)) :
  ∃fd:xx,(∀(s:Shared) (v:Value),BindsTo s fd ⟨[v],[]⟩ [("script",v)])/\∀base:Heap,(KF w.params).In base->base.Ns mainGlobals mg->zL base 131 127->J5 mg base->FnOk P w (KF w.params) mg base ZH 60 fa fd ["script"] (ZgZ (KF w.params) LF):=by
 have lo:VI LF:=TF.lok_nd (by decide);have zn:∀x,qaj (KF w.params) mainGlobals x=some none->mg x=none:=λ_ z=>PySem.W.mg_none_of X G z;have T:Txt mg:=⟨zn _ (by kernel_rfl),zn _ (by kernel_rfl),zn _ (by kernel_rfl),zn _ (by kernel_rfl),zn _ (by kernel_rfl),zn _ (by kernel_rfl),zn _ (by kernel_rfl),zn _ (by kernel_rfl),zn _ (by kernel_rfl),zn _ (by kernel_rfl),zn _ (by kernel_rfl),zn _ (by kernel_rfl)⟩;have hx:ErrX (KF w.params) mg 31 44 56 68 80:=⟨zF X G (by kernel_rfl),zF X G (by kernel_rfl),zF X G (by kernel_rfl),zF X G (by kernel_rfl),zF X G (by kernel_rfl),zn _ (by kernel_rfl),ZcD (P:=w.params) (C:=44) (N:=43) (nm:="NoPlace") (bs:=[.ref 31]) (sub:=[]) (a:=35) (t1:=214) (t2:=222) (n:=2) (l:=KN43) (T:=31) (NT:=30) (nt:="TieError") (bs':=[.type "ValueError"]) (sub':=[.ref 44,.ref 56,.ref 68,.ref 80]) (a':=22) (t1':=196) (t2':=204) (n':=3) (l':=B1) (by kernel_rfl) (by kernel_rfl) (by kernel_rfl) (by kernel_rfl) (by kernel_rfl) (by kernel_rfl) (by kernel_rfl),ZcD (P:=w.params) (C:=56) (N:=55) (nm:="Tied") (bs:=[.ref 31]) (sub:=[]) (a:=47) (t1:=230) (t2:=238) (n:=2) (l:=KN55) (T:=31) (NT:=30) (nt:="TieError") (bs':=[.type "ValueError"]) (sub':=[.ref 44,.ref 56,.ref 68,.ref 80]) (a':=22) (t1':=196) (t2':=204) (n':=3) (l':=B1) (by kernel_rfl) (by kernel_rfl) (by kernel_rfl) (by kernel_rfl) (by kernel_rfl) (by kernel_rfl) (by kernel_rfl),ZcD (P:=w.params) (C:=68) (N:=67) (nm:="Loose") (bs:=[.ref 31]) (sub:=[]) (a:=59) (t1:=246) (t2:=254) (n:=2) (l:=KN67) (T:=31) (NT:=30) (nt:="TieError") (bs':=[.type "ValueError"]) (sub':=[.ref 44,.ref 56,.ref 68,.ref 80]) (a':=22) (t1':=196) (t2':=204) (n':=3) (l':=B1) (by kernel_rfl) (by kernel_rfl) (by kernel_rfl) (by kernel_rfl) (by kernel_rfl) (by kernel_rfl) (by kernel_rfl),ZcD (P:=w.params) (C:=80) (N:=79) (nm:="Round") (bs:=[.ref 31]) (sub:=[]) (a:=71) (t1:=262) (t2:=270) (n:=2) (l:=KN79) (T:=31) (NT:=30) (nt:="TieError") (bs':=[.type "ValueError"]) (sub':=[.ref 44,.ref 56,.ref 68,.ref 80]) (a':=22) (t1':=196) (t2':=204) (n':=3) (l':=B1) (by kernel_rfl) (by kernel_rfl) (by kernel_rfl) (by kernel_rfl) (by kernel_rfl) (by kernel_rfl) (by kernel_rfl),⟨by kernel_rfl,by kernel_rfl,by kernel_rfl,by kernel_rfl,by kernel_rfl,by kernel_rfl,by kernel_rfl,by kernel_rfl⟩,⟨by kernel_rfl,by kernel_rfl,by kernel_rfl,by kernel_rfl,by kernel_rfl,by kernel_rfl,by kernel_rfl,by kernel_rfl⟩,⟨by kernel_rfl,by kernel_rfl,by kernel_rfl,by kernel_rfl,by kernel_rfl,by kernel_rfl,by kernel_rfl,by kernel_rfl⟩,⟨by kernel_rfl,by kernel_rfl,by kernel_rfl,by kernel_rfl,by kernel_rfl,by kernel_rfl,by kernel_rfl,by kernel_rfl⟩,by kernel_rfl,by kernel_rfl,by kernel_rfl,by kernel_rfl,by kernel_rfl,by kernel_rfl,by kernel_rfl,by kernel_rfl,by kernel_rfl⟩;have mk:=@mkc P w (KF w.params) mg;have at_:=λj {r} e=>@ZnS _ h mg _ _ (okF w.params) X G j r e;obtain⟨f1,_,F1,m1,_⟩:=at_ 24 rfl;obtain⟨f2,_,F2,m2,_⟩:=at_ 22 rfl;obtain⟨f3,_,F3,m3,_⟩:=at_ 16 rfl;obtain⟨f4,_,F4,m4,_⟩:=at_ 17 rfl;obtain⟨f5,_,F5,m5,_⟩:=at_ 19 rfl;obtain⟨f6,_,F6,m6,_⟩:=at_ 18 rfl;obtain⟨f7,_,F7,m7,_⟩:=at_ 7 rfl;obtain⟨f8,_,F8,m8,_⟩:=at_ 6 rfl;obtain⟨f9,_,F9,m9,_⟩:=at_ 4 rfl;obtain⟨f10,_,F10,m10,_⟩:=at_ 5 rfl;obtain⟨f11,_,F11,m11,_⟩:=at_ 13 rfl;obtain⟨f12,_,F12,m12,_⟩:=at_ 15 rfl;obtain⟨f13,_,F13,m13,_⟩:=at_ 14 rfl;obtain⟨f14,_,F14,m14,_⟩:=at_ 12 rfl;obtain⟨f15,_,F15,m15,_⟩:=at_ 2 rfl;obtain⟨f16,_,F16,m16,_⟩:=at_ 9 rfl;obtain⟨f17,_,F17,m17,e17⟩:=at_ 8 rfl;obtain⟨f18,_,F18,m18,_⟩:=at_ 11 rfl;obtain⟨f19,_,F19,m19,_⟩:=at_ 10 rfl;obtain⟨f20,_,F20,m20,_⟩:=at_ 1 rfl;obtain⟨f21,_,F21,m21,_⟩:=at_ 3 rfl;obtain⟨f22,_,F22,m22,_⟩:=at_ 25 rfl
 cases hfa.symm.trans m22
 have kx:=λb=>mk b F8 m8 (ZfR F8 T );have kJ:=λb=>mk b F15 m15 (ZfQ F15 T );have kM:JX P w (KF w.params) mg 5 "web_where" 2 false (JW P w (KF w.params) mg 4 2 Tl) Bd:=⟨f16,_,_,λb=>ZeN F16 T (kJ b),m16,F16.kp,bdc ["row","tied"] F16⟩;obtain⟨oc,od,kV,doc,pm,an,cdv,ct,osl,rfl,lk,hcd⟩:=F22.ex;refine⟨zi "law" "law" (Wc s_law) (Y6 s_law) (Zx s_law) .none kV doc pm an cdv ct,λs v=>.of_eq rfl,λbase _ _ hC17 hBm=>?_⟩;have jS:=mk base F1 m1 (ZaT F1 T hx);have jY:=mk base F2 m2 (ZbZ F2 T );have kD:=mk base F3 m3 (ZeM F3 T );have kN:=mk base F4 m4 (ZeR F4 T kD ZlD);have jM:ZX P w (KF w.params) mg base 2 "_law_next" 2 true (XX (Wl (KF w.params)) LF) YH:=Zkx kN Zfx;have ki:=mk base F5 m5 (ZeO F5 T );have kr:=mk base F6 m6 (ZfT F6 T lo jM);have j8:=mk base F7 m7 (Zdn F7 T );have kE:=kx base;have kO:=mk base F9 m9 (ZmA F9 T kE);have kF:=mk base F10 m10 (ZfS F10 T j8 kO);have ky:=mk base F11 m11 (Zdo F11 T );have kz:=mk base F12 m12 (Zhd F12 T );have rr:∀j:Nat,ZX P w (KF w.params) mg base (1+2*j) "heaviest_among" 3 false Yb (Bb j):=by
  intro j
  induction j with
  | zero=>exact ZX.none m14 F14.kp (bdc ["aparts","weights","places"] F14)
  | succ j ih=>
   have kf:=mk base F13 m13 (ZbX F13 T (by omega) ih);have z:ZX P w (KF w.params) mg base (1+2*j+2) "heaviest_among" 3 false Yb (Bb (j+1)):=mk base F14 m14 (ZbG F14 T (by omega) ky ih kf kz);exact z.mono (h:=by omega)
 have jQ:=(rr 26).mono (k:=53);have kK:=kJ base;have kA:=kM;have kL:=mk base F17 m17 (Zjd F17 T lo j8 kA kx (tP:=127) e17 hC17 hBm (by simp));have kj:=mk base F18 m18 (ZbY F18 T lo kF jQ kL);have kP:=mk base F19 m19 (ZmB F19 T lo kj);have kG:=mk base F20 m20 (ZfU F20 T );have kd:=mk base F21 m21 (ZfV F21 T kG);have kc:KCl (KF w.params) 256:=⟨⟨by kernel_rfl,by kernel_rfl,by kernel_rfl,by kernel_rfl⟩,by unfold YG;kernel_rfl,by unfold YG;kernel_rfl,by unfold YG;kernel_rfl⟩;obtain⟨fm0,_,Fm0,Mm0⟩:=VX (Uo w.params) 0 rfl;obtain⟨fm1,_,Fm1,Mm1⟩:=VX (Uo w.params) 1 rfl;obtain⟨fm2,_,Fm2,Mm2⟩:=VX (Uo w.params) 2 rfl;obtain⟨fm3,_,Fm3,Mm3⟩:=VX (Uo w.params) 3 rfl;obtain⟨fm4,_,Fm4,Mm4⟩:=VX (Uo w.params) 4 rfl;obtain⟨fm5,_,Fm5,Mm5⟩:=VX (Uo w.params) 5 rfl;obtain⟨fm6,_,Fm6,Mm6⟩:=VX (Uo w.params) 6 rfl;obtain⟨fm7,_,Fm7,Mm7⟩:=VX (Uo w.params) 7 rfl;obtain⟨fm8,_,Fm8,Mm8⟩:=VX (Uo w.params) 8 rfl;have M_Kept:Mk (KF w.params) 256 fm0:=⟨by kernel_rfl,Mm0.at_,Mm0.fn,by kernel_rfl⟩;have F_init:=Zmq (P:=P) (w:=w) (mg:=mg) (base:=base) (k:=0) Fm0 ZdC kc.cl kc.n kc.ties kc.deeds (λcdv A outer s H E hr=>ZkB (pv 0) (pv 0) (pv 0) (pv 1) (Zgs YS));have m_Kept:mg "Kept" = some (.ref 256):=zF X G (by kernel_rfl);have b_init:=Wp ["self","n"] Fm0;have kB:ZX P w (KF w.params) mg base 55 "most_most" 1 true (XT LF) JM:=by
  obtain⟨f,fd,ps,ok,m,kp,b⟩:=kP;have e:=m.symm.trans (zF X G (show qaj (KF w.params) mainGlobals "most" = some (some (.ref 144)) by kernel_rfl))
  cases e
  exact⟨144,fd,ps,ok,zF X G (by kernel_rfl),kp,b⟩
 have jP:YQ P w (KF w.params) mg base 256 3 "pair_of" 3 (GK LF 256) W3:=UP base Fm1 Mm1 (ZeP (L:=LF) Fm1 T kc kd) (Wp ["self","a","b"] Fm1);have km:YQ P w (KF w.params) mg base 256 1 "web" 1 (GK LF 256) WN:=UP base Fm2 Mm2 (Zlg (L:=LF) Fm2 T kc ) (Wp ["self"] Fm2);have kH:YQ P w (KF w.params) mg base 256 56 "most" 1 (GK LF 256) Jx:=UP base Fm3 Mm3 (Zje (L:=LF) Fm3 T kc km kB) (Wp ["self"] Fm3);have jT:YQ P w (KF w.params) mg base 256 1 "exchange_tie" 2 (GK LF 256) UQ:=UP base Fm4 Mm4 (ZbI (L:=LF) Fm4 T kc ) (Wp ["self","pair"] Fm4);have kh:YQ P w (KF w.params) mg base 256 57 "change" 3 (GK LF 256) UW:=UP base Fm5 Mm5 (ZfX (L:=LF) Fm5 T kc jT kH) (Wp ["self","deed","pair"] Fm5);have kI:YQ P w (KF w.params) mg base 256 58 "tie" 3 (GK LF 256) Ut:=UP base Fm6 Mm6 (Zlh (L:=LF) Fm6 T kc kh jP) (Wp ["self","a","b"] Fm6);have kR:YQ P w (KF w.params) mg base 256 58 "loosen" 3 (GK LF 256) Zdh:=UP base Fm7 Mm7 (ZfY (L:=LF) Fm7 T kc kh jP) (Wp ["self","a","b"] Fm7);have kC:YQ P w (KF w.params) mg base 256 2 "back" 1 (GK LF 256) Uq:=UP base Fm8 Mm8 (Zjf (L:=LF) Fm8 T kc jT) (Wp ["self"] Fm8);have cr_pair:WT P w (KF w.params) mg base 256 3 "pair_of" 3 (GK LF 256) UT 44:=⟨_,_,_,ZeQ Fm1 T kc hx kd,Mm1,Wp ["self","a","b"] Fm1⟩;have t1:WT P w (KF w.params) mg base 256 58 "tie" 3 (GK LF 256) VS 44:=⟨_,_,_,Zli Fm6 kc hx cr_pair,Mm6,Wp ["self","a","b"] Fm6⟩;have t2:WT P w (KF w.params) mg base 256 58 "tie" 3 (GK LF 256) VT 56:=⟨_,_,_,Zlj Fm6 T kc hx jP,Mm6,Wp ["self","a","b"] Fm6⟩;have l1:WT P w (KF w.params) mg base 256 58 "loosen" 3 (GK LF 256) VM 44:=⟨_,_,_,ZfZ Fm7 kc hx cr_pair,Mm7,Wp ["self","a","b"] Fm7⟩;have l2:WT P w (KF w.params) mg base 256 58 "loosen" 3 (GK LF 256) VN 68:=⟨_,_,_,Zf0 Fm7 T kc hx jP,Mm7,Wp ["self","a","b"] Fm7⟩;obtain⟨fck,_,Fck,mck,_⟩:=at_ 23 rfl;have jV:=mk base Fck mck (Zbc Fck T kc hx t1 t2 l1 l2);exact Zog lo F22 T kc M_Kept F_init m_Kept b_init jV jS jY jM ki kr kC kI km
noncomputable def tb:List (Str×Addr×Addr):=[("turned",131,127)]
theorem Zoi:∀P q,(P,q)∈LF->∃x c,(x,c,P)∈tb:=by
 intro P q h;simp only[qy,Prod.mk.injEq,zV,or_false]at h;rcases h with⟨rfl,_⟩
 ·exact⟨"turned",131,by simp[tb]⟩
theorem walk {loose:List Str}{XP:(Str->Option Value)->Heap->Prop}{YP:World->Heap->Prop}(hY:∀(w:World) (h:Heap),YP w h->(KF w.params).In h) :
  qbz qF loose XP YP PySem.Challenge.rw_tiefold_k47_kept_refusals.row.toRowW (Zg1 s_law) [] (λf vs=>qbr f vs):=
 ZkM (K:=KF) (tb:=tb) (n:=63) (k:=60) (x:="script") (CX:=λ_=>ZH) (sp:=λw=>ZgZ (KF w.params) LF) rfl (by decide) rfl ⟨rfl,by decide,by decide,rfl⟩ hY
  (qbx.mpr ⟨qU.mp (by kernel_rfl),(λ_ h=>nomatch h)⟩)
  (λw=>qbx.mpr ⟨by kernel_rfl,(λ_ h=>nomatch h)⟩) (λw=>by kernel_rfl)
  (λw mg fa h h1 h2 h3=>let ⟨fd,hb,hF⟩:=Zoh h1 h2 h3;⟨fd,hb,λbase g1 g2 g3 g4=>hF base g1 g2 (g3 ("turned",131,127) (by simp[tb])) g4⟩)
  (λ_ _ a ns hl hS hTb=>⟨a,ns,rfl,hS,hl,Zg0 (tb:=tb) Zoi hTb,λ_=>rfl⟩) λ_ _ _ _ _ z=>z
end K47
open PySem.W
set_option maxRecDepth 100000 in
set_option maxHeartbeats 0 in
theorem PySem.Challenge.cw_tiefold_k47_kept_refusals_holds : PySem.Challenge.rw_tiefold_k47_kept_refusals.Holds := by
 refine TF.head_ofL [(qd "most_most")] (q:=K47.qF) (K:=K47.KF) (st:=K47.s_law) K47.said K47.left (by kernel_rfl) (by kernel_rfl) (by kernel_rfl) (by decide +kernel) ⟨rfl,rfl,rfl,rfl,rfl,by decide +kernel⟩ ?hw rfl (K47.walk λw h Y=>kIn_of Y)
 case hw=>w_witness2
